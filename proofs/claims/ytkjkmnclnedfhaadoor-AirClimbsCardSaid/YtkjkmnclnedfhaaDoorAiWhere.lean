/- The landed air's where: a range over the readings of one quantity. -/
import Derived.Test.YtkjkmnclnedfhaaDoorAiIter
import Derived.Test.YtkjkmnclnedfhaaDoorAiTrB
import Derived.Test.YtkjkmnclnedfhaaDoorAiTrC
import Derived.Test.YtkjkmnclnedfhaaDoorAiTrD
import Derived.Test.YtkjkmnclnedfhaaDoorSps
namespace Go.Proofs.YtkjkmnclnedfhaaDoor
open Go.RowKit Go.Shelf Obs

attribute [local go_sem] Oper.semAt_some

section
variable {F : Fence} {n : Nat} {ops : Array Oper} {rest : List Oper} {o : Oper} {a : Act} {w : World} {Q : Exit → Act → World → Prop}
/-- store of a whole array into the block that was made last, in a fence -/
theorem listIn_store_new (hg : o.guard = none) (ty : TypeId) (x y : Operand) (ho : o.op = .store ty x y) (c c' : Array Value) (hx : a.eval x = .pointer (some ⟨w.heap.size, 0, none⟩)) (hy : a.eval y = .agg c')
    (hi : (Tryd.prog.info? ty).map (·.size) = some c'.size) (hs : c.size = c'.size) (h1 : c'.all (·.oneCell') = true)
    (h : wpListIn F n Tryd.prog ops Q rest (a.put o.dst undef) (w.alloc (.cells c' ty))) : wpListIn F n Tryd.prog ops Q (o :: rest) a (w.alloc (.cells c ty)) := by
  refine wpListIn_plain hg fun K hK => ?_
  have hr := run_storeAt_new (P := Tryd.prog) w ty c c' hi hs h1
  unfold Oper.wpIn
  refine ⟨?_, ?_⟩
  · simp [Oper.about, ho]
  · rw [Oper.semAt_plain F _ _ (by rw [ho]; intro c hc; cases hc)]
    simp only [execOp, ho, hx, hy, Sem.run_bind, hr, Result.andThen_ok, Sem.run_pure]
    exact hK _ _ h
end
theorem boxed_below {W W' : World} {B : Nat} {t : TypeId} {v : Value} (h : Boxed W B t v) (hb : Below W.heap.size W W') : Boxed W' B t v := (hb.block B h.lt).trans h
theorem below_keepsFrom {B : Nat} {W W' : World} (h : Below W.heap.size W W') : KeepsFrom B W W' := ⟨h.size, fun k _ _ hk _ => (h.block k (Array.getElem?_eq_some_iff.1 hk).1).trans hk⟩
theorem others_setCells {b : Nat} : ∀ (vs : List Value) (o : Nat) (w : World), KeepsOthers w (w.setCells b o vs)
  | [], _, w => KeepsOthers.refl w
  | v :: vs, o, w => (KeepsOthers.setCell w ⟨b, o, none⟩ v).trans (others_setCells vs (o + 1) _)
/-- cells in a block of their own -/
def BoxV (W : World) (B : Nat) (t : TypeId) (c : Array Value) : Prop := W.heap[B]? = some (.cells c t (0, 0))
theorem BoxV.lt {W : World} {B : Nat} {t : TypeId} {c : Array Value} (h : BoxV W B t c) : B < W.heap.size := (Array.getElem?_eq_some_iff.1 h).1
theorem BoxV.new (W : World) (t : TypeId) (c : Array Value) : BoxV (W.alloc (.cells c t)) W.heap.size t c := World.alloc_heap_new W _
theorem BoxV.keep {W W' : World} {B : Nat} {t : TypeId} {c : Array Value} (h : BoxV W B t c) (hb : Below W.heap.size W W') : BoxV W' B t c := (hb.block B h.lt).trans h
theorem BoxV.at {W : World} {B : Nat} {t : TypeId} {c : Array Value} (h : BoxV W B t c) (j : Nat) {v : Value} (hv : c[j]? = some v) : W.cell? ⟨B, j, none⟩ = some v := by
  rw [cell_of_row W B j c _ (0, 0) h]
  exact hv
theorem boxV_own {β : Type} (B : Nat) (t : TypeId) (c : Array Value) : Own (fun (_ : β) W => BoxV W B t c) := fun _ X Y row hs hg hrow =>
  (hg.block B hs.lt (fun e' => by obtain ⟨o, ho, hc⟩ := hrow B e'.symm; rw [show X.heap[B]? = _ from hs] at ho; cases ho; cases hc)).trans hs
theorem ownFrom_sp {β : Type} {B : Nat} (w : World) (bs : β → List (Nat × List (Option Value))) (hB : w.heap.size ≤ B) : OwnFrom B (fun s W => Sp w (bs s) W) := fun s _ _ _ hs hg hr => by
  refine ⟨⟨hs.below.grown hg hs.size fun k e => Nat.le_trans hB (hr k e).1, fun p hp j x hj => ?_⟩, hs.2.1, fun p hp => ⟨(hs.2.2 p hp).1, Nat.lt_of_lt_of_le (hs.2.2 p hp).2 hg.size⟩⟩
  obtain ⟨⟨z, hz, hv⟩, hf⟩ := hs.1.2 p hp j x hj
  exact ⟨⟨z, cell_kept hz hg (fun r e => (hr r e).2), hv⟩, (frozen_kept hz hg (fun r e => (hr r e).2)).trans hf⟩

set_option maxRecDepth 100000 in
set_option maxHeartbeats 16000000 in
theorem where_core (a : Ai) (k : Nat) (fr L H : Int) (Q : List Rd → Qd) {w : World} {ba : Option Addr} {cap : Nat} {l : List Rd} (C : CameRd w ba cap l)
    (PT : Hid (∀ r w, Calls Tryd.prog 18 #[rv r, .int .i64 fr] w fun e w' => e = .returned (.tuple #[p3 k r, t3 k r]) ∧ Below w.heap.size w w'))
    (ST : Hid (∀ w', Below w.heap.size w w' → Calls Tryd.prog 7 #[av a] w' fun e w'' => e = .returned (qv (Q [])) ∧ Below w'.heap.size w' w''))
    (SP : Hid (∀ pre x w', Below w.heap.size w w' → Calls Tryd.prog 9 #[av a, qv (Q pre), p3 k x, t3 k x] w' fun e w'' => e = .returned (qv (Q (pre ++ [x]))) ∧ Below w'.heap.size w' w''))
    (HU : Hid (∀ w', Below w.heap.size w w' → Calls Tryd.prog 10 #[qv (Q l)] w' fun e w'' => e = .returned (sv L H) ∧ Below w'.heap.size w' w'')) :
    Calls Tryd.prog 29 #[av a, .slice ba l.length cap, .int .i64 fr] w fun e w' => e = .returned (sv L H) ∧ Below w.heap.size w w' := by
  have HC := Lib.hid C
  clear C
  have hS1 := ((Sp.none w).more [.int .i64 a.e0, .int .i64 a.e1, .int .i64 a.e2, .bool a.b0, .bool a.b1, .bool a.b2, .int .i64 a.bias, .int .i64 a.change, .int .i64 a.move, .int .i64 a.most] 25).more [.int .i64 0, .int .i64 0] 32
  simp only [heap1] at hS1
  have HS1 := Lib.hid hS1
  clear hS1
  refine (callsIn_wide (n := 3)).1 ?_
  refine callsIn_of_wp_marks Tryd.func29 rfl trivial ?_ rfl
  simp only [Tryd.ntmps29, List.size_toArray, List.length_cons, List.length_nil, Nat.reduceAdd, Nat.reduceSub, Array.replicate_succ, Array.replicate_zero, List.push_toArray, List.append_toArray, List.nil_append, List.cons_append]
  gi_wp2_with fail
  refine ⟨trivial, ?_⟩
  refine (callsIn_wide.2 (ST.out _ HS1.out.below)).mono ?_
  rintro e w1 ⟨rfl, hb1⟩
  have HS2 := Lib.hid (HS1.out.keep hb1)
  clear HS1 hb1 ST
  have hi := info_qa (Q [])
  have h1 := qa_one (Q [])
  gi_wp2_with (refine listIn_store_new rfl 35 _ _ rfl _ (qa (Q [])) rfl rfl hi rfl h1 ?_)
  clear hi h1
  have hS3 := (show Sp w [(w.heap.size, [some (.int .i64 a.e0), some (.int .i64 a.e1), some (.int .i64 a.e2), some (.bool a.b0), some (.bool a.b1), some (.bool a.b2), some (.int .i64 a.bias), some (.int .i64 a.change), some (.int .i64 a.move), some (.int .i64 a.most)]), (w.heap.size + 1, [some (.int .i64 0), some (.int .i64 0)]), (w1.heap.size, (qc (Q [])).map some)] (w1.alloc (.cells (qa (Q [])) 35)) from (HS2.out).more (qc (Q [])) 35)
  have hsz1 : (w1.alloc (.cells (qa (Q [])) 35)).heap.size = w1.heap.size + 1 := heap1 _ _
  have hle1 := HS2.out.size
  obtain ⟨w2, hX⟩ : ∃ x, x = w1.alloc (.cells (qa (Q [])) 35) := ⟨_, rfl⟩
  rw [← hX] at hS3 hsz1 ⊢
  have HS3 := Lib.hid hS3
  have HSZ := Lib.hid hsz1
  clear hX hS3 HS2 hsz1
  refine ⟨trivial, ?_⟩
  refine (parts_in _ _ _ _ _ _).mono ?_
  rintro e w3 ⟨rfl, rfl⟩
  gi_wp2_with fail
  have bS := (Boxed.new w2 63 (.slice ba l.length cap)).alloc (.cells #[.int .i64 fr] 3)
  have bF := Boxed.new (w2.alloc (.cells #[.slice ba l.length cap] 63)) 3 (.int .i64 fr)
  rw [World.size_alloc] at bF
  have hS0 := HS3.out.keep (below2 w2 (.cells #[.slice ba l.length cap] 63) (.cells #[.int .i64 fr] 3))
  have hsz : ((w2.alloc (.cells #[.slice ba l.length cap] 63)).alloc (.cells #[.int .i64 fr] 3)).heap.size = w2.heap.size + 2 := by simp
  obtain ⟨W0, hW0⟩ : ∃ W0, (w2.alloc (.cells #[.slice ba l.length cap] 63)).alloc (.cells #[.int .i64 fr] 3) = W0 := ⟨_, rfl⟩
  rw [hW0] at bS bF hS0 hsz ⊢
  clear hW0 HS3
  refine wpIn_rangeFunc_ownH rfl (by omega) (gf := 43) (lb := #[.pointer (some ⟨w2.heap.size, 0, none⟩), .pointer (some ⟨w2.heap.size + 1, 0, none⟩)]) rfl trivial (enters_of Tryd.func43 (by kernel_rfl) rfl)
    (parts_stops k fr PT _ (by omega) w2.heap.size (w2.heap.size + 1) w W0 ba cap l HC.out hS0.below (by omega) (by omega) bS.cell bF.cell) KpC.t
    (fun W lp o o' hl h h1 h2 => ⟨belowK_b (w := W0) hS0.size W lp o o' hl h h1 h2, World.putObj_heap_other (by omega), World.putObj_heap_other (by omega)⟩) (Below.refl _ _) (fun _ => rfl)
    (fun pre W => (Sp w [(w.heap.size, [some (.int .i64 a.e0), some (.int .i64 a.e1), some (.int .i64 a.e2), some (.bool a.b0), some (.bool a.b1), some (.bool a.b2), some (.int .i64 a.bias), some (.int .i64 a.change), some (.int .i64 a.move), some (.int .i64 a.most)]), (w.heap.size + 1, [some (.int .i64 0), some (.int .i64 0)]), (w1.heap.size, (qc (Q pre)).map some)] W ∧ Boxed W w2.heap.size 63 (.slice ba l.length cap)) ∧ Boxed W (w2.heap.size + 1) 3 (.int .i64 fr))
    (fun _ _ _ => False)
    (OwnFrom.and (OwnFrom.and (ownFrom_sp w _ hS0.size) (Own.from (boxed_own _ _ _) _)) (Own.from (boxed_own _ _ _) _))
    (fun _ _ _ _ _ h _ _ => h)
    ⟨⟨hS0, bS⟩, bF⟩
    (fun x a' W => ∃ Bx By, BoxV W Bx 22 #[.int .i64 (pv k 0 x), .int .i64 (pv k 1 x), .int .i64 (pv k 2 x)] ∧ BoxV W By 23 #[.bool (pb k 0 x), .bool (pb k 1 x), .bool (pb k 2 x)] ∧ a' = { tmps := #[av a, .slice ba l.length cap, .int .i64 fr, .pointer (some ⟨w.heap.size, 0, none⟩), undef, undef, .pointer (some ⟨w.heap.size + 1, 0, none⟩), .pointer (some ⟨w1.heap.size, 0, none⟩), .pointer (some ⟨Bx, 0, none⟩), .pointer (some ⟨By, 0, none⟩), av a, qv (Q []), .slice ba l.length cap, .int .i64 fr, .func (.func 43) #[] #[.pointer (some ⟨w2.heap.size, 0, none⟩), .pointer (some ⟨w2.heap.size + 1, 0, none⟩)], p3 k x, t3 k x, undef, undef, undef, undef, undef, undef, undef], defers := [] })
    (fun x a' u X Y row hs hg hr => by
      obtain ⟨Bx, By, h1, h2, h3⟩ := hs
      exact ⟨Bx, By, boxV_own (β := Unit) Bx _ _ u X Y row h1 hg (fun r e => (hr r e).2), boxV_own (β := Unit) By _ _ u X Y row h2 hg (fun r e => (hr r e).2), h3⟩)
    ?assign ?body ?done ?stop
  case assign =>
    rintro lp pre x W K ⟨⟨hS, bS1⟩, bF1⟩ hK
    gi_wp2_with fail
    have b2 := below2 W (.cells #[.int .i64 (pv k 0 x), .int .i64 (pv k 1 x), .int .i64 (pv k 2 x)] 22) (.cells #[.bool (pb k 0 x), .bool (pb k 1 x), .bool (pb k 2 x)] 23)
    have bY := BoxV.new (W.alloc (.cells #[.int .i64 (pv k 0 x), .int .i64 (pv k 1 x), .int .i64 (pv k 2 x)] 22)) 23 #[.bool (pb k 0 x), .bool (pb k 1 x), .bool (pb k 2 x)]
    rw [World.size_alloc] at bY
    exact hK _ _ (((KeepsOthers.alloc _ _).trans (KeepsOthers.alloc _ _)).from _) ⟨b2.mono hS.size, b2.block _ bS1.lt, b2.block _ bF1.lt⟩ ⟨⟨hS.keep b2, boxed_below bS1 b2⟩, boxed_below bF1 b2⟩
      ⟨W.heap.size, W.heap.size + 1, (BoxV.new W _ _).keep (below1 _ _), bY, rfl⟩
  case body =>
    rintro lp pre x a' W hlp ⟨rr, hr⟩ ⟨⟨hS, bS1⟩, bF1⟩ ⟨Bx, By, bX, bY, rfl⟩ hlt
    have HSP := Lib.hid (SP.out pre x W hS.below)
    obtain ⟨q2, hq2⟩ : ∃ q, q = Q (pre ++ [x]) := ⟨_, rfl⟩
    rw [← hq2] at HSP
    have HQ2 := Lib.hid hq2
    generalize Q pre = q1 at *
    clear hq2
    have HS := Lib.hid hS
    have k0_0 := (HS.out).at 0 rfl 0 (v := .int .i64 a.e0) rfl
    have k0_1 := (HS.out).at 0 rfl 1 (v := .int .i64 a.e1) rfl
    have k0_2 := (HS.out).at 0 rfl 2 (v := .int .i64 a.e2) rfl
    have k0_3 := (HS.out).at 0 rfl 3 (v := .bool a.b0) rfl
    have k0_4 := (HS.out).at 0 rfl 4 (v := .bool a.b1) rfl
    have k0_5 := (HS.out).at 0 rfl 5 (v := .bool a.b2) rfl
    have k0_6 := (HS.out).at 0 rfl 6 (v := .int .i64 a.bias) rfl
    have k0_7 := (HS.out).at 0 rfl 7 (v := .int .i64 a.change) rfl
    have k0_8 := (HS.out).at 0 rfl 8 (v := .int .i64 a.move) rfl
    have k0_9 := (HS.out).at 0 rfl 9 (v := .int .i64 a.most) rfl
    have x0 := bX.at 0 rfl
    have x1 := bX.at 1 rfl
    have x2 := bX.at 2 rfl
    have y0 := bY.at 0 rfl
    have y1 := bY.at 1 rfl
    have y2 := bY.at 2 rfl
    have HR := Lib.hid ((HS.out).range 2 (l := qc q1) rfl)
    have hi := info_qa q1
    clear hS
    gi_wp2_with (refine listIn_load_any rfl 35 _ rfl w1.heap.size 0 rfl (qa q1) _ HR.out Tryd.underlying35 rfl hi ?_)
    refine ⟨trivial, ?_⟩
    refine (CallsIn.inRound lp (callsIn_wide.2 HSP.out)).mono ?_
    rintro e w4 ⟨rfl, hb4⟩
    have hS4 := HS.out.keep hb4
    have HT := Lib.hid (hS4.free_row 2 rfl (n := 20) rfl)
    have HF := Lib.hid (hS4.row 2 rfl (qc q2) rfl)
    have HB4 := Lib.hid hb4
    have hi2 := info_qa q2
    have h12 := qa_one q2
    clear hS4 hb4 HSP HR hi k0_0 k0_1 k0_2 k0_3 k0_4 k0_5 k0_6 k0_7 k0_8 k0_9 x0 x1 x2 y0 y1 y2
    gi_wp2_with (refine listIn_store_any rfl 35 _ _ rfl w1.heap.size (qa q2) rfl rfl HT.out hi2 h12 ?_)
    have n1 : w2.heap.size ≠ w1.heap.size := by have := HSZ.out; omega
    have n2 : w2.heap.size + 1 ≠ w1.heap.size := by have := HSZ.out; omega
    refine ⟨(below_keepsFrom HB4.out).trans ((others_setCells _ _ _).from _), ⟨below_cells hle1 _ _ _ (HB4.out.mono HS.out.size), (heap_setCells n1 _ _ _).1.trans (HB4.out.block _ bS1.lt), (heap_setCells n2 _ _ _).1.trans (HB4.out.block _ bF1.lt)⟩, ⟨?_, ?_⟩, ?_⟩
    · rw [← HQ2.out]; exact HF.out
    · exact (heap_setCells n1 _ _ _).1.trans (boxed_below bS1 HB4.out)
    · exact (heap_setCells n2 _ _ _).1.trans (boxed_below bF1 HB4.out)
  case done =>
    rintro D ys W hD rfl ⟨⟨hS, bS1⟩, bF1⟩ hK
    generalize Q ys = q at *
    have HS := Lib.hid hS
    have HR := Lib.hid ((HS.out).range 2 (l := qc q) rfl)
    have hi := info_qa q
    clear hS
    gi_wp2_with (refine listIn_load_any rfl 35 _ rfl w1.heap.size 0 rfl (qa q) _ HR.out Tryd.underlying35 rfl hi ?_)
    refine ⟨trivial, ?_⟩
    refine (callsIn_wide.2 (HU.out W HS.out.below)).mono ?_
    rintro e w5 ⟨rfl, hb5⟩
    have HS5 := Lib.hid (HS.out.keep hb5)
    have hK5 : w5.heap[D]? = some (.deferred (some [])) := (hb5.block D (Array.getElem?_eq_some_iff.1 hK).1).trans hK
    have r0 := (HS5.out).at 1 rfl 0 (v := .int .i64 0) rfl
    have r1 := (HS5.out).at 1 rfl 1 (v := .int .i64 0) rfl
    have f0 := (HS5.out).free 1 rfl 0 rfl
    have f1 := (HS5.out).free 1 rfl 1 rfl
    have HS6 := Lib.hid ((HS5.out.put 1 rfl 0 (.int .i64 L)).put 1 rfl 1 (.int .i64 H))
    have HK6 := Lib.hid (((KeepsOthers.setCell w5 ⟨w.heap.size + 1, 0, none⟩ (.int .i64 L)).trans (KeepsOthers.setCell _ ⟨w.heap.size + 1, 1, none⟩ (.int .i64 H))).same D _ hK5 rfl)
    have hiS : (Tryd.prog.info? 32).map (·.size) = some 2 := by kernel_rfl
    clear HS HR hi hb5 hK5 HU
    gi_wp2_with fail
    refine ⟨by simp, .inl ⟨_, _, rfl, run_takeDeferred HK6.out, ?_⟩⟩
    have hS7 := ownFrom_sp (β := Unit) (B := w.heap.size) w (fun _ => _) (Nat.le_refl _) () _ _ (some D) HS6.out (grownBy_putObj' _ D (.deferred none)) (fun r e => by cases e; exact ⟨Nat.le_trans hS0.size hD, _, HK6.out, rfl⟩)
    exact ⟨_, results_row (c := #[.int .i64 L, .int .i64 H]) rfl rfl (hS7.range 1 (l := [.int .i64 L, .int .i64 H]) rfl) Tryd.underlying32 rfl hiS, rfl, hS7.below⟩
  case stop =>
    rintro D c pre W hD _ h _
    exact h.elim

theorem where_any (a : Ai) (k : Nat) (fr : Int) {w : World} {ba : Option Addr} {cap : Nat} {l : List Rd} (C : CameRd w ba cap l) (n : NoneAt w) (h : RA a)
    (PT : ∀ r w, Calls Tryd.prog 18 #[rv r, .int .i64 fr] w fun e w' => e = .returned (.tuple #[p3 k r, t3 k r]) ∧ Below w.heap.size w w') :
    Calls Tryd.prog 29 #[av a, .slice ba l.length cap, .int .i64 fr] w fun e w' => e = .returned (sv (hullQ (runQ a k l)).1 (hullQ (runQ a k l)).2) ∧ Below w.heap.size w w' :=
  where_core a k fr _ _ (runQ a k) C (Lib.hid PT) (Lib.hid fun w' _ => TStart_any a w' h)
    (Lib.hid fun pre x w' B => by rw [run_next]; exact TStep_any a (runQ a k pre) _ _ _ _ _ _ w' (n.keep B) h (run_r6 h k pre) (pv_r6 k 0 x) (pv_r6 k 1 x) (pv_r6 k 2 x))
    (Lib.hid fun w' B => HullQ_any _ w' (n.keep B))
end Go.Proofs.YtkjkmnclnedfhaaDoor
