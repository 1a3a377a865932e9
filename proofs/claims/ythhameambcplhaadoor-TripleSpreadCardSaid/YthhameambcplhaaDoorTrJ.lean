/- TripleSpread. -/
import Derived.Test.YthhameambcplhaaDoorTrI
import Derived.Test.YthhameambcplhaaDoorTrG
import Derived.Test.YthhameambcplhaaDoorTrH
import Derived.Test.YthhameambcplhaaDoorRds
import Derived.Test.YthhameambcplhaaDoorObCfgA
import Derived.Test.YthhameambcplhaaDoorV64
namespace Go.Proofs.YthhameambcplhaaDoor
open Go.RowKit Obs

/-- The operations of a drawn region, as the translation has them. -/
def tlsp3 : Array Oper := #[
  { dst := some 16, op := .load 35 (.tmp 4), type := 35, pos := "law.go:70", after := #[], guard := none },
  { dst := some 17, op := .call { callee := .value (.func 16), args := #[.tmp 16], argTypes := #[35] }, type := 47, pos := "law.go:70", after := #[{ on := 0, ground := .data }], guard := none },
  { dst := some 18, op := .load 35 (.tmp 4), type := 35, pos := "law.go:70", after := #[], guard := none },
  { dst := some 19, op := .call { callee := .value (.func 17), args := #[.tmp 18], argTypes := #[35] }, type := 47, pos := "law.go:70", after := #[{ on := 2, ground := .data }, { on := 1, ground := .chain }], guard := none },
  { dst := some 20, op := .binOp .neq 47 (.tmp 17) (.tmp 19) 47, type := 4, pos := "law.go:70", after := #[{ on := 1, ground := .data }, { on := 3, ground := .data }], guard := none },
  { dst := some 21, op := .move (.tmp 20), type := 4, pos := "law.go:70", after := #[{ on := 4, ground := .data }, { on := 3, ground := .chain }], guard := none },
  { dst := some 22, op := .load 35 (.tmp 4), type := 35, pos := "law.go:70", after := #[{ on := 5, ground := .guard }], guard := some (5, false) },
  { dst := some 23, op := .call { callee := .value (.func 18), args := #[.tmp 22], argTypes := #[35] }, type := 2, pos := "law.go:70", after := #[{ on := 6, ground := .data }, { on := 5, ground := .chain }, { on := 5, ground := .guard }], guard := some (5, false) },
  { dst := some 24, op := .load 35 (.tmp 4), type := 35, pos := "law.go:70", after := #[{ on := 5, ground := .guard }], guard := some (5, false) },
  { dst := some 25, op := .call { callee := .value (.func 19), args := #[.tmp 24], argTypes := #[35] }, type := 2, pos := "law.go:70", after := #[{ on := 8, ground := .data }, { on := 7, ground := .chain }, { on := 5, ground := .guard }], guard := some (5, false) },
  { dst := some 26, op := .binOp .neq 2 (.tmp 23) (.tmp 25) 2, type := 4, pos := "law.go:70", after := #[{ on := 7, ground := .data }, { on := 9, ground := .data }, { on := 5, ground := .guard }], guard := some (5, false) },
  { dst := some 27, op := .pick (.tmp 21) (.const (.bool true)) (.tmp 26), type := 4, pos := "law.go:70", after := #[{ on := 5, ground := .data }, { on := 10, ground := .data }], guard := none }]
theorem tlsp3_plain : Region.noSelect tlsp3 = true := by kernel_rfl

/-- The operations of a drawn region, as the translation has them. -/
def tlsp14 : Array Oper := #[
  { dst := some 65, op := .load 35 (.tmp 7), type := 35, pos := "law.go:81", after := #[], guard := none },
  { dst := some 66, op := .call { callee := .value (.func 18), args := #[.tmp 65], argTypes := #[35] }, type := 2, pos := "law.go:81", after := #[{ on := 0, ground := .data }], guard := none },
  { dst := some 67, op := .binOp .lss 2 (.tmp 66) (.const (.int .i64 0)) 2, type := 4, pos := "law.go:81", after := #[{ on := 1, ground := .data }], guard := none },
  { dst := some 68, op := .move (.tmp 67), type := 4, pos := "law.go:81", after := #[{ on := 2, ground := .data }, { on := 1, ground := .chain }], guard := none },
  { dst := some 69, op := .indexAddr 47 (.tmp 10) (.const (.int .i64 0)), type := 0, pos := "law.go:81", after := #[{ on := 3, ground := .guard }], guard := some (3, false) },
  { dst := some 70, op := .load 3 (.tmp 69), type := 3, pos := "law.go:81", after := #[{ on := 4, ground := .data }, { on := 3, ground := .guard }], guard := some (3, false) },
  { dst := some 71, op := .indexAddr 47 (.tmp 10) (.const (.int .i64 1)), type := 0, pos := "law.go:81", after := #[{ on := 3, ground := .guard }], guard := some (3, false) },
  { dst := some 72, op := .load 3 (.tmp 71), type := 3, pos := "law.go:81", after := #[{ on := 6, ground := .data }, { on := 3, ground := .guard }], guard := some (3, false) },
  { dst := some 73, op := .binOp .add 3 (.tmp 70) (.tmp 72) 3, type := 3, pos := "law.go:81", after := #[{ on := 5, ground := .data }, { on := 7, ground := .data }, { on := 3, ground := .guard }], guard := some (3, false) },
  { dst := some 74, op := .indexAddr 47 (.tmp 10) (.const (.int .i64 2)), type := 0, pos := "law.go:81", after := #[{ on := 3, ground := .guard }], guard := some (3, false) },
  { dst := some 75, op := .load 3 (.tmp 74), type := 3, pos := "law.go:81", after := #[{ on := 9, ground := .data }, { on := 3, ground := .guard }], guard := some (3, false) },
  { dst := some 76, op := .binOp .add 3 (.tmp 73) (.tmp 75) 3, type := 3, pos := "law.go:81", after := #[{ on := 8, ground := .data }, { on := 10, ground := .data }, { on := 3, ground := .guard }], guard := some (3, false) },
  { dst := some 77, op := .move (.tmp 11), type := 3, pos := "law.go:81", after := #[{ on := 3, ground := .guard }], guard := some (3, false) },
  { dst := some 78, op := .binOp .add 3 (.tmp 76) (.tmp 77) 3, type := 3, pos := "law.go:81", after := #[{ on := 11, ground := .data }, { on := 12, ground := .data }, { on := 3, ground := .guard }], guard := some (3, false) },
  { dst := some 79, op := .load 35 (.tmp 7), type := 35, pos := "law.go:81", after := #[{ on := 3, ground := .guard }], guard := some (3, false) },
  { dst := some 80, op := .call { callee := .value (.func 12), args := #[.tmp 79], argTypes := #[35] }, type := 3, pos := "law.go:81", after := #[{ on := 14, ground := .data }, { on := 3, ground := .chain }, { on := 3, ground := .guard }], guard := some (3, false) },
  { dst := some 81, op := .binOp .neq 3 (.tmp 78) (.tmp 80) 3, type := 4, pos := "law.go:81", after := #[{ on := 13, ground := .data }, { on := 15, ground := .data }, { on := 3, ground := .guard }], guard := some (3, false) },
  { dst := some 82, op := .pick (.tmp 68) (.const (.bool true)) (.tmp 81), type := 4, pos := "law.go:81", after := #[{ on := 3, ground := .data }, { on := 16, ground := .data }], guard := none }]
theorem tlsp14_plain : Region.noSelect tlsp14 = true := by kernel_rfl

theorem rd_r6 (r : Rd) (i : Nat) (h : i < 12) : Sp.R6 (r.val.getD i 0) := by
  rw [List.getD_eq_getElem?_getD, List.getElem?_eq_getElem (by rw [r.hv]; exact h)]
  exact r.hr _ (List.getElem_mem _)
theorem info_int : (Tryd.prog.info? 3).isSome = true := by kernel_rfl
theorem cell_int : Tryd.prog.cellsOf 3 = 1 := by kernel_rfl
theorem three_same (a0 a1 a2 : Int) (w : World) : (Op.equalIn 10000 47 (.agg #[.int .i64 a0, .int .i64 a1, .int .i64 a2]) (.agg #[.int .i64 a0, .int .i64 a1, .int .i64 a2])).run Tryd.prog w = .ok true w := by
  obtain ⟨i0, hi⟩ := Option.isSome_iff_exists.1 info_int
  rw [show (10000 : Nat) = 9998 + 1 + 1 from rfl, run_equalIn_array w (9998 + 1) _ _ Tryd.underlying47 hi, cell_int]
  simp_all [List.range, List.range.loop, Op.eqItems, go_sem]
theorem bl1_room (r : Bool) : 0 ≤ bl1 r ∧ bl1 r ≤ 1 := by cases r <;> decide
set_option maxHeartbeats 40000000 in
set_option maxRecDepth 100000 in
theorem lspread_core {w : World} {ba : Option Addr} {cap : Nat} {l : List Rd} (C : CameRd w ba cap l) (a : Ai) (q0 : Qd) (n : NoneAt w) (c : ConeAt w) (ra : RA a) (k0 : QR q0) (h60 : ¬ (60 : Int) < l.length) :
    Calls Tryd.prog 4 #[av a, qv q0, .slice ba l.length cap] w fun e w' => e = .returned (.bool true) ∧ Below w.heap.size w w' := by
  have hlen := C.le; have hmax := C.max; unfold maxLen at hmax
  have d60 : decide ((60 : Int) < l.length) = false := decide_eq_false h60
  have HC := Lib.hid C
  have AWC := Lib.hid fun w' (B : Below w.heap.size w w') => awake_any w' (n.keep B) (c.keep B)
  have HI := Lib.hid info_qa
  have BL := Lib.hid fun w => TBlame_any q0 w
  have RB := Lib.hid fun w => RBlame_any q0 w
  have SP := Lib.hid fun w' (B : Below w.heap.size w w') => TSpread_any q0 w' (n.keep B) k0
  have RS := Lib.hid fun w => RSpread_any q0 w k0
  have SA := Lib.hid fun w => TStart_any a w ra
  have HQ0 := Lib.hid (qstart_r6 ra)
  generalize qstart a = qi at *
  generalize spread q0 = s0 at *
  generalize bl1 q0.h1.ref = y1 at *
  generalize bl1 q0.h2.ref = y2 at *
  generalize bl1 q0.h3.ref = y3 at *
  have NN := Lib.hid n
  have HH := Lib.hid ra
  have H1 := Lib.hid qa_one
  clear n c ra k0 h60 C
  have hS1 := ((Sp.none w).more [.int .i64 a.e0, .int .i64 a.e1, .int .i64 a.e2, .bool a.b0, .bool a.b1, .bool a.b2, .int .i64 a.bias, .int .i64 a.change, .int .i64 a.move, .int .i64 a.most] 25).more [.int .i64 q0.h0.vL, .int .i64 q0.h0.vH, .int .i64 q0.h0.bL, .int .i64 q0.h0.bH, .bool q0.h0.ref, .int .i64 q0.h1.vL, .int .i64 q0.h1.vH, .int .i64 q0.h1.bL, .int .i64 q0.h1.bH, .bool q0.h1.ref, .int .i64 q0.h2.vL, .int .i64 q0.h2.vH, .int .i64 q0.h2.bL, .int .i64 q0.h2.bH, .bool q0.h2.ref, .int .i64 q0.h3.vL, .int .i64 q0.h3.vH, .int .i64 q0.h3.bL, .int .i64 q0.h3.bH, .bool q0.h3.ref] 35
  simp only [heap1] at hS1
  have HS1 := Lib.hid hS1
  clear hS1
  have hS2 := (show Sp w [(w.heap.size, [some (.int .i64 a.e0), some (.int .i64 a.e1), some (.int .i64 a.e2), some (.bool a.b0), some (.bool a.b1), some (.bool a.b2), some (.int .i64 a.bias), some (.int .i64 a.change), some (.int .i64 a.move), some (.int .i64 a.most)]), (w.heap.size + 1, (qc q0).map some)] ((w.alloc (.cells #[.int .i64 a.e0, .int .i64 a.e1, .int .i64 a.e2, .bool a.b0, .bool a.b1, .bool a.b2, .int .i64 a.bias, .int .i64 a.change, .int .i64 a.move, .int .i64 a.most] 25)).alloc (.cells (qa q0) 35)) from HS1.out)
  have HS2 := Lib.hid hS2
  clear hS2 HS1
  have hi0 := HI.out q0
  have eqs := three_same y1 y2 y3
  go_enter Tryd.func4, Tryd.ntmps4
  go_upto_region 3 with fail
  obtain ⟨bs1, hbs⟩ : ∃ bs : List (Nat × List (Option Value)), bs = [(w.heap.size, [some (.int .i64 a.e0), some (.int .i64 a.e1), some (.int .i64 a.e2), some (.bool a.b0), some (.bool a.b1), some (.bool a.b2), some (.int .i64 a.bias), some (.int .i64 a.change), some (.int .i64 a.move), some (.int .i64 a.most)]), (w.heap.size + 1, (qc q0).map some)] := ⟨_, rfl⟩
  have hT := (HS2.out).cast hbs
  have RL0 : ∀ w', Sp w bs1 w' → w'.rangeAt (w.heap.size + 1) 0 (qa q0).toList := by rw [hbs]; exact fun w' h => h.range 1 (l := qc q0) rfl
  have nx : ∀ w', Sp w bs1 w' → Sp w [(w.heap.size, [some (.int .i64 a.e0), some (.int .i64 a.e1), some (.int .i64 a.e2), some (.bool a.b0), some (.bool a.b1), some (.bool a.b2), some (.int .i64 a.bias), some (.int .i64 a.change), some (.int .i64 a.move), some (.int .i64 a.most)]), (w.heap.size + 1, (qc q0).map some)] w' := by rw [hbs]; exact fun w' h => h
  have kS : ∀ w1 w2, Sp w bs1 w1 → Below w1.heap.size w1 w2 → Sp w bs1 w2 := fun _ _ h hb => h.keep hb
  clear hbs HS2
  change (Code.region 3 tlsp3 true).wp Tryd.prog _ _ _
  refine wp_region_noPanic ?_
  refine wp_region_held_drew (S := (Sp w bs1)) (by kernel_rfl) (hT.drew) (fun hHeld => ?_)
  refine wpAnyH_take (i := 0) (oi := ({ dst := some 16, op := .load 35 (.tmp 4), type := 35, pos := "law.go:70", after := #[], guard := none } : Oper)) rfl tlsp3_plain (by as_aux_lemma => kernel_rfl) (by as_aux_lemma => kernel_rfl) (fun _ _ _ h => h) (yields_load (by rfl) 35 _ rfl _ _ rfl _ _ RL0 Tryd.underlying35 rfl hi0) (by assumption) ?_
  try simp only [Act.put, List.setIfInBounds_toArray, List.set_cons_zero, List.set_cons_succ]
  refine wpAnyH_take (i := 2) (oi := ({ dst := some 18, op := .load 35 (.tmp 4), type := 35, pos := "law.go:70", after := #[], guard := none } : Oper)) rfl tlsp3_plain (by as_aux_lemma => kernel_rfl) (by as_aux_lemma => kernel_rfl) (fun _ _ _ h => h) (yields_load (by rfl) 35 _ rfl _ _ rfl _ _ RL0 Tryd.underlying35 rfl hi0) (by assumption) ?_
  try simp only [Act.put, List.setIfInBounds_toArray, List.set_cons_zero, List.set_cons_succ]
  refine wpAnyH_ready (rs := [1]) (by as_aux_lemma => kernel_rfl) (by simp) ?_
  refine AllReadyH.cons (o := ({ dst := some 17, op := .call { callee := .value (.func 16), args := #[.tmp 16], argTypes := #[35] }, type := 47, pos := "law.go:70", after := #[{ on := 0, ground := .data }], guard := none } : Oper)) rfl (fun KK hK => ?_) AllReadyH.nil
  rw [if_pos (by rfl)]
  go_simp
  go_at_call 16; refine (BL.out _).mono ?_; rintro e w1 ⟨rfl, hb1⟩
  go_wp2_with fail
  refine hK.out _ _ ?_ (fun hHeld1 => ?_)
  · exact kS _ _ (by assumption) hb1
  clear hK KK hb1
  try simp only [Act.put, List.setIfInBounds_toArray, List.set_cons_zero, List.set_cons_succ]
  refine wpAnyH_ready (rs := [3]) (by as_aux_lemma => kernel_rfl) (by simp) ?_
  refine AllReadyH.cons (o := ({ dst := some 19, op := .call { callee := .value (.func 17), args := #[.tmp 18], argTypes := #[35] }, type := 47, pos := "law.go:70", after := #[{ on := 2, ground := .data }, { on := 1, ground := .chain }], guard := none } : Oper)) rfl (fun KK hK => ?_) AllReadyH.nil
  rw [if_pos (by rfl)]
  go_simp
  go_at_call 17; refine (RB.out _).mono ?_; rintro e w2 ⟨rfl, hb2⟩
  go_wp2_with fail
  refine hK.out _ _ ?_ (fun hHeld2 => ?_)
  · exact kS _ _ (by assumption) hb2
  clear hK KK hb2 hHeld1
  try simp only [Act.put, List.setIfInBounds_toArray, List.set_cons_zero, List.set_cons_succ]
  refine wpAnyH_take (i := 4) (oi := ({ dst := some 20, op := .binOp .neq 47 (.tmp 17) (.tmp 19) 47, type := 4, pos := "law.go:70", after := #[{ on := 1, ground := .data }, { on := 3, ground := .data }], guard := none } : Oper)) (v := ?vs1_4) rfl tlsp3_plain (by as_aux_lemma => kernel_rfl) (by as_aux_lemma => kernel_rfl) (fun _ _ _ h => h) (Or.inl ⟨by rfl, ?ys1_4⟩) (by assumption) ?rs1_4
  case ys1_4 => (intro w hSw; (try dsimp only at hSw); go_simp; try with_reducible rfl)
  try simp only [Act.put, List.setIfInBounds_toArray, List.set_cons_zero, List.set_cons_succ]
  refine wpAnyH_take (i := 5) (oi := ({ dst := some 21, op := .move (.tmp 20), type := 4, pos := "law.go:70", after := #[{ on := 4, ground := .data }, { on := 3, ground := .chain }], guard := none } : Oper)) (v := ?vs1_5) rfl tlsp3_plain (by as_aux_lemma => kernel_rfl) (by as_aux_lemma => kernel_rfl) (fun _ _ _ h => h) (Or.inl ⟨by rfl, ?ys1_5⟩) (by assumption) ?rs1_5
  case ys1_5 => (intro w hSw; (try dsimp only at hSw); go_simp; try with_reducible rfl)
  try simp only [Act.put, List.setIfInBounds_toArray, List.set_cons_zero, List.set_cons_succ]
  refine wpAnyH_take (i := 6) (oi := ({ dst := some 22, op := .load 35 (.tmp 4), type := 35, pos := "law.go:70", after := #[{ on := 5, ground := .guard }], guard := some (5, false) } : Oper)) rfl tlsp3_plain (by as_aux_lemma => kernel_rfl) (by as_aux_lemma => kernel_rfl) (fun _ _ _ h => h) (yields_load (by rfl) 35 _ rfl _ _ rfl _ _ RL0 Tryd.underlying35 rfl hi0) (by assumption) ?_
  try simp only [Act.put, List.setIfInBounds_toArray, List.set_cons_zero, List.set_cons_succ]
  refine wpAnyH_take (i := 8) (oi := ({ dst := some 24, op := .load 35 (.tmp 4), type := 35, pos := "law.go:70", after := #[{ on := 5, ground := .guard }], guard := some (5, false) } : Oper)) rfl tlsp3_plain (by as_aux_lemma => kernel_rfl) (by as_aux_lemma => kernel_rfl) (fun _ _ _ h => h) (yields_load (by rfl) 35 _ rfl _ _ rfl _ _ RL0 Tryd.underlying35 rfl hi0) (by assumption) ?_
  try simp only [Act.put, List.setIfInBounds_toArray, List.set_cons_zero, List.set_cons_succ]
  refine wpAnyH_ready (rs := [7]) (by as_aux_lemma => kernel_rfl) (by simp) ?_
  refine AllReadyH.cons (o := ({ dst := some 23, op := .call { callee := .value (.func 18), args := #[.tmp 22], argTypes := #[35] }, type := 2, pos := "law.go:70", after := #[{ on := 6, ground := .data }, { on := 5, ground := .chain }, { on := 5, ground := .guard }], guard := some (5, false) } : Oper)) rfl (fun KK hK => ?_) AllReadyH.nil
  rw [if_pos (by rfl)]
  go_simp
  go_at_call 18; refine (SP.out _ (Sp.below (by assumption))).mono ?_; rintro e w3 ⟨rfl, hb3⟩
  go_wp2_with fail
  refine hK.out _ _ ?_ (fun hHeld3 => ?_)
  · exact kS _ _ (by assumption) hb3
  clear hK KK hb3 hHeld2
  try simp only [Act.put, List.setIfInBounds_toArray, List.set_cons_zero, List.set_cons_succ]
  refine wpAnyH_ready (rs := [9]) (by as_aux_lemma => kernel_rfl) (by simp) ?_
  refine AllReadyH.cons (o := ({ dst := some 25, op := .call { callee := .value (.func 19), args := #[.tmp 24], argTypes := #[35] }, type := 2, pos := "law.go:70", after := #[{ on := 8, ground := .data }, { on := 7, ground := .chain }, { on := 5, ground := .guard }], guard := some (5, false) } : Oper)) rfl (fun KK hK => ?_) AllReadyH.nil
  rw [if_pos (by rfl)]
  go_simp
  go_at_call 19; refine (RS.out _).mono ?_; rintro e w4 ⟨rfl, hb4⟩
  go_wp2_with fail
  refine hK.out _ _ ?_ (fun hHeld4 => ?_)
  · exact kS _ _ (by assumption) hb4
  clear hK KK hb4 hHeld3
  try simp only [Act.put, List.setIfInBounds_toArray, List.set_cons_zero, List.set_cons_succ]
  refine wpAnyH_take (i := 10) (oi := ({ dst := some 26, op := .binOp .neq 2 (.tmp 23) (.tmp 25) 2, type := 4, pos := "law.go:70", after := #[{ on := 7, ground := .data }, { on := 9, ground := .data }, { on := 5, ground := .guard }], guard := some (5, false) } : Oper)) (v := ?vs1_10) rfl tlsp3_plain (by as_aux_lemma => kernel_rfl) (by as_aux_lemma => kernel_rfl) (fun _ _ _ h => h) (Or.inl ⟨by rfl, ?ys1_10⟩) (by assumption) ?rs1_10
  case ys1_10 => (intro w hSw; (try dsimp only at hSw); go_simp; try with_reducible rfl)
  try simp only [Act.put, List.setIfInBounds_toArray, List.set_cons_zero, List.set_cons_succ]
  refine wpAnyH_take (i := 11) (oi := ({ dst := some 27, op := .pick (.tmp 21) (.const (.bool true)) (.tmp 26), type := 4, pos := "law.go:70", after := #[{ on := 5, ground := .data }, { on := 10, ground := .data }], guard := none } : Oper)) (v := ?vs1_11) rfl tlsp3_plain (by as_aux_lemma => kernel_rfl) (by as_aux_lemma => kernel_rfl) (fun _ _ _ h => h) (Or.inl ⟨by rfl, ?ys1_11⟩) (by assumption) ?rs1_11
  case ys1_11 => (intro w hSw; (try dsimp only at hSw); go_simp; try with_reducible rfl)
  try simp only [Act.put, List.setIfInBounds_toArray, List.set_cons_zero, List.set_cons_succ]
  refine wpAnyH_done (by as_aux_lemma => kernel_rfl) ?_ _
  refine NoPanic.normal ?_
  have N1 := nx _ hHeld4
  have HS3 := Lib.hid N1
  clear RL0 nx kS hT N1
  clear BL RB SP RS d60 hi0 eqs
  have k0_0 := (HS3.out).at 0 rfl 0 (v := .int .i64 a.e0) rfl
  have k0_1 := (HS3.out).at 0 rfl 1 (v := .int .i64 a.e1) rfl
  have k0_2 := (HS3.out).at 0 rfl 2 (v := .int .i64 a.e2) rfl
  have k0_3 := (HS3.out).at 0 rfl 3 (v := .bool a.b0) rfl
  have k0_4 := (HS3.out).at 0 rfl 4 (v := .bool a.b1) rfl
  have k0_5 := (HS3.out).at 0 rfl 5 (v := .bool a.b2) rfl
  have k0_6 := (HS3.out).at 0 rfl 6 (v := .int .i64 a.bias) rfl
  have k0_7 := (HS3.out).at 0 rfl 7 (v := .int .i64 a.change) rfl
  have k0_8 := (HS3.out).at 0 rfl 8 (v := .int .i64 a.move) rfl
  have k0_9 := (HS3.out).at 0 rfl 9 (v := .int .i64 a.most) rfl
  go_wp2_with fail
  refine (SA.out _).mono ?_; rintro e w5 ⟨rfl, hb5⟩
  have hS4 := (HS3.out).keep hb5
  have HS4 := Lib.hid hS4
  clear hS4 HS3
  clear hb5
  clear SA k0_0 k0_1 k0_2 k0_3 k0_4 k0_5 k0_6 k0_7 k0_8 k0_9
  have hi := HI.out qi
  have h1 := H1.out qi
  go_upto_region 6 with (refine list_store_new rfl 35 _ _ rfl _ (qa qi) rfl rfl hi rfl h1 ?_)
  clear hi h1
  have hS5 := (show Sp w [(w.heap.size, [some (.int .i64 a.e0), some (.int .i64 a.e1), some (.int .i64 a.e2), some (.bool a.b0), some (.bool a.b1), some (.bool a.b2), some (.int .i64 a.bias), some (.int .i64 a.change), some (.int .i64 a.move), some (.int .i64 a.most)]), (w.heap.size + 1, (qc q0).map some), (w5.heap.size, (qc qi).map some)] (w5.alloc (.cells (qa qi) 35)) from (HS4.out).more (qc qi) 35)
  have HS5 := Lib.hid hS5
  clear hS5 HS4
  obtain ⟨w6, hX, hS⟩ := (HS5.out).named
  rw [← hX]
  clear hX HS5
  have HS6 := Lib.hid hS
  clear hS
  go_wp2_with fail
  go_loopw [32] (fun i wr => ∃ (j : Nat) (q : Qd), j ≤ l.length ∧ i = .int .i64 j ∧ QR q ∧ Sp w [(w.heap.size, [some (.int .i64 a.e0), some (.int .i64 a.e1), some (.int .i64 a.e2), some (.bool a.b0), some (.bool a.b1), some (.bool a.b2), some (.int .i64 a.bias), some (.int .i64 a.change), some (.int .i64 a.move), some (.int .i64 a.most)]), (w.heap.size + 1, (qc q0).map some), (w5.heap.size, (qc q).map some)] wr) (fun i _ => l.length - (intOf i).toNat)
  case atStart => exact ⟨0, qi, Nat.zero_le _, rfl, HQ0.out, HS6.out⟩
  case round =>
    clear HS6 HQ0
    obtain ⟨j, q, hj, rfl, hq, hS⟩ := hrel
    by_cases hc : (j : Int) < l.length
    · skip
      obtain ⟨b, ob, rfl, L⟩ := (HC.out.keep hS.below).lies (by omega)
      have hx := L j (by omega)
      obtain ⟨r, hr⟩ : ∃ r, r = l.getD j rd0 := ⟨_, rfl⟩
      rw [← hr] at hx
      clear hr L
      have HX := Lib.hid hx
      clear hx
      have hd : (j : Int) ≥ 0 := by omega
      have HS7 := Lib.hid hS
      clear hS
      go_upto_region 9 with (first | refine list_load_rd rfl _ rfl b (ob + j * 24) rfl r HX.out ?_ | refine list_store_rd rfl _ _ rfl _ r rfl rfl rfl ?_)
      clear HX
      have hS8 := (show Sp w [(w.heap.size, [some (.int .i64 a.e0), some (.int .i64 a.e1), some (.int .i64 a.e2), some (.bool a.b0), some (.bool a.b1), some (.bool a.b2), some (.int .i64 a.bias), some (.int .i64 a.change), some (.int .i64 a.move), some (.int .i64 a.most)]), (w.heap.size + 1, (qc q0).map some), (w5.heap.size, (qc q).map some), (wr.heap.size, (rc r).map some)] (wr.alloc (.cells (ra r) 53)) from (HS7.out).more (rc r) 53)
      have HS8 := Lib.hid hS8
      clear hS8 HS7
      obtain ⟨w7, hX, hS⟩ := (HS8.out).named
      rw [← hX]
      clear hX HS8
      have HS9 := Lib.hid hS
      clear hS
      have v0 : _ := (HS9.out).at 3 rfl 6 (v := .int .i64 (r.val.getD 6 0)) (by rw [List.getElem?_map, rc_val r 6 (by decide)]; rfl)
      have u0 : _ := (HS9.out).at 3 rfl 18 (v := .bool (r.there.getD 6 false)) (by rw [List.getElem?_map, rc_there r 6 (by decide)]; rfl)
      have p0 := rd_r6 r 6 (by decide)
      have v1 : _ := (HS9.out).at 3 rfl 7 (v := .int .i64 (r.val.getD 7 0)) (by rw [List.getElem?_map, rc_val r 7 (by decide)]; rfl)
      have u1 : _ := (HS9.out).at 3 rfl 19 (v := .bool (r.there.getD 7 false)) (by rw [List.getElem?_map, rc_there r 7 (by decide)]; rfl)
      have p1 := rd_r6 r 7 (by decide)
      have v2 : _ := (HS9.out).at 3 rfl 8 (v := .int .i64 (r.val.getD 8 0)) (by rw [List.getElem?_map, rc_val r 8 (by decide)]; rfl)
      have u2 : _ := (HS9.out).at 3 rfl 20 (v := .bool (r.there.getD 8 false)) (by rw [List.getElem?_map, rc_there r 8 (by decide)]; rfl)
      have p2 := rd_r6 r 8 (by decide)
      generalize r.val.getD 6 0 = x0 at *
      generalize r.there.getD 6 false = t0 at *
      generalize r.val.getD 7 0 = x1 at *
      generalize r.there.getD 7 false = t1 at *
      generalize r.val.getD 8 0 = x2 at *
      generalize r.there.getD 8 false = t2 at *
      have ST := Lib.hid fun w' (B : Below w.heap.size w w') => TStep_any a q x0 x1 x2 t0 t1 t2 w' (NN.out.keep B) HH.out hq p0 p1 p2
      have hq2 := qstep_r6 (t0 := t0) (t1 := t1) (t2 := t2) HH.out hq p0 p1 p2
      obtain ⟨qn, hqn⟩ : ∃ z, z = qstep a q x0 x1 x2 t0 t1 t2 := ⟨_, rfl⟩
      rw [← hqn] at ST hq2
      clear hqn hq p0 p1 p2
      have HQ := Lib.hid hq2
      have BL := Lib.hid fun w => TBlame_any qn w
      have SPN := Lib.hid fun w' (B : Below w.heap.size w w') => TSpread_any qn w' (NN.out.keep B) HQ.out
      have AL := Lib.hid fun w => Alive_any qn w
      clear hq2
      have k0_0 := (HS9.out).at 0 rfl 0 (v := .int .i64 a.e0) rfl
      have k0_1 := (HS9.out).at 0 rfl 1 (v := .int .i64 a.e1) rfl
      have k0_2 := (HS9.out).at 0 rfl 2 (v := .int .i64 a.e2) rfl
      have k0_3 := (HS9.out).at 0 rfl 3 (v := .bool a.b0) rfl
      have k0_4 := (HS9.out).at 0 rfl 4 (v := .bool a.b1) rfl
      have k0_5 := (HS9.out).at 0 rfl 5 (v := .bool a.b2) rfl
      have k0_6 := (HS9.out).at 0 rfl 6 (v := .int .i64 a.bias) rfl
      have k0_7 := (HS9.out).at 0 rfl 7 (v := .int .i64 a.change) rfl
      have k0_8 := (HS9.out).at 0 rfl 8 (v := .int .i64 a.move) rfl
      have k0_9 := (HS9.out).at 0 rfl 9 (v := .int .i64 a.most) rfl
      have HR := (HS9.out).range 2 (l := qc q) rfl
      have hi := HI.out q
      go_wp2_with (refine list_load_any rfl 35 _ rfl _ 0 rfl (qa q) _ HR Tryd.underlying35 rfl hi ?_)
      refine (ST.out _ HS9.out.below).mono ?_; rintro e w8 ⟨rfl, hb8⟩
      have hS10 := (HS9.out).keep hb8
      have HS10 := Lib.hid hS10
      clear hS10 HS9
      clear hb8
      clear ST HR hi v0 v1 v2 u0 u1 u2 k0_0 k0_1 k0_2 k0_3 k0_4 k0_5 k0_6 k0_7 k0_8 k0_9
      have HT := (HS10.out).free_row 2 rfl (n := 20) rfl
      have hi := HI.out qn
      have h1 := H1.out qn
      go_upto_region 10 with (refine wpList_store_mid rfl 35 _ _ rfl (w5.heap.size) 0 (qa qn) rfl rfl HT hi h1 ?_)
      have hS11 := (show Sp w [(w.heap.size, [some (.int .i64 a.e0), some (.int .i64 a.e1), some (.int .i64 a.e2), some (.bool a.b0), some (.bool a.b1), some (.bool a.b2), some (.int .i64 a.bias), some (.int .i64 a.change), some (.int .i64 a.move), some (.int .i64 a.most)]), (w.heap.size + 1, (qc q0).map some), (w5.heap.size, (qc qn).map some), (wr.heap.size, (rc r).map some)] (w8.setCells (w5.heap.size) 0 (qa qn).toList) from (HS10.out).row 2 rfl (qc qn) rfl)
      have HS11 := Lib.hid hS11
      clear hS11 HS10
      clear HT h1
      obtain ⟨w9, hX, hS⟩ := (HS11.out).named
      rw [← hX]
      clear hX HS11
      have HS12 := Lib.hid hS
      clear hS
      have HR := (HS12.out).range 2 (l := qc qn) rfl
      go_wp2_with (refine list_load_any rfl 35 _ rfl _ 0 rfl (qa qn) _ HR Tryd.underlying35 rfl hi ?_)
      refine (BL.out _).mono ?_; rintro e w10 ⟨rfl, hb10⟩
      have hS13 := (HS12.out).keep hb10
      have HS13 := Lib.hid hS13
      clear hS13 HS12
      clear hb10
      clear BL HR
      have q1 := bl1_room qn.h1.ref
      have q2 := bl1_room qn.h2.ref
      have q3 := bl1_room qn.h3.ref
      have qs := blame_sum qn
      have qz := spread_nonneg qn
      generalize bl1 qn.h1.ref = y1 at *
      generalize bl1 qn.h2.ref = y2 at *
      generalize bl1 qn.h3.ref = y3 at *
      generalize spread qn = s at *
      generalize alive qn = al at *
      have ds : decide (s < 0) = false := decide_eq_false (by omega)
      obtain ⟨e1, he1⟩ : ∃ e, e = y1 + y2 := ⟨_, rfl⟩
      obtain ⟨e2, he2⟩ : ∃ e, e = e1 + y3 := ⟨_, rfl⟩
      have w1q : IntKind.i64.wrap (y1 + y2) = e1 := (wrap_i64 _).trans (by omega)
      have w2q : IntKind.i64.wrap (e1 + y3) = e2 := (wrap_i64 _).trans (by omega)
      go_upto_region 11 with fail
      have hS14 := (HS13.out).more [.int .i64 y1, .int .i64 y2, .int .i64 y3] 47
      have HS14 := Lib.hid hS14
      clear hS14 HS13
      obtain ⟨w11, hX, hS⟩ := (HS14.out).named
      rw [← hX]
      clear hX HS14
      have HS15 := Lib.hid hS
      clear hS
      have k2_4 := (HS15.out).at 2 rfl 4 (v := .bool qn.h0.ref) rfl
      rcases Bool.eq_false_or_eq_true qn.h0.ref with c1 | c1
      · skip
        rw [c1] at k2_4 qs
        have w3q : IntKind.i64.wrap e2 = al := (wrap_i64 _).trans (by unfold bl1 at qs; simp at qs; omega)
        clear c1 qs q1 q2 q3 qz he1 he2
        go_upto_region 14 with fail
        clear k2_4
        obtain ⟨bs2, hbs⟩ : ∃ bs : List (Nat × List (Option Value)), bs = [(w.heap.size, [some (.int .i64 a.e0), some (.int .i64 a.e1), some (.int .i64 a.e2), some (.bool a.b0), some (.bool a.b1), some (.bool a.b2), some (.int .i64 a.bias), some (.int .i64 a.change), some (.int .i64 a.move), some (.int .i64 a.most)]), (w.heap.size + 1, (qc q0).map some), (w5.heap.size, (qc qn).map some), (wr.heap.size, (rc r).map some), (w10.heap.size, [some (.int .i64 y1), some (.int .i64 y2), some (.int .i64 y3)])] := ⟨_, rfl⟩
        have hT := (HS15.out).cast hbs
        have c4_0 : ∀ w', Sp w bs2 w' → w'.cell? ⟨w10.heap.size, 0, none⟩ = some (.int .i64 y1) := by rw [hbs]; exact fun w' h => h.at 4 rfl 0 rfl
        have c4_1 : ∀ w', Sp w bs2 w' → w'.cell? ⟨w10.heap.size, 1, none⟩ = some (.int .i64 y2) := by rw [hbs]; exact fun w' h => h.at 4 rfl 1 rfl
        have c4_2 : ∀ w', Sp w bs2 w' → w'.cell? ⟨w10.heap.size, 2, none⟩ = some (.int .i64 y3) := by rw [hbs]; exact fun w' h => h.at 4 rfl 2 rfl
        have RL0 : ∀ w', Sp w bs2 w' → w'.rangeAt (w5.heap.size) 0 (qa qn).toList := by rw [hbs]; exact fun w' h => h.range 2 (l := qc qn) rfl
        have nx : ∀ w', Sp w bs2 w' → Sp w [(w.heap.size, [some (.int .i64 a.e0), some (.int .i64 a.e1), some (.int .i64 a.e2), some (.bool a.b0), some (.bool a.b1), some (.bool a.b2), some (.int .i64 a.bias), some (.int .i64 a.change), some (.int .i64 a.move), some (.int .i64 a.most)]), (w.heap.size + 1, (qc q0).map some), (w5.heap.size, (qc qn).map some), (wr.heap.size, (rc r).map some), (w10.heap.size, [some (.int .i64 y1), some (.int .i64 y2), some (.int .i64 y3)])] w' := by rw [hbs]; exact fun w' h => h
        have kS : ∀ w1 w2, Sp w bs2 w1 → Below w1.heap.size w1 w2 → Sp w bs2 w2 := fun _ _ h hb => h.keep hb
        clear hbs HS15
        change (Code.region 14 tlsp14 true).wp Tryd.prog _ _ _
        refine wp_region_noPanic ?_
        refine wp_region_held_drew (S := (Sp w bs2)) (by kernel_rfl) (hT.drew) (fun hHeld => ?_)
        refine wpAnyH_take (i := 0) (oi := ({ dst := some 65, op := .load 35 (.tmp 7), type := 35, pos := "law.go:81", after := #[], guard := none } : Oper)) rfl tlsp14_plain (by as_aux_lemma => kernel_rfl) (by as_aux_lemma => kernel_rfl) (fun _ _ _ h => h) (yields_load (by rfl) 35 _ rfl _ _ rfl _ _ RL0 Tryd.underlying35 rfl hi) (by assumption) ?_
        try simp only [Act.put, List.setIfInBounds_toArray, List.set_cons_zero, List.set_cons_succ]
        refine wpAnyH_ready (rs := [1]) (by as_aux_lemma => kernel_rfl) (by simp) ?_
        refine AllReadyH.cons (o := ({ dst := some 66, op := .call { callee := .value (.func 18), args := #[.tmp 65], argTypes := #[35] }, type := 2, pos := "law.go:81", after := #[{ on := 0, ground := .data }], guard := none } : Oper)) rfl (fun KK hK => ?_) AllReadyH.nil
        rw [if_pos (by rfl)]
        go_simp
        go_at_call 18; refine (SPN.out _ (Sp.below (by assumption))).mono ?_; rintro e w12 ⟨rfl, hb12⟩
        go_wp2_with fail
        refine hK.out _ _ ?_ (fun hHeld12 => ?_)
        · exact kS _ _ (by assumption) hb12
        clear hK KK hb12
        try simp only [Act.put, List.setIfInBounds_toArray, List.set_cons_zero, List.set_cons_succ]
        refine wpAnyH_take (i := 2) (oi := ({ dst := some 67, op := .binOp .lss 2 (.tmp 66) (.const (.int .i64 0)) 2, type := 4, pos := "law.go:81", after := #[{ on := 1, ground := .data }], guard := none } : Oper)) (v := ?vs2_2) rfl tlsp14_plain (by as_aux_lemma => kernel_rfl) (by as_aux_lemma => kernel_rfl) (fun _ _ _ h => h) (Or.inl ⟨by rfl, ?ys2_2⟩) (by assumption) ?rs2_2
        case ys2_2 => (intro w hSw; (try dsimp only at hSw); go_simp; try with_reducible rfl)
        try simp only [Act.put, List.setIfInBounds_toArray, List.set_cons_zero, List.set_cons_succ]
        refine wpAnyH_take (i := 3) (oi := ({ dst := some 68, op := .move (.tmp 67), type := 4, pos := "law.go:81", after := #[{ on := 2, ground := .data }, { on := 1, ground := .chain }], guard := none } : Oper)) (v := ?vs2_3) rfl tlsp14_plain (by as_aux_lemma => kernel_rfl) (by as_aux_lemma => kernel_rfl) (fun _ _ _ h => h) (Or.inl ⟨by rfl, ?ys2_3⟩) (by assumption) ?rs2_3
        case ys2_3 => (intro w hSw; (try dsimp only at hSw); go_simp; try with_reducible rfl)
        try simp only [Act.put, List.setIfInBounds_toArray, List.set_cons_zero, List.set_cons_succ]
        refine wpAnyH_take (i := 4) (oi := ({ dst := some 69, op := .indexAddr 47 (.tmp 10) (.const (.int .i64 0)), type := 0, pos := "law.go:81", after := #[{ on := 3, ground := .guard }], guard := some (3, false) } : Oper)) (v := ?vs2_4) rfl tlsp14_plain (by as_aux_lemma => kernel_rfl) (by as_aux_lemma => kernel_rfl) (fun _ _ _ h => h) (Or.inl ⟨by rfl, ?ys2_4⟩) (by assumption) ?rs2_4
        case ys2_4 => (intro w hSw; (try dsimp only at hSw); go_simp; try with_reducible rfl)
        try simp only [Act.put, List.setIfInBounds_toArray, List.set_cons_zero, List.set_cons_succ]
        refine wpAnyH_take (i := 5) (oi := ({ dst := some 70, op := .load 3 (.tmp 69), type := 3, pos := "law.go:81", after := #[{ on := 4, ground := .data }, { on := 3, ground := .guard }], guard := some (3, false) } : Oper)) (v := ?vs2_5) rfl tlsp14_plain (by as_aux_lemma => kernel_rfl) (by as_aux_lemma => kernel_rfl) (fun _ _ _ h => h) (Or.inl ⟨by rfl, ?ys2_5⟩) (by assumption) ?rs2_5
        case ys2_5 => (intro w hSw; (try dsimp only at hSw); go_simp; try with_reducible rfl)
        try simp only [Act.put, List.setIfInBounds_toArray, List.set_cons_zero, List.set_cons_succ]
        refine wpAnyH_take (i := 6) (oi := ({ dst := some 71, op := .indexAddr 47 (.tmp 10) (.const (.int .i64 1)), type := 0, pos := "law.go:81", after := #[{ on := 3, ground := .guard }], guard := some (3, false) } : Oper)) (v := ?vs2_6) rfl tlsp14_plain (by as_aux_lemma => kernel_rfl) (by as_aux_lemma => kernel_rfl) (fun _ _ _ h => h) (Or.inl ⟨by rfl, ?ys2_6⟩) (by assumption) ?rs2_6
        case ys2_6 => (intro w hSw; (try dsimp only at hSw); go_simp; try with_reducible rfl)
        try simp only [Act.put, List.setIfInBounds_toArray, List.set_cons_zero, List.set_cons_succ]
        refine wpAnyH_take (i := 7) (oi := ({ dst := some 72, op := .load 3 (.tmp 71), type := 3, pos := "law.go:81", after := #[{ on := 6, ground := .data }, { on := 3, ground := .guard }], guard := some (3, false) } : Oper)) (v := ?vs2_7) rfl tlsp14_plain (by as_aux_lemma => kernel_rfl) (by as_aux_lemma => kernel_rfl) (fun _ _ _ h => h) (Or.inl ⟨by rfl, ?ys2_7⟩) (by assumption) ?rs2_7
        case ys2_7 => (intro w hSw; (try dsimp only at hSw); go_simp; try with_reducible rfl)
        try simp only [Act.put, List.setIfInBounds_toArray, List.set_cons_zero, List.set_cons_succ]
        refine wpAnyH_take (i := 8) (oi := ({ dst := some 73, op := .binOp .add 3 (.tmp 70) (.tmp 72) 3, type := 3, pos := "law.go:81", after := #[{ on := 5, ground := .data }, { on := 7, ground := .data }, { on := 3, ground := .guard }], guard := some (3, false) } : Oper)) (v := ?vs2_8) rfl tlsp14_plain (by as_aux_lemma => kernel_rfl) (by as_aux_lemma => kernel_rfl) (fun _ _ _ h => h) (Or.inl ⟨by rfl, ?ys2_8⟩) (by assumption) ?rs2_8
        case ys2_8 => (intro w hSw; (try dsimp only at hSw); go_simp; try with_reducible rfl)
        try simp only [Act.put, List.setIfInBounds_toArray, List.set_cons_zero, List.set_cons_succ]
        refine wpAnyH_take (i := 9) (oi := ({ dst := some 74, op := .indexAddr 47 (.tmp 10) (.const (.int .i64 2)), type := 0, pos := "law.go:81", after := #[{ on := 3, ground := .guard }], guard := some (3, false) } : Oper)) (v := ?vs2_9) rfl tlsp14_plain (by as_aux_lemma => kernel_rfl) (by as_aux_lemma => kernel_rfl) (fun _ _ _ h => h) (Or.inl ⟨by rfl, ?ys2_9⟩) (by assumption) ?rs2_9
        case ys2_9 => (intro w hSw; (try dsimp only at hSw); go_simp; try with_reducible rfl)
        try simp only [Act.put, List.setIfInBounds_toArray, List.set_cons_zero, List.set_cons_succ]
        refine wpAnyH_take (i := 10) (oi := ({ dst := some 75, op := .load 3 (.tmp 74), type := 3, pos := "law.go:81", after := #[{ on := 9, ground := .data }, { on := 3, ground := .guard }], guard := some (3, false) } : Oper)) (v := ?vs2_10) rfl tlsp14_plain (by as_aux_lemma => kernel_rfl) (by as_aux_lemma => kernel_rfl) (fun _ _ _ h => h) (Or.inl ⟨by rfl, ?ys2_10⟩) (by assumption) ?rs2_10
        case ys2_10 => (intro w hSw; (try dsimp only at hSw); go_simp; try with_reducible rfl)
        try simp only [Act.put, List.setIfInBounds_toArray, List.set_cons_zero, List.set_cons_succ]
        refine wpAnyH_take (i := 11) (oi := ({ dst := some 76, op := .binOp .add 3 (.tmp 73) (.tmp 75) 3, type := 3, pos := "law.go:81", after := #[{ on := 8, ground := .data }, { on := 10, ground := .data }, { on := 3, ground := .guard }], guard := some (3, false) } : Oper)) (v := ?vs2_11) rfl tlsp14_plain (by as_aux_lemma => kernel_rfl) (by as_aux_lemma => kernel_rfl) (fun _ _ _ h => h) (Or.inl ⟨by rfl, ?ys2_11⟩) (by assumption) ?rs2_11
        case ys2_11 => (intro w hSw; (try dsimp only at hSw); go_simp; try with_reducible rfl)
        try simp only [Act.put, List.setIfInBounds_toArray, List.set_cons_zero, List.set_cons_succ]
        refine wpAnyH_take (i := 12) (oi := ({ dst := some 77, op := .move (.tmp 11), type := 3, pos := "law.go:81", after := #[{ on := 3, ground := .guard }], guard := some (3, false) } : Oper)) (v := ?vs2_12) rfl tlsp14_plain (by as_aux_lemma => kernel_rfl) (by as_aux_lemma => kernel_rfl) (fun _ _ _ h => h) (Or.inl ⟨by rfl, ?ys2_12⟩) (by assumption) ?rs2_12
        case ys2_12 => (intro w hSw; (try dsimp only at hSw); go_simp; try with_reducible rfl)
        try simp only [Act.put, List.setIfInBounds_toArray, List.set_cons_zero, List.set_cons_succ]
        refine wpAnyH_take (i := 13) (oi := ({ dst := some 78, op := .binOp .add 3 (.tmp 76) (.tmp 77) 3, type := 3, pos := "law.go:81", after := #[{ on := 11, ground := .data }, { on := 12, ground := .data }, { on := 3, ground := .guard }], guard := some (3, false) } : Oper)) (v := ?vs2_13) rfl tlsp14_plain (by as_aux_lemma => kernel_rfl) (by as_aux_lemma => kernel_rfl) (fun _ _ _ h => h) (Or.inl ⟨by rfl, ?ys2_13⟩) (by assumption) ?rs2_13
        case ys2_13 => (intro w hSw; (try dsimp only at hSw); go_simp; try with_reducible rfl)
        try simp only [Act.put, List.setIfInBounds_toArray, List.set_cons_zero, List.set_cons_succ]
        refine wpAnyH_take (i := 14) (oi := ({ dst := some 79, op := .load 35 (.tmp 7), type := 35, pos := "law.go:81", after := #[{ on := 3, ground := .guard }], guard := some (3, false) } : Oper)) rfl tlsp14_plain (by as_aux_lemma => kernel_rfl) (by as_aux_lemma => kernel_rfl) (fun _ _ _ h => h) (yields_load (by rfl) 35 _ rfl _ _ rfl _ _ RL0 Tryd.underlying35 rfl hi) (by assumption) ?_
        try simp only [Act.put, List.setIfInBounds_toArray, List.set_cons_zero, List.set_cons_succ]
        refine wpAnyH_ready (rs := [15]) (by as_aux_lemma => kernel_rfl) (by simp) ?_
        refine AllReadyH.cons (o := ({ dst := some 80, op := .call { callee := .value (.func 12), args := #[.tmp 79], argTypes := #[35] }, type := 3, pos := "law.go:81", after := #[{ on := 14, ground := .data }, { on := 3, ground := .chain }, { on := 3, ground := .guard }], guard := some (3, false) } : Oper)) rfl (fun KK hK => ?_) AllReadyH.nil
        rw [if_pos (by rfl)]
        go_simp
        go_at_call 12; refine (AL.out _).mono ?_; rintro e w13 ⟨rfl, hb13⟩
        go_wp2_with fail
        refine hK.out _ _ ?_ (fun hHeld13 => ?_)
        · exact kS _ _ (by assumption) hb13
        clear hK KK hb13 hHeld12
        try simp only [Act.put, List.setIfInBounds_toArray, List.set_cons_zero, List.set_cons_succ]
        refine wpAnyH_take (i := 16) (oi := ({ dst := some 81, op := .binOp .neq 3 (.tmp 78) (.tmp 80) 3, type := 4, pos := "law.go:81", after := #[{ on := 13, ground := .data }, { on := 15, ground := .data }, { on := 3, ground := .guard }], guard := some (3, false) } : Oper)) (v := ?vs2_16) rfl tlsp14_plain (by as_aux_lemma => kernel_rfl) (by as_aux_lemma => kernel_rfl) (fun _ _ _ h => h) (Or.inl ⟨by rfl, ?ys2_16⟩) (by assumption) ?rs2_16
        case ys2_16 => (intro w hSw; (try dsimp only at hSw); go_simp; try with_reducible rfl)
        try simp only [Act.put, List.setIfInBounds_toArray, List.set_cons_zero, List.set_cons_succ]
        refine wpAnyH_take (i := 17) (oi := ({ dst := some 82, op := .pick (.tmp 68) (.const (.bool true)) (.tmp 81), type := 4, pos := "law.go:81", after := #[{ on := 3, ground := .data }, { on := 16, ground := .data }], guard := none } : Oper)) (v := ?vs2_17) rfl tlsp14_plain (by as_aux_lemma => kernel_rfl) (by as_aux_lemma => kernel_rfl) (fun _ _ _ h => h) (Or.inl ⟨by rfl, ?ys2_17⟩) (by assumption) ?rs2_17
        case ys2_17 => (intro w hSw; (try dsimp only at hSw); go_simp; try with_reducible rfl)
        try simp only [Act.put, List.setIfInBounds_toArray, List.set_cons_zero, List.set_cons_succ]
        refine wpAnyH_done (by as_aux_lemma => kernel_rfl) ?_ _
        refine NoPanic.normal ?_
        have N1 := nx _ hHeld13
        have HS16 := Lib.hid N1
        clear c4_0 c4_1 c4_2 RL0 nx kS hT N1
        have HF := Lib.hid ((HS16.out).take 3)
        clear HS16 SPN AL ds w1q w2q w3q hi
        go_wp2_with fail
        go_roundw
        case rel => first | exact ⟨j + 1, qn, by omega, rfl, HQ.out, HF.out⟩ | ((repeat apply Exists.intro); exact ⟨⟨j + 1, qn, by omega, rfl, HQ.out, HF.out⟩, rfl⟩)
        case measure => simp [intOf]; omega
      · skip
        rw [c1] at k2_4 qs
        have w3q : IntKind.i64.wrap (e2 + 1) = al := (wrap_i64 _).trans (by unfold bl1 at qs; simp at qs; omega)
        clear c1 qs q1 q2 q3 qz he1 he2
        go_upto_region 14 with fail
        clear k2_4
        obtain ⟨bs3, hbs⟩ : ∃ bs : List (Nat × List (Option Value)), bs = [(w.heap.size, [some (.int .i64 a.e0), some (.int .i64 a.e1), some (.int .i64 a.e2), some (.bool a.b0), some (.bool a.b1), some (.bool a.b2), some (.int .i64 a.bias), some (.int .i64 a.change), some (.int .i64 a.move), some (.int .i64 a.most)]), (w.heap.size + 1, (qc q0).map some), (w5.heap.size, (qc qn).map some), (wr.heap.size, (rc r).map some), (w10.heap.size, [some (.int .i64 y1), some (.int .i64 y2), some (.int .i64 y3)])] := ⟨_, rfl⟩
        have hT := (HS15.out).cast hbs
        have c4_0 : ∀ w', Sp w bs3 w' → w'.cell? ⟨w10.heap.size, 0, none⟩ = some (.int .i64 y1) := by rw [hbs]; exact fun w' h => h.at 4 rfl 0 rfl
        have c4_1 : ∀ w', Sp w bs3 w' → w'.cell? ⟨w10.heap.size, 1, none⟩ = some (.int .i64 y2) := by rw [hbs]; exact fun w' h => h.at 4 rfl 1 rfl
        have c4_2 : ∀ w', Sp w bs3 w' → w'.cell? ⟨w10.heap.size, 2, none⟩ = some (.int .i64 y3) := by rw [hbs]; exact fun w' h => h.at 4 rfl 2 rfl
        have RL0 : ∀ w', Sp w bs3 w' → w'.rangeAt (w5.heap.size) 0 (qa qn).toList := by rw [hbs]; exact fun w' h => h.range 2 (l := qc qn) rfl
        have nx : ∀ w', Sp w bs3 w' → Sp w [(w.heap.size, [some (.int .i64 a.e0), some (.int .i64 a.e1), some (.int .i64 a.e2), some (.bool a.b0), some (.bool a.b1), some (.bool a.b2), some (.int .i64 a.bias), some (.int .i64 a.change), some (.int .i64 a.move), some (.int .i64 a.most)]), (w.heap.size + 1, (qc q0).map some), (w5.heap.size, (qc qn).map some), (wr.heap.size, (rc r).map some), (w10.heap.size, [some (.int .i64 y1), some (.int .i64 y2), some (.int .i64 y3)])] w' := by rw [hbs]; exact fun w' h => h
        have kS : ∀ w1 w2, Sp w bs3 w1 → Below w1.heap.size w1 w2 → Sp w bs3 w2 := fun _ _ h hb => h.keep hb
        clear hbs HS15
        change (Code.region 14 tlsp14 true).wp Tryd.prog _ _ _
        refine wp_region_noPanic ?_
        refine wp_region_held_drew (S := (Sp w bs3)) (by kernel_rfl) (hT.drew) (fun hHeld => ?_)
        refine wpAnyH_take (i := 0) (oi := ({ dst := some 65, op := .load 35 (.tmp 7), type := 35, pos := "law.go:81", after := #[], guard := none } : Oper)) rfl tlsp14_plain (by as_aux_lemma => kernel_rfl) (by as_aux_lemma => kernel_rfl) (fun _ _ _ h => h) (yields_load (by rfl) 35 _ rfl _ _ rfl _ _ RL0 Tryd.underlying35 rfl hi) (by assumption) ?_
        try simp only [Act.put, List.setIfInBounds_toArray, List.set_cons_zero, List.set_cons_succ]
        refine wpAnyH_ready (rs := [1]) (by as_aux_lemma => kernel_rfl) (by simp) ?_
        refine AllReadyH.cons (o := ({ dst := some 66, op := .call { callee := .value (.func 18), args := #[.tmp 65], argTypes := #[35] }, type := 2, pos := "law.go:81", after := #[{ on := 0, ground := .data }], guard := none } : Oper)) rfl (fun KK hK => ?_) AllReadyH.nil
        rw [if_pos (by rfl)]
        go_simp
        go_at_call 18; refine (SPN.out _ (Sp.below (by assumption))).mono ?_; rintro e w14 ⟨rfl, hb14⟩
        go_wp2_with fail
        refine hK.out _ _ ?_ (fun hHeld14 => ?_)
        · exact kS _ _ (by assumption) hb14
        clear hK KK hb14
        try simp only [Act.put, List.setIfInBounds_toArray, List.set_cons_zero, List.set_cons_succ]
        refine wpAnyH_take (i := 2) (oi := ({ dst := some 67, op := .binOp .lss 2 (.tmp 66) (.const (.int .i64 0)) 2, type := 4, pos := "law.go:81", after := #[{ on := 1, ground := .data }], guard := none } : Oper)) (v := ?vs3_2) rfl tlsp14_plain (by as_aux_lemma => kernel_rfl) (by as_aux_lemma => kernel_rfl) (fun _ _ _ h => h) (Or.inl ⟨by rfl, ?ys3_2⟩) (by assumption) ?rs3_2
        case ys3_2 => (intro w hSw; (try dsimp only at hSw); go_simp; try with_reducible rfl)
        try simp only [Act.put, List.setIfInBounds_toArray, List.set_cons_zero, List.set_cons_succ]
        refine wpAnyH_take (i := 3) (oi := ({ dst := some 68, op := .move (.tmp 67), type := 4, pos := "law.go:81", after := #[{ on := 2, ground := .data }, { on := 1, ground := .chain }], guard := none } : Oper)) (v := ?vs3_3) rfl tlsp14_plain (by as_aux_lemma => kernel_rfl) (by as_aux_lemma => kernel_rfl) (fun _ _ _ h => h) (Or.inl ⟨by rfl, ?ys3_3⟩) (by assumption) ?rs3_3
        case ys3_3 => (intro w hSw; (try dsimp only at hSw); go_simp; try with_reducible rfl)
        try simp only [Act.put, List.setIfInBounds_toArray, List.set_cons_zero, List.set_cons_succ]
        refine wpAnyH_take (i := 4) (oi := ({ dst := some 69, op := .indexAddr 47 (.tmp 10) (.const (.int .i64 0)), type := 0, pos := "law.go:81", after := #[{ on := 3, ground := .guard }], guard := some (3, false) } : Oper)) (v := ?vs3_4) rfl tlsp14_plain (by as_aux_lemma => kernel_rfl) (by as_aux_lemma => kernel_rfl) (fun _ _ _ h => h) (Or.inl ⟨by rfl, ?ys3_4⟩) (by assumption) ?rs3_4
        case ys3_4 => (intro w hSw; (try dsimp only at hSw); go_simp; try with_reducible rfl)
        try simp only [Act.put, List.setIfInBounds_toArray, List.set_cons_zero, List.set_cons_succ]
        refine wpAnyH_take (i := 5) (oi := ({ dst := some 70, op := .load 3 (.tmp 69), type := 3, pos := "law.go:81", after := #[{ on := 4, ground := .data }, { on := 3, ground := .guard }], guard := some (3, false) } : Oper)) (v := ?vs3_5) rfl tlsp14_plain (by as_aux_lemma => kernel_rfl) (by as_aux_lemma => kernel_rfl) (fun _ _ _ h => h) (Or.inl ⟨by rfl, ?ys3_5⟩) (by assumption) ?rs3_5
        case ys3_5 => (intro w hSw; (try dsimp only at hSw); go_simp; try with_reducible rfl)
        try simp only [Act.put, List.setIfInBounds_toArray, List.set_cons_zero, List.set_cons_succ]
        refine wpAnyH_take (i := 6) (oi := ({ dst := some 71, op := .indexAddr 47 (.tmp 10) (.const (.int .i64 1)), type := 0, pos := "law.go:81", after := #[{ on := 3, ground := .guard }], guard := some (3, false) } : Oper)) (v := ?vs3_6) rfl tlsp14_plain (by as_aux_lemma => kernel_rfl) (by as_aux_lemma => kernel_rfl) (fun _ _ _ h => h) (Or.inl ⟨by rfl, ?ys3_6⟩) (by assumption) ?rs3_6
        case ys3_6 => (intro w hSw; (try dsimp only at hSw); go_simp; try with_reducible rfl)
        try simp only [Act.put, List.setIfInBounds_toArray, List.set_cons_zero, List.set_cons_succ]
        refine wpAnyH_take (i := 7) (oi := ({ dst := some 72, op := .load 3 (.tmp 71), type := 3, pos := "law.go:81", after := #[{ on := 6, ground := .data }, { on := 3, ground := .guard }], guard := some (3, false) } : Oper)) (v := ?vs3_7) rfl tlsp14_plain (by as_aux_lemma => kernel_rfl) (by as_aux_lemma => kernel_rfl) (fun _ _ _ h => h) (Or.inl ⟨by rfl, ?ys3_7⟩) (by assumption) ?rs3_7
        case ys3_7 => (intro w hSw; (try dsimp only at hSw); go_simp; try with_reducible rfl)
        try simp only [Act.put, List.setIfInBounds_toArray, List.set_cons_zero, List.set_cons_succ]
        refine wpAnyH_take (i := 8) (oi := ({ dst := some 73, op := .binOp .add 3 (.tmp 70) (.tmp 72) 3, type := 3, pos := "law.go:81", after := #[{ on := 5, ground := .data }, { on := 7, ground := .data }, { on := 3, ground := .guard }], guard := some (3, false) } : Oper)) (v := ?vs3_8) rfl tlsp14_plain (by as_aux_lemma => kernel_rfl) (by as_aux_lemma => kernel_rfl) (fun _ _ _ h => h) (Or.inl ⟨by rfl, ?ys3_8⟩) (by assumption) ?rs3_8
        case ys3_8 => (intro w hSw; (try dsimp only at hSw); go_simp; try with_reducible rfl)
        try simp only [Act.put, List.setIfInBounds_toArray, List.set_cons_zero, List.set_cons_succ]
        refine wpAnyH_take (i := 9) (oi := ({ dst := some 74, op := .indexAddr 47 (.tmp 10) (.const (.int .i64 2)), type := 0, pos := "law.go:81", after := #[{ on := 3, ground := .guard }], guard := some (3, false) } : Oper)) (v := ?vs3_9) rfl tlsp14_plain (by as_aux_lemma => kernel_rfl) (by as_aux_lemma => kernel_rfl) (fun _ _ _ h => h) (Or.inl ⟨by rfl, ?ys3_9⟩) (by assumption) ?rs3_9
        case ys3_9 => (intro w hSw; (try dsimp only at hSw); go_simp; try with_reducible rfl)
        try simp only [Act.put, List.setIfInBounds_toArray, List.set_cons_zero, List.set_cons_succ]
        refine wpAnyH_take (i := 10) (oi := ({ dst := some 75, op := .load 3 (.tmp 74), type := 3, pos := "law.go:81", after := #[{ on := 9, ground := .data }, { on := 3, ground := .guard }], guard := some (3, false) } : Oper)) (v := ?vs3_10) rfl tlsp14_plain (by as_aux_lemma => kernel_rfl) (by as_aux_lemma => kernel_rfl) (fun _ _ _ h => h) (Or.inl ⟨by rfl, ?ys3_10⟩) (by assumption) ?rs3_10
        case ys3_10 => (intro w hSw; (try dsimp only at hSw); go_simp; try with_reducible rfl)
        try simp only [Act.put, List.setIfInBounds_toArray, List.set_cons_zero, List.set_cons_succ]
        refine wpAnyH_take (i := 11) (oi := ({ dst := some 76, op := .binOp .add 3 (.tmp 73) (.tmp 75) 3, type := 3, pos := "law.go:81", after := #[{ on := 8, ground := .data }, { on := 10, ground := .data }, { on := 3, ground := .guard }], guard := some (3, false) } : Oper)) (v := ?vs3_11) rfl tlsp14_plain (by as_aux_lemma => kernel_rfl) (by as_aux_lemma => kernel_rfl) (fun _ _ _ h => h) (Or.inl ⟨by rfl, ?ys3_11⟩) (by assumption) ?rs3_11
        case ys3_11 => (intro w hSw; (try dsimp only at hSw); go_simp; try with_reducible rfl)
        try simp only [Act.put, List.setIfInBounds_toArray, List.set_cons_zero, List.set_cons_succ]
        refine wpAnyH_take (i := 12) (oi := ({ dst := some 77, op := .move (.tmp 11), type := 3, pos := "law.go:81", after := #[{ on := 3, ground := .guard }], guard := some (3, false) } : Oper)) (v := ?vs3_12) rfl tlsp14_plain (by as_aux_lemma => kernel_rfl) (by as_aux_lemma => kernel_rfl) (fun _ _ _ h => h) (Or.inl ⟨by rfl, ?ys3_12⟩) (by assumption) ?rs3_12
        case ys3_12 => (intro w hSw; (try dsimp only at hSw); go_simp; try with_reducible rfl)
        try simp only [Act.put, List.setIfInBounds_toArray, List.set_cons_zero, List.set_cons_succ]
        refine wpAnyH_take (i := 13) (oi := ({ dst := some 78, op := .binOp .add 3 (.tmp 76) (.tmp 77) 3, type := 3, pos := "law.go:81", after := #[{ on := 11, ground := .data }, { on := 12, ground := .data }, { on := 3, ground := .guard }], guard := some (3, false) } : Oper)) (v := ?vs3_13) rfl tlsp14_plain (by as_aux_lemma => kernel_rfl) (by as_aux_lemma => kernel_rfl) (fun _ _ _ h => h) (Or.inl ⟨by rfl, ?ys3_13⟩) (by assumption) ?rs3_13
        case ys3_13 => (intro w hSw; (try dsimp only at hSw); go_simp; try with_reducible rfl)
        try simp only [Act.put, List.setIfInBounds_toArray, List.set_cons_zero, List.set_cons_succ]
        refine wpAnyH_take (i := 14) (oi := ({ dst := some 79, op := .load 35 (.tmp 7), type := 35, pos := "law.go:81", after := #[{ on := 3, ground := .guard }], guard := some (3, false) } : Oper)) rfl tlsp14_plain (by as_aux_lemma => kernel_rfl) (by as_aux_lemma => kernel_rfl) (fun _ _ _ h => h) (yields_load (by rfl) 35 _ rfl _ _ rfl _ _ RL0 Tryd.underlying35 rfl hi) (by assumption) ?_
        try simp only [Act.put, List.setIfInBounds_toArray, List.set_cons_zero, List.set_cons_succ]
        refine wpAnyH_ready (rs := [15]) (by as_aux_lemma => kernel_rfl) (by simp) ?_
        refine AllReadyH.cons (o := ({ dst := some 80, op := .call { callee := .value (.func 12), args := #[.tmp 79], argTypes := #[35] }, type := 3, pos := "law.go:81", after := #[{ on := 14, ground := .data }, { on := 3, ground := .chain }, { on := 3, ground := .guard }], guard := some (3, false) } : Oper)) rfl (fun KK hK => ?_) AllReadyH.nil
        rw [if_pos (by rfl)]
        go_simp
        go_at_call 12; refine (AL.out _).mono ?_; rintro e w15 ⟨rfl, hb15⟩
        go_wp2_with fail
        refine hK.out _ _ ?_ (fun hHeld15 => ?_)
        · exact kS _ _ (by assumption) hb15
        clear hK KK hb15 hHeld14
        try simp only [Act.put, List.setIfInBounds_toArray, List.set_cons_zero, List.set_cons_succ]
        refine wpAnyH_take (i := 16) (oi := ({ dst := some 81, op := .binOp .neq 3 (.tmp 78) (.tmp 80) 3, type := 4, pos := "law.go:81", after := #[{ on := 13, ground := .data }, { on := 15, ground := .data }, { on := 3, ground := .guard }], guard := some (3, false) } : Oper)) (v := ?vs3_16) rfl tlsp14_plain (by as_aux_lemma => kernel_rfl) (by as_aux_lemma => kernel_rfl) (fun _ _ _ h => h) (Or.inl ⟨by rfl, ?ys3_16⟩) (by assumption) ?rs3_16
        case ys3_16 => (intro w hSw; (try dsimp only at hSw); go_simp; try with_reducible rfl)
        try simp only [Act.put, List.setIfInBounds_toArray, List.set_cons_zero, List.set_cons_succ]
        refine wpAnyH_take (i := 17) (oi := ({ dst := some 82, op := .pick (.tmp 68) (.const (.bool true)) (.tmp 81), type := 4, pos := "law.go:81", after := #[{ on := 3, ground := .data }, { on := 16, ground := .data }], guard := none } : Oper)) (v := ?vs3_17) rfl tlsp14_plain (by as_aux_lemma => kernel_rfl) (by as_aux_lemma => kernel_rfl) (fun _ _ _ h => h) (Or.inl ⟨by rfl, ?ys3_17⟩) (by assumption) ?rs3_17
        case ys3_17 => (intro w hSw; (try dsimp only at hSw); go_simp; try with_reducible rfl)
        try simp only [Act.put, List.setIfInBounds_toArray, List.set_cons_zero, List.set_cons_succ]
        refine wpAnyH_done (by as_aux_lemma => kernel_rfl) ?_ _
        refine NoPanic.normal ?_
        have N1 := nx _ hHeld15
        have HS16 := Lib.hid N1
        clear c4_0 c4_1 c4_2 RL0 nx kS hT N1
        have HF := Lib.hid ((HS16.out).take 3)
        clear HS16 SPN AL ds w1q w2q w3q hi
        go_wp2_with fail
        go_roundw
        case rel => first | exact ⟨j + 1, qn, by omega, rfl, HQ.out, HF.out⟩ | ((repeat apply Exists.intro); exact ⟨⟨j + 1, qn, by omega, rfl, HQ.out, HF.out⟩, rfl⟩)
        case measure => simp [intOf]; omega
    · skip
      obtain rfl : j = l.length := by omega
      have AW1 := Lib.hid (AWC.out _ hS.below)
      have BH := Lib.hid hS.below
      clear hS hq hj hc AWC HC
      go_wp2_with fail
      refine AW1.out.mono ?_; rintro e wz ⟨rfl, hbz⟩
      have BE := Lib.hid (belowT BH.out hbz)
      clear hbz
      go_wp2_with fail
      go_ret
      exact ⟨rfl, BE.out⟩

set_option maxHeartbeats 4000000 in
set_option maxRecDepth 100000 in
theorem lspread_long (ba : Option Addr) (k cap : Nat) (a : Ai) (q0 : Qd) (w : World) (hk : (60 : Int) < k)
    (AW : Hid (∀ w', Below w.heap.size w w' → Calls Tryd.prog 6 #[] w' fun e w'' => e = .returned (.bool true) ∧ Below w'.heap.size w' w'')) :
    Calls Tryd.prog 4 #[av a, qv q0, .slice ba k cap] w fun e w' => e = .returned (.bool true) ∧ Below w.heap.size w w' := by
  go_enter Tryd.func4, Tryd.ntmps4
  go_wp2_with fail
  refine (AW.out _ (below2 w _ _)).mono ?_; rintro e w2 ⟨rfl, hb2⟩
  have B2 := Lib.hid (belowT (below2 w _ _) hb2)
  clear hb2
  go_wp2_with fail
  go_ret
  exact ⟨rfl, B2.out⟩
theorem Spread30_all {w : World} {ba : Option Addr} {cap : Nat} {l : List Rd} (C : CameRd w ba cap l) (a : Ai) (q0 : Qd) (n : NoneAt w) (c : ConeAt w) (ai : AI a) (k0 : QR q0) :
    Calls Tryd.prog 4 #[av a, qv q0, .slice ba l.length cap] w fun e w' => e = .returned (.bool true) ∧ Below w.heap.size w w' := by
  by_cases h : (60 : Int) < l.length
  · exact lspread_long ba l.length cap a q0 w h (Lib.hid fun w' B => awake_any w' (n.keep B) (c.keep B))
  · exact lspread_core C a q0 n c ⟨ai.e0, ai.e1, ai.e2, ai.bias, ai.change, ai.move, ai.most⟩ k0 h
end Go.Proofs.YthhameambcplhaaDoor
