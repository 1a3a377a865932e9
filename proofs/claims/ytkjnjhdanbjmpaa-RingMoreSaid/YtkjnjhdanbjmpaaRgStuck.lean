/- The landed ring's Stuck. -/
import Derived.Test.YtkjnjhdanbjmpaaRgIter
import Derived.Test.YtkjnjhdanbjmpaaRgLanA
namespace Go.Proofs.Ytkjnjhdanbjmpaa
open Go.RowKit Go.Shelf

attribute [local go_sem] Oper.semAt_some

theorem Last_zero {w : World} {ba : Option Addr} {cap : Nat} {l : List Rd} (C : CameRd w ba cap l) :
    Calls Try.prog 12 #[.slice ba l.length cap, .int .i64 0] w fun e w' => ∃ b, e = .returned (.tuple #[rv (l.getD (l.length - 1) rd0), .bool b]) ∧ Below w.heap.size w w' := by
  by_cases h : 0 < l.length
  · exact (Last_some C 0 h).mono fun e w' ⟨h1, h2⟩ => ⟨true, h1, h2⟩
  · have e : l = [] := List.length_eq_zero_iff.1 (by omega)
    subst e
    exact (Last_none ba 0 cap 0 w (by decide) (by decide)).mono fun e w' ⟨h1, h2⟩ => ⟨false, h1, h2⟩

theorem boxed_below {W W' : World} {B : Nat} {t : TypeId} {v : Value} (h : Boxed W B t v) (hb : Below W.heap.size W W') : Boxed W' B t v := (hb.block B h.lt).trans h

/-- a reading in a block of its own -/
def BoxR (W : World) (B : Nat) (r : Rd) : Prop := W.heap[B]? = some (.cells (ra r) 27 (0, 0))
theorem BoxR.lt {W : World} {B : Nat} {r : Rd} (h : BoxR W B r) : B < W.heap.size := (Array.getElem?_eq_some_iff.1 h).1
theorem BoxR.new (W : World) (r : Rd) : BoxR (W.alloc (.cells (ra r) 27)) W.heap.size r := World.alloc_heap_new W _
theorem BoxR.at {W : World} {B : Nat} {r : Rd} (h : BoxR W B r) : RdAt W B r := fun j v hv => by
  rw [Nat.zero_add, cell_of_row W B j (ra r) _ (0, 0) h]
  simpa [ra] using hv
theorem boxR_own {β : Type} (B : Nat) (f : β → Rd) : Own (fun s W => BoxR W B (f s)) := fun s X Y row hs hg hrow =>
  (hg.block B hs.lt (fun e' => by obtain ⟨o, ho, hc⟩ := hrow B e'.symm; rw [show X.heap[B]? = _ from hs] at ho; cases ho; cases hc)).trans hs
theorem below_keepsFrom {B : Nat} {W W' : World} (h : Below W.heap.size W W') : KeepsFrom B W W' := ⟨h.size, fun k _ _ hk _ => (h.block k (Array.getElem?_eq_some_iff.1 hk).1).trans hk⟩
/-- the source is there, and reads v -/
def okR (i v : Int) (r : Rd) : Prop := readB r i = true ∧ readV r i = v
theorem back_ok {l : List Rd} {i v : Int} {k : Nat} (h : ∀ p ∈ back l k, okR i v p.2) : ∀ j, j < k → readB (l.getD (l.length - 1 - j) rd0) i = true ∧ readV (l.getD (l.length - 1 - j) rd0) i = v := fun j hj =>
  h (l.length - 1 - j, l.getD (l.length - 1 - j) rd0) (by unfold back; exact List.mem_map.2 ⟨j, List.mem_range.2 hj, rfl⟩)
theorem stuck_all {l : List Rd} {i v : Int} (hv : v = lastV l i) (h : ∀ p ∈ back l l.length, okR i v p.2) : stuckN l i = l.length := stuck_is ⟨Nat.le_refl _, hv ▸ back_ok h, fun k => absurd k (Nat.lt_irrefl _)⟩
theorem stuck_some {l : List Rd} {i v : Int} {k : Nat} {ini : List (Nat × Rd)} {x : Nat × Rd} (hv : v = lastV l i) (hk : k ≤ l.length) (e : back l k = ini ++ [x]) (h : ∀ p ∈ ini, okR i v p.2) (hx : ¬ okR i v x.2) : stuckN l i = k - 1 ∧ 0 < k := by
  cases k with
  | zero => simp [back] at e
  | succ k =>
    rw [back_next] at e
    obtain ⟨e1, e2⟩ := List.append_inj' e rfl
    subst e1
    injection e2 with e2 _
    subst e2
    exact ⟨stuck_is ⟨by omega, hv ▸ back_ok h, fun _ => hv ▸ hx⟩, Nat.succ_pos k⟩

set_option maxRecDepth 100000 in
set_option maxHeartbeats 8000000 in
theorem Stuck_any {w : World} {ba : Option Addr} {cap : Nat} {l : List Rd} (C : CameRd w ba cap l) (i : Int) :
    Calls Try.prog 9 #[.slice ba l.length cap, .int .i64 i] w fun e w' => e = .returned (.int .i64 (stuckN l i)) ∧ Below w.heap.size w w' := by
  have hl : (l.length : Int) ≤ 9223372036854775807 := by
    have := C.le
    have := C.max
    unfold maxLen at this
    omega
  obtain ⟨v, hv⟩ : ∃ v, v = lastV l i := ⟨_, rfl⟩
  have LZ := Lib.hid (Last_zero (C.keep (below1 w (.cells #[.int .i64 i] 3))))
  obtain ⟨r0, hr0⟩ : ∃ r, r = l.getD (l.length - 1) rd0 := ⟨_, rfl⟩
  have RD := Lib.hid (fun w => reading_any r0 i w)
  have hv2 : readV r0 i = v := by rw [hv, hr0]; rfl
  rw [hv2] at RD
  rw [← hr0] at LZ
  have HC := Lib.hid C
  have HV := Lib.hid hv
  have b3 := Boxed.new w 3 (.int .i64 i)
  have B0 := below1 w (.cells #[.int .i64 i] 3)
  clear C hv hv2 hr0
  refine (callsIn_wide (n := 3)).1 ?_
  refine callsIn_of_wp_marks Try.func9 rfl trivial ?_ rfl
  simp only [Try.ntmps9, List.size_toArray, List.length_cons, List.length_nil, Nat.reduceAdd, Nat.reduceSub, Array.replicate_succ, Array.replicate_zero, List.push_toArray, List.append_toArray, List.nil_append, List.cons_append]
  gi_wp2_with fail
  refine ⟨trivial, ?_⟩
  refine (callsIn_wide.2 LZ.out).mono ?_
  rintro e w1 ⟨bl, rfl, hb1⟩
  have b3a := boxed_below b3 hb1
  have b3b := b3a.alloc (.cells (ra r0) 27)
  have R1 := Lib.hid (RdAt.new w1 r0 27)
  have B1 := B0.trans (hb1.mono B0.size)
  have B2 := B1.alloc B1.size (.cells (ra r0) 27)
  have c3 := b3b.cell
  clear LZ hb1 b3 b3a
  gi_wp2_with (first | refine listIn_store_rd rfl _ _ rfl _ r0 rfl rfl rfl ?_ | refine listIn_load_rd rfl _ rfl w1.heap.size 0 rfl r0 R1.out ?_)
  refine ⟨trivial, ?_⟩
  refine (callsIn_wide.2 (RD.out _)).mono ?_
  rintro e w2 ⟨rfl, hb2⟩
  have b3c := boxed_below b3b hb2
  have B3 := B2.trans (hb2.mono B2.size)
  clear RD hb2 b3b c3 B0 B1 B2 R1
  gi_wp2_with fail
  refine ⟨trivial, ?_⟩
  refine (back_in Fence.wide _ trivial rfl _ _ _ _).mono ?_
  rintro e w3 ⟨rfl, rfl⟩
  gi_wp2_with fail
  have hw2 := b3c.lt
  have bI := ((b3c.alloc (.cells #[.int .i64 v] 2)).alloc (.cells #[.int .i64 0] 3)).alloc (.cells #[.slice ba l.length cap] 22)
  have bV := ((Boxed.new w2 2 (.int .i64 v)).alloc (.cells #[.int .i64 0] 3)).alloc (.cells #[.slice ba l.length cap] 22)
  have bN := (Boxed.new (w2.alloc (.cells #[.int .i64 v] 2)) 3 (.int .i64 0)).alloc (.cells #[.slice ba l.length cap] 22)
  have bS := Boxed.new ((w2.alloc (.cells #[.int .i64 v] 2)).alloc (.cells #[.int .i64 0] 3)) 22 (.slice ba l.length cap)
  simp only [World.size_alloc] at bN bS
  have hB0 : Below w.heap.size w (((w2.alloc (.cells #[.int .i64 v] 2)).alloc (.cells #[.int .i64 0] 3)).alloc (.cells #[.slice ba l.length cap] 22)) := ((B3.alloc B3.size _).alloc (by simp; have := B3.size; omega) _).alloc (by simp; have := B3.size; omega) _
  have hsz : (((w2.alloc (.cells #[.int .i64 v] 2)).alloc (.cells #[.int .i64 0] 3)).alloc (.cells #[.slice ba l.length cap] 22)).heap.size = w2.heap.size + 3 := by simp
  obtain ⟨W0, hW0⟩ : ∃ W0, ((w2.alloc (.cells #[.int .i64 v] 2)).alloc (.cells #[.int .i64 0] 3)).alloc (.cells #[.slice ba l.length cap] 22) = W0 := ⟨_, rfl⟩
  rw [hW0] at bI bV bN bS hB0 hsz ⊢
  clear hW0 b3c B3
  refine wpIn_rangeFunc_ownH rfl (by omega) (gf := 34) (lb := #[.pointer (some ⟨w2.heap.size + 1 + 1, 0, none⟩)]) rfl trivial (enters_of Try.func34 (by kernel_rfl) rfl)
    (back_stops Fence.wide _ trivial rfl (by omega) (w2.heap.size + 1 + 1) w W0 ba cap l HC.out hB0 (by omega) bS.cell) KpB.t
    (fun W lp o o' hl h h1 h2 => ⟨belowK_b (w := W0) (by omega) W lp o o' hl h h1 h2, World.putObj_heap_other (by omega)⟩) (Below.refl _ _) (fun _ => rfl)
    (fun pre W => ((((Boxed W (w2.heap.size + 1) 3 (.int .i64 (pre.length : Int)) ∧ Boxed W w.heap.size 3 (.int .i64 i)) ∧ Boxed W w2.heap.size 2 (.int .i64 v)) ∧ Boxed W (w2.heap.size + 1 + 1) 22 (.slice ba l.length cap)) ∧ (∀ p ∈ pre, okR i v p.2)) ∧ Below w.heap.size w W)
    (fun c pre W => ((c = .exit 0 ∧ ∃ ini x, pre = ini ++ [x] ∧ (∀ p ∈ ini, okR i v p.2) ∧ ¬ okR i v x.2) ∧ Boxed W (w2.heap.size + 1) 3 (.int .i64 ((pre.length : Int) - 1))) ∧ Below w.heap.size w W)
    (OwnFrom.and (OwnFrom.and (OwnFrom.and (OwnFrom.and (OwnFrom.and (Own.from (boxed_own _ _ _) _) (Own.from (boxed_own _ _ _) _)) (Own.from (boxed_own _ _ _) _)) (Own.from (boxed_own _ _ _) _)) (ownFrom_pure _ _)) (ownFrom_below (Nat.le_refl _) (by omega)))
    (fun c => OwnFrom.and (OwnFrom.and (ownFrom_pure _ _) (Own.from (boxed_own _ _ _) _)) (ownFrom_below (Nat.le_refl _) (by omega)))
    ⟨⟨⟨⟨⟨bN, bI⟩, bV⟩, bS⟩, fun p hp => by cases hp⟩, hB0⟩
    (fun x a' W => ∃ Bx, w2.heap.size + 1 + 1 < Bx ∧ BoxR W Bx x.2 ∧ a' = { tmps := #[.slice ba l.length cap, .int .i64 i, undef, .pointer (some ⟨w.heap.size, 0, none⟩), .int .i64 0, .pointer (some ⟨w1.heap.size, 0, none⟩), .bool bl, .pointer (some ⟨w2.heap.size, 0, none⟩), .bool (readB r0 i), .pointer (some ⟨w2.heap.size + 1, 0, none⟩), undef, .pointer (some ⟨Bx, 0, none⟩), undef, undef, .tuple #[rv r0, .bool bl], .slice ba l.length cap, .tuple #[rv r0, .bool bl], rv r0, .bool bl, .tuple #[.int .i64 v, .bool (readB r0 i)], rv r0, .int .i64 i, .tuple #[.int .i64 v, .bool (readB r0 i)], .int .i64 v, .bool (readB r0 i), .slice ba l.length cap, .func (.func 34) #[] #[.pointer (some ⟨w2.heap.size + 1 + 1, 0, none⟩)], .int .i64 (x.1 : Int), rv x.2, undef, undef, undef, undef, undef, undef, undef, undef, undef, undef, undef, undef, undef, undef, undef, undef], defers := [] })
    (fun x a' _ X Y row hs hg hr => by obtain ⟨Bx, h1, h2, h3⟩ := hs; exact ⟨Bx, h1, boxR_own Bx (fun (_ : Unit) => x.2) () X Y row h2 hg (fun r e => (hr r e).2), h3⟩)
    ?assign ?body ?done ?stop
  case assign =>
    rintro lp pre x W K ⟨⟨⟨⟨⟨bN1, bI1⟩, bV1⟩, bS1⟩, hok⟩, hB1⟩ hK
    gi_wp2_with (refine listIn_store_rd rfl _ _ rfl _ x.2 rfl rfl rfl ?_)
    exact hK _ _ ((KeepsOthers.alloc _ _).from _) ⟨(Below.refl _ W).alloc hB1.size _, Below.heap_alloc W _ _ bS1.lt⟩ ⟨⟨⟨⟨⟨bN1.alloc _, bI1.alloc _⟩, bV1.alloc _⟩, bS1.alloc _⟩, hok⟩, hB1.alloc hB1.size _⟩ ⟨W.heap.size, bS1.lt, BoxR.new W x.2, rfl⟩
  case body =>
    rintro lp pre x a' W hlp ⟨rr, hr⟩ ⟨⟨⟨⟨⟨bN1, bI1⟩, bV1⟩, bS1⟩, hok⟩, hB1⟩ ⟨Bx, hBx, bX, rfl⟩ hlt
    have cI := bI1.cell
    have R1 := Lib.hid bX.at
    have RD := Lib.hid (fun w => reading_any x.2 i w)
    have hpl : (pre.length : Int) + 1 ≤ 9223372036854775807 := by omega
    have hlast : ((pre ++ [x]).length : Int) = (pre.length : Int) + 1 := by simp
    gi_wp2_with (refine listIn_load_rd rfl _ rfl Bx 0 rfl x.2 R1.out ?_)
    refine ⟨trivial, ?_⟩
    refine (CallsIn.inRound lp (callsIn_wide.2 (RD.out W))).mono ?_
    rintro e w4 ⟨rfl, hb4⟩
    have bN4 := boxed_below bN1 hb4
    have bV4 := boxed_below bV1 hb4
    have cN := bN4.cell
    have fN := bN4.frozen
    have cV := bV4.cell
    have KF : KeepsFrom W0.heap.size W w4 := below_keepsFrom hb4
    have B4 := hB1.trans (hb4.mono hB1.size)
    clear RD
    by_cases hq : readB x.2 i = true
    · by_cases hw : readV x.2 i = v
      · have hok2 : ∀ p ∈ pre ++ [x], okR i v p.2 := fun p hp => (List.mem_append.1 hp).elim (hok p) (fun e => by rw [List.mem_singleton] at e; subst e; exact ⟨hq, hw⟩)
        rw [hq, hw]
        gi_wp2
        have hst := grownBy_setCell' w4 (w2.heap.size + 1) (.int .i64 ((pre.length : Int) + 1))
        refine ⟨KF.trans ((KeepsOthers.setCell _ _ _).from _), ⟨(hb4.mono hB1.size).setCell (p := ⟨w2.heap.size + 1, 0, none⟩) (by show w.heap.size ≤ w2.heap.size + 1; omega) _, (hst.block _ (boxed_below bS1 hb4).lt (by simp)).trans (hb4.block _ bS1.lt)⟩, ?_⟩
        exact ⟨⟨⟨⟨⟨by rw [hlast]; exact bN4.set _, (boxed_below bI1 hb4).other (by omega) _⟩, bV4.other (by omega) _⟩, (boxed_below bS1 hb4).other (by omega) _⟩, hok2⟩, B4.setCell (p := ⟨w2.heap.size + 1, 0, none⟩) (by show w.heap.size ≤ w2.heap.size + 1; omega) _⟩
      · have hno : ¬ okR i v x.2 := fun h => hw h.2
        have HN := Lib.hid hno
        rw [hq]
        generalize readV x.2 i = u at hw ⊢
        have hw2' : (u != v) = true := by simpa using hw
        clear hw hno hq
        gi_wp2
        exact ⟨KF, ⟨⟨rfl, pre, x, rfl, hok, HN.out⟩, by rw [hlast, show (pre.length : Int) + 1 - 1 = pre.length by omega]; exact bN4⟩, B4⟩
    · have hno : ¬ okR i v x.2 := fun h => hq h.1
      have HN := Lib.hid hno
      rw [Bool.not_eq_true] at hq
      rw [hq]
      clear hno
      gi_wp2
      exact ⟨KF, ⟨⟨rfl, pre, x, rfl, hok, HN.out⟩, by rw [hlast, show (pre.length : Int) + 1 - 1 = pre.length by omega]; exact bN4⟩, B4⟩
  case done =>
    rintro D ys W hD rfl ⟨⟨⟨⟨⟨bN1, bI1⟩, bV1⟩, bS1⟩, hok⟩, hB1⟩ hK
    rw [back_len] at bN1
    have cN := bN1.cell
    have hs := stuck_all HV.out hok
    gi_wp2
    refine ⟨by simp, .inl ⟨_, _, rfl, run_takeDeferred hK, ?_⟩⟩
    exact ⟨_, results_tmp rfl _ _ _, by rw [hs]; rfl, hB1.trans (belowK_b (w := w) (Nat.le_refl _) W D _ _ (by omega) hK rfl rfl)⟩
  case stop =>
    rintro D c pre W hD ⟨k, hk, rfl⟩ ⟨⟨⟨rfl, ini, x, hp, hok, hx⟩, bN1⟩, hB1⟩ hK
    rw [back_len] at bN1
    obtain ⟨hs, hk0⟩ := stuck_some HV.out hk hp hok hx
    rw [show (k : Int) - 1 = ((k - 1 : Nat) : Int) by omega] at bN1
    have cN := bN1.cell
    gi_wp2
    refine ⟨by simp, .inl ⟨_, _, rfl, run_takeDeferred hK, ?_⟩⟩
    exact ⟨_, results_tmp rfl _ _ _, by rw [hs]; rfl, hB1.trans (belowK_b (w := w) (Nat.le_refl _) W D _ _ (by omega) hK rfl rfl)⟩
end Go.Proofs.Ytkjnjhdanbjmpaa
