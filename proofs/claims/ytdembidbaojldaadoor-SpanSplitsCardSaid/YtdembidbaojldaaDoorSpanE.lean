/- Both parts of a span, and gaps. -/
import Derived.Test.YtdembidbaojldaaDoorSpanD
namespace Go.Proofs.YtdembidbaojldaaDoor
open Go.RowKit

theorem sSplit_one (a b : Int) (w : World) (n0 : w.cell? ⟨0, 0, none⟩ = some (.int .i64 1)) (n1 : w.cell? ⟨0, 1, none⟩ = some (.int .i64 0)) (h : b ≤ a) :
    Calls Tryd.prog 21 #[.agg #[.int .i64 a, .int .i64 b]] w fun e w' => e = .returned (.tuple #[.agg #[.int .i64 a, .int .i64 b], .agg #[.int .i64 1, .int .i64 0]]) ∧ Below w.heap.size w w' := by
  have l := World.block_lt_of_cell? w _ n0
  have m0 := fun o p q => keepc (below3 w o p q) n0
  have m1 := fun o p q => keepc (below3 w o p q) n1
  go_enter Tryd.func21, Tryd.ntmps21
  go_wp2_with fail
  go_region
  all_goals
    go_wp2_with fail
    exact bodyPost_ret (v := .tuple #[.agg #[.int .i64 a, .int .i64 b], .agg #[.int .i64 1, .int .i64 0]]) (by simp [results, Tryd.results21, go_sem, *]) rfl ⟨rfl, (below3 w _ _ _).drew⟩

set_option maxHeartbeats 8000000 in
theorem sSplit_two (a b m k L1 H1 L2 H2 : Int) (w : World) (h : decide (b ≤ a) = false) (hk : IntKind.i64.wrap (m + 1) = k)
    (M : Hid (∀ w, Calls Tryd.prog 24 #[.agg #[.int .i64 a, .int .i64 b]] w fun e w' => e = .returned (.int .i64 m) ∧ Below w.heap.size w w'))
    (O1 : Hid (∀ w', Below w.heap.size w w' → Calls Tryd.prog 23 #[.int .i64 a, .int .i64 m] w' fun e w'' => e = .returned (.agg #[.int .i64 L1, .int .i64 H1]) ∧ Below w'.heap.size w' w''))
    (O2 : Hid (∀ w', Below w.heap.size w w' → Calls Tryd.prog 23 #[.int .i64 k, .int .i64 b] w' fun e w'' => e = .returned (.agg #[.int .i64 L2, .int .i64 H2]) ∧ Below w'.heap.size w' w'')) :
    Calls Tryd.prog 21 #[.agg #[.int .i64 a, .int .i64 b]] w fun e w' => e = .returned (.tuple #[.agg #[.int .i64 L1, .int .i64 H1], .agg #[.int .i64 L2, .int .i64 H2]]) ∧ Below w.heap.size w w' := by
  go_enter Tryd.func21, Tryd.ntmps21
  go_wp2_with fail
  refine (M.out _).mono ?_; rintro e w1 ⟨rfl, hb1⟩
  have B1 := belowT (below3 w _ _ _) hb1
  have X1 := (own2c w _ _ _ _ _).keep hb1; have X1a := X1.c0; have X1b := X1.c1; have X1c := X1.f0; have X1d := X1.f1; have X1l := X1.lt
  have Y1 := ((own2b w _ _ _ _).more _).keep hb1; have Y1a := Y1.c0; have Y1b := Y1.c1; have Y1c := Y1.f0; have Y1d := Y1.f1; have Y1l := Y1.lt
  have Z1 := (((own2 w _ _ _).more _).more _).keep hb1; have Z1a := Z1.c0; have Z1b := Z1.c1; have Z1c := Z1.f0; have Z1d := Z1.f1; have Z1l := Z1.lt
  go_wp2_with fail
  go_region_held3 (fun w' => w'.cell? ⟨w.heap.size, 0, none⟩ = some (.int .i64 a) ∧ w'.cell? ⟨w.heap.size, 1, none⟩ = some (.int .i64 b))
    (first
      | (go_split_ands; refine ⟨?_, ?_⟩ <;> first | exact keepc hb3 (by assumption) | exact keepc hb2 (by assumption))
      | (go_split_ands; refine ⟨?_, ?_⟩ <;> exact keeps (by omega) (keeps (by omega) (by assumption)))
      | go_keep)
    (first
      | (go_at_call 23; have _t := B2; clear _t; (with_reducible refine (O2.out _ B2).mono ?_); rintro e w3 ⟨rfl, hb3⟩; have B3 := belowT B2 hb3; have X3 := X2.keep hb3; have Y3 := Y2.keep hb3; have X3a := X3.c0; have X3b := X3.c1; have X3c := X3.f0; have X3d := X3.f1; have Y3a := Y3.c0; have Y3b := Y3.c1; have Y3c := Y3.f0; have Y3d := Y3.f1)
      | (go_at_call 23; (with_reducible refine (O1.out _ B1.drew).mono ?_); rintro e w2 ⟨rfl, hb2⟩; have B2 := belowT B1.drew hb2; have X2 := X1.drew.keep hb2; have Y2 := Y1.drew.keep hb2))
  all_goals
    go_wp2_with fail
    have hn : w.heap.size + 1 ≠ w.heap.size + 1 + 1 := by omega
    have Y4 := (Y3.set (.int .i64 L1) (.int .i64 H1))
    exact bodyPost_ret (v := .tuple #[.agg #[.int .i64 L1, .int .i64 H1], .agg #[.int .i64 L2, .int .i64 H2]]) (by simp [results, Tryd.results21, go_sem, *]) rfl ⟨rfl, (((B3.setCell (by simp <;> omega) _).setCell (by simp <;> omega) _).setCell (by simp <;> omega) _).setCell (by simp <;> omega) _⟩

theorem sSplit (a b : Int) (w : World) (n : NoneAt w) (ra : Fix.Room a) (rb : Fix.Room b) :
    Calls Tryd.prog 21 #[.agg #[.int .i64 a, .int .i64 b]] w fun e w' => e = .returned (.tuple #[.agg #[.int .i64 (Sp.s1L a b), .int .i64 (Sp.s1H a b)], .agg #[.int .i64 (Sp.s2L a b), .int .i64 (Sp.s2H a b)]]) ∧ Below w.heap.size w w' := by
  unfold Sp.s1L Sp.s1H Sp.s2L Sp.s2H
  by_cases h : b ≤ a
  · rw [if_pos h, if_pos h, if_pos h, if_pos h]
    exact sSplit_one a b w n.c0 n.c1 h
  · rw [if_neg h, if_neg h, if_neg h, if_neg h]
    obtain ⟨a1, a2⟩ := ra
    obtain ⟨b1, b2⟩ := rb
    exact sSplit_two a b _ _ _ _ _ _ w (decide_eq_false h) ((wrap_i64 _).trans (by omega)) (Lib.hid fun w => sMid a b w ⟨a1, a2⟩ ⟨b1, b2⟩) (Lib.hid fun w' B => of_any _ _ w' (n.keep B)) (Lib.hid fun w' B => of_any _ _ w' (n.keep B))

end Go.Proofs.YtdembidbaojldaaDoor
