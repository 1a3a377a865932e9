
/- Differences of package span (a part of XSpanB). -/
import Derived.Test.YtkjkmnclnedfhaaDoorObSpanA
namespace Go.Proofs.YtkjkmnclnedfhaaDoor
open Go.RowKit

theorem sat_eq (a b : Int) : Fix.sat a b = Sp.sat (a + b) := by unfold Fix.sat Sp.sat; split <;> split <;> (try split) <;> omega

theorem Sat_b (a b : Int) (w : World) (ha : Fix.Room a) (hb : Fix.Room b) :
    Calls Tryd.prog 38 #[.int .i64 a, .int .i64 b] w fun e w' => e = .returned (.int .i64 (Sp.sat (a + b))) ∧ Below w.heap.size w w' :=
  sat_eq a b ▸ (Sat_any a b w ha hb).mono fun _ _ h => ⟨h.1, h.2 ▸ Below.refl _ _⟩

set_option maxHeartbeats 1000000 in
theorem Sub_core (a b c d l h L H : Int) (w : World) (E1 : Hid (∀ w, Calls Tryd.prog 35 #[.agg #[.int .i64 a, .int .i64 b]] w fun e w' => e = .returned (.bool false) ∧ Below w.heap.size w w'))
    (E2 : Hid (∀ w, Calls Tryd.prog 35 #[.agg #[.int .i64 c, .int .i64 d]] w fun e w' => e = .returned (.bool false) ∧ Below w.heap.size w w'))
    (S1 : Hid (∀ w, Calls Tryd.prog 37 #[.int .i64 a, .int .i64 d] w fun e w' => e = .returned (.int .i64 l) ∧ Below w.heap.size w w'))
    (S2 : Hid (∀ w, Calls Tryd.prog 37 #[.int .i64 b, .int .i64 c] w fun e w' => e = .returned (.int .i64 h) ∧ Below w.heap.size w w'))
    (O : Hid (∀ w', Below w.heap.size w w' → Calls Tryd.prog 36 #[.int .i64 l, .int .i64 h] w' fun e w'' => e = .returned (.agg #[.int .i64 L, .int .i64 H]) ∧ Below w'.heap.size w' w'')) :
    Calls Tryd.prog 27 #[.agg #[.int .i64 a, .int .i64 b], .agg #[.int .i64 c, .int .i64 d]] w fun e w' => e = .returned (.agg #[.int .i64 L, .int .i64 H]) ∧ Below w.heap.size w w' := by
  go_enter Tryd.func27, Tryd.ntmps27
  go_wp2_with fail
  refine (E1.out _).mono ?_; rintro e w1 ⟨rfl, hb1⟩
  have B1 := belowT (below3 w _ _ _) hb1
  have X1 := (own2c w _ _ _ _ _).keep hb1; have X1a := X1.c0; have X1b := X1.c1; have X1c := X1.f0; have X1d := X1.f1; have X1l := X1.lt
  have Y1 := ((own2b w _ _ _ _).more _).keep hb1; have Y1a := Y1.c0; have Y1b := Y1.c1; have Y1c := Y1.f0; have Y1d := Y1.f1; have Y1l := Y1.lt
  have Z1 := (((own2 w _ _ _).more _).more _).keep hb1; have Z1a := Z1.c0; have Z1b := Z1.c1; have Z1c := Z1.f0; have Z1d := Z1.f1; have Z1l := Z1.lt
  go_wp2_with fail
  refine (E2.out _).mono ?_; rintro e w2 ⟨rfl, hb2⟩
  have B2 := belowT (B1) hb2
  have X2 := (X1).keep hb2; have X2a := X2.c0; have X2b := X2.c1; have X2c := X2.f0; have X2d := X2.f1; have X2l := X2.lt
  have Y2 := (Y1).keep hb2; have Y2a := Y2.c0; have Y2b := Y2.c1; have Y2c := Y2.f0; have Y2d := Y2.f1; have Y2l := Y2.lt
  have Z2 := (Z1).keep hb2; have Z2a := Z2.c0; have Z2b := Z2.c1; have Z2c := Z2.f0; have Z2d := Z2.f1; have Z2l := Z2.lt
  go_wp2_with fail
  go_region_held3 (fun w' => w'.cell? ⟨w.heap.size, 0, none⟩ = some (.int .i64 a) ∧ w'.cell? ⟨w.heap.size, 1, none⟩ = some (.int .i64 b) ∧ w'.cell? ⟨w.heap.size + 1, 0, none⟩ = some (.int .i64 c) ∧ w'.cell? ⟨w.heap.size + 1, 1, none⟩ = some (.int .i64 d))
    (first
      | (go_split_ands; refine ⟨?_, ?_, ?_, ?_⟩ <;> first | exact keepc hb5 (by assumption) | exact keepc hb4 (by assumption) | exact keepc hb3 (by assumption))
      | (go_split_ands; refine ⟨?_, ?_, ?_, ?_⟩ <;> exact keeps (by omega) (keeps (by omega) (by assumption)))
      | go_keep)
    (first
      | (go_at_call 36; have _t := B4; clear _t; (with_reducible refine (O.out _ B4).mono ?_); rintro e w5 ⟨rfl, hb5⟩; have B5 := belowT B4 hb5; have R5 := (R4).keep hb5; obtain ⟨g0, g1, g2, g3⟩ := R5)
      | (go_at_call 37; have _t := B3; clear _t; (with_reducible refine (S2.out _).mono ?_); rintro e w4 ⟨rfl, hb4⟩; have B4 := belowT B3 hb4; have R4 := (R3).keep hb4)
      | (go_at_call 37; (with_reducible refine (S1.out _).mono ?_); rintro e w3 ⟨rfl, hb3⟩; have B3 := belowT (B2).drew hb3; have R3 := ((X2).drew).keep hb3))
  all_goals
    go_wp2_with fail
    exact bodyPost_ret (v := .agg #[.int .i64 L, .int .i64 H]) (by simp [results, Tryd.results27, go_sem, *]) rfl ⟨rfl, (B5.setCell (by simp; omega) _).setCell (by simp; omega) _⟩

theorem Sub_none1 (a b c d : Int) (w : World) (n0 : w.cell? ⟨0, 0, none⟩ = some (.int .i64 1)) (n1 : w.cell? ⟨0, 1, none⟩ = some (.int .i64 0))
    (E1 : Hid (∀ w, Calls Tryd.prog 35 #[.agg #[.int .i64 a, .int .i64 b]] w fun e w' => e = .returned (.bool true) ∧ Below w.heap.size w w')) :
    Calls Tryd.prog 27 #[.agg #[.int .i64 a, .int .i64 b], .agg #[.int .i64 c, .int .i64 d]] w fun e w' => e = .returned (.agg #[.int .i64 1, .int .i64 0]) ∧ Below w.heap.size w w' := by
  go_enter Tryd.func27, Tryd.ntmps27
  go_wp2_with fail
  refine (E1.out _).mono ?_; rintro e w1 ⟨rfl, hb1⟩
  have B1 := belowT (below3 w _ _ _) hb1
  have X1 := (own2c w _ _ _ _ _).keep hb1; have X1a := X1.c0; have X1b := X1.c1; have X1c := X1.f0; have X1d := X1.f1; have X1l := X1.lt
  have Y1 := ((own2b w _ _ _ _).more _).keep hb1; have Y1a := Y1.c0; have Y1b := Y1.c1; have Y1c := Y1.f0; have Y1d := Y1.f1; have Y1l := Y1.lt
  have m0 := keepc B1 n0
  have m1 := keepc B1 n1
  go_wp2_with fail
  exact bodyPost_ret (v := .agg #[.int .i64 1, .int .i64 0]) (by simp [results, Tryd.results27, go_sem, *]) rfl ⟨rfl, (B1.setCell (by simp; omega) _).setCell (by simp; omega) _⟩

theorem Sub_none2 (a b c d : Int) (w : World) (n0 : w.cell? ⟨0, 0, none⟩ = some (.int .i64 1)) (n1 : w.cell? ⟨0, 1, none⟩ = some (.int .i64 0))
    (E1 : Hid (∀ w, Calls Tryd.prog 35 #[.agg #[.int .i64 a, .int .i64 b]] w fun e w' => e = .returned (.bool false) ∧ Below w.heap.size w w'))
    (E2 : Hid (∀ w, Calls Tryd.prog 35 #[.agg #[.int .i64 c, .int .i64 d]] w fun e w' => e = .returned (.bool true) ∧ Below w.heap.size w w')) :
    Calls Tryd.prog 27 #[.agg #[.int .i64 a, .int .i64 b], .agg #[.int .i64 c, .int .i64 d]] w fun e w' => e = .returned (.agg #[.int .i64 1, .int .i64 0]) ∧ Below w.heap.size w w' := by
  go_enter Tryd.func27, Tryd.ntmps27
  go_wp2_with fail
  refine (E1.out _).mono ?_; rintro e w1 ⟨rfl, hb1⟩
  have B1 := belowT (below3 w _ _ _) hb1
  have X1 := (own2c w _ _ _ _ _).keep hb1; have X1a := X1.c0; have X1b := X1.c1; have X1c := X1.f0; have X1d := X1.f1; have X1l := X1.lt
  have Y1 := ((own2b w _ _ _ _).more _).keep hb1; have Y1a := Y1.c0; have Y1b := Y1.c1; have Y1c := Y1.f0; have Y1d := Y1.f1; have Y1l := Y1.lt
  go_wp2_with fail
  refine (E2.out _).mono ?_; rintro e w2 ⟨rfl, hb2⟩
  have B2 := belowT (B1) hb2
  have X2 := (X1).keep hb2; have X2a := X2.c0; have X2b := X2.c1; have X2c := X2.f0; have X2d := X2.f1; have X2l := X2.lt
  have m0 := keepc B2 n0
  have m1 := keepc B2 n1
  go_wp2_with fail
  exact bodyPost_ret (v := .agg #[.int .i64 1, .int .i64 0]) (by simp [results, Tryd.results27, go_sem, *]) rfl ⟨rfl, (B2.setCell (by simp; omega) _).setCell (by simp; omega) _⟩

theorem sSub (a b c d : Int) (w : World) (n : NoneAt w) (ra : Fix.Room a) (rb : Fix.Room b) (rc : Fix.Room c) (rd : Fix.Room d) :
    Calls Tryd.prog 27 #[.agg #[.int .i64 a, .int .i64 b], .agg #[.int .i64 c, .int .i64 d]] w fun e w' => e = .returned (.agg #[.int .i64 (Sp.sel a b c d 1 (Sp.oL (Sp.sat (a - d)) (Sp.sat (b - c)))), .int .i64 (Sp.sel a b c d 0 (Sp.oH (Sp.sat (a - d)) (Sp.sat (b - c))))]) ∧ Below w.heap.size w w' := by
  have E1 := Lib.hid (Empty_any a b)
  have E2 := Lib.hid (Empty_any c d)
  by_cases h1 : b < a
  · rw [Sp.sel_a h1, Sp.sel_a h1]
    rw [decide_eq_true h1] at E1
    exact Sub_none1 a b c d w n.c0 n.c1 E1
  · rw [decide_eq_false h1] at E1
    by_cases h2 : d < c
    · rw [Sp.sel_b h2, Sp.sel_b h2]
      rw [decide_eq_true h2] at E2
      exact Sub_none2 a b c d w n.c0 n.c1 E1 E2
    · rw [Sp.sel_in h1 h2, Sp.sel_in h1 h2]
      rw [decide_eq_false h2] at E2
      exact Sub_core a b c d _ _ _ _ w E1 E2 (Lib.hid fun w => less_any a d w ra rd) (Lib.hid fun w => less_any b c w rb rc) (Lib.hid fun w' B => of_any _ _ w' (n.keep B))

end Go.Proofs.YtkjkmnclnedfhaaDoor
