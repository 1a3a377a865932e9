/- span.Widen (a part of XSpanC), also of the empty span. -/
import Derived.Test.YtkjkmnclnedfhaaDoorObSpanB
namespace Go.Proofs.YtkjkmnclnedfhaaDoor
open Go.RowKit

set_option maxHeartbeats 1000000 in
theorem sWiden_core (a b y m l h L H : Int) (w : World) (h0 : 0 ≤ y) (h1 : y ≤ 9223372036854775807) (hm : IntKind.i64.wrap (-y) = m)
    (E1 : Hid (∀ w, Calls Tryd.prog 35 #[.agg #[.int .i64 a, .int .i64 b]] w fun e w' => e = .returned (.bool false) ∧ Below w.heap.size w w'))
    (S1 : Hid (∀ w, Calls Tryd.prog 38 #[.int .i64 a, .int .i64 m] w fun e w' => e = .returned (.int .i64 l) ∧ Below w.heap.size w w'))
    (S2 : Hid (∀ w, Calls Tryd.prog 38 #[.int .i64 b, .int .i64 y] w fun e w' => e = .returned (.int .i64 h) ∧ Below w.heap.size w w'))
    (O : Hid (∀ w', Below w.heap.size w w' → Calls Tryd.prog 36 #[.int .i64 l, .int .i64 h] w' fun e w'' => e = .returned (.agg #[.int .i64 L, .int .i64 H]) ∧ Below w'.heap.size w' w'')) :
    Calls Tryd.prog 40 #[.agg #[.int .i64 a, .int .i64 b], .int .i64 y] w fun e w' => e = .returned (.agg #[.int .i64 L, .int .i64 H]) ∧ Below w.heap.size w w' := by
  go_enter Tryd.func40, Tryd.ntmps40
  go_wp2_with fail
  refine (E1.out _).mono ?_; rintro e w1 ⟨rfl, hb1⟩
  have B1 := belowT (below2 w _ _) hb1
  have X1 := (own2b w _ _ _ _).keep hb1; have X1a := X1.c0; have X1b := X1.c1; have X1c := X1.f0; have X1d := X1.f1; have X1l := X1.lt
  have Y1 := ((own2 w _ _ _).more _).keep hb1; have Y1a := Y1.c0; have Y1b := Y1.c1; have Y1c := Y1.f0; have Y1d := Y1.f1; have Y1l := Y1.lt
  go_wp2_with fail
  go_region_held3 (fun w' => w'.cell? ⟨w.heap.size, 0, none⟩ = some (.int .i64 a) ∧ w'.cell? ⟨w.heap.size, 1, none⟩ = some (.int .i64 b))
    (first
      | (go_split_ands; refine ⟨?_, ?_⟩ <;> first | exact keepc hb4 (by assumption) | exact keepc hb3 (by assumption) | exact keepc hb2 (by assumption))
      | (go_split_ands; refine ⟨?_, ?_⟩ <;> exact keeps (by omega) (keeps (by omega) (by assumption)))
      | go_keep)
    (first
      | (go_at_call 36; have _t := B3; clear _t; (with_reducible refine (O.out _ B3).mono ?_); rintro e w4 ⟨rfl, hb4⟩; have B4 := belowT B3 hb4; have R4 := (R3).keep hb4; obtain ⟨g0, g1, g2, g3⟩ := R4)
      | (go_at_call 38; have _t := B2; clear _t; (with_reducible refine (S2.out _).mono ?_); rintro e w3 ⟨rfl, hb3⟩; have B3 := belowT B2 hb3; have R3 := (R2).keep hb3)
      | (go_at_call 38; (with_reducible refine (S1.out _).mono ?_); rintro e w2 ⟨rfl, hb2⟩; have B2 := belowT (B1).drew hb2; have R2 := ((X1).drew).keep hb2))
  all_goals
    go_wp2_with fail
    exact bodyPost_ret (v := .agg #[.int .i64 L, .int .i64 H]) (by simp [results, Tryd.results40, go_sem, *]) rfl ⟨rfl, (B4.setCell (by simp) _).setCell (by simp) _⟩

theorem sWiden_in (a b y : Int) (w : World) (n : NoneAt w) (ra : Fix.Room a) (rb : Fix.Room b) (h0 : 0 ≤ y) (h1 : y ≤ 9223372036854775807) (h2 : ¬ b < a) :
    Calls Tryd.prog 40 #[.agg #[.int .i64 a, .int .i64 b], .int .i64 y] w fun e w' => e = .returned (.agg #[.int .i64 (Sp.oL (Sp.sat (a + -y)) (Sp.sat (b + y))), .int .i64 (Sp.oH (Sp.sat (a + -y)) (Sp.sat (b + y)))]) ∧ Below w.heap.size w w' := by
  have E1 := Lib.hid (Empty_any a b)
  rw [decide_eq_false h2] at E1
  exact sWiden_core a b y (-y) _ _ _ _ w h0 h1 ((wrap_i64 _).trans (by omega)) E1 (Lib.hid fun w => Sat_b a (-y) w ra ⟨by omega, by omega⟩) (Lib.hid fun w => Sat_b b y w rb ⟨by omega, by omega⟩) (Lib.hid fun w' B => of_any _ _ w' (n.keep B))

theorem sWiden_none (a b y : Int) (w : World) (E1 : Hid (∀ w, Calls Tryd.prog 35 #[.agg #[.int .i64 a, .int .i64 b]] w fun e w' => e = .returned (.bool true) ∧ Below w.heap.size w w')) :
    Calls Tryd.prog 40 #[.agg #[.int .i64 a, .int .i64 b], .int .i64 y] w fun e w' => e = .returned (.agg #[.int .i64 a, .int .i64 b]) ∧ Below w.heap.size w w' := by
  go_enter Tryd.func40, Tryd.ntmps40
  go_wp2_with fail
  refine (E1.out _).mono ?_; rintro e w1 ⟨rfl, hb1⟩
  have B1 := belowT (below2 w _ _) hb1
  have X1 := (own2b w _ _ _ _).keep hb1; have X1a := X1.c0; have X1b := X1.c1; have X1c := X1.f0; have X1d := X1.f1; have X1l := X1.lt
  have Y1 := ((own2 w _ _ _).more _).keep hb1; have Y1a := Y1.c0; have Y1b := Y1.c1; have Y1c := Y1.f0; have Y1d := Y1.f1; have Y1l := Y1.lt
  go_wp2_with fail
  exact bodyPost_ret (v := .agg #[.int .i64 a, .int .i64 b]) (by simp [results, Tryd.results40, go_sem, *]) rfl ⟨rfl, (B1.setCell (by simp) _).setCell (by simp) _⟩

theorem sWiden (a b y : Int) (w : World) (n : NoneAt w) (ra : Fix.Room a) (rb : Fix.Room b) (h0 : 0 ≤ y) (h1 : y ≤ 9223372036854775807) :
    Calls Tryd.prog 40 #[.agg #[.int .i64 a, .int .i64 b], .int .i64 y] w fun e w' => e = .returned (.agg #[.int .i64 (Sp.widL a b y), .int .i64 (Sp.widH a b y)]) ∧ Below w.heap.size w w' := by
  unfold Sp.widL Sp.widH
  by_cases h : b < a
  · rw [if_pos (Or.inl h), if_pos (Or.inl h)]
    have E1 := Lib.hid (Empty_any a b)
    rw [decide_eq_true h] at E1
    exact sWiden_none a b y w E1
  · rw [if_neg (by omega), if_neg (by omega)]
    exact sWiden_in a b y w n ra rb h0 h1 h

end Go.Proofs.YtkjkmnclnedfhaaDoor
