/- Gaps of spans. -/
import Derived.Test.YtdembidbaojldaaDoorSpanA
import Derived.Deep.RegionWith
import Derived.BigRegion
namespace Go.Proofs.YtdembidbaojldaaDoor
open Go.RowKit

theorem sGap_1 (a b c d : Int) (w : World) (n0 : w.cell? ⟨0, 0, none⟩ = some (.int .i64 1)) (n1 : w.cell? ⟨0, 1, none⟩ = some (.int .i64 0))
    (E1 : Hid (∀ w, Calls Tryd.prog 10 #[.agg #[.int .i64 a, .int .i64 b]] w fun e w' => e = .returned (.bool true) ∧ Below w.heap.size w w')) :
    Calls Tryd.prog 22 #[.agg #[.int .i64 a, .int .i64 b], .agg #[.int .i64 c, .int .i64 d]] w fun e w' => e = .returned (.int .i64 0) ∧ Below w.heap.size w w' := by
  have k0 := keepc (below2 w (.cells #[.int .i64 a, .int .i64 b] 23) (.cells #[.int .i64 c, .int .i64 d] 23)) n0
  have k1 := keepc (below2 w (.cells #[.int .i64 a, .int .i64 b] 23) (.cells #[.int .i64 c, .int .i64 d] 23)) n1
  go_enter Tryd.func22, Tryd.ntmps22
  go_wp2_with fail
  go_region_with (first | (go_at_call 10; (with_reducible refine (E1.out _).mono ?_); rintro e w1 ⟨rfl, hb1⟩; have B1 := belowT (below2 w _ _).drew hb1))
  all_goals
    go_wp2_with fail
    go_ret
    exact ⟨rfl, B1⟩

theorem sGap_2 (a b c d : Int) (w : World) (n0 : w.cell? ⟨0, 0, none⟩ = some (.int .i64 1)) (n1 : w.cell? ⟨0, 1, none⟩ = some (.int .i64 0))
    (E1 : Hid (∀ w, Calls Tryd.prog 10 #[.agg #[.int .i64 a, .int .i64 b]] w fun e w' => e = .returned (.bool false) ∧ Below w.heap.size w w'))
    (E2 : Hid (∀ w, Calls Tryd.prog 10 #[.agg #[.int .i64 c, .int .i64 d]] w fun e w' => e = .returned (.bool true) ∧ Below w.heap.size w w')) :
    Calls Tryd.prog 22 #[.agg #[.int .i64 a, .int .i64 b], .agg #[.int .i64 c, .int .i64 d]] w fun e w' => e = .returned (.int .i64 0) ∧ Below w.heap.size w w' := by
  have k0 := keepc (below2 w (.cells #[.int .i64 a, .int .i64 b] 23) (.cells #[.int .i64 c, .int .i64 d] 23)) n0
  have k1 := keepc (below2 w (.cells #[.int .i64 a, .int .i64 b] 23) (.cells #[.int .i64 c, .int .i64 d] 23)) n1
  go_enter Tryd.func22, Tryd.ntmps22
  go_wp2_with fail
  go_region_with (first | (go_at_call 10; have _t := B1; clear _t; (with_reducible refine (E2.out _).mono ?_); rintro e w2 ⟨rfl, hb2⟩; have B2 := belowT B1 hb2) | (go_at_call 10; (with_reducible refine (E1.out _).mono ?_); rintro e w1 ⟨rfl, hb1⟩; have B1 := belowT (below2 w _ _).drew hb1; obtain ⟨x0, x1, x2, x3⟩ := (own2b w (.cells #[.int .i64 a, .int .i64 b] 23) (.int .i64 c) (.int .i64 d) 23).drew.keep hb1))
  all_goals
    go_wp2_with fail
    go_ret
    exact ⟨rfl, B2⟩

theorem sGap_3 (a b c d L H : Int) (w : World) (n0 : w.cell? ⟨0, 0, none⟩ = some (.int .i64 1)) (n1 : w.cell? ⟨0, 1, none⟩ = some (.int .i64 0))
    (hm : (L == 1) = false ∨ (L == 1) = true ∧ (H == 0) = false)
    (E1 : Hid (∀ w, Calls Tryd.prog 10 #[.agg #[.int .i64 a, .int .i64 b]] w fun e w' => e = .returned (.bool false) ∧ Below w.heap.size w w'))
    (E2 : Hid (∀ w, Calls Tryd.prog 10 #[.agg #[.int .i64 c, .int .i64 d]] w fun e w' => e = .returned (.bool false) ∧ Below w.heap.size w w'))
    (M : Hid (∀ w', Below w.heap.size w w' → Calls Tryd.prog 7 #[.agg #[.int .i64 a, .int .i64 b], .agg #[.int .i64 c, .int .i64 d]] w' fun e w'' => e = .returned (.agg #[.int .i64 L, .int .i64 H]) ∧ Below w'.heap.size w' w'')) :
    Calls Tryd.prog 22 #[.agg #[.int .i64 a, .int .i64 b], .agg #[.int .i64 c, .int .i64 d]] w fun e w' => e = .returned (.int .i64 0) ∧ Below w.heap.size w w' := by
  have k0 := keepc (below2 w (.cells #[.int .i64 a, .int .i64 b] 23) (.cells #[.int .i64 c, .int .i64 d] 23)) n0
  have k1 := keepc (below2 w (.cells #[.int .i64 a, .int .i64 b] 23) (.cells #[.int .i64 c, .int .i64 d] 23)) n1
  rcases hm with hm | ⟨hm, hm2⟩
  all_goals
    go_enter Tryd.func22, Tryd.ntmps22
    go_wp2_with fail
    go_region_held3 (fun w' => w'.cell? ⟨w.heap.size, 0, none⟩ = some (.int .i64 a) ∧ w'.cell? ⟨w.heap.size, 1, none⟩ = some (.int .i64 b) ∧ w'.cell? ⟨w.heap.size + 1, 0, none⟩ = some (.int .i64 c) ∧ w'.cell? ⟨w.heap.size + 1, 1, none⟩ = some (.int .i64 d) ∧ w'.cell? ⟨0, 0, none⟩ = some (.int .i64 1) ∧ w'.cell? ⟨0, 1, none⟩ = some (.int .i64 0))
      (first
        | (go_split_ands; refine ⟨?_, ?_, ?_, ?_, ?_, ?_⟩ <;> first | exact keepc hb3 (by assumption) | exact keepc hb2 (by assumption) | exact keepc hb1 (by assumption))
        | go_keep)
      (first
        | (go_at_call 7; have _t := B2; clear _t; (with_reducible refine (M.out _ B2).mono ?_); rintro e w3 ⟨rfl, hb3⟩; have B3 := belowT B2 hb3)
        | (go_at_call 10; have _t := B1; clear _t; (with_reducible refine (E2.out _).mono ?_); rintro e w2 ⟨rfl, hb2⟩; have B2 := belowT B1 hb2)
        | (go_at_call 10; (with_reducible refine (E1.out _).mono ?_); rintro e w1 ⟨rfl, hb1⟩; have B1 := belowT (below2 w _ _).drew hb1))
    go_wp2_with fail
    go_ret
    exact ⟨rfl, B3⟩

theorem sGap_4 (a b c d l h g : Int) (w : World) (n0 : w.cell? ⟨0, 0, none⟩ = some (.int .i64 1)) (n1 : w.cell? ⟨0, 1, none⟩ = some (.int .i64 0))
    (e1 : max a c = l) (e2 : min b d = h)
    (E1 : Hid (∀ w, Calls Tryd.prog 10 #[.agg #[.int .i64 a, .int .i64 b]] w fun e w' => e = .returned (.bool false) ∧ Below w.heap.size w w'))
    (E2 : Hid (∀ w, Calls Tryd.prog 10 #[.agg #[.int .i64 c, .int .i64 d]] w fun e w' => e = .returned (.bool false) ∧ Below w.heap.size w w'))
    (M : Hid (∀ w', Below w.heap.size w w' → Calls Tryd.prog 7 #[.agg #[.int .i64 a, .int .i64 b], .agg #[.int .i64 c, .int .i64 d]] w' fun e w'' => e = .returned (.agg #[.int .i64 1, .int .i64 0]) ∧ Below w'.heap.size w' w''))
    (S : Hid (∀ w, Calls Tryd.prog 29 #[.int .i64 l, .int .i64 h] w fun e w' => e = .returned (.int .i64 g) ∧ Below w.heap.size w w')) :
    Calls Tryd.prog 22 #[.agg #[.int .i64 a, .int .i64 b], .agg #[.int .i64 c, .int .i64 d]] w fun e w' => e = .returned (.int .i64 g) ∧ Below w.heap.size w w' := by
  subst e1 e2
  have k0 := keepc (below2 w (.cells #[.int .i64 a, .int .i64 b] 23) (.cells #[.int .i64 c, .int .i64 d] 23)) n0
  have k1 := keepc (below2 w (.cells #[.int .i64 a, .int .i64 b] 23) (.cells #[.int .i64 c, .int .i64 d] 23)) n1
  go_enter Tryd.func22, Tryd.ntmps22
  go_wp2_with fail
  go_region_held3 (fun w' => w'.cell? ⟨w.heap.size, 0, none⟩ = some (.int .i64 a) ∧ w'.cell? ⟨w.heap.size, 1, none⟩ = some (.int .i64 b) ∧ w'.cell? ⟨w.heap.size + 1, 0, none⟩ = some (.int .i64 c) ∧ w'.cell? ⟨w.heap.size + 1, 1, none⟩ = some (.int .i64 d) ∧ w'.cell? ⟨0, 0, none⟩ = some (.int .i64 1) ∧ w'.cell? ⟨0, 1, none⟩ = some (.int .i64 0))
    (first
      | (go_split_ands; refine ⟨?_, ?_, ?_, ?_, ?_, ?_⟩ <;> first | exact keepc hb3 (by assumption) | exact keepc hb2 (by assumption) | exact keepc hb1 (by assumption))
      | go_keep)
    (first
      | (go_at_call 7; have _t := B2; clear _t; (with_reducible refine (M.out _ B2).mono ?_); rintro e w3 ⟨rfl, hb3⟩; have B3 := belowT B2 hb3)
      | (go_at_call 10; have _t := B1; clear _t; (with_reducible refine (E2.out _).mono ?_); rintro e w2 ⟨rfl, hb2⟩; have B2 := belowT B1 hb2)
      | (go_at_call 10; (with_reducible refine (E1.out _).mono ?_); rintro e w1 ⟨rfl, hb1⟩; have B1 := belowT (below2 w _ _).drew hb1))
  have X3 := (((own2b w (.cells #[.int .i64 a, .int .i64 b] 23) (.int .i64 c) (.int .i64 d) 23).drew.keep hb1).keep hb2).keep hb3
  have Y3 := ((((own2 w (.int .i64 a) (.int .i64 b) 23).more (.cells #[.int .i64 c, .int .i64 d] 23)).drew.keep hb1).keep hb2).keep hb3
  obtain ⟨x0, x1, x2, x3⟩ := X3
  obtain ⟨y0, y1, y2, y3⟩ := Y3
  go_wp2_with fail
  refine (S.out _).mono ?_; rintro e w4 ⟨rfl, hb4⟩
  have B4 := belowT (B3) hb4
  go_wp2_with fail
  go_ret
  exact ⟨rfl, B4⟩

theorem sGap (a b c d : Int) (w : World) (n : NoneAt w) (ra : Fix.Room a) (rb : Fix.Room b) (rc : Fix.Room c) (rd : Fix.Room d) :
    Calls Tryd.prog 22 #[.agg #[.int .i64 a, .int .i64 b], .agg #[.int .i64 c, .int .i64 d]] w fun e w' => e = .returned (.int .i64 (Sp.gap a b c d)) ∧ Below w.heap.size w w' := by
  have E1 := Lib.hid (Empty_any a b)
  have E2 := Lib.hid (Empty_any c d)
  unfold Sp.gap
  by_cases h1 : b < a
  · rw [if_pos h1]
    rw [decide_eq_true h1] at E1
    exact sGap_1 a b c d w n.c0 n.c1 E1
  rw [if_neg h1]
  rw [decide_eq_false h1] at E1
  by_cases h2 : d < c
  · rw [if_pos h2]
    rw [decide_eq_true h2] at E2
    exact sGap_2 a b c d w n.c0 n.c1 E1 E2
  rw [if_neg h2]
  rw [decide_eq_false h2] at E2
  have M : Hid (∀ w', Below w.heap.size w w' → Calls Tryd.prog 7 #[.agg #[.int .i64 a, .int .i64 b], .agg #[.int .i64 c, .int .i64 d]] w' fun e w'' => e = .returned (.agg #[.int .i64 (Sp.oL (max a c) (min b d)), .int .i64 (Sp.oH (max a c) (min b d))]) ∧ Below w'.heap.size w' w'') :=
    Lib.hid fun w' B => Meet_any a b c d w' (n.keep B)
  by_cases h3 : max a c ≤ min b d
  · rw [if_pos h3]
    rw [Sp.oL_in (by omega), Sp.oH_in (by omega)] at M
    refine sGap_3 a b c d _ _ w n.c0 n.c1 ?_ E1 E2 M
    by_cases z : max a c = 1
    · exact Or.inr ⟨by rw [beq_iff_eq]; exact z, by rw [beq_eq_false_iff_ne]; omega⟩
    · exact Or.inl (by rw [beq_eq_false_iff_ne]; exact z)
  · rw [if_neg h3]
    rw [Sp.oL_out (by omega), Sp.oH_out (by omega)] at M
    obtain ⟨a1, a2⟩ := ra
    obtain ⟨b1, b2⟩ := rb
    obtain ⟨c1, c2⟩ := rc
    obtain ⟨d1, d2⟩ := rd
    exact sGap_4 a b c d _ _ _ w n.c0 n.c1 rfl rfl E1 E2 M (Lib.hid fun w => less_any _ _ w ⟨by omega, by omega⟩ ⟨by omega, by omega⟩)

end Go.Proofs.YtdembidbaojldaaDoor
