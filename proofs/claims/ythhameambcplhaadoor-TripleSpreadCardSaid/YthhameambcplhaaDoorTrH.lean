/- The landed span's Gap; the document's own Gap of spans and what it calls; Spread, both. -/
import Derived.Test.YthhameambcplhaaDoorTrE
import Derived.Test.YthhameambcplhaaDoorTrF
import Derived.Test.YthhameambcplhaaDoorObLanA
import Derived.Deep.RegionWith
import Derived.BigRegion
namespace Go.Proofs.YthhameambcplhaaDoor
open Go.RowKit Obs

theorem sGap_1 (a b c d : Int) (w : World) (n0 : w.cell? ⟨0, 0, none⟩ = some (.int .i64 1)) (n1 : w.cell? ⟨0, 1, none⟩ = some (.int .i64 0))
    (E1 : Hid (∀ w, Calls Tryd.prog 22 #[.agg #[.int .i64 a, .int .i64 b]] w fun e w' => e = .returned (.bool true) ∧ Below w.heap.size w w')) :
    Calls Tryd.prog 28 #[.agg #[.int .i64 a, .int .i64 b], .agg #[.int .i64 c, .int .i64 d]] w fun e w' => e = .returned (.int .i64 0) ∧ Below w.heap.size w w' := by
  have k0 := keepc (below2 w (.cells #[.int .i64 a, .int .i64 b] 32) (.cells #[.int .i64 c, .int .i64 d] 32)) n0
  have k1 := keepc (below2 w (.cells #[.int .i64 a, .int .i64 b] 32) (.cells #[.int .i64 c, .int .i64 d] 32)) n1
  go_enter Tryd.func28, Tryd.ntmps28
  go_wp2_with fail
  go_region_with (first | (go_at_call 22; (with_reducible refine (E1.out _).mono ?_); rintro e w1 ⟨rfl, hb1⟩; have B1 := belowT (below2 w _ _).drew hb1))
  all_goals
    go_wp2_with fail
    go_ret
    exact ⟨rfl, B1⟩

theorem sGap_2 (a b c d : Int) (w : World) (n0 : w.cell? ⟨0, 0, none⟩ = some (.int .i64 1)) (n1 : w.cell? ⟨0, 1, none⟩ = some (.int .i64 0))
    (E1 : Hid (∀ w, Calls Tryd.prog 22 #[.agg #[.int .i64 a, .int .i64 b]] w fun e w' => e = .returned (.bool false) ∧ Below w.heap.size w w'))
    (E2 : Hid (∀ w, Calls Tryd.prog 22 #[.agg #[.int .i64 c, .int .i64 d]] w fun e w' => e = .returned (.bool true) ∧ Below w.heap.size w w')) :
    Calls Tryd.prog 28 #[.agg #[.int .i64 a, .int .i64 b], .agg #[.int .i64 c, .int .i64 d]] w fun e w' => e = .returned (.int .i64 0) ∧ Below w.heap.size w w' := by
  have k0 := keepc (below2 w (.cells #[.int .i64 a, .int .i64 b] 32) (.cells #[.int .i64 c, .int .i64 d] 32)) n0
  have k1 := keepc (below2 w (.cells #[.int .i64 a, .int .i64 b] 32) (.cells #[.int .i64 c, .int .i64 d] 32)) n1
  go_enter Tryd.func28, Tryd.ntmps28
  go_wp2_with fail
  go_region_with (first | (go_at_call 22; have _t := B1; clear _t; (with_reducible refine (E2.out _).mono ?_); rintro e w2 ⟨rfl, hb2⟩; have B2 := belowT B1 hb2) | (go_at_call 22; (with_reducible refine (E1.out _).mono ?_); rintro e w1 ⟨rfl, hb1⟩; have B1 := belowT (below2 w _ _).drew hb1; obtain ⟨x0, x1, x2, x3⟩ := (own2b w (.cells #[.int .i64 a, .int .i64 b] 32) (.int .i64 c) (.int .i64 d) 32).drew.keep hb1))
  all_goals
    go_wp2_with fail
    go_ret
    exact ⟨rfl, B2⟩

theorem sGap_3 (a b c d L H : Int) (w : World) (n0 : w.cell? ⟨0, 0, none⟩ = some (.int .i64 1)) (n1 : w.cell? ⟨0, 1, none⟩ = some (.int .i64 0))
    (hm : (L == 1) = false ∨ (L == 1) = true ∧ (H == 0) = false)
    (E1 : Hid (∀ w, Calls Tryd.prog 22 #[.agg #[.int .i64 a, .int .i64 b]] w fun e w' => e = .returned (.bool false) ∧ Below w.heap.size w w'))
    (E2 : Hid (∀ w, Calls Tryd.prog 22 #[.agg #[.int .i64 c, .int .i64 d]] w fun e w' => e = .returned (.bool false) ∧ Below w.heap.size w w'))
    (M : Hid (∀ w', Below w.heap.size w w' → Calls Tryd.prog 33 #[.agg #[.int .i64 a, .int .i64 b], .agg #[.int .i64 c, .int .i64 d]] w' fun e w'' => e = .returned (.agg #[.int .i64 L, .int .i64 H]) ∧ Below w'.heap.size w' w'')) :
    Calls Tryd.prog 28 #[.agg #[.int .i64 a, .int .i64 b], .agg #[.int .i64 c, .int .i64 d]] w fun e w' => e = .returned (.int .i64 0) ∧ Below w.heap.size w w' := by
  have k0 := keepc (below2 w (.cells #[.int .i64 a, .int .i64 b] 32) (.cells #[.int .i64 c, .int .i64 d] 32)) n0
  have k1 := keepc (below2 w (.cells #[.int .i64 a, .int .i64 b] 32) (.cells #[.int .i64 c, .int .i64 d] 32)) n1
  rcases hm with hm | ⟨hm, hm2⟩
  all_goals
    go_enter Tryd.func28, Tryd.ntmps28
    go_wp2_with fail
    go_region_held3 (fun w' => w'.cell? ⟨w.heap.size, 0, none⟩ = some (.int .i64 a) ∧ w'.cell? ⟨w.heap.size, 1, none⟩ = some (.int .i64 b) ∧ w'.cell? ⟨w.heap.size + 1, 0, none⟩ = some (.int .i64 c) ∧ w'.cell? ⟨w.heap.size + 1, 1, none⟩ = some (.int .i64 d) ∧ w'.cell? ⟨0, 0, none⟩ = some (.int .i64 1) ∧ w'.cell? ⟨0, 1, none⟩ = some (.int .i64 0))
      (first
        | (go_split_ands; refine ⟨?_, ?_, ?_, ?_, ?_, ?_⟩ <;> first | exact keepc hb3 (by assumption) | exact keepc hb2 (by assumption) | exact keepc hb1 (by assumption))
        | go_keep)
      (first
        | (go_at_call 33; have _t := B2; clear _t; (with_reducible refine (M.out _ B2).mono ?_); rintro e w3 ⟨rfl, hb3⟩; have B3 := belowT B2 hb3)
        | (go_at_call 22; have _t := B1; clear _t; (with_reducible refine (E2.out _).mono ?_); rintro e w2 ⟨rfl, hb2⟩; have B2 := belowT B1 hb2)
        | (go_at_call 22; (with_reducible refine (E1.out _).mono ?_); rintro e w1 ⟨rfl, hb1⟩; have B1 := belowT (below2 w _ _).drew hb1))
    go_wp2_with fail
    go_ret
    exact ⟨rfl, B3⟩

theorem sGap_4 (a b c d l h g : Int) (w : World) (n0 : w.cell? ⟨0, 0, none⟩ = some (.int .i64 1)) (n1 : w.cell? ⟨0, 1, none⟩ = some (.int .i64 0))
    (e1 : max a c = l) (e2 : min b d = h)
    (E1 : Hid (∀ w, Calls Tryd.prog 22 #[.agg #[.int .i64 a, .int .i64 b]] w fun e w' => e = .returned (.bool false) ∧ Below w.heap.size w w'))
    (E2 : Hid (∀ w, Calls Tryd.prog 22 #[.agg #[.int .i64 c, .int .i64 d]] w fun e w' => e = .returned (.bool false) ∧ Below w.heap.size w w'))
    (M : Hid (∀ w', Below w.heap.size w w' → Calls Tryd.prog 33 #[.agg #[.int .i64 a, .int .i64 b], .agg #[.int .i64 c, .int .i64 d]] w' fun e w'' => e = .returned (.agg #[.int .i64 1, .int .i64 0]) ∧ Below w'.heap.size w' w''))
    (S : Hid (∀ w, Calls Tryd.prog 37 #[.int .i64 l, .int .i64 h] w fun e w' => e = .returned (.int .i64 g) ∧ Below w.heap.size w w')) :
    Calls Tryd.prog 28 #[.agg #[.int .i64 a, .int .i64 b], .agg #[.int .i64 c, .int .i64 d]] w fun e w' => e = .returned (.int .i64 g) ∧ Below w.heap.size w w' := by
  subst e1 e2
  have k0 := keepc (below2 w (.cells #[.int .i64 a, .int .i64 b] 32) (.cells #[.int .i64 c, .int .i64 d] 32)) n0
  have k1 := keepc (below2 w (.cells #[.int .i64 a, .int .i64 b] 32) (.cells #[.int .i64 c, .int .i64 d] 32)) n1
  go_enter Tryd.func28, Tryd.ntmps28
  go_wp2_with fail
  go_region_held3 (fun w' => w'.cell? ⟨w.heap.size, 0, none⟩ = some (.int .i64 a) ∧ w'.cell? ⟨w.heap.size, 1, none⟩ = some (.int .i64 b) ∧ w'.cell? ⟨w.heap.size + 1, 0, none⟩ = some (.int .i64 c) ∧ w'.cell? ⟨w.heap.size + 1, 1, none⟩ = some (.int .i64 d) ∧ w'.cell? ⟨0, 0, none⟩ = some (.int .i64 1) ∧ w'.cell? ⟨0, 1, none⟩ = some (.int .i64 0))
    (first
      | (go_split_ands; refine ⟨?_, ?_, ?_, ?_, ?_, ?_⟩ <;> first | exact keepc hb3 (by assumption) | exact keepc hb2 (by assumption) | exact keepc hb1 (by assumption))
      | go_keep)
    (first
      | (go_at_call 33; have _t := B2; clear _t; (with_reducible refine (M.out _ B2).mono ?_); rintro e w3 ⟨rfl, hb3⟩; have B3 := belowT B2 hb3)
      | (go_at_call 22; have _t := B1; clear _t; (with_reducible refine (E2.out _).mono ?_); rintro e w2 ⟨rfl, hb2⟩; have B2 := belowT B1 hb2)
      | (go_at_call 22; (with_reducible refine (E1.out _).mono ?_); rintro e w1 ⟨rfl, hb1⟩; have B1 := belowT (below2 w _ _).drew hb1))
  have X3 := (((own2b w (.cells #[.int .i64 a, .int .i64 b] 32) (.int .i64 c) (.int .i64 d) 32).drew.keep hb1).keep hb2).keep hb3
  have Y3 := ((((own2 w (.int .i64 a) (.int .i64 b) 32).more (.cells #[.int .i64 c, .int .i64 d] 32)).drew.keep hb1).keep hb2).keep hb3
  obtain ⟨x0, x1, x2, x3⟩ := X3
  obtain ⟨y0, y1, y2, y3⟩ := Y3
  go_wp2_with fail
  refine (S.out _).mono ?_; rintro e w4 ⟨rfl, hb4⟩
  have B4 := belowT (B3) hb4
  go_wp2_with fail
  go_ret
  exact ⟨rfl, B4⟩

theorem sGap (a b c d : Int) (w : World) (n : NoneAt w) (ra : Fix.Room a) (rb : Fix.Room b) (rc : Fix.Room c) (rd : Fix.Room d) :
    Calls Tryd.prog 28 #[.agg #[.int .i64 a, .int .i64 b], .agg #[.int .i64 c, .int .i64 d]] w fun e w' => e = .returned (.int .i64 (Sp.gap a b c d)) ∧ Below w.heap.size w w' := by
  have E1 := Lib.hid (Empty_any a b)
  have E2 := Lib.hid (Empty_any c d)
  unfold Sp.gap
  by_cases h1 : b < a
  · rw [if_pos h1]
    rw [decide_eq_true h1] at E1
    exact sGap_1 a b c d w n.c0 n.c1 E1
  rw [if_neg h1]
  rw [decide_eq_false h1] at E1
  by_cases h2 : d < c
  · rw [if_pos h2]
    rw [decide_eq_true h2] at E2
    exact sGap_2 a b c d w n.c0 n.c1 E1 E2
  rw [if_neg h2]
  rw [decide_eq_false h2] at E2
  have M : Hid (∀ w', Below w.heap.size w w' → Calls Tryd.prog 33 #[.agg #[.int .i64 a, .int .i64 b], .agg #[.int .i64 c, .int .i64 d]] w' fun e w'' => e = .returned (.agg #[.int .i64 (Sp.oL (max a c) (min b d)), .int .i64 (Sp.oH (max a c) (min b d))]) ∧ Below w'.heap.size w' w'') :=
    Lib.hid fun w' B => Meet_any a b c d w' (n.keep B)
  by_cases h3 : max a c ≤ min b d
  · rw [if_pos h3]
    rw [Sp.oL_in (by omega), Sp.oH_in (by omega)] at M
    refine sGap_3 a b c d _ _ w n.c0 n.c1 ?_ E1 E2 M
    by_cases z : max a c = 1
    · exact Or.inr ⟨by rw [beq_iff_eq]; exact z, by rw [beq_eq_false_iff_ne]; omega⟩
    · exact Or.inl (by rw [beq_eq_false_iff_ne]; exact z)
  · rw [if_neg h3]
    rw [Sp.oL_out (by omega), Sp.oH_out (by omega)] at M
    obtain ⟨a1, a2⟩ := ra
    obtain ⟨b1, b2⟩ := rb
    obtain ⟨c1, c2⟩ := rc
    obtain ⟨d1, d2⟩ := rd
    exact sGap_4 a b c d _ _ _ w n.c0 n.c1 rfl rfl E1 E2 M (Lib.hid fun w => less_any _ _ w ⟨by omega, by omega⟩ ⟨by omega, by omega⟩)

namespace Ref4
theorem rSub_any (a b : Int) (w : World) (ha : Fix.Room a) (hb : Fix.Room b) :
    Calls Tryd.prog 46 #[.int .i64 a, .int .i64 b] w fun e w' => e = .returned (.tuple #[.int .i64 (Fix.okV (a - b)), .int .i64 (Fix.okE (a - b))]) ∧ w = w' := by
  obtain ⟨ha1, ha2⟩ := ha; obtain ⟨hb1, hb2⟩ := hb
  by_cases p : b < 0
  · by_cases q : 9223372036854775807 + b < a
    all_goals
      go_enter Tryd.func46, Tryd.ntmps46
      go_wp2
      go_ret2
      first
        | exact ⟨two (Fix.okV_in (by omega)) (Fix.okE_in (by omega)), rfl⟩
        | exact ⟨two (Fix.okV_out (by omega)) (Fix.okE_out (by omega)), rfl⟩
  · by_cases p2 : 0 < b
    · by_cases q : a < -9223372036854775808 + b
      all_goals
        go_enter Tryd.func46, Tryd.ntmps46
        go_wp2
        go_ret2
        first
          | exact ⟨two (Fix.okV_in (by omega)) (Fix.okE_in (by omega)), rfl⟩
          | exact ⟨two (Fix.okV_out (by omega)) (Fix.okE_out (by omega)), rfl⟩
    · go_enter Tryd.func46, Tryd.ntmps46
      go_wp2
      go_ret2
      exact ⟨two (Fix.okV_in (by omega)) (Fix.okE_in (by omega)), rfl⟩

theorem rless_core (a b v e g : Int) (w : World)
    (S : Hid (∀ w, Calls Tryd.prog 46 #[.int .i64 a, .int .i64 b] w fun e' w' => e' = .returned (.tuple #[.int .i64 v, .int .i64 e]) ∧ w = w'))
    (c : (e == 0) = true ∧ g = v ∨ (e == 0) = false ∧ b < 0 ∧ g = 9223372036854775807 ∨ (e == 0) = false ∧ decide (b < 0) = false ∧ g = -9223372036854775808) :
    Calls Tryd.prog 40 #[.int .i64 a, .int .i64 b] w fun e w' => e = .returned (.int .i64 g) ∧ w = w' := by
  rcases c with ⟨c1, rfl⟩ | ⟨c1, c2, rfl⟩ | ⟨c1, c2, rfl⟩
  all_goals
    go_enter Tryd.func40, Tryd.ntmps40
    go_wp2_with (go_at_call 46; refine (S.out _).mono ?_; rintro e w' ⟨rfl, rfl⟩)
    go_ret
    exact ⟨rfl, rfl⟩
theorem rless_any (a b : Int) (w : World) (ha : Fix.Room a) (hb : Fix.Room b) :
    Calls Tryd.prog 40 #[.int .i64 a, .int .i64 b] w fun e w' => e = .returned (.int .i64 (Sp.sat (a - b))) ∧ Below w.heap.size w w' := by
  refine (rless_core a b _ _ (Sp.sat (a - b)) w (Lib.hid fun w => rSub_any a b w ha hb) ?_).mono fun e w' h => ⟨h.1, h.2 ▸ Below.refl _ _⟩
  rcases Fix.okE_cases (a - b) with ⟨e1, e2, e3⟩ | ⟨e1, e2, e3⟩
  · exact Or.inl ⟨by rw [e1]; rfl, by rw [e2]; exact room_sat e3⟩
  · unfold Fix.Room at e3
    obtain ⟨a1, a2⟩ := ha; obtain ⟨b1, b2⟩ := hb
    by_cases p : b < 0
    · exact Or.inr (Or.inl ⟨by rw [e1]; rfl, p, by unfold Sp.sat; rw [if_neg (by omega), if_pos (by omega)]⟩)
    · exact Or.inr (Or.inr ⟨by rw [e1]; rfl, decide_eq_false p, by unfold Sp.sat; rw [if_pos (by omega)]⟩)
theorem rEmpty_any (l h : Int) (w : World) :
    Calls Tryd.prog 38 #[.agg #[.int .i64 l, .int .i64 h]] w fun e w' => e = .returned (.bool (decide (h < l))) ∧ Below w.heap.size w w' := by
  go_enter Tryd.func38, Tryd.ntmps38
  go_wp2
  go_ret
  exact ⟨rfl, below1 w _⟩
theorem rnone_any (w : World) :
    Calls Tryd.prog 45 #[] w fun e w' => e = .returned (.agg #[.int .i64 1, .int .i64 0]) ∧ Below w.heap.size w w' := by
  go_enter Tryd.func45, Tryd.ntmps45
  go_wp2_with fail
  exact bodyPost_ret (v := .agg #[.int .i64 1, .int .i64 0]) (by simp [results, Tryd.results45, go_sem, *]) rfl ⟨rfl, below1 w _⟩
theorem rMeet_core (a b c d l h L H : Int) (E3 : Bool) (w : World) (e1 : max a c = l) (e2 : min b d = h)
    (EA : Hid (∀ w, Calls Tryd.prog 38 #[sv a b] w fun e w' => e = .returned (.bool false) ∧ Below w.heap.size w w'))
    (EB : Hid (∀ w, Calls Tryd.prog 38 #[sv c d] w fun e w' => e = .returned (.bool false) ∧ Below w.heap.size w w'))
    (EC : Hid (∀ w, Calls Tryd.prog 38 #[sv l h] w fun e w' => e = .returned (.bool E3) ∧ Below w.heap.size w w'))
    (NO : Hid (∀ w, Calls Tryd.prog 45 #[] w fun e w' => e = .returned (sv 1 0) ∧ Below w.heap.size w w'))
    (k : E3 = true ∧ L = 1 ∧ H = 0 ∨ E3 = false ∧ L = l ∧ H = h) :
    Calls Tryd.prog 39 #[sv a b, sv c d] w fun e w' => e = .returned (sv L H) ∧ Below w.heap.size w w' := by
  have hS1 := ((((Sp.none w).more [.int .i64 a, .int .i64 b] 32).more [.int .i64 c, .int .i64 d] 32).more [.int .i64 0, .int .i64 0] 32).more [.int .i64 l, .int .i64 h] 32
  simp only [heap1] at hS1
  have HS1 := Lib.hid hS1
  clear hS1
  rcases k with ⟨rfl, rfl, rfl⟩ | ⟨rfl, rfl, rfl⟩
  all_goals
    go_enter Tryd.func39, Tryd.ntmps39
    go_upto_region 2 with fail
    try rw [e1, e2]
    obtain ⟨w1, hX, hS⟩ := (HS1.out).named
    rw [← hX]
    clear hX HS1 e1 e2
    have HS2 := Lib.hid hS
    clear hS
    have k0 := (HS2.out).at 0 rfl 0 (v := .int .i64 a) rfl
    have k1 := (HS2.out).at 0 rfl 1 (v := .int .i64 b) rfl
    go_wp2_with fail
    refine (EA.out _).mono ?_; rintro e w2 ⟨rfl, hb2⟩
    have HS3 := Lib.hid (HS2.out.keep hb2)
    clear k0 k1 HS2 hb2
    have k0 := (HS3.out).at 1 rfl 0 (v := .int .i64 c) rfl
    have k1 := (HS3.out).at 1 rfl 1 (v := .int .i64 d) rfl
    go_wp2_with fail
    refine (EB.out _).mono ?_; rintro e w3 ⟨rfl, hb3⟩
    have HS4 := Lib.hid (HS3.out.keep hb3)
    clear k0 k1 HS3 hb3
    have k0 := (HS4.out).at 3 rfl 0 rfl
    have k1 := (HS4.out).at 3 rfl 1 rfl
    go_wp2_with fail
    refine (EC.out _).mono ?_; rintro e w4 ⟨rfl, hb4⟩
    have HS5 := Lib.hid (HS4.out.keep hb4)
    clear k0 k1 HS4 hb4
    have k0 := (HS5.out).at 3 rfl 0 rfl
    have k1 := (HS5.out).at 3 rfl 1 rfl
    first
      | (go_wp2_with fail
         refine (NO.out _).mono ?_; rintro e w5 ⟨rfl, hb5⟩
         have HS6 := Lib.hid (HS5.out.keep hb5)
         clear k0 k1 hb5)
      | have HS6 := Lib.hid HS5.out
    have r0 := (HS6.out).at 2 rfl 0 rfl
    have r1 := (HS6.out).at 2 rfl 1 rfl
    have f0 := (HS6.out).free 2 rfl 0 rfl
    have f1 := (HS6.out).free 2 rfl 1 rfl
    have BH := Lib.hid HS6.out.below
    clear HS5 HS6
    go_wp2_with fail
    refine bodyPost_ret (by simp [results, Tryd.results39, go_sem, *]) rfl ⟨rfl, ?_⟩
    iterate 2 refine Below.setCell (p := ⟨w.heap.size + 1 + 1, _, none⟩) ?_ (show w.heap.size ≤ w.heap.size + 1 + 1 by omega) _
    exact BH.out

theorem rMeet_any (a b c d : Int) (w : World) (h1 : ¬ b < a) (h2 : ¬ d < c) :
    Calls Tryd.prog 39 #[sv a b, sv c d] w fun e w' => e = .returned (sv (Sp.oL (max a c) (min b d)) (Sp.oH (max a c) (min b d))) ∧ Below w.heap.size w w' := by
  have EA := Lib.hid (rEmpty_any a b)
  have EB := Lib.hid (rEmpty_any c d)
  rw [decide_eq_false h1] at EA
  rw [decide_eq_false h2] at EB
  refine rMeet_core a b c d _ _ _ _ _ w rfl rfl EA EB (Lib.hid (rEmpty_any _ _)) (Lib.hid rnone_any) ?_
  by_cases h : min b d < max a c
  · exact Or.inl ⟨decide_eq_true h, Sp.oL_out h, Sp.oH_out h⟩
  · exact Or.inr ⟨decide_eq_false h, Sp.oL_in h, Sp.oH_in h⟩

set_option maxHeartbeats 4000000 in
theorem rGap_core (a b c d g L H : Int) (E1 E2 E3 : Bool) (w : World)
    (EA : Hid (∀ w, Calls Tryd.prog 38 #[sv a b] w fun e w' => e = .returned (.bool E1) ∧ Below w.heap.size w w'))
    (EB : Hid (∀ w, Calls Tryd.prog 38 #[sv c d] w fun e w' => e = .returned (.bool E2) ∧ Below w.heap.size w w'))
    (MT : Hid (E1 = false → E2 = false → ∀ w, Calls Tryd.prog 39 #[sv a b, sv c d] w fun e w' => e = .returned (sv L H) ∧ Below w.heap.size w w'))
    (EC : Hid (∀ w, Calls Tryd.prog 38 #[sv L H] w fun e w' => e = .returned (.bool E3) ∧ Below w.heap.size w w'))
    (LA : Hid (∀ w, Calls Tryd.prog 40 #[.int .i64 c, .int .i64 b] w fun e w' => e = .returned (.int .i64 (Sp.sat (c - b))) ∧ Below w.heap.size w w'))
    (LB : Hid (∀ w, Calls Tryd.prog 40 #[.int .i64 a, .int .i64 d] w fun e w' => e = .returned (.int .i64 (Sp.sat (a - d))) ∧ Below w.heap.size w w'))
    (k : E1 = true ∧ g = 0 ∨ E1 = false ∧ E2 = true ∧ g = 0 ∨ E1 = false ∧ E2 = false ∧ E3 = false ∧ g = 0 ∨ E1 = false ∧ E2 = false ∧ E3 = true ∧ b < c ∧ g = Sp.sat (c - b) ∨ E1 = false ∧ E2 = false ∧ E3 = true ∧ decide (b < c) = false ∧ g = Sp.sat (a - d)) :
    Calls Tryd.prog 29 #[sv a b, sv c d] w fun e w' => e = .returned (.int .i64 g) ∧ Below w.heap.size w w' := by
  have hS1 := ((Sp.none w).more [.int .i64 a, .int .i64 b] 32).more [.int .i64 c, .int .i64 d] 32
  simp only [heap1] at hS1
  have HS1 := Lib.hid hS1
  clear hS1
  generalize Sp.sat (c - b) = s1 at *
  generalize Sp.sat (a - d) = s2 at *
  rcases k with ⟨rfl, rfl⟩ | ⟨rfl, rfl, rfl⟩ | ⟨rfl, rfl, rfl, rfl⟩ | ⟨rfl, rfl, rfl, hb, rfl⟩ | ⟨rfl, rfl, rfl, hb, rfl⟩
  · go_enter Tryd.func29, Tryd.ntmps29
    go_wp2_with fail
    refine (EA.out _).mono ?_; rintro e w2 ⟨rfl, hb2⟩
    have BH := Lib.hid (HS1.out.keep hb2).below
    clear hb2 HS1
    go_wp2_with fail
    go_ret
    exact ⟨rfl, BH.out⟩
  · skip
    go_enter Tryd.func29, Tryd.ntmps29
    go_wp2_with fail
    refine (EA.out _).mono ?_; rintro e w2 ⟨rfl, hb2⟩
    have HS2 := Lib.hid (HS1.out.keep hb2)
    clear hb2 HS1
    have k0 := (HS2.out).at 1 rfl 0 (v := .int .i64 c) rfl
    have k1 := (HS2.out).at 1 rfl 1 (v := .int .i64 d) rfl
    go_wp2_with fail
    refine (EB.out _).mono ?_; rintro e w3 ⟨rfl, hb3⟩
    have HS3 := Lib.hid (HS2.out.keep hb3)
    clear hb3 HS2 k0 k1
    have BH := Lib.hid HS3.out.below
    clear HS3
    go_wp2_with fail
    go_ret
    exact ⟨rfl, BH.out⟩
  · skip
    go_enter Tryd.func29, Tryd.ntmps29
    go_wp2_with fail
    refine (EA.out _).mono ?_; rintro e w2 ⟨rfl, hb2⟩
    have HS2 := Lib.hid (HS1.out.keep hb2)
    clear hb2 HS1
    have k0 := (HS2.out).at 1 rfl 0 (v := .int .i64 c) rfl
    have k1 := (HS2.out).at 1 rfl 1 (v := .int .i64 d) rfl
    go_wp2_with fail
    refine (EB.out _).mono ?_; rintro e w3 ⟨rfl, hb3⟩
    have HS3 := Lib.hid (HS2.out.keep hb3)
    clear hb3 HS2 k0 k1
    have k0 := (HS3.out).at 0 rfl 0 (v := .int .i64 a) rfl
    have k1 := (HS3.out).at 0 rfl 1 (v := .int .i64 b) rfl
    have k2 := (HS3.out).at 1 rfl 0 (v := .int .i64 c) rfl
    have k3 := (HS3.out).at 1 rfl 1 (v := .int .i64 d) rfl
    go_wp2_with fail
    refine (MT.out (by trivial) (by trivial) _).mono ?_; rintro e w4 ⟨rfl, hb4⟩
    have HS4 := Lib.hid (HS3.out.keep hb4)
    clear hb4 HS3 k0 k1 k2 k3
    go_wp2_with fail
    refine (EC.out _).mono ?_; rintro e w5 ⟨rfl, hb5⟩
    have HS5 := Lib.hid (HS4.out.keep hb5)
    clear hb5 HS4
    have BH := Lib.hid HS5.out.below
    clear HS5
    go_wp2_with fail
    go_ret
    exact ⟨rfl, BH.out⟩
  · skip
    go_enter Tryd.func29, Tryd.ntmps29
    go_wp2_with fail
    refine (EA.out _).mono ?_; rintro e w2 ⟨rfl, hb2⟩
    have HS2 := Lib.hid (HS1.out.keep hb2)
    clear hb2 HS1
    have k0 := (HS2.out).at 1 rfl 0 (v := .int .i64 c) rfl
    have k1 := (HS2.out).at 1 rfl 1 (v := .int .i64 d) rfl
    go_wp2_with fail
    refine (EB.out _).mono ?_; rintro e w3 ⟨rfl, hb3⟩
    have HS3 := Lib.hid (HS2.out.keep hb3)
    clear hb3 HS2 k0 k1
    have k0 := (HS3.out).at 0 rfl 0 (v := .int .i64 a) rfl
    have k1 := (HS3.out).at 0 rfl 1 (v := .int .i64 b) rfl
    have k2 := (HS3.out).at 1 rfl 0 (v := .int .i64 c) rfl
    have k3 := (HS3.out).at 1 rfl 1 (v := .int .i64 d) rfl
    go_wp2_with fail
    refine (MT.out (by trivial) (by trivial) _).mono ?_; rintro e w4 ⟨rfl, hb4⟩
    have HS4 := Lib.hid (HS3.out.keep hb4)
    clear hb4 HS3 k0 k1 k2 k3
    go_wp2_with fail
    refine (EC.out _).mono ?_; rintro e w5 ⟨rfl, hb5⟩
    have HS5 := Lib.hid (HS4.out.keep hb5)
    clear hb5 HS4
    have k1 := (HS5.out).at 0 rfl 1 (v := .int .i64 b) rfl
    have k2 := (HS5.out).at 1 rfl 0 (v := .int .i64 c) rfl
    have BH := Lib.hid HS5.out.below
    clear HS5
    go_wp2_with fail
    refine (LA.out _).mono ?_; rintro e w6 ⟨rfl, hb6⟩
    replace BH := Lib.hid (belowT BH.out hb6)
    clear hb6
    go_wp2_with fail
    go_ret
    exact ⟨rfl, BH.out⟩
  · skip
    go_enter Tryd.func29, Tryd.ntmps29
    go_wp2_with fail
    refine (EA.out _).mono ?_; rintro e w2 ⟨rfl, hb2⟩
    have HS2 := Lib.hid (HS1.out.keep hb2)
    clear hb2 HS1
    have k0 := (HS2.out).at 1 rfl 0 (v := .int .i64 c) rfl
    have k1 := (HS2.out).at 1 rfl 1 (v := .int .i64 d) rfl
    go_wp2_with fail
    refine (EB.out _).mono ?_; rintro e w3 ⟨rfl, hb3⟩
    have HS3 := Lib.hid (HS2.out.keep hb3)
    clear hb3 HS2 k0 k1
    have k0 := (HS3.out).at 0 rfl 0 (v := .int .i64 a) rfl
    have k1 := (HS3.out).at 0 rfl 1 (v := .int .i64 b) rfl
    have k2 := (HS3.out).at 1 rfl 0 (v := .int .i64 c) rfl
    have k3 := (HS3.out).at 1 rfl 1 (v := .int .i64 d) rfl
    go_wp2_with fail
    refine (MT.out (by trivial) (by trivial) _).mono ?_; rintro e w4 ⟨rfl, hb4⟩
    have HS4 := Lib.hid (HS3.out.keep hb4)
    clear hb4 HS3 k0 k1 k2 k3
    go_wp2_with fail
    refine (EC.out _).mono ?_; rintro e w5 ⟨rfl, hb5⟩
    have HS5 := Lib.hid (HS4.out.keep hb5)
    clear hb5 HS4
    have k0 := (HS5.out).at 0 rfl 0 (v := .int .i64 a) rfl
    have k1 := (HS5.out).at 0 rfl 1 (v := .int .i64 b) rfl
    have k2 := (HS5.out).at 1 rfl 0 (v := .int .i64 c) rfl
    have k3 := (HS5.out).at 1 rfl 1 (v := .int .i64 d) rfl
    have BH := Lib.hid HS5.out.below
    clear HS5
    go_wp2_with fail
    refine (LB.out _).mono ?_; rintro e w6 ⟨rfl, hb6⟩
    replace BH := Lib.hid (belowT BH.out hb6)
    clear hb6
    go_wp2_with fail
    go_ret
    exact ⟨rfl, BH.out⟩
theorem rGap_any (a b c d : Int) (w : World) (ra : Sp.R6 a) (rb : Sp.R6 b) (rc : Sp.R6 c) (rd : Sp.R6 d) :
    Calls Tryd.prog 29 #[sv a b, sv c d] w fun e w' => e = .returned (.int .i64 (Sp.gap a b c d)) ∧ Below w.heap.size w w' := by
  refine rGap_core a b c d _ _ _ _ _ _ w (Lib.hid (rEmpty_any a b)) (Lib.hid (rEmpty_any c d)) (Lib.hid fun h1 h2 w => rMeet_any a b c d w (of_decide_eq_false h1) (of_decide_eq_false h2)) (Lib.hid (rEmpty_any _ _)) (Lib.hid fun w => rless_any c b w rc rb) (Lib.hid fun w => rless_any a d w ra rd) ?_
  unfold Sp.gap
  by_cases h1 : b < a
  · exact Or.inl ⟨decide_eq_true h1, if_pos h1⟩
  rw [if_neg h1]
  refine Or.inr ?_
  by_cases h2 : d < c
  · exact Or.inl ⟨decide_eq_false h1, decide_eq_true h2, if_pos h2⟩
  rw [if_neg h2]
  refine Or.inr ?_
  by_cases h3 : max a c ≤ min b d
  · exact Or.inl ⟨decide_eq_false h1, decide_eq_false h2, decide_eq_false (by rw [Sp.o_empty]; omega), if_pos h3⟩
  rw [if_neg h3]
  refine Or.inr ?_
  have e3 : decide (Sp.oH (max a c) (min b d) < Sp.oL (max a c) (min b d)) = true := decide_eq_true (by rw [Sp.o_empty]; omega)
  by_cases h4 : b < c
  · exact Or.inl ⟨decide_eq_false h1, decide_eq_false h2, e3, h4, by rw [show max a c - min b d = c - b by omega]⟩
  · exact Or.inr ⟨decide_eq_false h1, decide_eq_false h2, e3, decide_eq_false h4, by rw [show max a c - min b d = a - d by omega]⟩
end Ref4

namespace Obs
def spF (q : Qd) : Nat → Int
  | 0 => 0
  | 1 => sp1 0 q.h0 q.h1
  | 2 => sp1 (sp1 0 q.h0 q.h1) q.h0 q.h2
  | 3 => sp1 (sp1 (sp1 0 q.h0 q.h1) q.h0 q.h2) q.h0 q.h3
  | 4 => sp1 (sp1 (sp1 (sp1 0 q.h0 q.h1) q.h0 q.h2) q.h0 q.h3) q.h1 q.h2
  | 5 => sp1 (sp1 (sp1 (sp1 (sp1 0 q.h0 q.h1) q.h0 q.h2) q.h0 q.h3) q.h1 q.h2) q.h1 q.h3
  | _ => spread q
def spR (q : Qd) : Nat → Int
  | 0 => 0
  | 1 => sp1 0 q.h1 q.h0
  | 2 => sp1 (sp1 0 q.h1 q.h0) q.h2 q.h0
  | 3 => sp1 (sp1 (sp1 0 q.h1 q.h0) q.h2 q.h0) q.h2 q.h1
  | 4 => sp1 (sp1 (sp1 (sp1 0 q.h1 q.h0) q.h2 q.h0) q.h2 q.h1) q.h3 q.h0
  | 5 => sp1 (sp1 (sp1 (sp1 (sp1 0 q.h1 q.h0) q.h2 q.h0) q.h2 q.h1) q.h3 q.h0) q.h3 q.h1
  | _ => spreadR q
def gF (q : Qd) : Nat → Int
  | 0 => Sp.gap q.h0.vL q.h0.vH q.h1.vL q.h1.vH
  | 1 => Sp.gap q.h0.vL q.h0.vH q.h2.vL q.h2.vH
  | 2 => Sp.gap q.h0.vL q.h0.vH q.h3.vL q.h3.vH
  | 3 => Sp.gap q.h1.vL q.h1.vH q.h2.vL q.h2.vH
  | 4 => Sp.gap q.h1.vL q.h1.vH q.h3.vL q.h3.vH
  | _ => Sp.gap q.h2.vL q.h2.vH q.h3.vL q.h3.vH
def gR (q : Qd) : Nat → Int
  | 0 => Sp.gap q.h1.vL q.h1.vH q.h0.vL q.h0.vH
  | 1 => Sp.gap q.h2.vL q.h2.vH q.h0.vL q.h0.vH
  | 2 => Sp.gap q.h2.vL q.h2.vH q.h1.vL q.h1.vH
  | 3 => Sp.gap q.h3.vL q.h3.vH q.h0.vL q.h0.vH
  | 4 => Sp.gap q.h3.vL q.h3.vH q.h1.vL q.h1.vH
  | _ => Sp.gap q.h3.vL q.h3.vH q.h2.vL q.h2.vH
theorem sp1_in {f : Int} {o p : Ob} (h : o.ref = false) (k : p.ref = false) : max f (Sp.gap o.vL o.vH p.vL p.vH) = sp1 f o p := (if_pos ⟨h, k⟩).symm
theorem sp1_a {f : Int} {o p : Ob} (h : o.ref = true) : sp1 f o p = f := if_neg (by rw [h]; simp)
theorem sp1_b {f : Int} {o p : Ob} (h : p.ref = true) : sp1 f o p = f := if_neg (by rw [h]; simp)
end Obs
theorem TSpread_any (q : Qd) (w : World) (n : NoneAt w) (k : QR q) :
    Calls Tryd.prog 18 #[qv q] w fun e w' => e = .returned (.int .i64 (spread q)) ∧ Below w.heap.size w w' :=
  TSpread_core q (spF q) (gF q) w (Lib.hid (index_q q)) (Lib.hid rfl) (Lib.hid fun w' B => sGap _ _ _ _ w' (n.keep B) k.h0.vL k.h0.vH k.h1.vL k.h1.vH) (Lib.hid fun h1 h2 => sp1_in h1 h2) (Lib.hid fun h => sp1_a h) (Lib.hid fun h => sp1_b h)
    (Lib.hid fun w' B => sGap _ _ _ _ w' (n.keep B) k.h0.vL k.h0.vH k.h2.vL k.h2.vH) (Lib.hid fun h1 h2 => sp1_in h1 h2) (Lib.hid fun h => sp1_a h) (Lib.hid fun h => sp1_b h)
    (Lib.hid fun w' B => sGap _ _ _ _ w' (n.keep B) k.h0.vL k.h0.vH k.h3.vL k.h3.vH) (Lib.hid fun h1 h2 => sp1_in h1 h2) (Lib.hid fun h => sp1_a h) (Lib.hid fun h => sp1_b h)
    (Lib.hid fun w' B => sGap _ _ _ _ w' (n.keep B) k.h1.vL k.h1.vH k.h2.vL k.h2.vH) (Lib.hid fun h1 h2 => sp1_in h1 h2) (Lib.hid fun h => sp1_a h) (Lib.hid fun h => sp1_b h)
    (Lib.hid fun w' B => sGap _ _ _ _ w' (n.keep B) k.h1.vL k.h1.vH k.h3.vL k.h3.vH) (Lib.hid fun h1 h2 => sp1_in h1 h2) (Lib.hid fun h => sp1_a h) (Lib.hid fun h => sp1_b h)
    (Lib.hid fun w' B => sGap _ _ _ _ w' (n.keep B) k.h2.vL k.h2.vH k.h3.vL k.h3.vH) (Lib.hid fun h1 h2 => sp1_in h1 h2) (Lib.hid fun h => sp1_a h) (Lib.hid fun h => sp1_b h)
   
theorem RSpread_any (q : Qd) (w : World) (k : QR q) :
    Calls Tryd.prog 19 #[qv q] w fun e w' => e = .returned (.int .i64 (spread q)) ∧ Below w.heap.size w w' := by
  rw [← spread_same]
  exact RSpread_core q (spR q) (gR q) w (Lib.hid (index_q q)) (Lib.hid rfl) (Lib.hid fun w' B => Ref4.rGap_any _ _ _ _ w' k.h1.vL k.h1.vH k.h0.vL k.h0.vH) (Lib.hid fun h1 h2 => sp1_in h1 h2) (Lib.hid fun h => sp1_a h) (Lib.hid fun h => sp1_b h)
    (Lib.hid fun w' B => Ref4.rGap_any _ _ _ _ w' k.h2.vL k.h2.vH k.h0.vL k.h0.vH) (Lib.hid fun h1 h2 => sp1_in h1 h2) (Lib.hid fun h => sp1_a h) (Lib.hid fun h => sp1_b h)
    (Lib.hid fun w' B => Ref4.rGap_any _ _ _ _ w' k.h2.vL k.h2.vH k.h1.vL k.h1.vH) (Lib.hid fun h1 h2 => sp1_in h1 h2) (Lib.hid fun h => sp1_a h) (Lib.hid fun h => sp1_b h)
    (Lib.hid fun w' B => Ref4.rGap_any _ _ _ _ w' k.h3.vL k.h3.vH k.h0.vL k.h0.vH) (Lib.hid fun h1 h2 => sp1_in h1 h2) (Lib.hid fun h => sp1_a h) (Lib.hid fun h => sp1_b h)
    (Lib.hid fun w' B => Ref4.rGap_any _ _ _ _ w' k.h3.vL k.h3.vH k.h1.vL k.h1.vH) (Lib.hid fun h1 h2 => sp1_in h1 h2) (Lib.hid fun h => sp1_a h) (Lib.hid fun h => sp1_b h)
    (Lib.hid fun w' B => Ref4.rGap_any _ _ _ _ w' k.h3.vL k.h3.vH k.h2.vL k.h2.vH) (Lib.hid fun h1 h2 => sp1_in h1 h2) (Lib.hid fun h => sp1_a h) (Lib.hid fun h => sp1_b h)
   

end Go.Proofs.YthhameambcplhaaDoor
