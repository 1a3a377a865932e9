/- Sums, differences, products and squares of spans, as plain integers: a number's is in the span's. No program is named here. -/
import Derived.Test.YtdembidbaojldaaDoorSpanNum
namespace Go.Proofs.YtdembidbaojldaaDoor.Sp

theorem has_iff {l h x : Int} : has l h x = true ↔ l ≤ x ∧ x ≤ h := by unfold has; exact decide_eq_true_iff

/-- a span that is answered, of two that have numbers -/
theorem has_sel {a b c d l h x y z : Int} (p : has a b x = true) (q : has c d y = true) (k : l ≤ z ∧ z ≤ h) : has (sel a b c d 1 (oL l h)) (sel a b c d 0 (oH l h)) z = true := by
  rw [has_iff] at p q
  rw [sel_in (by omega) (by omega), sel_in (by omega) (by omega), has_o, has_iff]
  exact k

theorem add_has {a b c d x y : Int} (p : has a b x = true) (q : has c d y = true) (r : R6 (x + y)) : sat (a + c) ≤ x + y ∧ x + y ≤ sat (b + d) := by
  rw [has_iff] at p q
  exact ⟨sat_le r (by omega), le_sat r (by omega)⟩
theorem sub_has {a b c d x y : Int} (p : has a b x = true) (q : has c d y = true) (r : R6 (x - y)) : sat (a - d) ≤ x - y ∧ x - y ≤ sat (b - c) := by
  rw [has_iff] at p q
  exact ⟨sat_le r (by omega), le_sat r (by omega)⟩

theorem sat_min (x y : Int) : min (sat x) (sat y) = sat (min x y) := by
  rcases Int.le_total x y with h | h
  · have := sat_mono h
    rw [Int.min_def, Int.min_def, if_pos h, if_pos this]
  · have := sat_mono h
    by_cases e : x = y
    · subst e; rw [Int.min_def, Int.min_def]; simp
    · have g : min x y = y := by omega
      rw [g]; omega
theorem sat_max (x y : Int) : max (sat x) (sat y) = sat (max x y) := by
  rcases Int.le_total x y with h | h
  · have := sat_mono h
    have g : max x y = y := by omega
    rw [g]; omega
  · have := sat_mono h
    have g : max x y = x := by omega
    rw [g]; omega

theorem mul_has {a b c d x y : Int} (p : has a b x = true) (q : has c d y = true) (r : R6 (x * y)) : mulL a b c d ≤ x * y ∧ x * y ≤ mulH a b c d := by
  rw [has_iff] at p q
  have m := mul_span p.1 p.2 q.1 q.2
  unfold mulL mulH
  rw [sat_min, sat_min, sat_min, sat_max, sat_max, sat_max]
  exact ⟨sat_le r (by omega), le_sat r (by omega)⟩

theorem sq_has {a b x : Int} (p : has a b x = true) (r : R6 (x * x)) : sqL a b ≤ x * x ∧ x * x ≤ sqH a b := by
  rw [has_iff] at p
  have m := square_span p.1 p.2
  unfold sqL sqH
  rw [sat_min, sat_max]
  refine ⟨?_, le_sat r m.2⟩
  have z : has a b 0 = true ↔ a ≤ 0 ∧ 0 ≤ b := has_iff
  by_cases k : a ≤ 0 ∧ 0 ≤ b
  · rw [if_pos (z.2 k)]
    rw [if_pos k] at m
    exact m.1
  · rw [if_neg (fun e => k (z.1 e))]
    rw [if_neg k] at m
    exact sat_le r m.1

theorem quot_has {a b d n : Int} (hd : 0 < d) : has (oL (up a d) (b / d)) (oH (up a d) (b / d)) n = has a b (n * d) := by
  rw [has_o]
  unfold has
  rw [decide_eq_decide]
  exact (quot_span hd).symm

/-- a number is met just if both have it; a hull has what either has -/
theorem meet_hull (a b c d x : Int) :
    has a b x = true ∧ has c d x = true ∧ has (oL (max a c) (min b d)) (oH (max a c) (min b d)) x = true ∧ has (hullL a b c d) (hullH a b c d) x = true
    ∨ has a b x = true ∧ has c d x = false ∧ has (oL (max a c) (min b d)) (oH (max a c) (min b d)) x = false ∧ has (hullL a b c d) (hullH a b c d) x = true
    ∨ has a b x = false ∧ has c d x = true ∧ has (oL (max a c) (min b d)) (oH (max a c) (min b d)) x = false ∧ has (hullL a b c d) (hullH a b c d) x = true
    ∨ has a b x = false ∧ has c d x = false ∧ has (oL (max a c) (min b d)) (oH (max a c) (min b d)) x = false := by
  rw [has_o]
  have hull : has a b x = true ∨ has c d x = true → has (hullL a b c d) (hullH a b c d) x = true := by
    intro h
    rw [has_iff, has_iff] at h
    unfold hullL hullH
    by_cases h1 : b < a
    · rw [if_pos h1, if_pos h1, has_iff]; omega
    rw [if_neg h1, if_neg h1]
    by_cases h2 : d < c
    · rw [if_pos h2, if_pos h2, has_iff]; omega
    rw [if_neg h2, if_neg h2, has_o, has_iff]; omega
  have meet : has (max a c) (min b d) x = (has a b x && has c d x) := by
    rw [Bool.eq_iff_iff, Bool.and_eq_true, has_iff, has_iff, has_iff]; omega
  rw [meet]
  cases p : has a b x <;> cases q : has c d x
  · exact Or.inr (Or.inr (Or.inr ⟨rfl, rfl, rfl⟩))
  · exact Or.inr (Or.inr (Or.inl ⟨rfl, rfl, rfl, hull (Or.inr q)⟩))
  · exact Or.inr (Or.inl ⟨rfl, rfl, rfl, hull (Or.inl p)⟩)
  · exact Or.inl ⟨rfl, rfl, rfl, hull (Or.inl p)⟩

theorem cases_of {p q : Bool} (h : p = true ∨ q = true) : p = true ∨ p = false ∧ q = true := by cases p <;> cases q <;> simp_all

/-- a hull's ends are of either; it is empty only where both are -/
theorem hull_ends (a b c d : Int) :
    decide (hullH a b c d < hullL a b c d) = true ∧ decide (b < a) = true ∧ decide (d < c) = true ∧ decide (oH (max a c) (min b d) < oL (max a c) (min b d)) = true
    ∨ decide (hullH a b c d < hullL a b c d) = false ∧ (has a b (hullL a b c d) = true ∨ has a b (hullL a b c d) = false ∧ has c d (hullL a b c d) = true) ∧ (has a b (hullH a b c d) = true ∨ has a b (hullH a b c d) = false ∧ has c d (hullH a b c d) = true) := by
  unfold hullL hullH
  by_cases h1 : b < a
  · rw [if_pos h1, if_pos h1]
    by_cases h2 : d < c
    · exact Or.inl ⟨decide_eq_true h2, decide_eq_true h1, decide_eq_true h2, decide_eq_true (o_empty.2 (by omega))⟩
    · exact Or.inr ⟨decide_eq_false h2, cases_of (Or.inr (has_iff.2 (by omega))), cases_of (Or.inr (has_iff.2 (by omega)))⟩
  rw [if_neg h1, if_neg h1]
  by_cases h2 : d < c
  · rw [if_pos h2, if_pos h2]
    exact Or.inr ⟨decide_eq_false h1, cases_of (Or.inl (has_iff.2 (by omega))), cases_of (Or.inl (has_iff.2 (by omega)))⟩
  rw [if_neg h2, if_neg h2, oL_in (by omega), oH_in (by omega)]
  refine Or.inr ⟨decide_eq_false (by omega), cases_of ?_, cases_of ?_⟩
  · rw [has_iff, has_iff]; omega
  · rw [has_iff, has_iff]; omega

end Go.Proofs.YtdembidbaojldaaDoor.Sp
