/- Sums, differences, products and squares of spans, as plain integers: a number's is in the span's. No program is named here. -/
import Derived.Test.YtdembidbaojldaaDoorSpanNum
namespace Go.Proofs.YtdembidbaojldaaDoor.Sp

theorem has_iff {l h x : Int} : has l h x = true ↔ l ≤ x ∧ x ≤ h := by unfold has; exact decide_eq_true_iff

/-- a span that is answered, of two that have numbers -/
theorem has_sel {a b c d l h x y z : Int} (p : has a b x = true) (q : has c d y = true) (k : l ≤ z ∧ z ≤ h) : has (sel a b c d 1 (oL l h)) (sel a b c d 0 (oH l h)) z = true := by
  rw [has_iff] at p q
  rw [sel_in (by omega) (by omega), sel_in (by omega) (by omega), has_o, has_iff]
  exact k

theorem add_has {a b c d x y : Int} (p : has a b x = true) (q : has c d y = true) (r : R6 (x + y)) : sat (a + c) ≤ x + y ∧ x + y ≤ sat (b + d) := by
  rw [has_iff] at p q
  exact ⟨sat_le r (by omega), le_sat r (by omega)⟩
theorem sub_has {a b c d x y : Int} (p : has a b x = true) (q : has c d y = true) (r : R6 (x - y)) : sat (a - d) ≤ x - y ∧ x - y ≤ sat (b - c) := by
  rw [has_iff] at p q
  exact ⟨sat_le r (by omega), le_sat r (by omega)⟩

theorem sat_min (x y : Int) : min (sat x) (sat y) = sat (min x y) := by
  rcases Int.le_total x y with h | h
  · have := sat_mono h
    rw [Int.min_def, Int.min_def, if_pos h, if_pos this]
  · have := sat_mono h
    by_cases e : x = y
    · subst e; rw [Int.min_def, Int.min_def]; simp
    · have g : min x y = y := by omega
      rw [g]; omega
theorem sat_max (x y : Int) : max (sat x) (sat y) = sat (max x y) := by
  rcases Int.le_total x y with h | h
  · have := sat_mono h
    have g : max x y = y := by omega
    rw [g]; omega
  · have := sat_mono h
    have g : max x y = x := by omega
    rw [g]; omega

theorem mul_has {a b c d x y : Int} (p : has a b x = true) (q : has c d y = true) (r : R6 (x * y)) : mulL a b c d ≤ x * y ∧ x * y ≤ mulH a b c d := by
  rw [has_iff] at p q
  have m := mul_span p.1 p.2 q.1 q.2
  unfold mulL mulH
  rw [sat_min, sat_min, sat_min, sat_max, sat_max, sat_max]
  exact ⟨sat_le r (by omega), le_sat r (by omega)⟩

theorem sq_has {a b x : Int} (p : has a b x = true) (r : R6 (x * x)) : sqL a b ≤ x * x ∧ x * x ≤ sqH a b := by
  rw [has_iff] at p
  have m := square_span p.1 p.2
  unfold sqL sqH
  rw [sat_min, sat_max]
  refine ⟨?_, le_sat r m.2⟩
  have z : has a b 0 = true ↔ a ≤ 0 ∧ 0 ≤ b := has_iff
  by_cases k : a ≤ 0 ∧ 0 ≤ b
  · rw [if_pos (z.2 k)]
    rw [if_pos k] at m
    exact m.1
  · rw [if_neg (fun e => k (z.1 e))]
    rw [if_neg k] at m
    exact sat_le r m.1

theorem quot_has {a b d n : Int} (hd : 0 < d) : has (oL (up a d) (b / d)) (oH (up a d) (b / d)) n = has a b (n * d) := by
  rw [has_o]
  unfold has
  rw [decide_eq_decide]
  exact (quot_span hd).symm

end Go.Proofs.YtdembidbaojldaaDoor.Sp
