/- What a kernel is: plain mathematics. -/
import Derived.Test.YtjdpcmcekockgaaMatKer
import Derived.Test.YtjdpcmcekockgaaMatMath
namespace Go.Proofs.Ytjdpcmcekockgaa
theorem if_ne {x r : V3} (h : r ≠ V3.zero) : (if x ≠ V3.zero then x else r) ≠ V3.zero := by
  by_cases g : x ≠ V3.zero
  · rw [if_pos g]; exact g
  · rw [if_neg g]; exact h
theorem kernel_ne (m : M3) : m.kernel ≠ V3.zero := if_ne (if_ne (if_ne (if_ne (if_ne (if_ne (if_ne (if_ne (if_ne (if_ne (if_ne (if_ne (by decide))))))))))))
theorem zero_at {v : V3} (h : ¬ v ≠ V3.zero) : v.x = 0 ∧ v.y = 0 ∧ v.z = 0 := by
  have e : v = V3.zero := Classical.byContradiction fun g => h g
  rw [e]; exact ⟨rfl, rfl, rfl⟩
theorem times_ab (m : M3) : m.times (m.a.cross m.b) = ⟨0, 0, m.det⟩ := by
  apply v3_ext <;> simp only [M3.times, M3.det, V3.dot, V3.cross] <;> grind
theorem times_ac (m : M3) : m.times (m.a.cross m.c) = ⟨0, -m.det, 0⟩ := by
  apply v3_ext <;> simp only [M3.times, M3.det, V3.dot, V3.cross] <;> grind
theorem times_bc (m : M3) : m.times (m.b.cross m.c) = ⟨m.det, 0, 0⟩ := by
  apply v3_ext <;> simp only [M3.times, M3.det, V3.dot, V3.cross] <;> grind
theorem cross_times (m : M3) (hd : m.det = 0) : m.times (m.a.cross m.b) = V3.zero ∧ m.times (m.a.cross m.c) = V3.zero ∧ m.times (m.b.cross m.c) = V3.zero := by
  rw [times_ab, times_ac, times_bc, hd]
  decide
theorem dot_cross (b a u : V3) : b.dot (a.cross u) = -(u.dot (a.cross b)) := by
  simp only [V3.dot, V3.cross]; grind
theorem cross_self (a : V3) : a.cross a = V3.zero := by
  apply v3_ext <;> simp only [V3.cross, V3.zero] <;> grind
theorem cross_swap (a b : V3) : b.cross a = ⟨-(a.cross b).x, -(a.cross b).y, -(a.cross b).z⟩ := by
  apply v3_ext <;> simp only [V3.cross] <;> grind
theorem cross_back {a b : V3} (h : a.cross b = V3.zero) : b.cross a = V3.zero := by rw [cross_swap, h]; decide
theorem dot_zero (u : V3) : -(u.dot V3.zero) = 0 := by
  simp only [V3.dot, V3.zero]; grind
theorem line_times (m : M3) (u r : V3) (hr : r = m.a ∨ r = m.b ∨ r = m.c) (h0 : ¬ m.a.cross m.b ≠ V3.zero) (h1 : ¬ m.a.cross m.c ≠ V3.zero) (h2 : ¬ m.b.cross m.c ≠ V3.zero) : m.times (r.cross u) = V3.zero := by
  have e0 : m.a.cross m.b = V3.zero := Classical.byContradiction fun g => h0 g
  have e1 : m.a.cross m.c = V3.zero := Classical.byContradiction fun g => h1 g
  have e2 : m.b.cross m.c = V3.zero := Classical.byContradiction fun g => h2 g
  have key : ∀ q, (q = m.a ∨ q = m.b ∨ q = m.c) → r.cross q = V3.zero := by
    rcases hr with rfl | rfl | rfl
    · rintro q (rfl | rfl | rfl)
      · exact cross_self _
      · exact e0
      · exact e1
    · rintro q (rfl | rfl | rfl)
      · exact cross_back e0
      · exact cross_self _
      · exact e2
    · rintro q (rfl | rfl | rfl)
      · exact cross_back e1
      · exact cross_back e2
      · exact cross_self _
  have d : ∀ q, (q = m.a ∨ q = m.b ∨ q = m.c) → q.dot (r.cross u) = 0 := fun q hq => by rw [dot_cross, key q hq, dot_zero]
  apply v3_ext
  · exact d _ (Or.inl rfl)
  · exact d _ (Or.inr (Or.inl rfl))
  · exact d _ (Or.inr (Or.inr rfl))
theorem one_vals : V3.one 0 = ⟨1, 0, 0⟩ ∧ V3.one 1 = ⟨0, 1, 0⟩ ∧ V3.one 2 = ⟨0, 0, 1⟩ := by decide
theorem row_zero (r : V3) (h0 : ¬ r.cross (V3.one 0) ≠ V3.zero) (h1 : ¬ r.cross (V3.one 1) ≠ V3.zero) : r.x = 0 ∧ r.y = 0 ∧ r.z = 0 := by
  obtain ⟨a0, a1, a2⟩ := zero_at h0
  obtain ⟨b0, b1, b2⟩ := zero_at h1
  rw [one_vals.1] at a0 a1 a2
  rw [one_vals.2.1] at b0 b1 b2
  simp only [V3.cross] at a0 a1 a2 b0 b1 b2
  refine ⟨?_, ?_, ?_⟩ <;> grind
theorem if_el {P : V3 → Prop} {x r : V3} (h1 : P x) (h2 : ¬ x ≠ V3.zero → P r) : P (if x ≠ V3.zero then x else r) := by
  by_cases g : x ≠ V3.zero
  · rw [if_pos g]; exact h1
  · rw [if_neg g]; exact h2 g
theorem kernel_times (m : M3) (hd : m.det = 0) : m.times m.kernel = V3.zero := by
  obtain ⟨e0, e1, e2⟩ := cross_times m hd
  refine if_el (P := fun v => m.times v = V3.zero) e0 fun h0 => if_el (P := fun v => m.times v = V3.zero) e1 fun h1 => if_el (P := fun v => m.times v = V3.zero) e2 fun h2 => ?_
  have L := fun u r hr => line_times m u r hr h0 h1 h2
  refine if_el (P := fun v => m.times v = V3.zero) (L _ _ (Or.inl rfl)) fun a0 => if_el (P := fun v => m.times v = V3.zero) (L _ _ (Or.inl rfl)) fun a1 => if_el (P := fun v => m.times v = V3.zero) (L _ _ (Or.inl rfl)) fun _ => ?_
  refine if_el (P := fun v => m.times v = V3.zero) (L _ _ (Or.inr (Or.inl rfl))) fun b0 => if_el (P := fun v => m.times v = V3.zero) (L _ _ (Or.inr (Or.inl rfl))) fun b1 => if_el (P := fun v => m.times v = V3.zero) (L _ _ (Or.inr (Or.inl rfl))) fun _ => ?_
  refine if_el (P := fun v => m.times v = V3.zero) (L _ _ (Or.inr (Or.inr rfl))) fun c0 => if_el (P := fun v => m.times v = V3.zero) (L _ _ (Or.inr (Or.inr rfl))) fun c1 => if_el (P := fun v => m.times v = V3.zero) (L _ _ (Or.inr (Or.inr rfl))) fun _ => ?_
  obtain ⟨x0, x1, x2⟩ := row_zero _ a0 a1
  obtain ⟨y0, y1, y2⟩ := row_zero _ b0 b1
  obtain ⟨z0, z1, z2⟩ := row_zero _ c0 c1
  rw [one_vals.1]
  apply v3_ext <;> simp only [M3.times, V3.dot, V3.zero, x0, x1, x2, y0, y1, y2, z0, z1, z2] <;> decide
theorem rank_lt (m : M3) : decide (m.rank < 3) = decide (m.det = 0) := by
  unfold M3.rank
  by_cases h : m.det = 0
  · rw [if_neg (fun g => g h), decide_eq_true h]
    repeat' split
    all_goals decide
  · rw [if_pos h, decide_eq_false h]; decide
end Go.Proofs.Ytjdpcmcekockgaa
