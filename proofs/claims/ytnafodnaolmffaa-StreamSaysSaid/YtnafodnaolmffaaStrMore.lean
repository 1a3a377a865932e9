/- Splitting, plain: piece by piece; frames behind noise; the laws' own cases. -/
import Derived.Test.YtnafodnaolmffaaStrOwn
namespace Go.Proofs.Ytnafodnaolmffaa
open Go.RowKit

theorem split_piece {A b : List UInt8} {G : List Fr} {n k : Nat} (h : splitF A = (G, n, k)) :
    splitF (A ++ b) = (G ++ (splitF (A.drop n ++ b)).1, n + (splitF (A.drop n ++ b)).2.1, k + (splitF (A.drop n ++ b)).2.2) ∧
    (A ++ b).drop (n + (splitF (A.drop n ++ b)).2.1) = (A.drop n ++ b).drop (splitF (A.drop n ++ b)).2.1 := by
  have h1 := split_app A.length A b (Nat.le_refl _)
  have h2 := (split_end A.length A (Nat.le_refl _)).1
  rw [h] at h1 h2
  simp only at h1 h2
  refine ⟨h1, ?_⟩
  rw [← List.drop_drop, List.drop_append_of_le_length h2]

theorem begins_not {x : UInt8} {l : List UInt8} (h : x ≠ 165) : beginsF (x :: l) = false := by
  have : (x == 165) = false := beq_eq_false_iff_ne.2 h
  unfold beginsF
  simp [this]
theorem may_not {x : UInt8} {l : List UInt8} (h : x ≠ 165) : mayF (x :: l) = false := by
  unfold mayF
  split
  · exact beq_eq_false_iff_ne.2 h
  · exact begins_not h
theorem split_noise (n m : List UInt8) (h : ∀ x ∈ n, x ≠ 165) : splitF (n ++ m) = ((splitF m).1, n.length + (splitF m).2.1, n.length + (splitF m).2.2) := by
  induction n with
  | nil => simp
  | cons x n ih =>
    have hx := h x (List.mem_cons_self ..)
    rw [List.cons_append, split_lost (by simp) (by unfold stopF; rw [may_not hx, Bool.and_false]) (read_begins (begins_not hx))]
    have e : (x :: (n ++ m)).drop 1 = n ++ m := rfl
    rw [e, ih (fun y hy => h y (List.mem_cons_of_mem _ hy))]
    simp only [List.length_cons, Prod.mk.injEq]
    exact ⟨trivial, by omega, by omega⟩
theorem split_one (f : Fr) (m : List UInt8) (h : rightF f = true) : splitF (frameF f ++ m) = (f :: (splitF m).1, (splitF m).2.1 + 11, (splitF m).2.2) := by
  have hl := frame_length f
  have hr : readF (frameF f ++ m) = (f, 0) := read_frame f m h
  have h0 : frameF f ++ m ≠ [] := by
    intro e
    have k := congrArg List.length e
    rw [List.length_append, hl, List.length_nil] at k
    omega
  have hd : (frameF f ++ m).drop 11 = m := by rw [← hl, List.drop_left]
  rw [split_frame h0 (stop_long (by rw [List.length_append]; omega)) (by rw [hr]), hr, hd]
/-- all frames that are right, as bytes -/
theorem split_many (l : List Fr) : splitF (manyF l).1 = (l.filter rightF, (manyF l).1.length, 0) := by
  induction l with
  | nil => rw [manyF, split_nil]; rfl
  | cons f l ih =>
    rw [manyF]
    by_cases h : rightF f = true
    · rw [if_pos h]
      simp only
      rw [split_one f _ h, ih, List.filter_cons, if_pos h, List.length_append, frame_length]
      simp only [Prod.mk.injEq]
      exact ⟨trivial, by omega, trivial⟩
    · rw [if_neg h, List.filter_cons, if_neg h]
      exact ih

/-- the laws' own frame -/
def someF : Fr := ⟨3, 7, true, -2⟩
theorem some_right : rightF someF = true := by decide
theorem some_frame : ∃ x y, frameF someF = [165, 90, 3, 7, 1, 255, 255, 255, 254, x, y] := ⟨_, _, rfl⟩
theorem split_a5 : splitF [165] = ([], 0, 0) := split_stop (by simp) (by decide)
theorem split_awake : splitF ([1, 2] ++ frameF someF ++ [165]) = ([someF], 13, 2) := by
  rw [List.append_assoc, split_noise [1, 2] _ (by decide), split_one _ _ some_right, split_a5]
  rfl
theorem split_feed : splitF (frameF someF) = ([someF], 11, 0) := by
  have h := split_one someF [] some_right
  rw [List.append_nil, split_nil] at h
  exact h
theorem split_two : splitF [165, 1] = ([], 2, 2) := by
  rw [split_lost (by simp) (by decide) (read_short (by decide))]
  have e : ([165, 1] : List UInt8).drop 1 = [1] := rfl
  have h := split_noise [1] [] (by decide)
  rw [List.append_nil, split_nil] at h
  rw [e, h]
  rfl
end Go.Proofs.Ytnafodnaolmffaa
