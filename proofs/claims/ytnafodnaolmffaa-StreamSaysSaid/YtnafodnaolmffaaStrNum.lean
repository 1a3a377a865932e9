/- Frames among bytes, plain: what Split, Feed, Many tell. -/
import Derived.Test.YtnafodnaolmffaaFrmB
namespace Go.Proofs.Ytnafodnaolmffaa
open Go.RowKit

def mayF (l : List UInt8) : Bool := if l.length = 1 then l.getD 0 0 == 165 else beginsF l
def stopF (l : List UInt8) : Bool := decide (l.length < 11) && mayF l
/-- all frames, where it ended, how many bytes were lost -/
def splitF (l : List UInt8) : List Fr × Nat × Nat :=
  if _h : l = [] then ([], 0, 0)
  else if stopF l = true then ([], 0, 0)
  else if (readF l).2 = 0 then ((readF l).1 :: (splitF (l.drop 11)).1, (splitF (l.drop 11)).2.1 + 11, (splitF (l.drop 11)).2.2)
  else ((splitF (l.drop 1)).1, (splitF (l.drop 1)).2.1 + 1, (splitF (l.drop 1)).2.2 + 1)
termination_by l.length
decreasing_by all_goals (have : 0 < l.length := List.length_pos_iff.2 _h; rw [List.length_drop]; omega)

theorem split_nil : splitF [] = ([], 0, 0) := by rw [splitF, dif_pos rfl]
theorem split_stop {l : List UInt8} (h0 : l ≠ []) (h : stopF l = true) : splitF l = ([], 0, 0) := by rw [splitF, dif_neg h0, if_pos h]
theorem split_frame {l : List UInt8} (h0 : l ≠ []) (h : stopF l = false) (hr : (readF l).2 = 0) : splitF l = ((readF l).1 :: (splitF (l.drop 11)).1, (splitF (l.drop 11)).2.1 + 11, (splitF (l.drop 11)).2.2) := by
  rw [splitF, dif_neg h0, if_neg (by rw [h]; simp), if_pos hr]
theorem split_lost {l : List UInt8} (h0 : l ≠ []) (h : stopF l = false) (hr : (readF l).2 ≠ 0) : splitF l = ((splitF (l.drop 1)).1, (splitF (l.drop 1)).2.1 + 1, (splitF (l.drop 1)).2.2 + 1) := by
  rw [splitF, dif_neg h0, if_neg (by rw [h]; simp), if_neg hr]

/-- only the first eleven bytes count -/
theorem begins_app (l m : List UInt8) (h : 2 ≤ l.length) : beginsF (l ++ m) = beginsF l := by
  match l, h with
  | a :: b :: l, _ => unfold beginsF; simp
theorem read_app (l m : List UInt8) (h : 11 ≤ l.length) : readF (l ++ m) = readF l := by
  obtain ⟨c0, c1, c2, c3, c4, c5, c6, c7, c8, c9, c10, r, rfl⟩ := eleven l h
  unfold readF
  rw [begins_app _ _ (by simp)]
  have e1 : (((c0 :: c1 :: c2 :: c3 :: c4 :: c5 :: c6 :: c7 :: c8 :: c9 :: c10 :: r) ++ m).drop 2).take 9 = ((c0 :: c1 :: c2 :: c3 :: c4 :: c5 :: c6 :: c7 :: c8 :: c9 :: c10 :: r).drop 2).take 9 := rfl
  have e2 : ofBytes ((c0 :: c1 :: c2 :: c3 :: c4 :: c5 :: c6 :: c7 :: c8 :: c9 :: c10 :: r) ++ m) = ofBytes (c0 :: c1 :: c2 :: c3 :: c4 :: c5 :: c6 :: c7 :: c8 :: c9 :: c10 :: r) := rfl
  have e3 : ((c0 :: c1 :: c2 :: c3 :: c4 :: c5 :: c6 :: c7 :: c8 :: c9 :: c10 :: r) ++ m).getD 4 0 = (c0 :: c1 :: c2 :: c3 :: c4 :: c5 :: c6 :: c7 :: c8 :: c9 :: c10 :: r).getD 4 0 := rfl
  have n1 : ¬ ((c0 :: c1 :: c2 :: c3 :: c4 :: c5 :: c6 :: c7 :: c8 :: c9 :: c10 :: r) ++ m).length < 11 := by rw [List.length_append]; omega
  have n2 : ¬ (c0 :: c1 :: c2 :: c3 :: c4 :: c5 :: c6 :: c7 :: c8 :: c9 :: c10 :: r).length < 11 := by omega
  rw [e1, e2, e3, if_neg n1, if_neg n2]
theorem read_begins {l : List UInt8} (h : beginsF l = false) : (readF l).2 ≠ 0 := by
  unfold readF
  by_cases h1 : l.length < 11
  · rw [if_pos h1]; decide
  · rw [if_neg h1, if_pos h]; decide
theorem read_short {l : List UInt8} (h : l.length < 11) : (readF l).2 ≠ 0 := by
  unfold readF
  rw [if_pos h]; decide
theorem read_room {l : List UInt8} (h : (readF l).2 = 0) : 11 ≤ l.length := by
  by_cases k : l.length < 11
  · exact absurd h (read_short k)
  · omega
theorem stop_long {l : List UInt8} (h : 11 ≤ l.length) : stopF l = false := by
  unfold stopF
  rw [decide_eq_false (by omega)]; rfl

/-- what is lost ahead of more bytes is lost with them -/
theorem lost_app (l m : List UInt8) (h0 : l ≠ []) (h : stopF l = false) (hr : (readF l).2 ≠ 0) : stopF (l ++ m) = false ∧ (readF (l ++ m)).2 ≠ 0 := by
  by_cases h11 : 11 ≤ l.length
  · exact ⟨stop_long (by rw [List.length_append]; omega), by rw [read_app l m h11]; exact hr⟩
  · unfold stopF at h
    rw [decide_eq_true (by omega), Bool.true_and] at h
    by_cases hm : m = []
    · subst hm
      rw [List.append_nil]
      exact ⟨by unfold stopF; rw [decide_eq_true (by omega), Bool.true_and]; exact h, hr⟩
    have hml : 0 < m.length := List.length_pos_iff.2 hm
    have hb : beginsF (l ++ m) = false := by
      by_cases h1 : l.length = 1
      · unfold mayF at h
        rw [if_pos h1] at h
        match l, h1 with
        | [a], _ =>
          have ha : (a == 165) = false := h
          unfold beginsF
          simp [ha]
      · unfold mayF at h
        rw [if_neg h1] at h
        rw [begins_app l m (by have := List.length_pos_iff.2 h0; omega)]
        exact h
    refine ⟨?_, read_begins hb⟩
    unfold stopF mayF
    rw [if_neg (by rw [List.length_append]; have := List.length_pos_iff.2 h0; omega), hb, Bool.and_false]

theorem split_app : ∀ (n : Nat) (l m : List UInt8), l.length ≤ n →
    splitF (l ++ m) = ((splitF l).1 ++ (splitF (l.drop (splitF l).2.1 ++ m)).1, (splitF l).2.1 + (splitF (l.drop (splitF l).2.1 ++ m)).2.1, (splitF l).2.2 + (splitF (l.drop (splitF l).2.1 ++ m)).2.2)
  | n, l, m, hn => by
    by_cases h0 : l = []
    · subst h0
      rw [split_nil]; simp
    have hl : 0 < l.length := List.length_pos_iff.2 h0
    have ha : l ++ m ≠ [] := by simp [h0]
    cases n with
    | zero => omega
    | succ n =>
      cases hs : stopF l with
      | true => rw [split_stop h0 hs]; simp
      | false =>
        by_cases hr : (readF l).2 = 0
        · have h11 := read_room hr
          have ih := split_app n (l.drop 11) m (by rw [List.length_drop]; omega)
          rw [split_frame ha (stop_long (by rw [List.length_append]; omega)) (by rw [read_app l m h11]; exact hr), read_app l m h11, List.drop_append_of_le_length h11, ih, split_frame h0 hs hr]
          simp only [List.drop_drop, List.cons_append, Prod.mk.injEq]
          rw [Nat.add_comm 11]
          exact ⟨rfl, by omega, rfl⟩
        · obtain ⟨hs', hr'⟩ := lost_app l m h0 hs hr
          have ih := split_app n (l.drop 1) m (by rw [List.length_drop]; omega)
          rw [split_lost ha hs' hr', List.drop_append_of_le_length (by omega), ih, split_lost h0 hs hr]
          simp only [List.drop_drop, Prod.mk.injEq]
          rw [Nat.add_comm 1]
          exact ⟨rfl, by omega, by omega⟩

/-- it ends in the list, and fewer than eleven bytes are left -/
theorem split_end : ∀ (n : Nat) (l : List UInt8), l.length ≤ n → (splitF l).2.1 ≤ l.length ∧ (l.drop (splitF l).2.1).length < 11
  | n, l, hn => by
    by_cases h0 : l = []
    · subst h0
      rw [split_nil]; simp
    have hl : 0 < l.length := List.length_pos_iff.2 h0
    cases n with
    | zero => omega
    | succ n =>
      cases hs : stopF l with
      | true =>
        rw [split_stop h0 hs]
        unfold stopF at hs
        simp only [Bool.and_eq_true, decide_eq_true_eq] at hs
        simp
        exact hs.1
      | false =>
        by_cases hr : (readF l).2 = 0
        · have h11 := read_room hr
          have ih := split_end n (l.drop 11) (by rw [List.length_drop]; omega)
          rw [split_frame h0 hs hr]
          rw [List.drop_drop, List.length_drop] at ih
          refine ⟨by simp only; omega, ?_⟩
          have i2 := ih.2
          rw [List.length_drop] at i2 ⊢
          simp only
          omega
        · have ih := split_end n (l.drop 1) (by rw [List.length_drop]; omega)
          rw [split_lost h0 hs hr]
          rw [List.drop_drop, List.length_drop] at ih
          refine ⟨by simp only; omega, ?_⟩
          have i2 := ih.2
          rw [List.length_drop] at i2 ⊢
          simp only
          omega
end Go.Proofs.Ytnafodnaolmffaa
