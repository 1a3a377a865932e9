/- What stands between frames, plain: gaps, their sum, how they lie. -/
import Derived.Test.YtnafodnaolmffaaStrMore
namespace Go.Proofs.Ytnafodnaolmffaa
open Go.RowKit

theorem snoc_cases (o : List (Nat × Nat)) : o = [] ∨ ∃ o' a b, o = o' ++ [(a, b)] := by
  rcases List.eq_nil_or_concat o with h | ⟨o', ⟨a, b⟩, h⟩
  · exact .inl h
  · exact .inr ⟨o', a, b, by rw [h, List.concat_eq_append]⟩
/-- no more frames than bytes, no more lost than there are -/
theorem split_size : ∀ (n : Nat) (l : List UInt8), l.length ≤ n → (splitF l).1.length ≤ l.length ∧ (splitF l).2.2 ≤ l.length
  | n, l, hn => by
    by_cases h0 : l = []
    · subst h0
      rw [split_nil]; simp
    have hl : 0 < l.length := List.length_pos_iff.2 h0
    cases n with
    | zero => omega
    | succ n =>
      cases hs : stopF l with
      | true => rw [split_stop h0 hs]; simp
      | false =>
        by_cases hr : (readF l).2 = 0
        · have h11 := read_room hr
          have ih := split_size n (l.drop 11) (by rw [List.length_drop]; omega)
          rw [split_frame h0 hs hr]
          rw [List.length_drop] at ih
          simp only [List.length_cons]
          omega
        · have ih := split_size n (l.drop 1) (by rw [List.length_drop]; omega)
          rw [split_lost h0 hs hr]
          rw [List.length_drop] at ih
          simp only
          omega

/-- one more byte that is in no frame -/
def addGap (o : List (Nat × Nat)) (n : Nat) : List (Nat × Nat) :=
  match o.getLast? with
  | some (a, b) => if b = n then o.dropLast ++ [(a, b + 1)] else o ++ [(n, n + 1)]
  | none => o ++ [(n, n + 1)]
theorem addGap_nil (n : Nat) : addGap [] n = [] ++ [(n, n + 1)] := rfl
theorem addGap_same (o : List (Nat × Nat)) (a n : Nat) : addGap (o ++ [(a, n)]) n = o ++ [(a, n + 1)] := by simp [addGap]
theorem addGap_other (o : List (Nat × Nat)) (a b n : Nat) (h : b ≠ n) : addGap (o ++ [(a, b)]) n = (o ++ [(a, b)]) ++ [(n, n + 1)] := by simp [addGap, h]

/-- from here on, behind these gaps -/
def gapsGo (o : List (Nat × Nat)) (n : Nat) (l : List UInt8) : List (Nat × Nat) :=
  if _h : l = [] then o
  else if (readF l).2 = 0 then gapsGo o (n + 11) (l.drop 11)
  else gapsGo (addGap o n) (n + 1) (l.drop 1)
termination_by l.length
decreasing_by all_goals (have : 0 < l.length := List.length_pos_iff.2 _h; rw [List.length_drop]; omega)
def gapsF (l : List UInt8) : List (Nat × Nat) := gapsGo [] 0 l
theorem gaps_nil (o : List (Nat × Nat)) (n : Nat) : gapsGo o n [] = o := by rw [gapsGo, dif_pos rfl]
theorem gaps_frame {o : List (Nat × Nat)} {n : Nat} {l : List UInt8} (h0 : l ≠ []) (hr : (readF l).2 = 0) : gapsGo o n l = gapsGo o (n + 11) (l.drop 11) := by rw [gapsGo, dif_neg h0, if_pos hr]
theorem gaps_lost {o : List (Nat × Nat)} {n : Nat} {l : List UInt8} (h0 : l ≠ []) (hr : (readF l).2 ≠ 0) : gapsGo o n l = gapsGo (addGap o n) (n + 1) (l.drop 1) := by rw [gapsGo, dif_neg h0, if_neg hr]

/-- how much they are -/
def sumG : List (Nat × Nat) → Int
  | [] => 0
  | p :: l => ((p.2 : Int) - p.1) + sumG l
theorem sumG_app (l m : List (Nat × Nat)) : sumG (l ++ m) = sumG l + sumG m := by
  induction l with
  | nil => simp [sumG]
  | cons p l ih => rw [List.cons_append, sumG, sumG, ih]; omega
theorem sumG_add (o : List (Nat × Nat)) (n : Nat) : sumG (addGap o n) = sumG o + 1 := by
  rcases snoc_cases o with rfl | ⟨o', a, b, rfl⟩
  · rw [addGap_nil, sumG_app]; simp [sumG]; omega
  · by_cases h : b = n
    · subst h
      rw [addGap_same, sumG_app, sumG_app]; simp [sumG]; omega
    · rw [addGap_other _ _ _ _ h, sumG_app]; simp [sumG]; omega

theorem sum_short : ∀ (k : Nat) (o : List (Nat × Nat)) (n : Nat) (l : List UInt8), l.length ≤ k → l.length < 11 → sumG (gapsGo o n l) = sumG o + l.length
  | k, o, n, l, hk, h => by
    by_cases h0 : l = []
    · subst h0
      rw [gaps_nil]; simp
    have hl : 0 < l.length := List.length_pos_iff.2 h0
    cases k with
    | zero => omega
    | succ k =>
      rw [gaps_lost h0 (read_short h), sum_short k _ _ _ (by rw [List.length_drop]; omega) (by rw [List.length_drop]; omega), sumG_add, List.length_drop]
      omega

/-- all bytes are in a frame or in a gap -/
theorem gaps_sum : ∀ (k : Nat) (o : List (Nat × Nat)) (n : Nat) (l : List UInt8), l.length ≤ k →
    sumG (gapsGo o n l) + 11 * ((splitF l).1.length : Int) = sumG o + l.length ∧ (splitF l).2.1 = 11 * (splitF l).1.length + (splitF l).2.2
  | k, o, n, l, hk => by
    by_cases h0 : l = []
    · subst h0
      rw [gaps_nil, split_nil]; simp
    have hl : 0 < l.length := List.length_pos_iff.2 h0
    cases k with
    | zero => omega
    | succ k =>
      by_cases hr : (readF l).2 = 0
      · have h11 := read_room hr
        obtain ⟨i1, i2⟩ := gaps_sum k o (n + 11) (l.drop 11) (by rw [List.length_drop]; omega)
        rw [gaps_frame h0 hr, split_frame h0 (stop_long h11) hr]
        rw [List.length_drop] at i1
        simp only [List.length_cons]
        omega
      · cases hs : stopF l with
        | true =>
          rw [split_stop h0 hs]
          unfold stopF at hs
          simp only [Bool.and_eq_true, decide_eq_true_eq] at hs
          rw [sum_short l.length _ _ _ (Nat.le_refl _) hs.1]
          simp
        | false =>
          obtain ⟨i1, i2⟩ := gaps_sum k (addGap o n) (n + 1) (l.drop 1) (by rw [List.length_drop]; omega)
          rw [gaps_lost h0 hr, split_lost h0 hs hr]
          rw [List.length_drop, sumG_add] at i1
          simp only
          omega

/-- where the one ahead ends -/
def endOf (o : List (Nat × Nat)) (j : Nat) : Int := if j = 0 then -1 else ((o.getD (j - 1) (0, 0)).2 : Int)
/-- apart, in order, up to n -/
def GapsOk (o : List (Nat × Nat)) (n : Nat) : Prop := ∀ j, j < o.length → endOf o j < ((o.getD j (0, 0)).1 : Int) ∧ (o.getD j (0, 0)).1 < (o.getD j (0, 0)).2 ∧ (o.getD j (0, 0)).2 ≤ n
theorem getD_app (o : List (Nat × Nat)) (p : Nat × Nat) (j : Nat) (h : j < o.length) : (o ++ [p]).getD j (0, 0) = o.getD j (0, 0) := by
  simp [List.getD, List.getElem?_append_left h]
theorem getD_last (o : List (Nat × Nat)) (p : Nat × Nat) : (o ++ [p]).getD o.length (0, 0) = p := by simp [List.getD]
theorem GapsOk.mono {o : List (Nat × Nat)} {n m : Nat} (h : GapsOk o n) (hm : n ≤ m) : GapsOk o m := fun j hj => by
  obtain ⟨h1, h2, h3⟩ := h j hj
  exact ⟨h1, h2, by omega⟩
theorem endOf_app (o : List (Nat × Nat)) (p : Nat × Nat) (j : Nat) (h : j ≤ o.length) : endOf (o ++ [p]) j = endOf o j := by
  unfold endOf
  by_cases h0 : j = 0
  · rw [if_pos h0, if_pos h0]
  · rw [if_neg h0, if_neg h0, getD_app _ _ _ (by omega)]
theorem GapsOk.snoc {o : List (Nat × Nat)} {n : Nat} {a b : Nat} (h : GapsOk o n) (h1 : endOf o o.length < (a : Int)) (h2 : a < b) (h3 : b ≤ n) : GapsOk (o ++ [(a, b)]) n := fun j hj => by
  rw [List.length_append, List.length_singleton] at hj
  by_cases hlt : j < o.length
  · rw [endOf_app _ _ _ (by omega), getD_app _ _ _ hlt]
    exact h j hlt
  · obtain rfl : j = o.length := by omega
    rw [endOf_app _ _ _ (Nat.le_refl _), getD_last]
    exact ⟨h1, h2, h3⟩
theorem GapsOk.front {o : List (Nat × Nat)} {p : Nat × Nat} {n : Nat} (h : GapsOk (o ++ [p]) n) : GapsOk o n ∧ endOf o o.length < (p.1 : Int) ∧ p.1 < p.2 ∧ p.2 ≤ n := by
  refine ⟨fun j hj => ?_, ?_⟩
  · have := h j (by rw [List.length_append]; omega)
    rw [endOf_app _ _ _ (by omega), getD_app _ _ _ hj] at this
    exact this
  · have := h o.length (by simp)
    rw [endOf_app _ _ _ (Nat.le_refl _), getD_last] at this
    exact this
theorem endOf_last (o : List (Nat × Nat)) (a b : Nat) : endOf (o ++ [(a, b)]) (o ++ [(a, b)]).length = b := by
  unfold endOf
  rw [if_neg (by simp), List.length_append, List.length_singleton, Nat.add_sub_cancel, getD_last]
theorem GapsOk.add {o : List (Nat × Nat)} {n : Nat} (h : GapsOk o n) : GapsOk (addGap o n) (n + 1) := by
  have hm := h.mono (Nat.le_succ n)
  rcases snoc_cases o with rfl | ⟨o', a, b, rfl⟩
  · rw [addGap_nil]
    exact hm.snoc (by show (-1 : Int) < n; omega) (Nat.lt_succ_self n) (Nat.le_refl _)
  · obtain ⟨f1, f2, f3, f4⟩ := h.front
    by_cases e : b = n
    · subst e
      rw [addGap_same]
      exact (f1.mono (Nat.le_succ _)).snoc f2 (by simp only at f3; omega) (Nat.le_refl _)
    · rw [addGap_other _ _ _ _ e]
      refine hm.snoc ?_ (Nat.lt_succ_self n) (Nat.le_refl _)
      rw [endOf_last]
      simp only at f4
      omega
theorem addGap_length (o : List (Nat × Nat)) (n : Nat) : (addGap o n).length ≤ o.length + 1 := by
  rcases snoc_cases o with rfl | ⟨o', a, b, rfl⟩
  · simp [addGap]
  · by_cases e : b = n
    · subst e; rw [addGap_same]; simp
    · rw [addGap_other _ _ _ _ e]; simp
theorem gaps_ok : ∀ (k : Nat) (o : List (Nat × Nat)) (n : Nat) (l : List UInt8), l.length ≤ k → GapsOk o n → GapsOk (gapsGo o n l) (n + l.length) ∧ (gapsGo o n l).length ≤ o.length + l.length
  | k, o, n, l, hk, h => by
    by_cases h0 : l = []
    · subst h0
      rw [gaps_nil]; exact ⟨h, Nat.le_refl _⟩
    have hl : 0 < l.length := List.length_pos_iff.2 h0
    cases k with
    | zero => omega
    | succ k =>
      by_cases hr : (readF l).2 = 0
      · have h11 := read_room hr
        obtain ⟨i1, i2⟩ := gaps_ok k o (n + 11) (l.drop 11) (by rw [List.length_drop]; omega) (h.mono (by omega))
        rw [gaps_frame h0 hr]
        rw [List.length_drop] at i1 i2
        exact ⟨i1.mono (by omega), by omega⟩
      · obtain ⟨i1, i2⟩ := gaps_ok k (addGap o n) (n + 1) (l.drop 1) (by rw [List.length_drop]; omega) h.add
        have := addGap_length o n
        rw [gaps_lost h0 hr]
        rw [List.length_drop] at i1 i2
        exact ⟨i1.mono (by omega), by omega⟩
theorem ok_nil (n : Nat) : GapsOk [] n := fun j h => absurd h (Nat.not_lt_zero j)
theorem gapsF_ok (l : List UInt8) : GapsOk (gapsF l) l.length ∧ (gapsF l).length ≤ l.length := by
  have h := gaps_ok l.length [] 0 l (Nat.le_refl _) (ok_nil 0)
  rw [Nat.zero_add, List.length_nil, Nat.zero_add] at h
  exact h
theorem gapsF_sum (l : List UInt8) : sumG (gapsF l) + 11 * ((splitF l).1.length : Int) = l.length ∧ (splitF l).2.1 = 11 * (splitF l).1.length + (splitF l).2.2 := by
  have h := gaps_sum l.length [] 0 l (Nat.le_refl _)
  rw [show sumG [] = 0 from rfl, Int.zero_add] at h
  exact h

theorem gap_next (o : List (Nat × Nat)) (j : Nat) (h : j < o.length) : o.take (j + 1) = o.take j ++ [o.getD j (0, 0)] := by
  rw [List.take_add_one, List.getElem?_eq_getElem h, Option.toList_some]
  simp [List.getD, h]
theorem sum_next (o : List (Nat × Nat)) (j : Nat) (h : j < o.length) : sumG (o.take (j + 1)) = sumG (o.take j) + ((o.getD j (0, 0)).2 : Int) - (o.getD j (0, 0)).1 := by
  rw [gap_next o j h, sumG_app]
  simp [sumG]; omega
theorem end_next (o : List (Nat × Nat)) (j : Nat) : endOf o (j + 1) = ((o.getD j (0, 0)).2 : Int) := by
  unfold endOf
  rw [if_neg (by omega), Nat.add_sub_cancel]
theorem GapsOk.sum {o : List (Nat × Nat)} {n : Nat} (h : GapsOk o n) : ∀ j, j ≤ o.length → 0 ≤ sumG (o.take j) ∧ sumG (o.take j) ≤ endOf o j + 1 ∧ endOf o j ≤ n
  | 0, _ => by
    rw [List.take_zero]
    show (0 : Int) ≤ 0 ∧ (0 : Int) ≤ (-1) + 1 ∧ (-1 : Int) ≤ n
    omega
  | j + 1, hj => by
    obtain ⟨i1, i2, i3⟩ := h.sum j (by omega)
    obtain ⟨k1, k2, k3⟩ := h j (by omega)
    rw [sum_next o j (by omega), end_next]
    omega

/-- frames one behind the other have none -/
theorem gaps_many (o : List (Nat × Nat)) : ∀ (n : Nat) (l : List Fr), gapsGo o n (manyF l).1 = o
  | n, [] => by rw [manyF, gaps_nil]
  | n, f :: l => by
    rw [manyF]
    by_cases h : rightF f = true
    · rw [if_pos h]
      have hl := frame_length f
      have hr : readF (frameF f ++ (manyF l).1) = (f, 0) := read_frame f _ h
      have h0 : frameF f ++ (manyF l).1 ≠ [] := by
        intro e
        have k := congrArg List.length e
        rw [List.length_append, hl, List.length_nil] at k
        omega
      have hd : (frameF f ++ (manyF l).1).drop 11 = (manyF l).1 := by rw [← hl, List.drop_left]
      show gapsGo o n (frameF f ++ (manyF l).1) = o
      rw [gaps_frame h0 (by rw [hr]), hd]
      exact gaps_many o (n + 11) l
    · rw [if_neg h]
      exact gaps_many o n l
end Go.Proofs.Ytnafodnaolmffaa
