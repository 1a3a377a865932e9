/- Where frames begin, plain; gaps as what stands between them. -/
import Derived.Test.YtnafodnaolmffaaStrGap
import Derived.Test.YtnafodnaolmffaaStrRefB
namespace Go.Proofs.Ytnafodnaolmffaa
open Go.RowKit

/-- where the frames begin -/
def startsF (n : Nat) (l : List UInt8) : List Nat :=
  if _h : l = [] then []
  else if stopF l = true then []
  else if (readF l).2 = 0 then n :: startsF (n + 11) (l.drop 11)
  else startsF (n + 1) (l.drop 1)
termination_by l.length
decreasing_by all_goals (have : 0 < l.length := List.length_pos_iff.2 _h; rw [List.length_drop]; omega)
theorem starts_nil (n : Nat) : startsF n [] = [] := by rw [startsF, dif_pos rfl]
theorem starts_stop {n : Nat} {l : List UInt8} (h0 : l ≠ []) (h : stopF l = true) : startsF n l = [] := by rw [startsF, dif_neg h0, if_pos h]
theorem starts_frame {n : Nat} {l : List UInt8} (h0 : l ≠ []) (h : stopF l = false) (hr : (readF l).2 = 0) : startsF n l = n :: startsF (n + 11) (l.drop 11) := by
  rw [startsF, dif_neg h0, if_neg (by rw [h]; simp), if_pos hr]
theorem starts_lost {n : Nat} {l : List UInt8} (h0 : l ≠ []) (h : stopF l = false) (hr : (readF l).2 ≠ 0) : startsF n l = startsF (n + 1) (l.drop 1) := by
  rw [startsF, dif_neg h0, if_neg (by rw [h]; simp), if_neg hr]

theorem starts_length : ∀ (k n : Nat) (l : List UInt8), l.length ≤ k → (startsF n l).length = (splitF l).1.length ∧ ∀ s ∈ startsF n l, s ≤ n + l.length
  | k, n, l, hk => by
    by_cases h0 : l = []
    · subst h0
      rw [starts_nil, split_nil]; simp
    have hl : 0 < l.length := List.length_pos_iff.2 h0
    cases k with
    | zero => omega
    | succ k =>
      cases hs : stopF l with
      | true => rw [starts_stop h0 hs, split_stop h0 hs]; simp
      | false =>
        by_cases hr : (readF l).2 = 0
        · have h11 := read_room hr
          have ih := starts_length k (n + 11) (l.drop 11) (by rw [List.length_drop]; omega)
          rw [starts_frame h0 hs hr, split_frame h0 hs hr]
          refine ⟨by simp only [List.length_cons]; rw [ih.1], fun s hm => ?_⟩
          rcases List.mem_cons.1 hm with rfl | hm
          · omega
          · have := ih.2 s hm
            rw [List.length_drop] at this
            omega
        · have ih := starts_length k (n + 1) (l.drop 1) (by rw [List.length_drop]; omega)
          rw [starts_lost h0 hs hr, split_lost h0 hs hr]
          refine ⟨ih.1, fun s hm => ?_⟩
          have := ih.2 s hm
          rw [List.length_drop] at this
          omega

/-- as far as it went -/
def FindAt (l : List UInt8) (n : Nat) (fs : List Fr) (ss : List Nat) : Prop :=
  n ≤ l.length ∧ fs.length ≤ n ∧ ss.length = fs.length ∧ (splitF l).1 = fs ++ (splitF (l.drop n)).1 ∧ (splitF l).2.1 = n + (splitF (l.drop n)).2.1 ∧ startsF 0 l = ss ++ startsF n (l.drop n)
theorem FindAt.zero (l : List UInt8) : FindAt l 0 [] [] := ⟨Nat.zero_le _, Nat.le_refl _, rfl, by simp, by simp, by simp⟩
theorem drop_ne {l : List UInt8} {n : Nat} (h : n < l.length) : l.drop n ≠ [] := by
  intro e
  have := congrArg List.length e
  rw [List.length_drop] at this
  simp at this; omega
theorem FindAt.stop {l : List UInt8} {n : Nat} {fs : List Fr} {ss : List Nat} (h : FindAt l n fs ss) (hn : n < l.length) (hs : stopF (l.drop n) = true) : (splitF l).1 = fs ∧ (splitF l).2.1 = n ∧ startsF 0 l = ss := by
  obtain ⟨_, _, _, h4, h5, h6⟩ := h
  have h0 := drop_ne hn
  rw [split_stop h0 hs] at h4 h5
  rw [starts_stop h0 hs] at h6
  exact ⟨by rw [h4]; simp, by rw [h5]; simp, by rw [h6]; simp⟩
theorem FindAt.over {l : List UInt8} {fs : List Fr} {ss : List Nat} (h : FindAt l l.length fs ss) : (splitF l).1 = fs ∧ (splitF l).2.1 = l.length ∧ startsF 0 l = ss := by
  obtain ⟨_, _, _, h4, h5, h6⟩ := h
  rw [List.drop_length, split_nil] at h4 h5
  rw [List.drop_length, starts_nil] at h6
  exact ⟨by rw [h4]; simp, by rw [h5]; simp, by rw [h6]; simp⟩
theorem FindAt.lost {l : List UInt8} {n : Nat} {fs : List Fr} {ss : List Nat} (h : FindAt l n fs ss) (hn : n < l.length) (hs : stopF (l.drop n) = false) (hr : (readF (l.drop n)).2 ≠ 0) : FindAt l (n + 1) fs ss := by
  obtain ⟨_, h2, h3, h4, h5, h6⟩ := h
  have h0 := drop_ne hn
  rw [split_lost h0 hs hr, List.drop_drop] at h4 h5
  rw [starts_lost h0 hs hr, List.drop_drop] at h6
  exact ⟨hn, by omega, h3, h4, by simp only at h5; omega, h6⟩
theorem FindAt.frame {l : List UInt8} {n : Nat} {fs : List Fr} {ss : List Nat} (h : FindAt l n fs ss) (hn : n < l.length) (hr : (readF (l.drop n)).2 = 0) : FindAt l (n + 11) (fs ++ [(readF (l.drop n)).1]) (ss ++ [n]) := by
  obtain ⟨_, h2, h3, h4, h5, h6⟩ := h
  have h0 := drop_ne hn
  have h11 := read_room hr
  have hs := stop_long h11
  rw [List.length_drop] at h11
  rw [split_frame h0 hs hr, List.drop_drop] at h4 h5
  rw [starts_frame h0 hs hr, List.drop_drop] at h6
  refine ⟨by omega, by rw [List.length_append, List.length_singleton]; omega, by rw [List.length_append, List.length_append, h3]; rfl, ?_, by simp only at h5; omega, ?_⟩
  · rw [h4, List.append_assoc]; rfl
  · rw [h6, List.append_assoc]; rfl

/-- from where to ahead of where, if there is anything -/
def gapTo (b n : Nat) : List (Nat × Nat) := if b < n then [(b, n)] else []
/-- what stands between frames that begin there -/
def runG : Nat → List Nat → List (Nat × Nat)
  | _, [] => []
  | b, s :: r => gapTo b s ++ runG (s + 11) r
theorem gapTo_none (n : Nat) : gapTo n n = [] := if_neg (Nat.lt_irrefl n)
/-- all end ahead of b -/
def Ahead (o : List (Nat × Nat)) (b : Nat) : Prop := ∀ p ∈ o, p.2 < b
theorem gapTo_add {o : List (Nat × Nat)} {b n : Nat} (h : Ahead o b) (hb : b ≤ n) : addGap (o ++ gapTo b n) n = o ++ gapTo b (n + 1) := by
  have e1 : gapTo b (n + 1) = [(b, n + 1)] := if_pos (by omega)
  rw [e1]
  by_cases k : b < n
  · have e2 : gapTo b n = [(b, n)] := if_pos k
    rw [e2, addGap_same]
  · obtain rfl : b = n := by omega
    rw [gapTo_none, List.append_nil]
    rcases snoc_cases o with rfl | ⟨o', a, c, rfl⟩
    · rw [addGap_nil]
    · have := h (a, c) (by simp)
      rw [addGap_other _ _ _ _ (by simp only at this; omega)]
theorem gaps_short {o : List (Nat × Nat)} {b : Nat} (h : Ahead o b) : ∀ (k n : Nat) (l : List UInt8), l.length ≤ k → l.length < 11 → b ≤ n → gapsGo (o ++ gapTo b n) n l = o ++ gapTo b (n + l.length)
  | k, n, l, hk, h11, hb => by
    by_cases h0 : l = []
    · subst h0
      rw [gaps_nil]; simp
    have hl : 0 < l.length := List.length_pos_iff.2 h0
    cases k with
    | zero => omega
    | succ k =>
      rw [gaps_lost h0 (read_short h11), gapTo_add h hb, gaps_short h k (n + 1) (l.drop 1) (by rw [List.length_drop]; omega) (by rw [List.length_drop]; omega) (by omega), List.length_drop]
      congr 2
      omega
theorem gaps_run : ∀ (k : Nat) (o : List (Nat × Nat)) (b n : Nat) (l : List UInt8), l.length ≤ k → Ahead o b → b ≤ n → gapsGo (o ++ gapTo b n) n l = o ++ runG b (startsF n l ++ [n + l.length])
  | k, o, b, n, l, hk, h, hb => by
    by_cases h0 : l = []
    · subst h0
      rw [gaps_nil, starts_nil]; simp [runG]
    have hl : 0 < l.length := List.length_pos_iff.2 h0
    cases k with
    | zero => omega
    | succ k =>
      cases hs : stopF l with
      | true =>
        rw [starts_stop h0 hs]
        unfold stopF at hs
        simp only [Bool.and_eq_true, decide_eq_true_eq] at hs
        rw [gaps_short h _ _ _ (Nat.le_refl _) hs.1 hb]
        simp [runG]
      | false =>
        by_cases hr : (readF l).2 = 0
        · have h11 := read_room hr
          rw [gaps_frame h0 hr, starts_frame h0 hs hr]
          have hA : Ahead (o ++ gapTo b n) (n + 11) := by
            intro p hp
            rcases List.mem_append.1 hp with hp | hp
            · have := h p hp
              omega
            · unfold gapTo at hp
              split at hp
              · rw [List.mem_singleton] at hp
                subst hp
                show n < n + 11
                omega
              · cases hp
          have ih := gaps_run k (o ++ gapTo b n) (n + 11) (n + 11) (l.drop 11) (by rw [List.length_drop]; omega) hA (Nat.le_refl _)
          rw [gapTo_none, List.append_nil] at ih
          rw [ih, List.length_drop, List.cons_append, runG, List.append_assoc]
          congr 4
          have : n + 11 + (l.length - 11) = n + l.length := by omega
          rw [this]
        · have ih := gaps_run k o b (n + 1) (l.drop 1) (by rw [List.length_drop]; omega) h (by omega)
          rw [gaps_lost h0 hr, gapTo_add h hb, ih, starts_lost h0 hs hr, List.length_drop]
          have : n + 1 + (l.length - 1) = n + l.length := by omega
          rw [this]
theorem gaps_starts (l : List UInt8) : gapsF l = runG 0 (startsF 0 l ++ [l.length]) := by
  have := gaps_run l.length [] 0 0 l (Nat.le_refl _) (fun p hp => by cases hp) (Nat.le_refl _)
  rw [gapTo_none, Nat.zero_add] at this
  exact this
end Go.Proofs.Ytnafodnaolmffaa
