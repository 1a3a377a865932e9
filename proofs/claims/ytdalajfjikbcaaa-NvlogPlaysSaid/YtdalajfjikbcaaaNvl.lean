/- A memory of two slots, plain: what is loaded, written, saved, spoilt. -/
import Derived.Test.YtdalajfjikbcaaaSlt
namespace Go.Proofs.Ytdalajfjikbcaaa
open Go.RowKit

/-- a slot's bytes -/
def partF (m : List UInt8) (i : Nat) : List UInt8 := if m.length < 24 then [] else (m.drop (12 * i)).take 12
/-- one slot more looked at -/
def seenF (o : Int × Nt × Nat) (i : Nat) (r : Nt × Nat × Int) : Int × Nt × Nat := if r.2.2 = 0 ∧ (o.1 < 0 ∨ o.2.2 < r.2.1) then (i, r.1, r.2.1) else o
/-- which slot is the newest (-1: none), its note and number -/
def newF (m : List UInt8) : Int × Nt × Nat := seenF (seenF (-1, nt0, 0) 0 (readN (partF m 0))) 1 (readN (partF m 1))
def loadF (m : List UInt8) : Nt × Int := if (newF m).1 < 0 then (nt0, 9) else ((newF m).2.1, 0)
def toF (m : List UInt8) : Nat := if (newF m).1 = 0 then 1 else 0
def writeF (m : List UInt8) (n : Nt) : Nat × List UInt8 × Int :=
  if m.length ≠ 24 then (0, [], 1)
  else if 2147483648 ≤ (newF m).2.2 then (0, [], 8)
  else if rightN n = false then (0, [], 1)
  else (toF m, slotN n ((newF m).2.2 + 1), 0)
/-- these bytes at a place -/
def putF (m : List UInt8) (k : Nat) (b : List UInt8) : List UInt8 := m.take k ++ b ++ m.drop (k + b.length)
def mostF (most : Int) : Nat := (max 0 (min most 12)).toNat
def saveF (m : List UInt8) (n : Nt) (most : Int) : List UInt8 × Int :=
  if (writeF m n).2.2 ≠ 0 then (m, (writeF m n).2.2) else (putF m (12 * (writeF m n).1) ((writeF m n).2.1.take (mostF most)), 0)
def spoilF (m : List UInt8) (k : Int) : List UInt8 := if 0 ≤ k ∧ k < m.length then m.set k.toNat (m.getD k.toNat 0 ^^^ 85) else m
def zeroM : List UInt8 := List.replicate 24 0

theorem mostF_le (most : Int) : mostF most ≤ 12 := by unfold mostF; omega
theorem part_length {m : List UInt8} (i : Nat) (h : m.length = 24) (hi : i < 2) : (partF m i).length = 12 := by
  unfold partF
  rw [if_neg (by omega), List.length_take, List.length_drop]
  omega
theorem put_length {m b : List UInt8} {k : Nat} (h : k + b.length ≤ m.length) : (putF m k b).length = m.length := by
  unfold putF
  rw [List.length_append, List.length_append, List.length_take, List.length_drop]
  omega
theorem put_zero (m : List UInt8) (k : Nat) : putF m k [] = m := by
  unfold putF
  rw [List.append_nil]
  exact List.take_append_drop k m
/-- the slot that is written, and the other one -/
theorem part_put {m b : List UInt8} {i : Nat} (h : m.length = 24) (hi : i < 2) (hb : b.length ≤ 12) : partF (putF m (12 * i) b) i = b ++ (partF m i).drop b.length := by
  have hl : (putF m (12 * i) b).length = 24 := by rw [put_length (by omega)]; exact h
  unfold partF
  rw [if_neg (by omega), if_neg (by omega)]
  unfold putF
  have e1 : (m.take (12 * i)).length = 12 * i := by rw [List.length_take]; omega
  rw [List.append_assoc, List.drop_append_of_le_length (by omega)]
  have e2 : List.drop (12 * i) (List.take (12 * i) m) = [] := List.drop_eq_nil_of_le (by omega)
  rw [e2, List.nil_append, List.take_append, List.take_of_length_le hb, List.drop_take, List.drop_drop]
theorem part_other {m b : List UInt8} {i j : Nat} (h : m.length = 24) (hi : i < 2) (hj : j < 2) (hne : i ≠ j) (hb : b.length ≤ 12) : partF (putF m (12 * i) b) j = partF m j := by
  have hl : (putF m (12 * i) b).length = 24 := by rw [put_length (by omega)]; exact h
  unfold partF
  rw [if_neg (by omega), if_neg (by omega)]
  apply List.ext_getElem?
  intro q
  rw [List.getElem?_take, List.getElem?_take, List.getElem?_drop, List.getElem?_drop]
  by_cases hq : q < 12
  · rw [if_pos hq, if_pos hq]
    unfold putF
    have e1 : (m.take (12 * i)).length = 12 * i := by rw [List.length_take]; omega
    rcases (show i = 0 ∧ j = 1 ∨ i = 1 ∧ j = 0 by omega) with ⟨rfl, rfl⟩ | ⟨rfl, rfl⟩
    · rw [List.getElem?_append_right (by rw [List.length_append, e1]; omega), List.getElem?_drop, List.length_append, e1]
      congr 1
      omega
    · rw [List.append_assoc, List.getElem?_append_left (by omega), List.getElem?_take, if_pos (by omega)]
  · rw [if_neg hq, if_neg hq]

/-- a slot not both of whose guards are the number's is none -/
theorem ends_bad {l : List UInt8} (h : l.getD 11 0 ≠ l.getD 0 0) : (readN l).2.2 ≠ 0 := by
  unfold readN
  by_cases h1 : l.length ≠ 12
  · rw [if_pos h1]
    show (2 : Int) ≠ 0
    decide
  · rw [if_neg h1, if_pos (Or.inr h)]
    show (3 : Int) ≠ 0
    decide
theorem ends_good {l : List UInt8} (h : (readN l).2.2 = 0) : l.getD 11 0 = guardN (readN l).2.1 := by
  obtain ⟨_, _, e⟩ := read_slot_back l (readN l).1 (readN l).2.1 (by rw [← h])
  have g : (slotN (readN l).1 (readN l).2.1).getD 11 0 = guardN (readN l).2.1 := by
    obtain ⟨x, y, z, u, _, eb⟩ := body_nine (readN l).1 (readN l).2.1
    unfold slotN withSum
    rw [eb]; rfl
  rw [e] at g
  exact g
theorem guard_two (s : Nat) : guardN (s + 1 + 1) ≠ guardN s := fun h => by
  have := congrArg UInt8.toNat h
  rw [guardN_nat, guardN_nat] at this
  omega
theorem guard_pos (s : Nat) : guardN s ≠ 0 := fun h => by
  have := congrArg UInt8.toNat h
  rw [guardN_nat] at this
  have e : (0 : UInt8).toNat = 0 := rfl
  omega

/-- as saves alone leave it -/
structure OkM (m : List UInt8) : Prop where
  len : m.length = 24
  free : (partF m (toF m)).getD 11 0 ≠ guardN ((newF m).2.2 + 1)
  zero : (newF m).1 < 0 → (partF m 1).getD 11 0 = 0

theorem seen_yes {o : Int × Nt × Nat} {r : Nt × Nat × Int} (i : Nat) (h : r.2.2 = 0) (h2 : o.1 < 0 ∨ o.2.2 < r.2.1) : seenF o i r = ((i : Int), r.1, r.2.1) := if_pos ⟨h, h2⟩
theorem seen_bad {o : Int × Nt × Nat} {r : Nt × Nat × Int} (i : Nat) (h : r.2.2 ≠ 0) : seenF o i r = o := if_neg fun k => h k.1
theorem seen_old {o : Int × Nt × Nat} {r : Nt × Nat × Int} (i : Nat) (h : ¬ (o.1 < 0 ∨ o.2.2 < r.2.1)) : seenF o i r = o := if_neg fun k => h k.2

theorem new_cases (m : List UInt8) : newF m = (-1, nt0, 0) ∧ (readN (partF m 0)).2.2 ≠ 0 ∧ (readN (partF m 1)).2.2 ≠ 0 ∨
    newF m = (0, (readN (partF m 0)).1, (readN (partF m 0)).2.1) ∧ (readN (partF m 0)).2.2 = 0 ∧ ((readN (partF m 1)).2.2 = 0 → (readN (partF m 1)).2.1 ≤ (readN (partF m 0)).2.1) ∨
    newF m = (1, (readN (partF m 1)).1, (readN (partF m 1)).2.1) ∧ (readN (partF m 1)).2.2 = 0 ∧ ((readN (partF m 0)).2.2 = 0 → (readN (partF m 0)).2.1 < (readN (partF m 1)).2.1) := by
  unfold newF
  generalize readN (partF m 0) = r0
  generalize readN (partF m 1) = r1
  by_cases h0 : r0.2.2 = 0
  · rw [seen_yes 0 h0 (Or.inl (show (-1 : Int) < 0 by decide))]
    by_cases h1 : r1.2.2 = 0
    · by_cases g : r0.2.1 < r1.2.1
      · rw [seen_yes 1 h1 (Or.inr g)]
        exact Or.inr (Or.inr ⟨rfl, h1, fun _ => g⟩)
      · rw [seen_old 1 (fun k => by rcases k with k | k; exact absurd k (show ¬ (0 : Int) < 0 by decide); exact g k)]
        exact Or.inr (Or.inl ⟨rfl, h0, fun _ => by omega⟩)
    · rw [seen_bad 1 h1]
      exact Or.inr (Or.inl ⟨rfl, h0, fun k => absurd k h1⟩)
  · rw [seen_bad 0 h0]
    by_cases h1 : r1.2.2 = 0
    · rw [seen_yes 1 h1 (Or.inl (show (-1 : Int) < 0 by decide))]
      exact Or.inr (Or.inr ⟨rfl, h1, fun k => absurd k h0⟩)
    · rw [seen_bad 1 h1]
      exact Or.inl ⟨rfl, h0, h1⟩
theorem newF_of {m : List UInt8} {r0 r1 : Nt × Nat × Int} (h0 : readN (partF m 0) = r0) (h1 : readN (partF m 1) = r1) : newF m = seenF (seenF (-1, nt0, 0) 0 r0) 1 r1 := by
  unfold newF
  rw [h0, h1]
theorem toF_of {m : List UInt8} {a : Int} {p : Nt × Nat} (h : newF m = (a, p)) : toF m = if a = 0 then 1 else 0 := by unfold toF; rw [h]

/-- a whole save -/
theorem save_whole {m : List UInt8} {n : Nt} (h : OkM m) (hn : rightN n = true) (hs : (newF m).2.2 < 2147483648) :
    newF (putF m (12 * toF m) (slotN n ((newF m).2.2 + 1))) = ((toF m : Int), n, (newF m).2.2 + 1) ∧ OkM (putF m (12 * toF m) (slotN n ((newF m).2.2 + 1))) := by
  have hb := slot_length n ((newF m).2.2 + 1)
  have ht : toF m < 2 := by unfold toF; split <;> omega
  have p1 : partF (putF m (12 * toF m) (slotN n ((newF m).2.2 + 1))) (toF m) = slotN n ((newF m).2.2 + 1) := by
    rw [part_put h.len ht (by omega), List.drop_eq_nil_of_le (by rw [part_length _ h.len ht, hb]; exact Nat.le_refl _), List.append_nil]
  have rd := read_slot n ((newF m).2.2 + 1) hn (by omega)
  rw [← p1] at rd
  have hl : (putF m (12 * toF m) (slotN n ((newF m).2.2 + 1))).length = 24 := by rw [put_length (by rw [hb, h.len]; omega)]; exact h.len
  have po : ∀ j, j < 2 → toF m ≠ j → partF (putF m (12 * toF m) (slotN n ((newF m).2.2 + 1))) j = partF m j := fun j hj hne => part_other h.len ht hj hne (by omega)
  clear p1 hs hb
  generalize putF m (12 * toF m) (slotN n ((newF m).2.2 + 1)) = M at *
  rcases new_cases m with ⟨a1, a3, a4⟩ | ⟨a1, a3, a4⟩ | ⟨a1, a3, a4⟩
  · have et : toF m = 0 := by rw [toF_of a1]; rfl
    have hz := h.zero (by rw [a1]; show (-1 : Int) < 0; decide)
    have q1 := po 1 (by omega) (by omega)
    rw [et] at rd ⊢
    rw [a1] at rd ⊢
    have e : newF M = (0, n, 0 + 1) := by
      rw [newF_of rd (by rw [q1]), seen_yes 0 rfl (Or.inl (show (-1 : Int) < 0 by decide)), seen_bad 1 a4]
      rfl
    refine ⟨e, hl, ?_, fun k => ?_⟩
    · rw [toF_of e, e]
      show (partF M 1).getD 11 0 ≠ _
      rw [q1, hz]
      exact fun k => guard_pos _ k.symm
    · rw [e] at k; exact absurd k (show ¬ (0 : Int) < 0 by decide)
  · have et : toF m = 1 := by rw [toF_of a1]; rfl
    have q0 := po 0 (by omega) (by omega)
    have g0 := ends_good a3
    rw [et] at rd ⊢
    rw [a1] at rd ⊢
    have e : newF M = (1, n, (readN (partF m 0)).2.1 + 1) := by
      rw [newF_of (by rw [q0]) rd, seen_yes 0 a3 (Or.inl (show (-1 : Int) < 0 by decide)), seen_yes 1 rfl (Or.inr (Nat.lt_succ_self _))]
      rfl
    refine ⟨e, hl, ?_, fun k => ?_⟩
    · rw [toF_of e, e]
      show (partF M 0).getD 11 0 ≠ _
      rw [q0, g0]
      exact fun k => guard_two _ k.symm
    · rw [e] at k; exact absurd k (show ¬ (1 : Int) < 0 by decide)
  · have et : toF m = 0 := by rw [toF_of a1]; rfl
    have q1 := po 1 (by omega) (by omega)
    have g1 := ends_good a3
    rw [et] at rd ⊢
    rw [a1] at rd ⊢
    have e : newF M = (0, n, (readN (partF m 1)).2.1 + 1) := by
      rw [newF_of rd (by rw [q1]), seen_yes 0 rfl (Or.inl (show (-1 : Int) < 0 by decide)), seen_old 1 (fun k => by
        rcases k with k | k
        · exact absurd k (show ¬ (0 : Int) < 0 by decide)
        · exact absurd k (Nat.not_lt.2 (Nat.le_succ _)))]
      rfl
    refine ⟨e, hl, ?_, fun k => ?_⟩
    · rw [toF_of e, e]
      show (partF M 1).getD 11 0 ≠ _
      rw [q1, g1]
      exact fun k => guard_two _ k.symm
    · rw [e] at k; exact absurd k (show ¬ (0 : Int) < 0 by decide)

/-- a torn save -/
theorem save_torn {m : List UInt8} {n : Nt} {k : Nat} (h : OkM m) (hk : k < 12) :
    newF (putF m (12 * toF m) ((slotN n ((newF m).2.2 + 1)).take k)) = newF m ∧ OkM (putF m (12 * toF m) ((slotN n ((newF m).2.2 + 1)).take k)) := by
  by_cases hk0 : k = 0
  · subst hk0
    rw [List.take_zero, put_zero]
    exact ⟨rfl, h⟩
  have hb := slot_length n ((newF m).2.2 + 1)
  have hbl : ((slotN n ((newF m).2.2 + 1)).take k).length = k := by rw [List.length_take]; omega
  have ht : toF m < 2 := by unfold toF; split <;> omega
  have hl : (putF m (12 * toF m) ((slotN n ((newF m).2.2 + 1)).take k)).length = 24 := by rw [put_length (by rw [hbl, h.len]; omega)]; exact h.len
  have pt := part_put (b := (slotN n ((newF m).2.2 + 1)).take k) h.len ht (by omega)
  have lp := part_length (toF m) h.len ht
  have po : ∀ j, j < 2 → toF m ≠ j → partF (putF m (12 * toF m) ((slotN n ((newF m).2.2 + 1)).take k)) j = partF m j := fun j hj hne => part_other h.len ht hj hne (by omega)
  have f0 : (partF (putF m (12 * toF m) ((slotN n ((newF m).2.2 + 1)).take k)) (toF m)).getD 0 0 = guardN ((newF m).2.2 + 1) := by
    rw [pt, ← slot_head n ((newF m).2.2 + 1)]
    simp only [List.getD]
    rw [List.getElem?_append_left (by omega), List.getElem?_take, if_pos (by omega)]
  have f11 : (partF (putF m (12 * toF m) ((slotN n ((newF m).2.2 + 1)).take k)) (toF m)).getD 11 0 = (partF m (toF m)).getD 11 0 := by
    rw [pt]
    simp only [List.getD]
    rw [List.getElem?_append_right (by omega), hbl, List.getElem?_drop]
    congr 2
    omega
  have bad : (readN (partF (putF m (12 * toF m) ((slotN n ((newF m).2.2 + 1)).take k)) (toF m))).2.2 ≠ 0 := ends_bad (by rw [f0, f11]; exact h.free)
  generalize putF m (12 * toF m) ((slotN n ((newF m).2.2 + 1)).take k) = M at *
  have e : newF M = newF m := by
    rcases new_cases m with ⟨a1, a3, a4⟩ | ⟨a1, a3, a4⟩ | ⟨a1, a3, a4⟩
    · have et : toF m = 0 := by rw [toF_of a1]; rfl
      have q1 := po 1 (by omega) (by omega)
      rw [et] at bad
      rw [a1, newF_of rfl (by rw [q1]), seen_bad 0 bad, seen_bad 1 a4]
    · have et : toF m = 1 := by rw [toF_of a1]; rfl
      have q0 := po 0 (by omega) (by omega)
      rw [et] at bad
      rw [a1, newF_of (by rw [q0]) rfl, seen_yes 0 a3 (Or.inl (show (-1 : Int) < 0 by decide)), seen_bad 1 bad]
      rfl
    · have et : toF m = 0 := by rw [toF_of a1]; rfl
      have q1 := po 1 (by omega) (by omega)
      rw [et] at bad
      rw [a1, newF_of rfl (by rw [q1]), seen_bad 0 bad, seen_yes 1 a3 (Or.inl (show (-1 : Int) < 0 by decide))]
      rfl
  have et : toF M = toF m := by unfold toF; rw [e]
  refine ⟨e, hl, ?_, fun k => ?_⟩
  · rw [et, e, f11]; exact h.free
  · rw [e] at k
    have et : toF m = 0 := by unfold toF; rw [if_neg (by omega)]
    rw [po 1 (by omega) (by omega)]
    exact h.zero k

theorem zero_bad : (readN (List.replicate 12 (0 : UInt8))).2.2 ≠ 0 := by
  unfold readN
  rw [if_neg (by simp), if_pos]
  · show (3 : Int) ≠ 0
    decide
  · exact Or.inl (by show (0 : UInt8) ≠ guardN _; exact fun k => guard_pos _ k.symm)
theorem zero_new : newF zeroM = (-1, nt0, 0) := by
  have p0 : readN (partF zeroM 0) = readN (List.replicate 12 0) := rfl
  have p1 : readN (partF zeroM 1) = readN (List.replicate 12 0) := rfl
  rw [newF_of p0 p1, seen_bad 0 zero_bad, seen_bad 1 zero_bad]
theorem zero_ok : OkM zeroM := ⟨by rfl, by
  rw [toF_of zero_new]
  show (0 : UInt8) ≠ guardN _
  exact fun k => guard_pos _ k.symm, fun _ => by rfl⟩
end Go.Proofs.Ytdalajfjikbcaaa
