/- A memory one of whose slots is spoilt, plain. -/
import Derived.Test.YtdalajfjikbcaaaNvl
namespace Go.Proofs.Ytdalajfjikbcaaa
open Go.RowKit

theorem fits_bad {l : List UInt8} (h : fitsB (l.take 11) = false) : (readN l).2.2 ≠ 0 := by
  unfold readN
  by_cases h1 : l.length ≠ 12
  · rw [if_pos h1]
    show (2 : Int) ≠ 0
    decide
  rw [if_neg h1]
  by_cases h2 : l.getD 0 0 ≠ guardN (numN l) ∨ l.getD 11 0 ≠ l.getD 0 0
  · rw [if_pos h2]
    show (3 : Int) ≠ 0
    decide
  rw [if_neg h2, if_pos h]
  show (5 : Int) ≠ 0
  decide

theorem slot_turned (n : Nt) (s q : Nat) (m : UInt8) (hq : q < 12) (hm : m ≠ 0) : (readN ((slotN n s).set q ((slotN n s).getD q 0 ^^^ m))).2.2 ≠ 0 := by
  obtain ⟨a, b, c, d, _, eb⟩ := body_nine n s
  have hbl : (bodyN n s).length = 9 := by rw [eb]; rfl
  have hb0 : (bodyN n s).getD 0 0 = guardN s := by rw [eb]; rfl
  have el : slotN n s = (bodyN n s ++ [hiB (sumOf (bodyN n s)), loB (sumOf (bodyN n s))]) ++ [guardN s] := rfl
  rw [el]
  generalize bodyN n s = B at *
  generalize guardN s = g at *
  clear el eb
  by_cases q0 : q = 0
  · subst q0
    match B, hbl with
    | [b0, b1, b2, b3, b4, b5, b6, b7, b8], _ =>
      refine ends_bad ?_
      have hb0 : b0 = g := hb0
      show g ≠ b0 ^^^ m
      rw [hb0]
      exact fun k => xor_ne g m hm k.symm
  by_cases q11 : q = 11
  · subst q11
    match B, hbl with
    | [b0, b1, b2, b3, b4, b5, b6, b7, b8], _ =>
      refine ends_bad ?_
      have hb0 : b0 = g := hb0
      show g ^^^ m ≠ b0
      rw [hb0]
      exact xor_ne g m hm
  refine fits_bad ?_
  by_cases q9 : q < 9
  · have e1 : ((B ++ [hiB (sumOf B), loB (sumOf B)]) ++ [g]).getD q 0 = B.getD q 0 := by
      rw [List.getD_eq_getElem?_getD, List.getD_eq_getElem?_getD, List.getElem?_append_left (by simp; omega), List.getElem?_append_left (by omega)]
    rw [e1, List.append_assoc, List.set_append_left _ _ (by omega), ← List.append_assoc, List.take_append_of_le_length (by simp; omega), List.take_of_length_le (by simp; omega), fits_eleven _ _ _ (by rw [List.length_set, hbl])]
    have hn := set_sum B q m (by omega) hm
    rw [Bool.and_eq_false_iff, beq_eq_false_iff_ne, beq_eq_false_iff_ne]
    by_cases k : hiB (sumOf B) = hiB (sumOf (B.set q (B.getD q 0 ^^^ m)))
    · exact Or.inr fun k2 => hn (halves_inj _ _ k k2).symm
    · exact Or.inl k
  · rcases (show q = 9 ∨ q = 10 by omega) with rfl | rfl
    · match B, hbl with
      | [b0, b1, b2, b3, b4, b5, b6, b7, b8], _ =>
        generalize hs : sumOf [b0, b1, b2, b3, b4, b5, b6, b7, b8] = x
        show fitsB ([b0, b1, b2, b3, b4, b5, b6, b7, b8] ++ [hiB x ^^^ m, loB x]) = false
        rw [fits_eleven _ _ _ rfl, hs, beq_eq_false_iff_ne.2 (xor_ne _ _ hm), Bool.false_and]
    · match B, hbl with
      | [b0, b1, b2, b3, b4, b5, b6, b7, b8], _ =>
        generalize hs : sumOf [b0, b1, b2, b3, b4, b5, b6, b7, b8] = x
        show fitsB ([b0, b1, b2, b3, b4, b5, b6, b7, b8] ++ [hiB x, loB x ^^^ m]) = false
        rw [fits_eleven _ _ _ rfl, hs, beq_eq_false_iff_ne.2 (xor_ne (loB x) m hm), Bool.and_false]

theorem part_set {m : List UInt8} (h : m.length = 24) (i q : Nat) (v : UInt8) (hq : 12 * i ≤ q) (hq2 : q < 12 * i + 12) : partF (m.set q v) i = (partF m i).set (q - 12 * i) v := by
  unfold partF
  rw [List.length_set, if_neg (by omega), if_neg (by omega)]
  apply List.ext_getElem?
  intro j
  simp only [List.getElem?_take, List.getElem?_drop, List.getElem?_set, List.length_take, List.length_drop]
  by_cases hj : j < 12
  · simp only [if_pos hj]
    by_cases e : q = 12 * i + j
    · have e2 : q - 12 * i = j := by omega
      rw [if_pos e, if_pos e2]
      by_cases k : q < m.length
      · rw [if_pos k, if_pos (by omega)]
      · rw [if_neg k, if_neg (by omega)]
    · have e2 : ¬ q - 12 * i = j := by omega
      rw [if_neg e, if_neg e2]
  · simp only [if_neg hj]
    rw [if_neg (by omega)]
theorem part_unset {m : List UInt8} (i q : Nat) (v : UInt8) (hq : q < 12 * i ∨ 12 * i + 12 ≤ q) : partF (m.set q v) i = partF m i := by
  unfold partF
  rw [List.length_set]
  by_cases h : m.length < 24
  · rw [if_pos h, if_pos h]
  rw [if_neg h, if_neg h]
  apply List.ext_getElem?
  intro j
  simp only [List.getElem?_take, List.getElem?_drop, List.getElem?_set]
  by_cases hj : j < 12
  · simp only [if_pos hj]
    rw [if_neg (by omega)]
  · simp only [if_neg hj]
theorem part_getD {m : List UInt8} (h : m.length = 24) (i q : Nat) (hq : 12 * i ≤ q) (hq2 : q < 12 * i + 12) : (partF m i).getD (q - 12 * i) 0 = m.getD q 0 := by
  unfold partF
  rw [if_neg (by omega)]
  simp only [List.getD, List.getElem?_take, List.getElem?_drop]
  rw [if_pos (by omega)]
  congr 2
  omega

/-- two notes saved one behind the other -/
structure TwoM (y : List UInt8) (a b : Nt) : Prop where
  len : y.length = 24
  p0 : partF y 0 = slotN a 1
  p1 : partF y 1 = slotN b 2
theorem two_saves {a b : Nt} (ha : rightN a = true) : TwoM (putF (putF zeroM 0 (slotN a 1)) 12 (slotN b 2)) a b ∧ newF (putF zeroM 0 (slotN a 1)) = (0, a, 1) ∧ (putF zeroM 0 (slotN a 1)).length = 24 := by
  have w := save_whole (n := a) zero_ok ha (by rw [zero_new]; decide)
  rw [toF_of zero_new, zero_new] at w
  have e1 : newF (putF zeroM 0 (slotN a 1)) = (0, a, 1) := w.1
  have hx : OkM (putF zeroM 0 (slotN a 1)) := w.2
  have la := slot_length a 1
  have lb := slot_length b 2
  have p0 : partF (putF zeroM (12 * 0) (slotN a 1)) 0 = slotN a 1 := by
    rw [part_put (by rfl) (by decide) (by omega), List.drop_eq_nil_of_le (by rw [part_length 0 (by rfl) (by decide), la]; exact Nat.le_refl _), List.append_nil]
  refine ⟨⟨?_, ?_, ?_⟩, e1, hx.len⟩
  · rw [put_length (by rw [lb, hx.len]; omega)]; exact hx.len
  · have := part_other (m := putF zeroM 0 (slotN a 1)) (b := slotN b 2) (i := 1) (j := 0) hx.len (by decide) (by decide) (by decide) (by omega)
    exact this.trans p0
  · have := part_put (m := putF zeroM 0 (slotN a 1)) (b := slotN b 2) (i := 1) hx.len (by decide) (by omega)
    rw [List.drop_eq_nil_of_le (by rw [part_length 1 hx.len (by decide), lb]; exact Nat.le_refl _), List.append_nil] at this
    exact this
theorem spoil_length (m : List UInt8) (k : Int) : (spoilF m k).length = m.length := by
  unfold spoilF
  split
  · rw [List.length_set]
  · rfl
theorem spoil_at {m : List UInt8} (h : m.length = 24) (q : Nat) (hq : q < 24) : spoilF m (q : Int) = m.set q (m.getD q 0 ^^^ 85) := by
  unfold spoilF
  rw [if_pos ⟨by omega, by omega⟩, Int.toNat_natCast]
theorem two_spoilt {y : List UInt8} {a b : Nt} (T : TwoM y a b) (ha : rightN a = true) (hb : rightN b = true) (i j : Nat) (hi : i < 12) (hj : 12 ≤ j) (hj2 : j < 24) :
    loadF (spoilF y (j : Int)) = (a, 0) ∧ loadF (spoilF y (i : Int)) = (b, 0) ∧ loadF (spoilF (spoilF y (i : Int)) (j : Int)) = (nt0, 9) := by
  have r0 := read_slot a 1 ha (by decide)
  have r1 := read_slot b 2 hb (by decide)
  have m85 : (85 : UInt8) ≠ 0 := by decide
  have b0 := slot_turned a 1 i 85 hi m85
  have b1 := slot_turned b 2 (j - 12) 85 (by omega) m85
  have g0 : (slotN a 1).getD i 0 = y.getD i 0 := by
    have := part_getD T.len 0 i (by omega) (by omega)
    rw [T.p0] at this
    exact this
  have g1 : (slotN b 2).getD (j - 12) 0 = y.getD j 0 := by
    have := part_getD T.len 1 j (by omega) (by omega)
    rw [T.p1] at this
    exact this
  rw [g0] at b0
  rw [g1] at b1
  have li : (spoilF y (i : Int)).length = 24 := by rw [spoil_length]; exact T.len
  have ej := spoil_at T.len j hj2
  have ei := spoil_at T.len i (by omega)
  have eij := spoil_at li j hj2
  have gij : (spoilF y (i : Int)).getD j 0 = y.getD j 0 := by
    rw [ei]
    simp only [List.getD, List.getElem?_set]
    rw [if_neg (by omega)]
  rw [gij] at eij
  have A0 : partF (spoilF y (j : Int)) 0 = slotN a 1 := by rw [ej, part_unset 0 j _ (by omega), T.p0]
  have A1 : partF (spoilF y (j : Int)) 1 = (slotN b 2).set (j - 12) (y.getD j 0 ^^^ 85) := by rw [ej, part_set T.len 1 j _ (by omega) (by omega), T.p1]
  have B0 : partF (spoilF y (i : Int)) 0 = (slotN a 1).set i (y.getD i 0 ^^^ 85) := by
    rw [ei, part_set T.len 0 i _ (by omega) (by omega), T.p0]; rfl
  have B1 : partF (spoilF y (i : Int)) 1 = slotN b 2 := by rw [ei, part_unset 1 i _ (by omega), T.p1]
  have C0 : partF (spoilF (spoilF y (i : Int)) (j : Int)) 0 = (slotN a 1).set i (y.getD i 0 ^^^ 85) := by rw [eij, part_unset 0 j _ (by omega), B0]
  have C1 : partF (spoilF (spoilF y (i : Int)) (j : Int)) 1 = (slotN b 2).set (j - 12) (y.getD j 0 ^^^ 85) := by rw [eij, part_set li 1 j _ (by omega) (by omega), B1]
  refine ⟨?_, ?_, ?_⟩
  · have e : newF (spoilF y (j : Int)) = (0, a, 1) := by
      rw [newF_of (r0 := (a, 1, 0)) (by rw [A0]; exact r0) (by rw [A1]), seen_yes 0 rfl (Or.inl (show (-1 : Int) < 0 by decide)), seen_bad 1 b1]
      rfl
    unfold loadF
    rw [e]; rfl
  · have e : newF (spoilF y (i : Int)) = (1, b, 2) := by
      rw [newF_of (r1 := (b, 2, 0)) (by rw [B0]) (by rw [B1]; exact r1), seen_bad 0 b0, seen_yes 1 rfl (Or.inl (show (-1 : Int) < 0 by decide))]
      rfl
    unfold loadF
    rw [e]; rfl
  · have e : newF (spoilF (spoilF y (i : Int)) (j : Int)) = (-1, nt0, 0) := by
      rw [newF_of (by rw [C0]) (by rw [C1]), seen_bad 0 b0, seen_bad 1 b1]
    unfold loadF
    rw [e]; rfl
end Go.Proofs.Ytdalajfjikbcaaa
