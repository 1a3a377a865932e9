/- Mixed texts, turned bits and bursts, plain. -/
import Derived.Test.YtaipjhfgkidbfaaCrcBurst
import Derived.Test.YtaipjhfgkidbfaaLawJoins
namespace Go.Proofs.Ytaipjhfgkidbfaa
open Go.RowKit

theorem bv_getElem (l : List UInt8) (i : Nat) (h : i < (bv l).length) : (bv l)[i] = (l.getD i 0).toBitVec := by
  rw [bv_length] at h
  simp [bv, List.getD, h]

/-- a text of which one byte is another one has another sum -/
theorem set_told (l : List UInt8) (q : Nat) (m : UInt8) (hq : q < l.length) (hm : m.toBitVec ≠ 0#8) : Crc.sum (bv (l.set q (l.getD q 0 ^^^ m))) ≠ Crc.sum (bv l) := by
  have e1 : l.set q (l.getD q 0 ^^^ m) = l.take q ++ (l.getD q 0 ^^^ m) :: l.drop (q + 1) := by
    rw [List.set_eq_take_append_cons_drop, if_pos hq]
  have e2 : l = l.take q ++ l.getD q 0 :: l.drop (q + 1) := by
    have g : l.getD q 0 = l[q] := by simp [List.getD, hq]
    rw [g, List.getElem_cons_drop, List.take_append_drop]
  have t := Crc.turned_told (bv (l.take q)) (bv (l.drop (q + 1))) (l.getD q 0).toBitVec m.toBitVec hm
  intro h
  apply t
  have c1 : bv (l.set q (l.getD q 0 ^^^ m)) = bv (l.take q) ++ ((l.getD q 0).toBitVec ^^^ m.toBitVec) :: bv (l.drop (q + 1)) := by rw [e1, bv_append]; rfl
  have c2 : bv l = bv (l.take q) ++ (l.getD q 0).toBitVec :: bv (l.drop (q + 1)) := by
    have := congrArg bv e2
    rw [bv_append] at this
    exact this
  rw [← c1, ← c2]
  exact h

theorem turn_ne (j : Nat) : (turnB j).toBitVec ≠ 0#8 := by
  unfold turnB
  have k : ∀ e : Fin 8, (UInt8.ofNat (2 ^ e.val)).toBitVec ≠ 0#8 := by decide
  exact k ⟨7 - j % 8, by omega⟩

/-! ### Bursts -/
theorem bu_self (a : List UInt8) : ∀ i, bu a a i = (-1, -1)
  | 0 => rfl
  | i + 1 => by rw [bu, if_pos rfl, bu_self a i]
theorem burst_self (a : List UInt8) : burst a a = 0 := by
  unfold burst
  rw [bu_self, if_pos (by decide)]

theorem bitAt_test (l : List UInt8) (j : Nat) : bitAt l j = ((l.getD (j / 8) 0).toNat.testBit (7 - j % 8)).toNat := by
  unfold bitAt
  rw [Nat.testBit_eq_decide_div_mod_eq]
  by_cases h : (l.getD (j / 8) 0).toNat / 2 ^ (7 - j % 8) % 2 = 1
  · rw [decide_eq_true h, h]; rfl
  · rw [decide_eq_false h]
    show _ = 0
    omega

theorem turn_test (k j : Nat) (h : j / 8 = k / 8) : (turnB k).toNat.testBit (7 - j % 8) = decide (j = k) := by
  unfold turnB
  have h2 : 2 ^ (7 - k % 8) < 256 := Nat.lt_of_le_of_lt (Nat.pow_le_pow_right (by decide) (show 7 - k % 8 ≤ 7 by omega)) (by decide)
  rw [byte_of' _ h2, Nat.testBit_two_pow]
  by_cases e : j = k
  · subst e; simp
  · rw [decide_eq_false e, decide_eq_false (by omega)]

theorem bit_turned (l : List UInt8) (k j : Nat) (hk : k / 8 < l.length) :
    bitAt (l.set (k / 8) (l.getD (k / 8) 0 ^^^ turnB k)) j = if j = k then 1 - bitAt l j else bitAt l j := by
  rw [bitAt_test, bitAt_test]
  by_cases e8 : j / 8 = k / 8
  · have g : (l.set (k / 8) (l.getD (k / 8) 0 ^^^ turnB k)).getD (j / 8) 0 = l.getD (k / 8) 0 ^^^ turnB k := by rw [e8]; simp [List.getD, hk]
    rw [g, UInt8.toNat_xor, Nat.testBit_xor, turn_test k j e8, e8]
    by_cases e : j = k
    · rw [decide_eq_true e, if_pos e]
      cases (l.getD (k / 8) 0).toNat.testBit (7 - j % 8) <;> rfl
    · rw [decide_eq_false e, if_neg e, Bool.xor_false]
  · have g : (l.set (k / 8) (l.getD (k / 8) 0 ^^^ turnB k)).getD (j / 8) 0 = l.getD (j / 8) 0 := by simp [List.getD, Ne.symm e8]
    rw [g, if_neg (by intro e; subst e; exact e8 rfl)]

/-- whether the j-th bit is turned, i of the sixteen gone through -/
def turned (at_ : Nat) (mask : BitVec 16) (i j : Nat) : Bool := decide (at_ ≤ j ∧ j < at_ + i) && mask.getLsbD (j - at_)
theorem bitAt_le (l : List UInt8) (j : Nat) : bitAt l j ≤ 1 := by unfold bitAt; omega
theorem cF_bits (lo : List UInt8) (at_ : Nat) (mask : BitVec 16) (h : at_ + 15 < 8 * lo.length) (j : Nat) : ∀ i, i ≤ 16 → bitAt (cF lo at_ mask i) j = if turned at_ mask i j then 1 - bitAt lo j else bitAt lo j
  | 0, _ => by
    have e : turned at_ mask 0 j = false := by unfold turned; rw [decide_eq_false (by omega)]; rfl
    rw [e, if_neg (by decide)]; rfl
  | i + 1, hi => by
    have ih := cF_bits lo at_ mask h j i (by omega)
    rw [cF]
    have split : turned at_ mask (i + 1) j = (turned at_ mask i j || (decide (j = at_ + i) && mask.getLsbD i)) := by
      unfold turned
      by_cases e : j = at_ + i
      · subst e
        rw [decide_eq_true (by omega : at_ ≤ at_ + i ∧ at_ + i < at_ + (i + 1)), decide_eq_false (by omega : ¬(at_ ≤ at_ + i ∧ at_ + i < at_ + i)), decide_eq_true rfl, Nat.add_sub_cancel_left]
        rfl
      · rw [decide_eq_false e, Bool.false_and, Bool.or_false]
        congr 1
        simp only [decide_eq_decide]
        omega
    cases hg : mask.getLsbD i
    · rw [if_neg (by decide), ih, split, hg, Bool.and_false, Bool.or_false]
    · rw [if_pos rfl, bit_turned _ (at_ + i) j (by rw [cF_length]; omega), ih, split, hg, Bool.and_true]
      by_cases e : j = at_ + i
      · have t : turned at_ mask i j = false := by unfold turned; rw [decide_eq_false (by omega)]; rfl
        rw [if_pos e, t, decide_eq_true e, if_neg (by decide), if_pos (by rfl)]
      · rw [if_neg e, decide_eq_false e, Bool.or_false]

theorem unlike_iff (lo : List UInt8) (at_ : Nat) (mask : BitVec 16) (h : at_ + 15 < 8 * lo.length) (j : Nat) : (bitAt lo j = bitAt (cF lo at_ mask 16) j) ↔ turned at_ mask 16 j = false := by
  rw [cF_bits lo at_ mask h j 16 (by omega)]
  have := bitAt_le lo j
  cases turned at_ mask 16 j
  · simp
  · simp; omega

theorem bu_turned (lo : List UInt8) (at_ : Nat) (mask : BitVec 16) (h : at_ + 15 < 8 * lo.length) (hm : mask.getLsbD 0 = true) :
    ∀ j : Nat, (j ≤ at_ → bu lo (cF lo at_ mask 16) j = (-1, -1)) ∧ (at_ < j → (bu lo (cF lo at_ mask 16) j).1 = at_ ∧ (at_ : Int) ≤ (bu lo (cF lo at_ mask 16) j).2 ∧ (bu lo (cF lo at_ mask 16) j).2 ≤ at_ + 15)
  | 0 => ⟨fun _ => rfl, fun h => by omega⟩
  | j + 1 => by
    obtain ⟨h1, h2⟩ := bu_turned lo at_ mask h hm j
    have u := unlike_iff lo at_ mask h j
    rw [bu]
    cases t : turned at_ mask 16 j with
    | false =>
      rw [if_pos (u.2 t)]
      refine ⟨fun g => h1 (by omega), fun g => h2 ?_⟩
      by_cases e : at_ = j
      · subst e
        unfold turned at t
        rw [decide_eq_true (by omega), Nat.sub_self, hm] at t
        cases t
      · omega
    | true =>
      have r : at_ ≤ j ∧ j < at_ + 16 := by
        unfold turned at t
        rw [Bool.and_eq_true, decide_eq_true_eq] at t
        exact t.1
      rw [if_neg (fun g => by rw [u.1 g] at t; cases t)]
      refine ⟨fun g => by omega, fun _ => ?_⟩
      by_cases e : at_ = j
      · subst e
        rw [h1 (by omega), if_pos (by decide)]
        exact ⟨rfl, by omega, by omega⟩
      · obtain ⟨g1, g2, g3⟩ := h2 (by omega)
        rw [if_neg (by rw [g1]; omega)]
        exact ⟨g1, by show (at_ : Int) ≤ (j : Int); omega, by show (j : Int) ≤ _; omega⟩

theorem burst_turned (lo : List UInt8) (at_ : Nat) (mask : BitVec 16) (h : at_ + 15 < 8 * lo.length) (hm : mask.getLsbD 0 = true) :
    1 ≤ burst lo (cF lo at_ mask 16) ∧ burst lo (cF lo at_ mask 16) ≤ 16 := by
  unfold burst
  rw [cF_length, Nat.min_self]
  obtain ⟨g1, g2, g3⟩ := (bu_turned lo at_ mask h hm (8 * lo.length)).2 (by omega)
  rw [if_neg (by rw [g1]; omega), g1]
  omega

/-! ### Sums -/
theorem bits_length : ∀ l : List (BitVec 8), (Crc.bits l).length = 8 * l.length
  | [] => rfl
  | b :: l => by
    show (Crc.bitsOf b ++ Crc.bits l).length = _
    rw [List.length_append, bits_length l, List.length_cons]
    show 8 + _ = _
    omega
theorem bits_get : ∀ (l : List (BitVec 8)) (j : Nat) (h : j < (Crc.bits l).length), (Crc.bits l)[j] = (l.getD (j / 8) 0#8).getLsbD (7 - j % 8)
  | [], j, h => by simp [Crc.bits] at h
  | b :: l, j, h => by
    rw [bits_length] at h
    by_cases e : j < 8
    · have e0 : j / 8 = 0 := by omega
      have e1 : j % 8 = j := by omega
      have g : (Crc.bits (b :: l))[j]? = (Crc.bitsOf b)[j]? := by
        show (Crc.bitsOf b ++ Crc.bits l)[j]? = _
        rw [List.getElem?_append_left (by simpa [Crc.bitsOf] using e)]
      have g2 : (Crc.bits (b :: l))[j]? = some (b.getLsbD (7 - j)) := by
        rw [g]
        match j, e with
        | 0, _ => rfl
        | 1, _ => rfl
        | 2, _ => rfl
        | 3, _ => rfl
        | 4, _ => rfl
        | 5, _ => rfl
        | 6, _ => rfl
        | 7, _ => rfl
      have g3 := (List.getElem?_eq_some_iff.1 g2).2
      rw [g3, e0, e1]
      rfl
    · have g : (Crc.bits (b :: l))[j]? = (Crc.bits l)[j - 8]? := by
        show (Crc.bitsOf b ++ Crc.bits l)[j]? = _
        rw [List.getElem?_append_right (by simp [Crc.bitsOf]; omega)]
        rfl
      have hl : j - 8 < (Crc.bits l).length := by rw [bits_length]; rw [List.length_cons] at h; omega
      have g2 := bits_get l (j - 8) hl
      rw [List.getElem?_eq_getElem hl, g2] at g
      have g3 := (List.getElem?_eq_some_iff.1 g).2
      rw [g3, show j / 8 = (j - 8) / 8 + 1 by omega, show j % 8 = (j - 8) % 8 by omega]
      rfl

theorem mix_getD (a b : List UInt8) (h : a.length = b.length) (i : Nat) (hi : i < a.length) : (Crc.mix (bv a) (bv b)).getD i 0#8 = (a.getD i 0).toBitVec ^^^ (b.getD i 0).toBitVec := by
  unfold Crc.mix
  have hb : i < b.length := by omega
  simp [List.getD, bv, List.getElem?_zipWith, hi, hb]

theorem bit_mix (a b : List UInt8) (h : a.length = b.length) (j : Nat) (hj : j < 8 * a.length) : ((Crc.mix (bv a) (bv b)).getD (j / 8) 0#8).getLsbD (7 - j % 8) = !decide (bitAt a j = bitAt b j) := by
  rw [mix_getD a b h (j / 8) (by omega), BitVec.getLsbD_xor, bitAt_test, bitAt_test]
  show ((a.getD (j / 8) 0).toNat.testBit (7 - j % 8) ^^ (b.getD (j / 8) 0).toNat.testBit (7 - j % 8)) = _
  cases (a.getD (j / 8) 0).toNat.testBit (7 - j % 8) <;> cases (b.getD (j / 8) 0).toNat.testBit (7 - j % 8) <;> rfl

theorem sums_unlike (lo : List UInt8) (at_ : Nat) (mask : BitVec 16) (h : at_ + 15 < 8 * lo.length) (hm : mask.getLsbD 0 = true) : Crc.sum (bv (cF lo at_ mask 16)) ≠ Crc.sum (bv lo) := by
  have hlen : lo.length = (cF lo at_ mask 16).length := (cF_length lo at_ mask 16).symm
  intro e
  have x := Crc.sum_mix (bv lo) (bv (cF lo at_ mask 16)) (by rw [bv_length, bv_length]; exact hlen)
  rw [e, BitVec.xor_self] at x
  refine Crc.burst_told (Crc.mix (bv lo) (bv (cF lo at_ mask 16))) at_ (8 * lo.length - (at_ + 16)) ((List.range 16).map fun i => mask.getLsbD i) (by simp) ?_ ?_ x.symm
  · rw [List.mem_map]
    exact ⟨0, by simp, hm⟩
  · have ml : (Crc.mix (bv lo) (bv (cF lo at_ mask 16))).length = lo.length := by
      unfold Crc.mix
      rw [List.length_zipWith, bv_length, bv_length, ← hlen, Nat.min_self]
    apply List.ext_getElem
    · rw [bits_length, ml]; simp; omega
    · intro j h1 h2
      rw [bits_get _ j h1]
      rw [bits_length, ml] at h1
      rw [bit_mix lo _ hlen j h1]
      have u := unlike_iff lo at_ mask h j
      have t : (!decide (bitAt lo j = bitAt (cF lo at_ mask 16) j)) = turned at_ mask 16 j := by
        cases g : turned at_ mask 16 j
        · rw [decide_eq_true (u.2 g)]; rfl
        · rw [decide_eq_false (fun k => by rw [u.1 k] at g; cases g)]; rfl
      rw [t]
      unfold turned
      by_cases c1 : j < at_
      · rw [decide_eq_false (by omega)]
        rw [List.getElem_append_left (by simp; omega), List.getElem_append_left (by simpa using c1)]
        simp
      · by_cases c2 : j < at_ + 16
        · rw [decide_eq_true (by omega)]
          rw [List.getElem_append_left (by simp; omega), List.getElem_append_right (by simp; omega)]
          simp
        · rw [decide_eq_false (by omega)]
          rw [List.getElem_append_right (by simp; omega)]
          simp

end Go.Proofs.Ytaipjhfgkidbfaa
