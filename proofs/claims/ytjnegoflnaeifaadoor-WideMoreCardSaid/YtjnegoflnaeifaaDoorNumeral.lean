/- What Parse reads, as plain numbers: the digits of both pieces. No program is named here. -/
import Derived.Test.YtjnegoflnaeifaaDoorDec
import Derived.Lib.Strings
namespace Go.Proofs.YtjnegoflnaeifaaDoor.Dec
open Go.Lib

/-- what a block's digits tell; 0 of what are none -/
def valOf (l : List UInt8) : Nat := match parseUintB 64 l with | .ok u => u | _ => 0

theorem parse_le : ∀ (l : List UInt8) (acc u : Nat), acc ≤ 18446744073709551615 → parseUintM 18446744073709551615 acc l = .ok u → u ≤ 18446744073709551615
  | [], acc, u, h, e => by
    unfold parseUintM at e
    injection e with e
    omega
  | c :: l, acc, u, h, e => by
    unfold parseUintM at e
    split at e
    · split at e
      · cases e
      · split at e
        · cases e
        · exact parse_le l _ u (by omega) e
    · cases e

theorem parse_lt : ∀ (l : List UInt8) (acc u : Nat), parseUintM 18446744073709551615 acc l = .ok u → u < (acc + 1) * 10 ^ l.length
  | [], acc, u, e => by
    unfold parseUintM at e
    injection e with e
    simp; omega
  | c :: l, acc, u, e => by
    unfold parseUintM at e
    split at e
    · rename_i hd
      split at e
      · cases e
      · split at e
        · cases e
        · have := parse_lt l _ u e
          have g : (acc * 10 + (c.toNat - 48) + 1) * 10 ^ l.length ≤ (acc + 1) * 10 * 10 ^ l.length := Nat.mul_le_mul_right _ (by omega)
          rw [List.length_cons, Nat.pow_succ, show (acc + 1) * (10 ^ l.length * 10) = (acc + 1) * 10 * 10 ^ l.length by rw [Nat.mul_comm (10 ^ l.length) 10, Nat.mul_assoc]]
          omega
    · cases e

theorem valOf_le (l : List UInt8) : valOf l ≤ 18446744073709551615 := by
  unfold valOf
  split
  · rename_i u e
    unfold parseUintB at e
    split at e
    · cases e
    · rw [show (2 ^ 64 - 1 : Nat) = 18446744073709551615 by decide] at e
      exact parse_le l 0 u (by omega) e
  · omega

theorem valOf_lt (l : List UInt8) : valOf l < 10 ^ l.length := by
  unfold valOf
  split
  · rename_i u e
    unfold parseUintB at e
    split at e
    · cases e
    · rw [show (2 ^ 64 - 1 : Nat) = 18446744073709551615 by decide] at e
      have := parse_lt l 0 u e
      omega
  · exact Nat.pow_pos (by decide)

theorem valOf_19 (l : List UInt8) (h : l.length ≤ 19) : valOf l ≤ 9999999999999999999 := by
  have := valOf_lt l
  have h10 : (10 : Nat) ^ l.length ≤ 10 ^ 19 := Nat.pow_le_pow_right (by decide) h
  have : (10 : Nat) ^ 19 = 10000000000000000000 := by decide
  omega

theorem valOf_dec (u : Nat) (h : u ≤ 18446744073709551615) : valOf (decDigits u) = u := by
  unfold valOf
  rw [parse_list _ (dec_ne u) (digs_dec u) (by rw [val_dec]; exact h), val_dec]

theorem valOf_pad (t : Nat) (h : t < 10 ^ 19) : valOf (pad 19 t) = t := by
  have e : (10 : Nat) ^ 19 = 10000000000000000000 := by decide
  have v := val_pad 19 0 t h
  rw [Nat.zero_mul, Nat.zero_add] at v
  unfold valOf
  rw [parse_list _ (by intro g; have := pad_length 19 t; rw [g] at this; cases this) (digs_pad 19 t) (by rw [v]; omega), v]

theorem valOf_nil : valOf [] = 0 := rfl

/-- what is behind the sign -/
def tail (l : List UInt8) : List UInt8 := trimPrefix l [45]
/-- whether there is a sign -/
def dash (l : List UInt8) : Bool := hasPrefix l [45]
/-- the size that the digits tell -/
def size (d : List UInt8) : Nat := valOf (d.take (d.length - 19)) * 10000000000000000000 + valOf (d.drop (d.length - 19))
/-- the number that a text tells -/
def num (l : List UInt8) : Int := if dash l then -(size (tail l) : Int) else (size (tail l) : Int)
/-- the text of a number -/
def text (x : Int) : List UInt8 := if x < 0 then 45 :: decDigits x.natAbs else decDigits x.natAbs

theorem size_le (d : List UInt8) (h : d.length ≤ 38) : size d ≤ 99999999999999999999999999999999999999 := by
  unfold size
  have a := valOf_19 (d.take (d.length - 19)) (by rw [List.length_take]; omega)
  have b := valOf_19 (d.drop (d.length - 19)) (by rw [List.length_drop]; omega)
  omega

theorem size_dec (n : Nat) (h : n < 100000000000000000000000000000000000000) : size (decDigits n) = n ∧ (decDigits n).length ≤ 38 := by
  have e : (10 : Nat) ^ 19 = 10000000000000000000 := by decide
  refine ⟨?_, dec_len 38 n (by omega) (by rw [show (10 : Nat) ^ 38 = 100000000000000000000000000000000000000 by decide]; exact h)⟩
  by_cases hs : n < 10000000000000000000
  · have l := dec_len 19 n (by omega) (by rw [e]; exact hs)
    unfold size
    rw [show (decDigits n).length - 19 = 0 by omega, List.take_zero, List.drop_zero, valOf_nil, valOf_dec n (by omega)]
    omega
  · have hj := dec_join 19 (n / 10000000000000000000) (n % 10000000000000000000) (by omega) (by rw [e]; omega)
    rw [e, show n / 10000000000000000000 * 10000000000000000000 + n % 10000000000000000000 = n by omega] at hj
    unfold size
    rw [hj, List.length_append, pad_length, Nat.add_sub_cancel, List.take_left, List.drop_left, valOf_dec _ (by omega), valOf_pad _ (by rw [e]; omega)]
    omega

theorem dec_dash (n : Nat) : dash (decDigits n) = false := by
  have hd := digs_dec n
  have hn := dec_ne n
  unfold dash hasPrefix
  cases h : decDigits n with
  | nil => exact absurd h hn
  | cons c l =>
    have := hd c (by rw [h]; exact List.mem_cons_self ..)
    have hc : ((45 : UInt8) == c) = false := by
      rw [beq_eq_false_iff_ne]
      intro e
      rw [← e] at this
      exact absurd this.1 (by decide)
    simp [List.isPrefixOf, hc]

theorem tail_dec (n : Nat) : tail (decDigits n) = decDigits n := by
  have h := dec_dash n
  unfold dash at h
  unfold tail trimPrefix
  rw [if_neg (by simp [h])]

theorem dash_cons (l : List UInt8) : dash (45 :: l) = true := by simp [dash, hasPrefix, List.isPrefixOf]
theorem tail_cons (l : List UInt8) : tail (45 :: l) = l := by simp [tail, trimPrefix, hasPrefix, List.isPrefixOf]

/-- what is written is read -/
theorem num_text (x : Int) (h : -99999999999999999999999999999999999999 ≤ x) (h' : x ≤ 99999999999999999999999999999999999999) : num (text x) = x ∧ (tail (text x)).length ≤ 38 := by
  have s := size_dec x.natAbs (by omega)
  unfold text num
  by_cases hx : x < 0
  · rw [if_pos hx, dash_cons, tail_cons, if_pos rfl, s.1]
    exact ⟨by omega, s.2⟩
  · rw [if_neg hx, dec_dash, tail_dec, if_neg (by decide), s.1]
    exact ⟨by omega, s.2⟩

theorem tail_len (l : List UInt8) : (tail l).length ≤ l.length := by
  unfold tail trimPrefix
  split
  · rw [List.length_drop]; omega
  · omega

theorem num_le (l : List UInt8) (h : (tail l).length ≤ 38) : -99999999999999999999999999999999999999 ≤ num l ∧ num l ≤ 99999999999999999999999999999999999999 := by
  have := size_le (tail l) h
  unfold num
  split <;> omega

end Go.Proofs.YtjnegoflnaeifaaDoor.Dec
