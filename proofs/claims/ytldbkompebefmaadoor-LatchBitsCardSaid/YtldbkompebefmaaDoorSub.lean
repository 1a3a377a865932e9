/- Sets of six: numbers whose lowest six bits say which are in it. No program is named here. -/
import Derived.Test.YtldbkompebefmaaDoorMem
namespace Go.Proofs.YtldbkompebefmaaDoor.Sub
open Go.RowKit

/-- the lowest six bits -/
def low (x : Int) : Nat := (x % 64).toNat
/-- is i in it -/
def has (m i : Nat) : Bool := m / 2 ^ i % 2 == 1
/-- its members -/
def mem (m : Nat) : List Nat := (List.range 6).filter (has m)
/-- how many -/
def cnt (m : Nat) : Nat := (mem m).length
/-- all of them that have n -/
def all (n : Int) : List Nat := (List.range 64).filter fun s => decide ((cnt s : Int) = n)
/-- the next one that has as many -/
def nxt (m : Nat) : Option Nat := (List.range 64).find? fun s => decide (m < s) && decide (cnt s = cnt m)
/-- its place among those that have as many -/
def num (m : Nat) : Nat := (all (cnt m)).findIdx (fun s => decide (s = m))
/-- is a in b -/
def within (a b : Nat) : Bool := (List.range 6).all fun i => !has a i || has b i
/-- all that are in it -/
def part (m : Nat) : List Nat := (List.range 64).filter fun s => within s m

theorem low_lt (x : Int) : low x < 64 := by unfold low; omega
theorem low_of (n : Nat) (h : n < 64) : low (n : Int) = n := by unfold low; omega
theorem low_low (x : Int) : low (low x : Int) = low x := low_of _ (low_lt x)

theorem room {x : Int} (h : -9223372036854775808 ≤ x ∧ x ≤ 9223372036854775807) : x = (BitVec.ofInt 64 x).toInt := by
  rw [BitVec.toInt_ofInt]
  unfold Int.bmod
  simp
  omega

/-- a bit of a number, as code asks for it -/
theorem bit_at (x : Int) (i : Nat) (hi : i < 6) : x / 2 ^ i % 2 = (low x : Int) / 2 ^ i % 2 := by
  unfold low
  rw [Int.toNat_of_nonneg (by omega)]
  rcases (show i = 0 ∨ i = 1 ∨ i = 2 ∨ i = 3 ∨ i = 4 ∨ i = 5 by omega) with rfl | rfl | rfl | rfl | rfl | rfl <;> omega
theorem has_at (x : Int) (i : Nat) (hi : i < 6) : (x / 2 ^ i % 2 = 1) ↔ has (low x) i = true := by
  rw [bit_at x i hi]
  unfold has
  rw [beq_iff_eq]
  constructor
  · intro h; exact_mod_cast h
  · intro h; exact_mod_cast h

theorem and1 (x : Int) : bits .and .i64 x 1 = x % 2 := by
  show IntKind.i64.wrap ((BitVec.ofInt 64 x &&& BitVec.ofInt 64 1).toNat : Int) = _
  rw [BitVec.toNat_and, BitVec.toNat_ofInt, show (BitVec.ofInt 64 1).toNat = 2 ^ 1 - 1 by decide, Nat.and_two_pow_sub_one_eq_mod, IntKind.wrap_i64]
  omega
theorem and63 (x : Int) : bits .and .i64 x 63 = (low x : Int) := by
  show IntKind.i64.wrap ((BitVec.ofInt 64 x &&& BitVec.ofInt 64 63).toNat : Int) = _
  rw [BitVec.toNat_and, BitVec.toNat_ofInt, show (BitVec.ofInt 64 63).toNat = 2 ^ 6 - 1 by decide, Nat.and_two_pow_sub_one_eq_mod, IntKind.wrap_i64]
  unfold low
  omega

theorem has_bit (m i : Nat) : has m i = m.testBit i := by
  rw [Nat.testBit_eq_decide_div_mod_eq]
  unfold has
  rfl
theorem low_bits (x : Int) : low x = (BitVec.ofInt 64 x).toNat % 2 ^ 6 := by
  rw [BitVec.toNat_ofInt]
  unfold low
  omega
theorem low_bit (x : Int) (i : Nat) (h : i < 6) : (low x).testBit i = (BitVec.ofInt 64 x).getLsbD i := by
  rw [low_bits, Nat.testBit_mod_two_pow, decide_eq_true h, Bool.true_and]
  rfl
theorem within_bits (a : Nat) (b : Int) : within a (low b) = true ↔ ∀ i, i < 6 → a.testBit i = true → (BitVec.ofInt 64 b).getLsbD i = true := by
  unfold within
  rw [List.all_eq_true]
  constructor
  · intro h i hi ha
    have := h i (List.mem_range.2 hi)
    rw [has_bit, has_bit, low_bit b i hi, ha] at this
    simpa using this
  · intro h i hi
    have hi := List.mem_range.1 hi
    rw [has_bit, has_bit, low_bit b i hi]
    cases ha : a.testBit i
    · rfl
    · rw [h i hi ha]; rfl
theorem andNot_bits (a : Nat) (ha : a < 64) (b : Int) : (bits .andNot .i64 (a : Int) b == 0) = within a (low b) := by
  have hx : (BitVec.ofInt 64 (a : Int)).toNat = a := by rw [BitVec.toNat_ofInt]; omega
  have e : bits .andNot .i64 (a : Int) b = IntKind.i64.wrap ((BitVec.ofInt 64 (a : Int) &&& ~~~BitVec.ofInt 64 b).toNat : Int) := rfl
  have hle : (BitVec.ofInt 64 (a : Int) &&& ~~~BitVec.ofInt 64 b).toNat ≤ a := by rw [BitVec.toNat_and, hx]; exact Nat.and_le_left
  have key : (BitVec.ofInt 64 (a : Int) &&& ~~~BitVec.ofInt 64 b).toNat = 0 ↔ within a (low b) = true := by
    rw [within_bits]
    constructor
    · intro h i hi hb
      have h0 : (BitVec.ofInt 64 (a : Int) &&& ~~~BitVec.ofInt 64 b).getLsbD i = false := by
        show Nat.testBit _ i = false
        rw [h]; exact Nat.zero_testBit i
      rw [BitVec.getLsbD_and, BitVec.getLsbD_not] at h0
      have h1 : (BitVec.ofInt 64 (a : Int)).getLsbD i = true := by
        show Nat.testBit _ i = true
        rw [hx]; exact hb
      rw [h1, decide_eq_true (by omega)] at h0
      simpa using h0
    · intro h
      refine Nat.eq_of_testBit_eq fun i => ?_
      rw [Nat.zero_testBit]
      show (BitVec.ofInt 64 (a : Int) &&& ~~~BitVec.ofInt 64 b).getLsbD i = false
      rw [BitVec.getLsbD_and, BitVec.getLsbD_not]
      by_cases hi : i < 6
      · cases hb : a.testBit i
        · have h1 : (BitVec.ofInt 64 (a : Int)).getLsbD i = false := by
            show Nat.testBit _ i = false
            rw [hx]; exact hb
          rw [h1]; rfl
        · rw [h i hi hb]; simp
      · have h1 : (BitVec.ofInt 64 (a : Int)).getLsbD i = false := by
          show Nat.testBit _ i = false
          rw [hx]
          exact Nat.testBit_lt_two_pow (Nat.lt_of_lt_of_le ha (show 2 ^ 6 ≤ 2 ^ i from Nat.pow_le_pow_right (by decide) (by omega)))
        rw [h1]; rfl
  rw [e]
  generalize (BitVec.ofInt 64 (a : Int) &&& ~~~BitVec.ofInt 64 b).toNat = n at *
  have hw : IntKind.i64.wrap (n : Int) = n := by rw [IntKind.wrap_i64]; omega
  rw [hw]
  cases g : within a (low b)
  · have : n ≠ 0 := fun h => by rw [key.1 h] at g; cases g
    simpa using this
  · rw [key.2 g]; rfl

theorem mem_lt {m i : Nat} (h : i ∈ mem m) : i < 6 := List.mem_range.1 (List.mem_filter.1 h).1
theorem cnt_le (m : Nat) : cnt m ≤ 6 := by
  have := List.length_filter_le (has m) (List.range 6)
  rw [List.length_range] at this
  exact this

end Go.Proofs.YtldbkompebefmaaDoor.Sub
