/- Half a sum by bits: what both have in common counts whole, what only one has by half. -/
import Derived.WalkKit
import Derived.Laws.Bits64b
namespace Go.Proofs.YtdembidbaojldaaDoor
open Go.RowKit

theorem nat_and_xor : ∀ n a b : Nat, a < n → a + b = 2 * (a &&& b) + (a ^^^ b) := by
  intro n
  induction n with
  | zero => intro a b h; omega
  | succ n ih =>
    intro a b h
    by_cases z : a = 0
    · subst z; simp
    · have i := ih (a / 2) (b / 2) (by omega)
      have d1 := Nat.and_div_two (a := a) (b := b)
      have d2 := Nat.xor_div_two (a := a) (b := b)
      have m1 : (a &&& b) % 2 = a % 2 &&& b % 2 := Nat.and_mod_two_pow (n := 1)
      have m2 : (a ^^^ b) % 2 = a % 2 ^^^ b % 2 := Nat.xor_mod_two_pow (n := 1)
      rw [← d1, ← d2] at i
      generalize a &&& b = P at *
      generalize a ^^^ b = Q at *
      have ha : a % 2 = 0 ∨ a % 2 = 1 := by omega
      have hb : b % 2 = 0 ∨ b % 2 = 1 := by omega
      rcases ha with ha | ha <;> rcases hb with hb | hb <;> rw [ha, hb] at m1 m2 <;> simp at m1 m2 <;> omega

theorem wrap_i64 (n : Int) : IntKind.i64.wrap n = (n + 9223372036854775808) % 18446744073709551616 - 9223372036854775808 := by
  simp [IntKind.wrap, IntKind.bits, IntKind.signed]
  split <;> omega

theorem bits_i64 (a b : Int) (ha : -9223372036854775808 ≤ a ∧ a ≤ 9223372036854775807) (hb : -9223372036854775808 ≤ b ∧ b ≤ 9223372036854775807) :
    2 * bits .and .i64 a b + bits .xor .i64 a b = a + b := by
  have eA : (BitVec.ofInt 64 a).toNat = (a % 18446744073709551616).toNat := BitVec.toNat_ofInt a
  have eB : (BitVec.ofInt 64 b).toNat = (b % 18446744073709551616).toNat := BitVec.toNat_ofInt b
  have h1 : bits .and .i64 a b = IntKind.i64.wrap ((BitVec.ofInt 64 a &&& BitVec.ofInt 64 b).toNat : Int) := rfl
  have h2 : bits .xor .i64 a b = IntKind.i64.wrap ((BitVec.ofInt 64 a ^^^ BitVec.ofInt 64 b).toNat : Int) := rfl
  rw [h1, h2, BitVec.toNat_and, BitVec.toNat_xor, eA, eB, wrap_i64, wrap_i64]
  obtain ⟨A, hA⟩ : ∃ A, A = (a % 18446744073709551616).toNat := ⟨_, rfl⟩
  obtain ⟨B, hB⟩ : ∃ B, B = (b % 18446744073709551616).toNat := ⟨_, rfl⟩
  rw [← hA, ← hB]
  have s := nat_and_xor (A + 1) A B (by omega)
  have d1 : (A &&& B) / 9223372036854775808 = A / 9223372036854775808 &&& B / 9223372036854775808 := Nat.and_div_two_pow (n := 63)
  have d2 : (A ^^^ B) / 9223372036854775808 = A / 9223372036854775808 ^^^ B / 9223372036854775808 := Nat.xor_div_two_pow (n := 63)
  have qa : A / 9223372036854775808 = 0 ∨ A / 9223372036854775808 = 1 := by omega
  have qb : B / 9223372036854775808 = 0 ∨ B / 9223372036854775808 = 1 := by omega
  generalize A &&& B = P at *
  generalize A ^^^ B = Q at *
  rcases qa with qa | qa <;> rcases qb with qb | qb <;> rw [qa, qb] at d1 d2 <;> simp at d1 d2 <;> omega

theorem mean_bits (a b : Int) (ha : -9223372036854775808 ≤ a ∧ a ≤ 9223372036854775807) (hb : -9223372036854775808 ≤ b ∧ b ≤ 9223372036854775807) :
    wrap64 (bits .and .i64 a b + bits .xor .i64 a b / 2) = (a + b) / 2 := by
  have := bits_i64 a b ha hb
  rw [IntWalk.wrap64_in _ ⟨by omega, by omega⟩]
  omega

end Go.Proofs.YtdembidbaojldaaDoor
