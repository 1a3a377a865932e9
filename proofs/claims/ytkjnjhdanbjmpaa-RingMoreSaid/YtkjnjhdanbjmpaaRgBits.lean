
/- What math/bits.Len64, LeadingZeros64 and Mul64 return, walked over this program's own dump. -/
import Derived.Test.YtkjnjhdanbjmpaaProg
import Derived.WalkKit
import Derived.WalkSpells
import Derived.WalkLawsBesides
import Derived.Lib.ItoaNum
import Derived.Laws.Bits64b
namespace Go.Proofs.Ytkjnjhdanbjmpaa
open Go.RowKit

theorem tab_at (i : Nat) (h : i < Lib.len8tab.size) : ((Lib.len8tab[i]'h).toNat : Int) = (Lib.bitLen i : Int) := by
  have h2 : i < 256 := by rw [Lib.len8tab_size] at h; exact h
  have e := Lib.len8_of (i : Int) (by omega) (by omega)
  simp only [Lib.len8, Int.toNat_natCast] at e
  rw [ByteArray.getElem?_lt' _ _ h, Option.getD_some] at e
  exact e

theorem len_end (x : Nat) (i : Int) (c : Nat) (m : Nat) (h : i.toNat < Lib.len8tab.size) (hc : c ≤ 56) (e : i.toNat = m) (hx : Lib.bitLen x = c + Lib.bitLen m) (hm : m < 256) :
    wrap64 ((c : Int) + wrap64 ((Lib.len8tab[i.toNat]'h).toNat : Int)) = (Lib.bitLen x : Int) := by
  rw [tab_at _ h, e, hx]
  have l := Lib.bitLen_le m 8 (by omega) (by omega)
  have i1 : wrap64 ((Lib.bitLen m : Nat) : Int) = (Lib.bitLen m : Int) := IntWalk.wrap64_in _ ⟨by omega, by omega⟩
  rw [i1, IntWalk.wrap64_in _ ⟨by omega, by omega⟩]
  omega

theorem len_end0 (x : Nat) (i : Int) (h : i.toNat < Lib.len8tab.size) (e : i.toNat = x) (hm : x < 256) :
    wrap64 (wrap64 ((Lib.len8tab[i.toNat]'h).toNat : Int)) = (Lib.bitLen x : Int) := by
  rw [tab_at _ h, e]
  have l := Lib.bitLen_le x 8 (by omega) (by omega)
  have i1 : wrap64 ((Lib.bitLen x : Nat) : Int) = (Lib.bitLen x : Int) := IntWalk.wrap64_in _ ⟨by omega, by omega⟩
  rw [i1, i1]

set_option maxHeartbeats 4000000 in
set_option maxRecDepth 100000 in
theorem Len64_any (x : Int) (w : World) (h0 : 0 ≤ x) (h1 : x ≤ 18446744073709551615) :
    Calls Try.prog 41 #[.int .u64 x] w fun e w' => e = .returned (.int .i64 (Lib.bitLen x.toNat)) ∧ w = w' := by
  go_enter Try.func41, Try.ntmps41
  have hs : Lib.len8tab.size = 256 := Lib.len8tab_size
  go_wp2
  all_goals (try go_ret)
  all_goals (refine ⟨?_, rfl⟩)
  all_goals (first | (refine congrArg Ending.returned (congrArg (Value.int IntKind.i64) ?_)) | skip)
  all_goals first
    | exact len_end x.toNat (x / 4294967296 / 65536 / 256) 56 (x.toNat / 72057594037927936) _ (by omega) (by omega) (Lib.bitLen_shift56 x.toNat (by omega) (by omega)) (by omega)
    | exact len_end x.toNat (x / 4294967296 / 65536) 48 (x.toNat / 281474976710656) _ (by omega) (by omega) (Lib.bitLen_shift48 x.toNat (by omega) (by omega)) (by omega)
    | exact len_end x.toNat (x / 4294967296 / 256) 40 (x.toNat / 1099511627776) _ (by omega) (by omega) (Lib.bitLen_shift40 x.toNat (by omega) (by omega)) (by omega)
    | exact len_end x.toNat (x / 4294967296) 32 (x.toNat / 4294967296) _ (by omega) (by omega) (Lib.bitLen_shift32 x.toNat (by omega) (by omega)) (by omega)
    | exact len_end x.toNat (x / 65536 / 256) 24 (x.toNat / 16777216) _ (by omega) (by omega) (Lib.bitLen_shift24 x.toNat (by omega) (by omega)) (by omega)
    | exact len_end x.toNat (x / 65536) 16 (x.toNat / 65536) _ (by omega) (by omega) (Lib.bitLen_shift16 x.toNat (by omega) (by omega)) (by omega)
    | exact len_end x.toNat (x / 256) 8 (x.toNat / 256) _ (by omega) (by omega) (Lib.bitLen_shift8 x.toNat (by omega) (by omega)) (by omega)
    | exact len_end0 x.toNat x _ rfl (by omega)

theorem LeadingZeros64_any (x : Int) (w : World) (h0 : 0 ≤ x) (h1 : x ≤ 18446744073709551615) :
    Calls Try.prog 40 #[.int .u64 x] w fun e w' => e = .returned (.int .i64 (64 - (Lib.bitLen x.toNat : Int))) ∧ w = w' := by
  have l := Lib.bitLen_le x.toNat 64 (by omega) (by omega)
  go_enter Try.func40, Try.ntmps40
  go_wp2_with (go_at_call 41; refine (Len64_any x _ h0 h1).mono ?_; rintro e w' ⟨rfl, rfl⟩)
  go_ret
  exact ⟨rfl, rfl⟩

/-- What LeadingZeros64 is good for: it shifts a number that is not 0 up so that its first bit is set. -/
theorem lead (y : Nat) (h0 : 0 < y) (h1 : y < 18446744073709551616) :
    ∃ s : Nat, s < 64 ∧ (64 - (Lib.bitLen y : Int)) = (s : Int) ∧ 9223372036854775808 ≤ y * 2 ^ s ∧ y * 2 ^ s < 18446744073709551616 := by
  obtain ⟨a, b, c⟩ := Lib.bitLenAux_bounds 64 y h1 (by omega)
  have l : Lib.bitLen y ≤ 64 := Lib.bitLen_le y 64 (Nat.le_refl _) h1
  have e : Lib.bitLenAux 64 y = Lib.bitLen y := rfl
  rw [e] at a b c
  generalize Lib.bitLen y = n at *
  obtain ⟨k, rfl⟩ : ∃ k, n = k + 1 := ⟨n - 1, by omega⟩
  refine ⟨64 - (k + 1), by omega, by omega, ?_, ?_⟩
  · have h := Nat.mul_le_mul_right (2 ^ (64 - (k + 1))) b
    rw [← Nat.pow_add, show k + 1 - 1 + (64 - (k + 1)) = 63 by omega] at h
    exact h
  · have h := Nat.mul_lt_mul_of_pos_right c (Nat.two_pow_pos (64 - (k + 1)))
    rw [← Nat.pow_add, show k + 1 + (64 - (k + 1)) = 64 by omega] at h
    exact h

namespace Mul
theorem maskN (a : Nat) (ha : a < 18446744073709551616) : bits .and .u64 (a : Int) 4294967295 = ((a % 4294967296 : Nat) : Int) :=
  (bits_and_u64_nat a 4294967295 ha (by omega)).trans (congrArg Nat.cast (Nat.and_two_pow_sub_one_eq_mod a 32))
theorem divN (a : Nat) : (a : Int) / 4294967296 = ((a / 4294967296 : Nat) : Int) := by omega
theorem mulN (a b : Nat) : (a : Int) * (b : Int) = ((a * b : Nat) : Int) := (Int.natCast_mul a b).symm
theorem wrapN (a : Nat) (ha : a < 18446744073709551616) : IntKind.u64.wrap (a : Int) = (a : Int) := by rw [IntKind.wrap_u64]; omega
theorem wrapM (a : Nat) : IntKind.u64.wrap (a : Int) = ((a % 18446744073709551616 : Nat) : Int) := by rw [IntKind.wrap_u64]; omega

end Mul

end Go.Proofs.Ytkjnjhdanbjmpaa
