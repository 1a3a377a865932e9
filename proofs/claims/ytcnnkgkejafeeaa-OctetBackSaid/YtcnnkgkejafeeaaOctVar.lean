/- Var of the document's own answers for layer 5. -/
import Derived.Test.YtcnnkgkejafeeaaOctApp
import Derived.LoopTactic
namespace Go.Proofs.Ytcnnkgkejafeeaa
open Go.RowKit

theorem or128 (r : Nat) : bits .or .u8 ((r : Int) % 256) 128 = ((r % 128 + 128 : Nat) : Int) := by
  have e : (BitVec.ofInt 8 ((r : Int) % 256)).toNat = r % 256 := by rw [BitVec.toNat_ofInt]; omega
  show IntKind.u8.wrap ((BitVec.ofInt 8 ((r : Int) % 256) ||| BitVec.ofInt 8 128).toNat : Int) = _
  rw [BitVec.toNat_or, e, show (BitVec.ofInt 8 128).toNat = 128 by decide, IntKind.wrap_u8]
  have h : r % 256 ||| 128 = r % 128 + 128 := by
    have k : ∀ x : Nat, x < 256 → x ||| 128 = x % 128 + 128 := by decide +kernel
    rw [k _ (Nat.mod_lt _ (by decide))]; omega
  rw [h]; omega

theorem vals_app (l m : List UInt8) : vals (l ++ m) = vals l ++ vals m := List.map_append

theorem Bytes.more {B : Nat} {W0 w' : World} {v' : Value} {d : List UInt8} {c : Int} {x : UInt8} (hx : (x.toNat : Int) = c) (h : Lib.OwnBuf B 5 v' (d.length + 1) (vals d ++ [.int .u8 c]) W0 w') : Bytes B W0 w' v' (d ++ [x]) := by
  unfold Bytes
  rw [vals_app, List.length_append]
  subst hx
  exact h

theorem byte_lo (r : Nat) (h : r < 128) : ((UInt8.ofNat r).toNat : Int) = (r : Int) := by rw [Oct.byte_of _ (by omega)]
theorem byte_hi (r : Nat) : ((UInt8.ofNat (r % 128 + 128)).toNat : Int) = ((r % 128 + 128 : Nat) : Int) := by rw [Oct.byte_of _ (by omega)]

theorem few_rounds (j r : Nat) (hj : j ≤ 9) (hx : 128 ≤ r) (h : ((r * 128 ^ j : Nat) : Int) ≤ 18446744073709551615) : j ≤ 8 ∧ ((r / 128 * 128 ^ (j + 1) : Nat) : Int) ≤ 18446744073709551615 := by
  have n9 : ((128 ^ 9 : Nat) : Int) = 9223372036854775808 := by decide
  constructor
  · by_cases e : j = 9
    · subst e
      have : 128 * 128 ^ 9 ≤ r * 128 ^ 9 := Nat.mul_le_mul_right _ hx
      have := Int.ofNat_le.2 this
      rw [Int.natCast_mul 128, n9] at this
      omega
    · omega
  · have : r / 128 * 128 ^ (j + 1) ≤ r * 128 ^ j := by
      rw [Nat.pow_succ, Nat.mul_comm (128 ^ j), ← Nat.mul_assoc]
      exact Nat.mul_le_mul_right _ (Nat.div_mul_le_self r 128)
    have := Int.ofNat_le.2 this
    omega

namespace Ref
set_option maxHeartbeats 2000000 in
set_option maxRecDepth 100000 in
theorem Var_any (n : Nat) (w : World) (hn : (n : Int) ≤ 18446744073709551615) :
    Calls Try.prog 27 #[.int .u64 n] w fun e w' => ∃ v, e = .returned v ∧ Bytes w.heap.size w w' v (Oct.var n) := by
  obtain ⟨i0, hi, hz0, hz1, hz2⟩ := info_parts info8
  have k0 : ((n * 128 ^ 0 : Nat) : Int) ≤ 18446744073709551615 := by simpa using hn
  go_enter Try.func27, Try.ntmps27
  go_wp2
  go_loopw [0, 3, 4] (fun nv v i wr => ∃ (j r : Nat) (d : List UInt8), j ≤ 9 ∧ i = .int .i64 j ∧ nv = .int .u64 r ∧ d.length = j ∧ d ++ Oct.var r = Oct.var n ∧ ((r * 128 ^ j : Nat) : Int) ≤ 18446744073709551615 ∧ Bytes w.heap.size w wr v d) (fun _ _ i _ => 10 - (intOf i).toNat)
  case atStart => exact ⟨0, n, [], by omega, rfl, rfl, rfl, rfl, k0, World.ownsRowF_nil _ _ _ _, Below.refl _ _, Nat.le_refl _⟩
  case round =>
    obtain ⟨j, r, d, hj, rfl, rfl, hd, hv, hr, hb⟩ := hrel
    by_cases hx : (r : Int) < 128
    · rw [Oct.var_low (by omega)] at hv
      have hl : d.length + 1 ≤ 140737488355328 := by omega
      have HV := Lib.hid hv; have HD := Lib.hid hd; have HL := Lib.hid hl
      clear hr hv hd hl k0
      go_wp2_with (at_builtin; refine Lib.wpList_append_byte rfl _ _ 22 rfl w.heap.size 5 i0 Try.underlying22 hi hz0 hz1 hz2 u3 d.length (vals d) rfl w wr _ hb rfl ?c3 ?_)
      case c3 => first | exact HL.out | (have := HL.out; omega)
      intro v' w' hb'
      go_wp2
      go_ret
      exact ⟨v', rfl, HV.out ▸ Bytes.more (byte_lo r (by omega)) hb'⟩
    · obtain ⟨j8, hr2⟩ := few_rounds j r hj (by omega) hr
      rw [Oct.var_high (by omega)] at hv
      have e := or128 r
      have hl : d.length + 1 ≤ 140737488355328 := by omega
      have HV := Lib.hid hv; have HD := Lib.hid hd; have HR := Lib.hid hr2; have HL := Lib.hid hl
      clear hr hr2 hv hd hl k0
      go_wp2_with (at_builtin; refine Lib.wpList_append_byte rfl _ _ 22 rfl w.heap.size 5 i0 Try.underlying22 hi hz0 hz1 hz2 u3 d.length (vals d) rfl w wr _ hb rfl ?c3 ?_)
      case c3 => first | exact HL.out | (have := HL.out; omega)
      intro v' w' hb'
      go_wp2
      go_roundw
      case rel => exact ⟨j + 1, r / 128, d ++ [UInt8.ofNat (r % 128 + 128)], by omega, rfl, rfl, by rw [List.length_append, HD.out]; rfl, by rw [List.append_assoc]; exact HV.out, HR.out, Bytes.more (byte_hi r) hb'⟩
      case measure => simp [intOf]; omega

end Ref
end Go.Proofs.Ytcnnkgkejafeeaa
