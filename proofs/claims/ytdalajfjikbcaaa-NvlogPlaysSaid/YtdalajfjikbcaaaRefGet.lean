/- Get of the document's own answers for layer 5: reading bytes, over XBuf. -/
import Derived.Test.YtdalajfjikbcaaaRefPut
import Derived.LoopTactic
import Derived.Laws.Bits64b
namespace Go.Proofs.Ytdalajfjikbcaaa
open Go.RowKit

theorem or_byte (a c : Nat) (ha : a < 72057594037927936) (hc : c < 256) : bits .or .u64 (IntKind.u64.wrap ((a : Int) * 256)) (c : Int) = ((a * 256 + c : Nat) : Int) := by
  have e : IntKind.u64.wrap ((a : Int) * 256) = ((a * 256 : Nat) : Int) := by rw [IntKind.wrap_u64]; omega
  have o : a * 256 ||| c = a * 256 + c := by
    have := Nat.two_pow_add_eq_or_of_lt (i := 8) (b := c) (by omega) a
    rw [show (2 ^ 8 : Nat) = 256 by decide, Nat.mul_comm] at this
    exact this.symm
  rw [e, bits_or_u64_nat _ _ (by omega) (by omega), o]

/-- the number so far -/
def sofar (l : List UInt8) (k i : Nat) : Nat := Oct.num 0 ((l.drop k).take i)
theorem sofar_zero (l : List UInt8) (k : Nat) : sofar l k 0 = 0 := by simp [sofar, Oct.num]
theorem sofar_succ (l : List UInt8) (k i : Nat) (h : k + i < l.length) : sofar l k (i + 1) = sofar l k i * 256 + (l.getD (k + i) 0).toNat := by
  unfold sofar
  have e : (l.drop k).take (i + 1) = (l.drop k).take i ++ [l.getD (k + i) 0] := by
    rw [List.take_succ_eq_append_getElem (by rw [List.length_drop]; omega)]
    simp [List.getD, List.getElem?_eq_getElem h]
  rw [e, Oct.num_append, Oct.num_one]
theorem sofar_lt (l : List UInt8) (k i : Nat) (h : i ≤ 7) : sofar l k i < 72057594037927936 := by
  have := Oct.num_lt0 ((l.drop k).take i)
  have p : 256 ^ ((l.drop k).take i).length ≤ 256 ^ 7 := Nat.pow_le_pow_right (by decide) (by rw [List.length_take]; omega)
  unfold sofar
  have : (256 : Nat) ^ 7 = 72057594037927936 := by decide
  omega

namespace Ref

theorem Get_arg (v : Option Addr) (len cap : Nat) (at_ width : Int) (w : World) (h : at_ < 0 ∨ (0 ≤ at_ ∧ (len : Int) < at_) ∨ (0 ≤ at_ ∧ at_ ≤ len ∧ width < 1) ∨ (0 ≤ at_ ∧ at_ ≤ len ∧ 8 < width)) :
    Calls Try.prog 38 #[.slice v len cap, .int .i64 at_, .int .i64 width] w fun e w' => e = .returned (.tuple #[.int .u64 0, .int .i64 1]) ∧ w = w' := by
  rcases h with h | ⟨h0, h⟩ | ⟨h0, h1, h⟩ | ⟨h0, h1, h⟩
  · go_enter Try.func38, Try.ntmps38
    go_wp2
    go_ret2
    exact ⟨rfl, rfl⟩
  · have d0 : decide (at_ < 0) = false := decide_eq_false (by omega)
    go_enter Try.func38, Try.ntmps38
    go_wp2
    go_ret2
    exact ⟨rfl, rfl⟩
  · have d0 : decide (at_ < 0) = false := decide_eq_false (by omega)
    have d1 : decide ((len : Int) < at_) = false := decide_eq_false (by omega)
    go_enter Try.func38, Try.ntmps38
    go_wp2
    go_ret2
    exact ⟨rfl, rfl⟩
  · have d0 : decide (at_ < 0) = false := decide_eq_false (by omega)
    have d1 : decide ((len : Int) < at_) = false := decide_eq_false (by omega)
    have d2 : decide (width < 1) = false := decide_eq_false (by omega)
    go_enter Try.func38, Try.ntmps38
    go_wp2
    go_ret2
    exact ⟨rfl, rfl⟩

theorem Get_short (v : Option Addr) (len cap k n : Nat) (w : World) (_hl : (len : Int) ≤ 9223372036854775807) (h1 : (k : Int) ≤ len) (h2 : (1 : Int) ≤ n) (h3 : (n : Int) ≤ 8) (h : (len : Int) - k < n) :
    Calls Try.prog 38 #[.slice v len cap, .int .i64 k, .int .i64 n] w fun e w' => e = .returned (.tuple #[.int .u64 0, .int .i64 2]) ∧ w = w' := by
  have d1 : decide ((len : Int) < (k : Int)) = false := decide_eq_false (by omega)
  have d2 : decide ((n : Int) < 1) = false := decide_eq_false (by omega)
  have d3 : decide ((8 : Int) < n) = false := decide_eq_false (by omega)
  go_enter Try.func38, Try.ntmps38
  go_wp2
  go_ret2
  exact ⟨rfl, rfl⟩

set_option maxHeartbeats 2000000 in
theorem Get_ok (b o cap k n : Nat) (l : List UInt8) (w : World) (hl : (l.length : Int) ≤ 9223372036854775807) (h2 : (1 : Int) ≤ n) (h3 : (n : Int) ≤ 8) (h : k + n ≤ l.length) (L : Lies w b o l) :
    Calls Try.prog 38 #[.slice (some ⟨b, o, none⟩) l.length cap, .int .i64 k, .int .i64 n] w fun e w' => e = .returned (.tuple #[.int .u64 (sofar l k n : Nat), .int .i64 0]) ∧ w = w' := by
  have d0 : (k : Int) ≤ l.length := by omega
  have d1 : decide ((l.length : Int) < (k : Int)) = false := decide_eq_false (by omega)
  have d2 : decide ((n : Int) < 1) = false := decide_eq_false (by omega)
  have d3 : decide ((8 : Int) < n) = false := decide_eq_false (by omega)
  have d4 : decide ((l.length : Int) - k < n) = false := decide_eq_false (by omega)
  go_enter Try.func38, Try.ntmps38
  go_wp2
  go_loop [8, 33] (fun a i => ∃ j : Nat, j ≤ n ∧ a = .int .u64 (sofar l k j : Nat) ∧ i = .int .i64 j) (fun _ i => n - (intOf i).toNat)
  case atStart => exact ⟨0, Nat.zero_le _, by rw [sofar_zero]; rfl, rfl⟩
  case round =>
    obtain ⟨j, hj, rfl, rfl⟩ := hrel
    by_cases hc : (j : Int) < n
    · have hcell := L (k + j) (by omega)
      have eo := or_byte (sofar l k j) (l.getD (k + j) 0).toNat (sofar_lt l k j (by omega)) (l.getD (k + j) 0).toNat_lt
      rw [← sofar_succ l k j (by omega)] at eo
      obtain ⟨c, hcv⟩ : ∃ c : Nat, c = (l.getD (k + j) 0).toNat := ⟨_, rfl⟩
      have c1 : (c : Int) ≤ 255 := by have := (l.getD (k + j) 0).toNat_lt; omega
      have hlt : (k : Int) + j < l.length := by omega
      rw [← hcv] at hcell eo
      clear hcv L
      go_wp2
      exact ⟨⟨j + 1, by omega, rfl, by simp⟩, by simp [intOf]; omega⟩
    · obtain rfl : j = n := by omega
      go_wp2
      go_ret2
      exact ⟨rfl, rfl⟩

end Ref
end Go.Proofs.Ytdalajfjikbcaaa
