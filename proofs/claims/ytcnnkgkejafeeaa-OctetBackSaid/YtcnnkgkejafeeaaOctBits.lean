/- Bits of the document's own answers for layer 5. -/
import Derived.Test.YtcnnkgkejafeeaaOctGet
import Derived.LoopN
namespace Go.Proofs.Ytcnnkgkejafeeaa
open Go.RowKit

/-- how many bits of a byte are 1 -/
def pc (c : Nat) : Nat := c % 2 + c / 2 % 2 + c / 4 % 2 + c / 8 % 2 + c / 16 % 2 + c / 32 % 2 + c / 64 % 2 + c / 128 % 2
def pcs (l : List UInt8) : Nat := (l.map fun c => pc c.toNat).sum
theorem pc_le (c : Nat) : pc c ≤ 8 := by unfold pc; omega
theorem pcs_take (l : List UInt8) (i : Nat) (h : i < l.length) : pcs (l.take (i + 1)) = pcs (l.take i) + pc (l.getD i 0).toNat := by
  have e : l.getD i 0 = l[i] := by simp [List.getD, List.getElem?_eq_getElem h]
  rw [List.take_succ_eq_append_getElem h, e]
  simp only [pcs, List.map_append, List.map_cons, List.map_nil, List.sum_append, List.sum_cons, List.sum_nil, Nat.add_zero]
theorem pcs_le : ∀ l : List UInt8, pcs l ≤ 8 * l.length
  | [] => by simp [pcs]
  | c :: l => by
    have := pcs_le l
    have := pc_le c.toNat
    simp only [pcs, List.map_cons, List.sum_cons, List.length_cons] at *
    omega

theorem bit_u8 (c : Nat) (h : c < 256) : bits .and .u8 (c : Int) 1 = ((c % 2 : Nat) : Int) := by
  have e : (BitVec.ofInt 8 (c : Int)).toNat = c := by rw [BitVec.toNat_ofInt]; omega
  show IntKind.u8.wrap ((BitVec.ofInt 8 (c : Int) &&& BitVec.ofInt 8 1).toNat : Int) = _
  rw [BitVec.toNat_and, e, show (BitVec.ofInt 8 1).toNat = 1 by decide, Nat.and_one_is_mod, IntKind.wrap_u8]
  omega

/-- a byte's bits, one by one, under names -/
theorem byte_bits (c : Nat) (h : c < 256) : ∃ b0 b1 b2 b3 b4 b5 b6 b7 : Nat, pc c = b0 + b1 + b2 + b3 + b4 + b5 + b6 + b7 ∧ b0 ≤ 1 ∧ b1 ≤ 1 ∧ b2 ≤ 1 ∧ b3 ≤ 1 ∧ b4 ≤ 1 ∧ b5 ≤ 1 ∧ b6 ≤ 1 ∧ b7 ≤ 1
    ∧ bits .and .u8 (c : Int) 1 = (b0 : Int) ∧ bits .and .u8 ((c : Int) / 2) 1 = (b1 : Int) ∧ bits .and .u8 ((c : Int) / 2 / 2) 1 = (b2 : Int) ∧ bits .and .u8 ((c : Int) / 2 / 2 / 2) 1 = (b3 : Int)
    ∧ bits .and .u8 ((c : Int) / 2 / 2 / 2 / 2) 1 = (b4 : Int) ∧ bits .and .u8 ((c : Int) / 2 / 2 / 2 / 2 / 2) 1 = (b5 : Int) ∧ bits .and .u8 ((c : Int) / 2 / 2 / 2 / 2 / 2 / 2) 1 = (b6 : Int) ∧ bits .and .u8 ((c : Int) / 2 / 2 / 2 / 2 / 2 / 2 / 2) 1 = (b7 : Int) := by
  refine ⟨_, _, _, _, _, _, _, _, rfl, by omega, by omega, by omega, by omega, by omega, by omega, by omega, by omega, bit_u8 c h, ?_, ?_, ?_, ?_, ?_, ?_, ?_⟩
  · rw [show (c : Int) / 2 = ((c / 2 : Nat) : Int) by omega]; exact bit_u8 _ (by omega)
  · rw [show (c : Int) / 2 / 2 = ((c / 4 : Nat) : Int) by omega]; exact bit_u8 _ (by omega)
  · rw [show (c : Int) / 2 / 2 / 2 = ((c / 8 : Nat) : Int) by omega]; exact bit_u8 _ (by omega)
  · rw [show (c : Int) / 2 / 2 / 2 / 2 = ((c / 16 : Nat) : Int) by omega]; exact bit_u8 _ (by omega)
  · rw [show (c : Int) / 2 / 2 / 2 / 2 / 2 = ((c / 32 : Nat) : Int) by omega]; exact bit_u8 _ (by omega)
  · rw [show (c : Int) / 2 / 2 / 2 / 2 / 2 / 2 = ((c / 64 : Nat) : Int) by omega]; exact bit_u8 _ (by omega)
  · rw [show (c : Int) / 2 / 2 / 2 / 2 / 2 / 2 / 2 = ((c / 128 : Nat) : Int) by omega]; exact bit_u8 _ (by omega)

namespace Ref

set_option maxHeartbeats 4000000 in
theorem Bits_any (b o cap : Nat) (l : List UInt8) (w : World) (hl : l.length ≤ 600) (L : Lies w b o l) :
    Calls Try.prog 29 #[.slice (some ⟨b, o, none⟩) l.length cap] w fun e w' => e = .returned (.int .i64 (pcs l : Nat)) ∧ w = w' := by
  go_enter Try.func29, Try.ntmps29
  go_wp2
  go_loop [3, 8] (fun n i => ∃ j : Nat, j ≤ l.length ∧ n = .int .i64 (pcs (l.take j) : Nat) ∧ i = .int .i64 j) (fun _ i => l.length - (intOf i).toNat)
  case atStart => exact ⟨0, Nat.zero_le _, rfl, rfl⟩
  case round =>
    obtain ⟨j, hj, rfl, rfl⟩ := hrel
    by_cases hc : (j : Int) < l.length
    · have hcell := L j (by omega)
      have hp := pcs_take l j (by omega)
      have hle := pcs_le (l.take j)
      rw [List.length_take] at hle
      obtain ⟨c, hcv⟩ : ∃ c : Nat, c = (l.getD j 0).toNat := ⟨_, rfl⟩
      have c0 : c < 256 := by have := (l.getD j 0).toNat_lt; omega
      rw [← hcv] at hcell hp
      obtain ⟨b0, b1, b2, b3, b4, b5, b6, b7, e, u0, u1, u2, u3, u4, u5, u6, u7, e0, e1, e2, e3, e4, e5, e6, e7⟩ := byte_bits c c0
      obtain ⟨s, hs⟩ : ∃ s : Nat, s = pcs (l.take j) := ⟨_, rfl⟩
      have s1 : (s : Int) ≤ 4800 := by omega
      have c1 : (c : Int) ≤ 255 := by omega
      rw [e] at hp
      rw [← hs] at hp ⊢
      have l1 : (l.length : Int) ≤ 600 := by omega
      clear hcv L hle e hs hl
      go_wp2
      refine wp_loop_rounds 9 ?_
      iterate 9 (rw [rounds_succ]; go_wp2)
      exact ⟨⟨j + 1, by omega, by rw [hp]; exact congrArg _ (by omega), rfl⟩, by simp [intOf]; omega⟩
    · obtain rfl : j = l.length := by omega
      rw [List.take_length]
      clear L
      go_wp2
      go_ret
      exact ⟨rfl, rfl⟩

theorem Bits_none (v : Option Addr) (cap : Nat) (w : World) :
    Calls Try.prog 29 #[.slice v 0 cap] w fun e w' => e = .returned (.int .i64 0) ∧ w = w' := by
  go_enter Try.func29, Try.ntmps29
  go_wp2
  refine wp_loop_rounds 1 ?_
  rw [rounds_succ]
  go_wp2
  go_ret
  exact ⟨rfl, rfl⟩

end Ref
end Go.Proofs.Ytcnnkgkejafeeaa
