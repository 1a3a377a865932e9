/- octet's own Bits. -/
import Derived.Test.YtcnnkgkejafeeaaOctBits
import Derived.Lib.BitFns
namespace Go.Proofs.Ytcnnkgkejafeeaa
open Go.RowKit

theorem pop8_pc : ∀ n : Fin 256, Lib.pop8 (n.val : Int) = (pc n.val : Int) := by decide +kernel

namespace Own

theorem OnesCount8_any (c : Nat) (w : World) (h : (c : Int) ≤ 255) :
    Calls Try.prog 32 #[.int .u8 c] w fun e w' => e = .returned (.int .i64 (pc c : Nat)) ∧ w = w' := by
  have e := pop8_pc ⟨c, by omega⟩
  simp only at e
  have hle := pc_le c
  have ew : ((pc c : Int) + 9223372036854775808) % 18446744073709551616 - 9223372036854775808 = (pc c : Int) := by omega
  obtain ⟨p, hp⟩ : ∃ p, p = pc c := ⟨_, rfl⟩
  rw [← hp] at e ew ⊢
  clear hp hle
  go_enter Try.func32, Try.ntmps32
  go_wp2
  go_ret
  first | exact ⟨rfl, rfl⟩ | exact ⟨by rw [ew], rfl⟩

set_option maxHeartbeats 4000000 in
theorem Bits_any (b o cap : Nat) (l : List UInt8) (w : World) (hl : l.length ≤ 600) (L : Lies w b o l) :
    Calls Try.prog 28 #[.slice (some ⟨b, o, none⟩) l.length cap] w fun e w' => e = .returned (.int .i64 (pcs l : Nat)) ∧ w = w' := by
  go_enter Try.func28, Try.ntmps28
  go_wp2
  go_loop [3, 7] (fun n i => ∃ j : Nat, j ≤ l.length ∧ n = .int .i64 (pcs (l.take j) : Nat) ∧ i = .int .i64 j) (fun _ i => l.length - (intOf i).toNat)
  case atStart => exact ⟨0, Nat.zero_le _, rfl, rfl⟩
  case round =>
    obtain ⟨j, hj, rfl, rfl⟩ := hrel
    by_cases hc : (j : Int) < l.length
    · have hcell := L j (by omega)
      have hp := pcs_take l j (by omega)
      have hle := pcs_le (l.take j)
      rw [List.length_take] at hle
      obtain ⟨c, hcv⟩ : ∃ c : Nat, c = (l.getD j 0).toNat := ⟨_, rfl⟩
      have c1 : (c : Int) ≤ 255 := by have := (l.getD j 0).toNat_lt; omega
      have hpc := pc_le c
      rw [← hcv] at hcell hp
      obtain ⟨q, hq⟩ : ∃ q : Nat, q = pc c := ⟨_, rfl⟩
      have hcall := Lib.hid (fun w => OnesCount8_any c w c1)
      rw [← hq] at hp hpc hcall
      obtain ⟨s, hs⟩ : ∃ s : Nat, s = pcs (l.take j) := ⟨_, rfl⟩
      have s1 : (s : Int) ≤ 4800 := by omega
      rw [← hs] at hp ⊢
      have l1 : (l.length : Int) ≤ 600 := by omega
      clear hcv L hle hs hl hq
      go_wp2_with fail
      refine (hcall.out _).mono ?_; rintro e w1 ⟨rfl, rfl⟩
      go_wp2
      exact ⟨⟨j + 1, by omega, by rw [hp]; exact congrArg _ (by omega), rfl⟩, by simp [intOf]; omega⟩
    · obtain rfl : j = l.length := by omega
      rw [List.take_length]
      clear L
      go_wp2
      go_ret
      exact ⟨rfl, rfl⟩

theorem Bits_none (v : Option Addr) (cap : Nat) (w : World) :
    Calls Try.prog 28 #[.slice v 0 cap] w fun e w' => e = .returned (.int .i64 0) ∧ w = w' := by
  go_enter Try.func28, Try.ntmps28
  go_wp2
  refine wp_loop_rounds 1 ?_
  rw [rounds_succ]
  go_wp2
  go_ret
  exact ⟨rfl, rfl⟩

end Own
end Go.Proofs.Ytcnnkgkejafeeaa
