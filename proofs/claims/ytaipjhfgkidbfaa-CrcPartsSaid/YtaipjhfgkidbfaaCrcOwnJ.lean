/- The landed crc's own call Join. -/
import Derived.Test.YtaipjhfgkidbfaaCrcOwnP2
namespace Go.Proofs.Ytaipjhfgkidbfaa
open Go.RowKit
theorem index_pow (m j : Nat) (h : j < 16) (w : World) : (Instr.index 35 (powV m) (.int .i64 (j : Int))).run Try.prog w = .ok (.int .u16 ((powF m j).toNat : Int)) w :=
  match j, h with
  | 0, _ => by kernel_rfl
  | 1, _ => by kernel_rfl
  | 2, _ => by kernel_rfl
  | 3, _ => by kernel_rfl
  | 4, _ => by kernel_rfl
  | 5, _ => by kernel_rfl
  | 6, _ => by kernel_rfl
  | 7, _ => by kernel_rfl
  | 8, _ => by kernel_rfl
  | 9, _ => by kernel_rfl
  | 10, _ => by kernel_rfl
  | 11, _ => by kernel_rfl
  | 12, _ => by kernel_rfl
  | 13, _ => by kernel_rfl
  | 14, _ => by kernel_rfl
  | 15, _ => by kernel_rfl
  | _ + 16, h => absurd h (by omega)
namespace Own6
set_option maxHeartbeats 4000000 in
theorem Join_any (a b : BitVec 16) (n : Int) (m : Nat) (w : World) (hm : max 0 (min n 4000) = (m : Int)) :
    Calls Try.prog 21 #[.int .u16 (a.toNat : Int), .int .u16 (b.toNat : Int), .int .i64 n] w fun e w' => e = .returned (.int .u16 ((b ^^^ Crc.more (a ^^^ 0xffff#16) (List.replicate m 0#8)).toNat : Int)) ∧ Below w.heap.size w w' := by
  have PW := Lib.hid fun w => Power_any n m w hm
  have hx := xor_u16 a 0xffff#16
  rw [show ((0xffff#16).toNat : Int) = 65535 by decide] at hx
  rw [← jn_all m (a ^^^ 0xffff#16) b]
  generalize a ^^^ 0xffff#16 = x at *
  obtain ⟨V, hV⟩ : ∃ V, V = powV m := ⟨_, rfl⟩
  rw [← hV] at PW
  go_enter Try.func21, Try.ntmps21
  go_wp2_with fail
  refine (PW.out _).mono ?_; rintro e w1 ⟨rfl, hb1⟩
  have B1 := Lib.hid hb1
  clear hb1
  go_wp2_with fail
  go_loopw [1, 11] (fun bv iv wr => ∃ j : Nat, j ≤ 16 ∧ bv = .int .u16 ((jn m x b j).toNat : Int) ∧ iv = .int .i64 j ∧ Below w.heap.size w wr) (fun _ iv _ => 16 - (intOf iv).toNat)
  case atStart => exact ⟨0, by omega, rfl, rfl, B1.out⟩
  case round =>
    obtain ⟨j, hj, rfl, rfl, B⟩ := hrel
    by_cases hc : (j : Int) < 16
    · have hbit := bit_u16 x j
      have hxor := xor_u16 (jn m x b j) (powF m j)
      have hix := index_pow m j (by omega)
      have hend : ∀ s, s = ((jn m x b (j + 1)).toNat : Int) → ∃ j' : Nat, j' ≤ 16 ∧ Value.int .u16 s = .int .u16 ((jn m x b j').toNat : Int) ∧ Value.int .i64 ((j : Int) + 1) = .int .i64 (j' : Int) ∧ Below w.heap.size w wr := fun s h => ⟨j + 1, by omega, by rw [h], rfl, B⟩
      have HE := Lib.hid hend
      obtain ⟨P, hP⟩ : ∃ P, P = powV m := ⟨_, rfl⟩
      rw [← hP] at hix ⊢
      clear hP
      cases hg : x.getLsbD j
      · have hn : jn m x b (j + 1) = jn m x b j := by rw [jn, hg, if_neg (by decide)]
        rw [hn] at HE
        rw [hg] at hbit
        clear B hend hn hg hxor B1
        generalize (jn m x b j).toNat = s0 at *
        generalize x.toNat = xn at *
        generalize (powF m j).toNat = pn at *
        go_wp2
        go_roundw
        case rel => exact HE.out _ rfl
        case measure => simp [intOf]; omega
      · have hn : jn m x b (j + 1) = jn m x b j ^^^ powF m j := by rw [jn, hg, if_pos rfl]
        rw [hn] at HE
        rw [hg] at hbit
        clear B hend hn hg B1
        generalize (jn m x b j ^^^ powF m j).toNat = s1 at *
        generalize (jn m x b j).toNat = s0 at *
        generalize (powF m j).toNat = pn at *
        generalize x.toNat = xn at *
        go_wp2
        go_roundw
        case rel => exact HE.out _ rfl
        case measure => simp [intOf]; omega
    · obtain rfl : j = 16 := by omega
      have B' := Lib.hid B
      clear B B1
      go_wp2
      go_ret
      exact ⟨rfl, B'.out⟩
end Own6
end Go.Proofs.Ytaipjhfgkidbfaa
