/- The landed crc's own call Burst; with it all of crc's calls stand under Own6. -/
import Derived.Test.YtaipjhfgkidbfaaCrcOwnB
namespace Go.Proofs.Ytaipjhfgkidbfaa
open Go.RowKit
namespace Own6
set_option maxHeartbeats 2000000 in
theorem Burst_came {w : World} {ba bb : Option Addr} {ca cb : Nat} {a b : List UInt8} (CA : Came w ba ca a) (CB : Came w bb cb b) (ha : a.length ≤ 4000) (hb : b.length ≤ 4000) :
    Calls Try.prog 23 #[.slice ba a.length ca, .slice bb b.length cb] w fun e w' => e = .returned (.int .i64 (burst a b)) ∧ Below w.heap.size w w' := by
  have hmf : ∀ (fn : Fn) (first cap : Array Value) (w : World), (Instr.makeFunc fn first cap).run Try.prog w = .ok (.func fn first cap) w := fun _ _ _ _ => rfl
  obtain ⟨n, hn⟩ : ∃ n : Nat, n = min a.length b.length := ⟨_, rfl⟩
  have hm : min (a.length : Int) (b.length : Int) = (n : Int) := by omega
  have hn4 : n ≤ 4000 := by omega
  have hcut := came_head CA n (by omega)
  have e1 : IntKind.i64.wrap (8 * (n : Int)) = 8 * (n : Int) := by rw [IntKind.wrap_i64]; omega
  have hr := bc_rng a b n n (Nat.le_refl _)
  have e2 : IntKind.i64.wrap ((bc a b n n).2 - (bc a b n n).1) = (bc a b n n).2 - (bc a b n n).1 := by rw [IntKind.wrap_i64]; omega
  have hR := burst_bc a b n hn
  have EB := Lib.hid fun W B0 B1 B2 h1 h2 h10 h20 h12 BW O0 O1 O2 => each_burst (W := W) n hn hn4 CA CB B0 B1 B2 h1 h2 h10 h20 h12 BW O0 O1 O2
  rw [hR]
  have hla : (a.length : Int) ≤ 4000 := by omega
  have hlb : (b.length : Int) ≤ 4000 := by omega
  clear CA CB hn hR hr ha hb
  go_enter Try.func23, Try.ntmps23
  go_wp2_with fail
  refine (EB.out _ _ _ _ (by omega) (by omega) (by omega) (by omega) (by omega) (below3 w _ _ _) ?_ ?_ ?_).mono ?_
  · exact ((one_alloc w _ _).keep (below1 _ _)).keep (below1 _ _)
  · have h := (one_alloc (w.alloc (.cells #[.slice bb b.length cb] 23)) (.int .i64 (8 * (n : Int))) 3).keep (below1 _ (.cells #[.int .i64 (8 * (n : Int))] 3))
    rw [heap1] at h; exact h
  · have h := one_alloc ((w.alloc (.cells #[.slice bb b.length cb] 23)).alloc (.cells #[.int .i64 (8 * (n : Int))] 3)) (.int .i64 (8 * (n : Int))) 3
    rw [heap1, heap1] at h; exact h
  rintro e w1 ⟨rfl, O1, O2, B⟩
  obtain ⟨c1, _⟩ := O1
  obtain ⟨c2, _⟩ := O2
  have B' := Lib.hid B
  clear B EB
  go_wp2_with fail
  go_ret
  exact ⟨rfl, B'.out⟩
end Own6
end Go.Proofs.Ytaipjhfgkidbfaa
