/- The landed hypo's Tell. -/
import Derived.Test.YtaooigldchojcaaDoorHypLanC
namespace Go.Proofs.YtaooigldchojcaaDoor
open Go.RowKit
namespace Lan23
set_option maxHeartbeats 4000000 in
set_option maxRecDepth 100000 in
theorem Tell_any (a b : Int) (w : World) (n : PairsAt w) :
    Calls Tryd.prog 27 #[.int .i64 a, .int .i64 b] w fun e w' => ∃ v, e = .returned v ∧ Ints w.heap.size w w' v (Hyp.ints (Hyp.tell a b 15)) := by
  have HTB : Hid (∀ p, Hyp.tellB a b p = (Sub.within (Sub.low a) (Hyp.setN (7 + p)) != Sub.within (Sub.low b) (Hyp.setN (7 + p)))) := Lib.hid fun _ => rfl
  go_enter Tryd.func27, Tryd.ntmps27
  go_wp2_with fail
  refine (pairs_any w n).mono ?_
  rintro e w1 ⟨g, rfl, _, hb1, hc1⟩
  have HC1 := Lib.hid hc1
  have HB1 := Lib.hid hb1
  clear hb1 hc1
  go_wp2
  go_loopw [5, 10] (fun v i wr => ∃ p : Nat, p ≤ 15 ∧ i = .int .i64 p ∧ Ints w1.heap.size w1 wr v (Hyp.ints (Hyp.tell a b p))) (fun _ i _ => 15 - (intOf i).toNat)
  case atStart => exact ⟨0, by omega, rfl, Ints.nil w1⟩
  case round =>
    obtain ⟨p, hp, rfl, hS⟩ := hrel
    rename World => wr
    by_cases h15 : (p : Int) < 15
    · have c1 := keepc hS.below (HC1.out p (by omega))
      have HTE := Lib.hid (HTB.out p)
      have H1 := Lib.hid (Hyp.tell_one (a := a) (b := b) (k := p))
      have H2 := Lib.hid (Hyp.tell_same (a := a) (b := b) (k := p))
      have hll : (Hyp.ints (Hyp.tell a b p)).length + 1 ≤ 10000000000000 := by rw [Hyp.ints_len]; have := Hyp.tell_len a b p; omega
      have HLL := Lib.hid hll
      have HS := Lib.hid hS
      have HWA := Lib.hid (fun w => Lan11.Within_any a (Hyp.setN (7 + p) : Int) w)
      have HWB := Lib.hid (fun w => Lan11.Within_any b (Hyp.setN (7 + p) : Int) w)
      rw [Hyp.low_set] at HWA HWB
      generalize Sub.within (Sub.low a) (Hyp.setN (7 + p)) = x at *
      generalize Sub.within (Sub.low b) (Hyp.setN (7 + p)) = y at *
      generalize (Hyp.setN (7 + p) : Int) = z at *
      clear hll hS
      go_wp2_with fail
      refine (HWA.out wr).mono ?_
      rintro e w2 ⟨rfl, rfl⟩
      go_wp2_with fail
      refine (HWB.out w2).mono ?_
      rintro e w3 ⟨rfl, rfl⟩
      cases hq : Hyp.tellB a b p
      · have HF := Lib.hid (H2.out hq)
        have hne : (x == y) = true := by
          have h : (x != y) = false := by rw [← HTE.out]; exact hq
          simpa using h
        clear hq H1 H2
        go_wp2
        go_roundw
        case rel => exact ⟨p + 1, by omega, rfl, by rw [HF.out]; exact HS.out⟩
        case measure => simp [intOf]; omega
      · have HF := Lib.hid (H1.out hq)
        have hne : (x == y) = false := by
          have h : (x != y) = true := by rw [← HTE.out]; exact hq
          simpa using h
        have hll := HLL.out
        clear hq H1 H2
        go_wp2_with (at_builtin; refine list_append_int rfl _ _ rfl (w0 := w3) (v := u5) rfl (p : Int) HS.out rfl hll ?_)
        intro v' w' hb'
        go_wp2
        go_roundw
        case rel => exact ⟨p + 1, by omega, rfl, by rw [HF.out, Hyp.ints_app]; exact hb'⟩
        case measure => simp [intOf]; omega
    · obtain rfl : p = 15 := by omega
      have HS := Lib.hid (hS.low HB1.out.size HB1.out)
      clear hS
      go_wp2
      go_ret
      exact ⟨_, rfl, HS.out⟩
end Lan23
end Go.Proofs.YtaooigldchojcaaDoor
