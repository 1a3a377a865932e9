
/- The landed hypo's pairs, living, Any. -/
import Derived.Test.YtldbkompebefmaaDoorLtHyp
import Derived.Test.YtldbkompebefmaaDoorLtBls
import Derived.Test.YtldbkompebefmaaDoorLtLanD
namespace Go.Proofs.YtldbkompebefmaaDoor
open Go.RowKit

namespace Lan23
set_option maxHeartbeats 2000000 in
set_option maxRecDepth 100000 in
theorem living_any (al : List Bool) (hl : al.length = 22) (w : World) (n : PairsAt w) :
    Calls Tryd.prog 36 #[.agg (bl al)] w fun e w' => ∃ v, e = .returned v ∧ Ints w.heap.size w w' v (Hyp.livI al 22) := by
  have HA := ArrB.new w al 24
  have HY := Lib.hid (Lan11.Hypos_any (w.alloc (.cells (bl al) 24)) (n.keep (below1 _ _)))
  have HW := Lib.hid (below1 w (.cells (bl al) 24))
  have HI := Lib.hid hypoCell_at
  generalize bl al = arr at *
  generalize hypoCells = harr at *
  go_enter Tryd.func36, Tryd.ntmps36
  go_wp2_with fail
  refine HY.out.mono ?_
  rintro e w1 ⟨rfl, hb1⟩
  have HA1 := Lib.hid (HA.keep hb1)
  have HB1 := Lib.hid (belowT HW.out hb1)
  clear HA hb1 HY HW
  go_wp2
  go_loopw [3, 7] (fun v i wr => ∃ k : Nat, k ≤ 22 ∧ i = .int .i64 k ∧ Ints w1.heap.size w1 wr v (Hyp.livI al k)) (fun _ i _ => 22 - (intOf i).toNat)
  case atStart => exact ⟨0, by omega, rfl, Ints.nil w1⟩
  case round =>
    obtain ⟨k, hk, rfl, hS⟩ := hrel
    rename World => wr
    by_cases h22 : (k : Int) < 22
    · have hix := HI.out k (by omega)
      have hc := (HA1.out.keep hS.below).at k (by omega)
      have hlen := Hyp.livN_len al k
      rw [← Hyp.livI_len] at hlen
      have HS := Lib.hid hS
      have H22 : Hid (k < 22) := Lib.hid (by omega)
      clear hS
      cases hh : al.getD k false
      · have HSS := Lib.hid (Hyp.livI_same hh)
        rw [hh] at hc
        clear hh hlen
        go_wp2
        go_roundw
        case rel => exact ⟨k + 1, by omega, rfl, by rw [HSS.out]; exact HS.out⟩
        case measure => simp [intOf]; omega
      · have HSS := Lib.hid (Hyp.livI_one H22.out hh)
        rw [hh] at hc
        have hl : (Hyp.livI al k).length + 1 ≤ 10000000000000 := by omega
        have HL := Lib.hid hl
        clear hh hlen hl
        generalize hypoNums.getD k 0 = z at *
        have hl := HL.out
        go_wp2_with (at_builtin; refine list_append_int rfl _ _ rfl (w0 := wr) (v := u3) rfl z HS.out rfl hl ?_)
        intro v' w' hb'
        go_wp2
        go_roundw
        case rel => exact ⟨k + 1, by omega, rfl, by rw [HSS.out]; exact hb'⟩
        case measure => simp [intOf]; omega
    · obtain rfl : k = 22 := by omega
      have HS := Lib.hid (hS.low HB1.out.size HB1.out)
      clear hS
      go_wp2
      go_ret
      exact ⟨_, rfl, HS.out⟩

set_option maxHeartbeats 2000000 in
set_option maxRecDepth 100000 in
theorem Any_any (al : List Bool) (hl : al.length = 22) (w : World) (n : PairsAt w) :
    Calls Tryd.prog 24 #[.agg (bl al)] w fun e w' => e = .returned (.bool (Hyp.any al)) ∧ Below w.heap.size w w' := by
  have HA := ArrB.new w al 24
  have HV := Lib.hid (living_any al hl (w.alloc (.cells (bl al) 24)) (n.keep (below1 _ _)))
  have HW := Lib.hid (below1 w (.cells (bl al) 24))
  have hi := info22 hl
  unfold ArrB at HA
  unfold Hyp.any
  have hlen := Hyp.livI_len al 22
  rw [← hlen]
  clear hlen
  generalize bl al = arr at *
  generalize Hyp.livI al 22 = l at *
  go_enter Tryd.func24, Tryd.ntmps24
  go_wp2_with (refine list_load_any rfl 24 _ rfl _ 0 rfl arr _ HA Tryd.underlying24 rfl hi ?_)
  refine HV.out.mono ?_
  rintro e w1 ⟨v, rfl, hS⟩
  obtain ⟨ba, cap, rfl, L, _, _⟩ := hS.lies
  have HB := Lib.hid (belowT HW.out hS.below)
  clear hS L HV HW HA hi
  go_wp2
  go_ret
  exact ⟨by simp, HB.out⟩
end Lan23
end Go.Proofs.YtldbkompebefmaaDoor
