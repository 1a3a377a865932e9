/- The laws' own comparison of lists, where both read alike. -/
import Derived.Test.YtbohghmjaadloaaDoorSubOwn
import Derived.BigRegion
namespace Go.Proofs.YtbohghmjaadloaaDoor
open Go.RowKit

set_option maxHeartbeats 4000000 in
set_option maxRecDepth 100000 in
theorem ints_same (l : List Int) (ba bb : Option Addr) (ca cb : Nat) (w : World) (hA : LiesI w ba l) (hB : LiesI w bb l) (hn : l.length ≤ 10000) :
    Calls Tryd.prog 18 #[.slice ba l.length ca, .slice bb l.length cb] w fun e w' => e = .returned (.bool true) ∧ Below w.heap.size w w' := by
  have HA := Lib.hid hA
  have HB := Lib.hid hB
  clear hA hB
  go_enter Tryd.func18, Tryd.ntmps18
  go_wp2
  go_loopw [13] (fun i wr => ∃ (j : Nat), j ≤ l.length ∧ i = .int .i64 j ∧ Below w.heap.size w wr) (fun i _ => l.length - (intOf i).toNat)
  case atStart => exact ⟨0, by omega, rfl, Below.refl _ _⟩
  case round =>
    obtain ⟨j, hj, rfl, hb⟩ := hrel
    by_cases hlt : (j : Int) < l.length
    · obtain ⟨g, rfl, hc⟩ := HA.out (by omega)
      obtain ⟨g', rfl, hc'⟩ := HB.out (by omega)
      have c := keepc hb (hc j (by omega))
      have c' := keepc hb (hc' j (by omega))
      have HBB := Lib.hid hb
      clear hc hc' hb
      generalize l.getD j 0 = z at *
      go_upto_region 6 with fail
      go_region
      go_wp2
      go_roundw
      case rel => exact ⟨j + 1, by omega, rfl, HBB.out.drew⟩
      case measure => simp [intOf]; omega
    · obtain rfl : j = l.length := by omega
      go_wp2
      go_ret
      exact ⟨rfl, hb⟩

end Go.Proofs.YtbohghmjaadloaaDoor
