/- The law's ints: two slices of ints that are alike; least ones and telling pairs as slices. -/
import Derived.Test.YtaooigldchojcaaDoorHypRefD
import Derived.Test.YtaooigldchojcaaDoorHypLanF
import Derived.BigQuiet
namespace Go.Proofs.YtaooigldchojcaaDoor
open Go.RowKit

/-- a call of ints that lie in memory behind it -/
theorem lies_out {f : Nat} {xs : Array Value} {w : World} {l : List Int} (h : Calls Tryd.prog f xs w fun e w' => ∃ v, e = .returned v ∧ Ints w.heap.size w w' v l) : Calls Tryd.prog f xs w fun e w' => ∃ ba cap, e = .returned (.slice ba l.length cap) ∧ LiesI w' ba l ∧ Below w.heap.size w w' :=
  h.mono fun e w' ⟨v, he, hv⟩ => by
    obtain ⟨ba, cap, rfl, L, _, _⟩ := hv.lies
    exact ⟨ba, cap, he, L, hv.below⟩

namespace Law23
set_option maxHeartbeats 4000000 in
set_option maxRecDepth 100000 in
theorem ints_any (l : List Int) (hl : l.length ≤ 64) (ba bb : Option Addr) (ca cb : Nat) (w : World) (La : LiesI w ba l) (Lb : LiesI w bb l) :
    Calls Tryd.prog 22 #[.slice ba l.length ca, .slice bb l.length cb] w fun e w' => e = .returned (.bool true) ∧ Below w.heap.size w w' := by
  have HA := Lib.hid La
  have HB := Lib.hid Lb
  clear La Lb
  have hq : ((l.length : Int) != (l.length : Int)) = false := by simp
  go_enter Tryd.func22, Tryd.ntmps22
  go_wp2
  go_loopw [13] (fun i wr => ∃ j : Nat, j ≤ l.length ∧ i = .int .i64 j ∧ Below w.heap.size w wr) (fun i _ => 64 - (intOf i).toNat)
  case atStart => exact ⟨0, by omega, rfl, Below.refl _ _⟩
  case round =>
    obtain ⟨j, hj, rfl, hb⟩ := hrel
    rename World => wr
    by_cases hlt : (j : Int) < l.length
    · obtain ⟨g1, rfl, h1⟩ := HA.out (by omega)
      obtain ⟨g2, rfl, h2⟩ := HB.out (by omega)
      have k1 := keepc hb (h1 j (by omega))
      have k2 := keepc hb (h2 j (by omega))
      have HBW := Lib.hid hb
      generalize l.getD j 0 = z at *
      have hz : (z != z) = false := by simp
      clear h1 h2 hb
      go_upto_region 6 with fail
      go_quiet (fail)
      go_wp2
      go_roundw
      case rel => exact ⟨j + 1, by omega, rfl, belowN HBW.out _⟩
      case measure => simp [intOf]; omega
    · obtain rfl : j = l.length := by omega
      have HBW := Lib.hid hb
      clear hb
      go_wp2
      go_ret
      exact ⟨rfl, HBW.out⟩
end Law23
end Go.Proofs.YtaooigldchojcaaDoor
