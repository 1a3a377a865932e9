
/- The landed subset's Members, Count, Within, Of, Part, Next; math/bits.OnesCount of small numbers; slices.Index over ints. -/
import Derived.Test.YtkjnjhdanbjmpaaRgMemB
namespace Go.Proofs.Ytkjnjhdanbjmpaa
open Go.RowKit

namespace Lan11
set_option maxHeartbeats 2000000 in
set_option maxRecDepth 100000 in
theorem Members_any (x : Int) (w : World) :
    Calls Try.prog 25 #[.int .i64 x] w fun e w' => ∃ v, e = .returned v ∧ Ints w.heap.size w w' v (memI x) := by
  go_enter Try.func25, Try.ntmps25
  go_wp2
  go_loopw [3, 5] (fun v i wr => ∃ (j : Nat), j ≤ 6 ∧ i = .int .i64 j ∧ Ints w.heap.size w wr v (upTo x j)) (fun _ i _ => 6 - (intOf i).toNat)
  case atStart => exact ⟨0, by omega, rfl, Ints.nil w⟩
  case round =>
    obtain ⟨j, hj, rfl, hb⟩ := hrel
    by_cases h6 : (j : Int) < 6
    · go_wp2_with fail
      refine (Has_any x j wr).mono ?_
      rintro e w1 ⟨rfl, rfl⟩
      rw [hasI_nat x j (by omega)]
      have hl : (upTo x j).length + 1 ≤ 10000000000000 := by have := upTo_len x j; omega
      cases hh : Sub.has (Sub.low x) j
      · have hs := upTo_same x j hh
        clear hl
        go_wp2
        go_roundw
        case rel => exact ⟨j + 1, by omega, rfl, by rw [hs]; exact hb⟩
        case measure => simp [intOf]; omega
      · have hs := upTo_one x j hh
        go_wp2_with (at_builtin; refine list_append_int rfl _ _ rfl (w0 := w1) (v := u3) rfl (j : Int) hb rfl hl ?_)
        intro v' w' hb'
        go_wp2
        go_roundw
        case rel => exact ⟨j + 1, by omega, rfl, by rw [hs]; exact hb'⟩
        case measure => simp [intOf]; omega
    · obtain rfl : j = 6 := by omega
      rw [upTo_six] at hb
      go_wp2
      go_ret
      exact ⟨u3, rfl, hb⟩

end Lan11
end Go.Proofs.Ytkjnjhdanbjmpaa
