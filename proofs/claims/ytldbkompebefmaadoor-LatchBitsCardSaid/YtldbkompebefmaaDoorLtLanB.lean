
/- The landed subset's Members, Count, Within, Of, Part, Next; math/bits.OnesCount of small numbers; slices.Index over ints. -/
import Derived.Test.YtldbkompebefmaaDoorLtLanA
namespace Go.Proofs.YtldbkompebefmaaDoor
open Go.RowKit

namespace Lan11
set_option maxRecDepth 100000 in
theorem OnesCount64_small (n : Fin 64) (w : World) :
    Calls Tryd.prog 47 #[.int .u64 (n.val : Int)] w fun e w' => e = .returned (.int .i64 (Sub.cnt n.val : Int)) ∧ w' = w := by
  go_enter Tryd.func47, Tryd.ntmps47
  go_wp2
  go_ret
  refine ⟨congrArg (fun z => Ending.returned (Value.int .i64 z)) ?_, rfl⟩
  clear w
  revert n
  decide +kernel

theorem OnesCount_small (n : Nat) (h : n < 64) (w : World) :
    Calls Tryd.prog 42 #[.int .u64 (n : Int)] w fun e w' => e = .returned (.int .i64 (Sub.cnt n : Int)) ∧ w' = w := by
  have H : Hid (Calls Tryd.prog 47 #[.int .u64 (n : Int)] w fun e w' => e = .returned (.int .i64 (Sub.cnt n : Int)) ∧ w' = w) := Lib.hid (OnesCount64_small ⟨n, h⟩ w)
  have e0 : IntKind.u64.wrap (n : Int) = n := by rw [IntKind.wrap_u64]; omega
  clear h
  go_enter Tryd.func42, Tryd.ntmps42
  go_wp2_with fail
  refine H.out.mono ?_
  rintro e w1 ⟨rfl, rfl⟩
  go_wp2
  go_ret
  exact ⟨rfl, rfl⟩

theorem Count_any (x : Int) (w : World) :
    Calls Tryd.prog 29 #[.int .i64 x] w fun e w' => e = .returned (.int .i64 (Sub.cnt (Sub.low x) : Int)) ∧ w' = w := by
  have e1 := Sub.and63 x
  have hl := Sub.low_lt x
  generalize Sub.low x = n at *
  have e0 : IntKind.u64.wrap (n : Int) = n := by rw [IntKind.wrap_u64]; omega
  have H := Lib.hid (OnesCount_small n hl w)
  clear hl
  go_enter Tryd.func29, Tryd.ntmps29
  go_wp2_with fail
  refine H.out.mono ?_
  rintro e w1 ⟨rfl, rfl⟩
  go_wp2
  go_ret
  exact ⟨rfl, rfl⟩

end Lan11
end Go.Proofs.YtldbkompebefmaaDoor
