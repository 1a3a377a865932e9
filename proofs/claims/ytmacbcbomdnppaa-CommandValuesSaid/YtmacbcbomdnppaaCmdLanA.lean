/- The landed Right for layer 34. -/
import Derived.Test.YtmacbcbomdnppaaCmd
import Derived.Test.YtmacbcbomdnppaaCmLanPut
import Derived.Test.YtmacbcbomdnppaaRebase
import Derived.Test.YtmacbcbomdnppaaBufCame
import Derived.Deep.CutBlock
import Derived.Deep.CutRange
import Derived.LoopTactic
namespace Go.Proofs.Ytmacbcbomdnppaa
open Go.RowKit

namespace Lan34
set_option maxRecDepth 100000 in
theorem Right_any (c : Cm) (w : World) :
    Calls Try.prog 11 #[cv c] w fun e w' => e = .returned (.bool (rightC c)) ∧ Below w.heap.size w w' := by
  obtain ⟨k, a⟩ := c
  have B1 := Lib.hid (below1 w (.cells #[.int .i64 k, .int .i64 a] 23))
  simp only [cv]
  refine right_cases k a (fun r => Calls Try.prog 11 #[.agg #[.int .i64 k, .int .i64 a]] w fun e w' => e = .returned (.bool r) ∧ Below w.heap.size w w') ?_ ?_ ?_ ?_ ?_ ?_ ?_ ?_ ?_ ?_ ?_ ?_
  · rintro rfl rfl
    go_enter Try.func11, Try.ntmps11
    go_wp2
    go_ret
    exact ⟨rfl, B1.out⟩
  · rintro rfl rfl
    go_enter Try.func11, Try.ntmps11
    go_wp2
    go_ret
    exact ⟨rfl, B1.out⟩
  · intro hk h0 h1
    subst hk
    have b0 : (a == 0) = false := by simpa using h0
    have b1 : (a == 1) = false := by simpa using h1
    go_enter Try.func11, Try.ntmps11
    go_wp2
    go_ret
    exact ⟨rfl, B1.out⟩
  · rintro rfl rfl
    go_enter Try.func11, Try.ntmps11
    go_wp2
    go_ret
    exact ⟨rfl, B1.out⟩
  · intro hk h0
    subst hk
    have b0 : (a == 0) = false := by simpa using h0
    go_enter Try.func11, Try.ntmps11
    go_wp2
    go_ret
    exact ⟨rfl, B1.out⟩
  · intro hk h0
    subst hk
    have d0 : decide (0 ≤ a) = false := decide_eq_false (by omega)
    go_enter Try.func11, Try.ntmps11
    go_wp2
    go_ret
    exact ⟨rfl, B1.out⟩
  · intro hk h0
    subst hk
    have d0 : decide (0 ≤ a) = true := decide_eq_true (by omega)
    have d1 : decide (a < 6) = false := decide_eq_false (by omega)
    go_enter Try.func11, Try.ntmps11
    go_wp2
    go_ret
    exact ⟨rfl, B1.out⟩
  · intro hk h0 h6
    subst hk
    go_enter Try.func11, Try.ntmps11
    go_wp2
    go_ret
    exact ⟨rfl, B1.out⟩
  · intro hk h0
    subst hk
    have d0 : decide (0 ≤ a) = false := decide_eq_false (by omega)
    go_enter Try.func11, Try.ntmps11
    go_wp2
    go_ret
    exact ⟨rfl, B1.out⟩
  · intro hk h0
    subst hk
    have d0 : decide (0 ≤ a) = true := decide_eq_true (by omega)
    have d1 : decide (a < 6) = false := decide_eq_false (by omega)
    go_enter Try.func11, Try.ntmps11
    go_wp2
    go_ret
    exact ⟨rfl, B1.out⟩
  · intro hk h0 h6
    subst hk
    go_enter Try.func11, Try.ntmps11
    go_wp2
    go_ret
    exact ⟨rfl, B1.out⟩
  · intro h1 h2 h3 h4
    go_enter Try.func11, Try.ntmps11
    go_wp2
    go_ret
    exact ⟨rfl, B1.out⟩
end Lan34
end Go.Proofs.Ytmacbcbomdnppaa
