/- Right, guard of the document's own answers for layer 18. -/
import Derived.Test.YtdalajfjikbcaaaSlt
import Derived.Test.YtdalajfjikbcaaaRefPut
import Derived.Test.YtdalajfjikbcaaaRebase
import Derived.Test.YtdalajfjikbcaaaBufOwn
import Derived.Deep.CutBlock
import Derived.Deep.CutRange
import Derived.LoopTactic
namespace Go.Proofs.Ytdalajfjikbcaaa
open Go.RowKit

theorem rightN_cases (x y z : Int) :
    (x ≥ 0 ∧ x < 64 ∧ y ≥ 0 ∧ y < 64 ∧ z ≥ 0 ∧ z ≤ 5 ∧ rightN ⟨x, y, z⟩ = true) ∨
    (¬ x ≥ 0 ∧ rightN ⟨x, y, z⟩ = false) ∨
    (x ≥ 0 ∧ ¬ x < 64 ∧ rightN ⟨x, y, z⟩ = false) ∨
    (x ≥ 0 ∧ x < 64 ∧ ¬ y ≥ 0 ∧ rightN ⟨x, y, z⟩ = false) ∨
    (x ≥ 0 ∧ x < 64 ∧ y ≥ 0 ∧ ¬ y < 64 ∧ rightN ⟨x, y, z⟩ = false) ∨
    (x ≥ 0 ∧ x < 64 ∧ y ≥ 0 ∧ y < 64 ∧ ¬ z ≥ 0 ∧ rightN ⟨x, y, z⟩ = false) ∨
    (x ≥ 0 ∧ x < 64 ∧ y ≥ 0 ∧ y < 64 ∧ z ≥ 0 ∧ ¬ z ≤ 5 ∧ rightN ⟨x, y, z⟩ = false) := by
  have k := rightN_iff ⟨x, y, z⟩
  simp only at k
  cases g : rightN ⟨x, y, z⟩
  · rw [g] at k
    have k' : ¬ (0 ≤ x ∧ x < 64 ∧ 0 ≤ y ∧ y < 64 ∧ 0 ≤ z ∧ z ≤ 5) := fun h => by cases k.2 h
    simp only [and_true, and_false, false_or, reduceCtorEq]
    omega
  · have := k.1 g
    simp only [and_true, and_false, or_false, reduceCtorEq]
    omega

namespace Ref18
set_option maxRecDepth 100000 in
theorem Right_any (n : Nt) (w : World) :
    Calls Try.prog 30 #[nv n] w fun e w' => e = .returned (.bool (rightN n)) ∧ Below w.heap.size w w' := by
  obtain ⟨x, y, z⟩ := n
  have B1 := below1 w (.cells #[.int .i64 x, .int .i64 y, .int .i64 z] 26)
  simp only [nv]
  rcases rightN_cases x y z with ⟨h1, h2, h3, h4, h5, h6, e⟩ | ⟨h1, e⟩ | ⟨h1, h2, e⟩ | ⟨h1, h2, h3, e⟩ | ⟨h1, h2, h3, h4, e⟩ | ⟨h1, h2, h3, h4, h5, e⟩ | ⟨h1, h2, h3, h4, h5, h6, e⟩
  all_goals
    rw [e]
    clear e
    go_enter Try.func30, Try.ntmps30
    go_wp2
    go_ret
    exact ⟨rfl, B1⟩

theorem guard_any (s : Nat) (hs : s < 4294967296) (w : World) :
    Calls Try.prog 31 #[.int .u32 s] w fun e w' => e = .returned (.int .u8 ((guardN s).toNat : Int)) ∧ w = w' := by
  rw [guardN_nat]
  have e : ((s % 250 + 1 : Nat) : Int) = (s : Int) % 250 + 1 := by omega
  rw [e]
  have h0 : (s : Int) ≤ 4294967295 := by omega
  clear hs e
  go_enter Try.func31, Try.ntmps31
  go_wp2
  go_ret
  exact ⟨rfl, rfl⟩
end Ref18
end Go.Proofs.Ytdalajfjikbcaaa
