
/- The landed subset's isGyro, Has, With, Without, Members, Count, Within, Of, Part, Next. -/
import Derived.Test.YtkjnjhdanbjmpaaRgMemA
namespace Go.Proofs.Ytkjnjhdanbjmpaa
open Go.RowKit

namespace Lan11
theorem isGyro_any (n : Int) (w : World) :
    Calls Try.prog 39 #[.int .i64 n] w fun e w' => e = .returned (.bool (decide (0 ≤ n) && decide (n < 6))) ∧ w' = w := by
  by_cases h0 : 0 ≤ n
  · by_cases h6 : n < 6
    · rw [decide_eq_true h0, decide_eq_true h6]
      go_enter Try.func39, Try.ntmps39
      go_wp2
      go_ret
      exact ⟨rfl, rfl⟩
    · rw [decide_eq_true h0, decide_eq_false h6]
      go_enter Try.func39, Try.ntmps39
      go_wp2
      go_ret
      exact ⟨rfl, rfl⟩
  · rw [decide_eq_false h0]
    go_enter Try.func39, Try.ntmps39
    go_wp2
    go_ret
    exact ⟨rfl, rfl⟩

set_option maxRecDepth 100000 in
theorem Has_any (x i : Int) (w : World) :
    Calls Try.prog 35 #[.int .i64 x, .int .i64 i] w fun e w' => e = .returned (.bool (hasI x i)) ∧ w' = w := by
  have HG := Lib.hid (isGyro_any i w)
  by_cases h : 0 ≤ i ∧ i < 6
  · obtain ⟨n, rfl⟩ : ∃ n : Nat, i = (n : Int) := ⟨i.toNat, by omega⟩
    have hn : n < 6 := by omega
    rw [hasI_nat x n hn]
    have hg : (decide (0 ≤ (n : Int)) && decide ((n : Int) < 6)) = true := by rw [decide_eq_true h.1, decide_eq_true h.2]; rfl
    rw [hg] at HG
    have e0 : IntKind.u64.wrap (n : Int) = n := by rw [IntKind.wrap_u64]; omega
    have e1 : min n 64 = n := by omega
    have e2 := Sub.and1 (x / 2 ^ n)
    have e3 := bit_eq x n hn
    clear hg h
    go_enter Try.func35, Try.ntmps35
    go_wp2_with fail
    refine HG.out.mono ?_
    rintro e w1 ⟨rfl, rfl⟩
    go_wp2
    go_ret
    exact ⟨rfl, rfl⟩
  · have hg : (decide (0 ≤ i) && decide (i < 6)) = false := by
      by_cases h0 : 0 ≤ i
      · rw [decide_eq_false (show ¬ i < 6 from fun g => h ⟨h0, g⟩), Bool.and_false]
      · rw [decide_eq_false h0]; rfl
    have e : hasI x i = false := by unfold hasI; rw [hg]; rfl
    rw [e]
    rw [hg] at HG
    clear hg h e
    go_enter Try.func35, Try.ntmps35
    go_wp2_with fail
    refine HG.out.mono ?_
    rintro e w1 ⟨rfl, rfl⟩
    go_wp2
    go_ret
    exact ⟨rfl, rfl⟩

end Lan11
end Go.Proofs.Ytkjnjhdanbjmpaa
