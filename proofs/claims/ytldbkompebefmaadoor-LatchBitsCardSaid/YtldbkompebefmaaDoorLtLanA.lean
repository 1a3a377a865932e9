
/- The landed subset's isGyro, Has, With, Without, Members, Count, Within, Of, Part, Next. -/
import Derived.Test.YtldbkompebefmaaDoorLtOwn
namespace Go.Proofs.YtldbkompebefmaaDoor
open Go.RowKit

theorem pow_low (i : Nat) (hi : i < 6) : wrap64 ((2 : Int) ^ i) = 2 ^ i := by
  rcases (show i = 0 ∨ i = 1 ∨ i = 2 ∨ i = 3 ∨ i = 4 ∨ i = 5 by omega) with rfl | rfl | rfl | rfl | rfl | rfl <;> decide +kernel

namespace Lan11
theorem isGyro_any (n : Int) (w : World) :
    Calls Tryd.prog 51 #[.int .i64 n] w fun e w' => e = .returned (.bool (decide (0 ≤ n) && decide (n < 6))) ∧ w' = w := by
  by_cases h0 : 0 ≤ n
  · by_cases h6 : n < 6
    · rw [decide_eq_true h0, decide_eq_true h6]
      go_enter Tryd.func51, Tryd.ntmps51
      go_wp2
      go_ret
      exact ⟨rfl, rfl⟩
    · rw [decide_eq_true h0, decide_eq_false h6]
      go_enter Tryd.func51, Tryd.ntmps51
      go_wp2
      go_ret
      exact ⟨rfl, rfl⟩
  · rw [decide_eq_false h0]
    go_enter Tryd.func51, Tryd.ntmps51
    go_wp2
    go_ret
    exact ⟨rfl, rfl⟩

set_option maxRecDepth 100000 in
theorem With_any (x i : Int) (w : World) :
    Calls Tryd.prog 49 #[.int .i64 x, .int .i64 i] w fun e w' => e = .returned (.int .i64 (withI x i)) ∧ w' = w := by
  have HG := Lib.hid (isGyro_any i w)
  unfold withI
  by_cases h : 0 ≤ i ∧ i < 6
  · rw [if_pos h]
    obtain ⟨n, rfl⟩ : ∃ n : Nat, i = (n : Int) := ⟨i.toNat, by omega⟩
    have hn : n < 6 := by omega
    rw [Int.toNat_natCast]
    have hg : (decide (0 ≤ (n : Int)) && decide ((n : Int) < 6)) = true := by rw [decide_eq_true h.1, decide_eq_true h.2]; rfl
    rw [hg] at HG
    have e0 : IntKind.u64.wrap (n : Int) = n := by rw [IntKind.wrap_u64]; omega
    have e1 : min n 64 = n := by omega
    have e2 := pow_low n hn
    clear hg h
    go_enter Tryd.func49, Tryd.ntmps49
    go_wp2_with fail
    refine HG.out.mono ?_
    rintro e w1 ⟨rfl, rfl⟩
    go_wp2
    go_ret
    exact ⟨rfl, rfl⟩
  · rw [if_neg h]
    have hg : (decide (0 ≤ i) && decide (i < 6)) = false := by
      by_cases h0 : 0 ≤ i
      · rw [decide_eq_false (show ¬ i < 6 from fun g => h ⟨h0, g⟩), Bool.and_false]
      · rw [decide_eq_false h0]; rfl
    rw [hg] at HG
    clear hg h
    go_enter Tryd.func49, Tryd.ntmps49
    go_wp2_with fail
    refine HG.out.mono ?_
    rintro e w1 ⟨rfl, rfl⟩
    go_wp2
    go_ret
    exact ⟨rfl, rfl⟩

end Lan11
end Go.Proofs.YtldbkompebefmaaDoor
