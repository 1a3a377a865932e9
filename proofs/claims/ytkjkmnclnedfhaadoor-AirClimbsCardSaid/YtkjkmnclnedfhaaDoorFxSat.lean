/- fixq.Sat and fixq.Clamp (parts of XFixD). -/
import Derived.Test.YtkjkmnclnedfhaaDoorFxAdd
namespace Go.Proofs.YtkjkmnclnedfhaaDoor
open Go.RowKit

theorem Sat_any (a b : Int) (w : World) (ha : Fix.Room a) (hb : Fix.Room b) :
    Calls Tryd.prog 38 #[.int .i64 a, .int .i64 b] w fun e w' => e = .returned (.int .i64 (Fix.sat a b)) ∧ w = w' := by
  have A := Lib.hid fun w => Add_any a b w ha hb
  obtain ⟨ha1, ha2⟩ := ha; obtain ⟨hb1, hb2⟩ := hb
  rcases Fix.okE_cases (a + b) with ⟨e1, e2, e3⟩ | ⟨e1, e2, e3⟩
  · rw [e1, e2] at A
    obtain ⟨r1, r2⟩ := e3
    have hs : Fix.sat a b = a + b := by unfold Fix.sat; rw [if_neg (by omega), if_neg (by omega)]
    rw [hs]
    clear e1 e2 hs
    go_enter Tryd.func38, Tryd.ntmps38
    go_wp2_with (go_at_call 42; refine (A.out _).mono ?_; rintro e w' ⟨rfl, rfl⟩)
    go_ret
    exact ⟨rfl, rfl⟩
  · rw [e1, e2] at A
    by_cases hb0 : b < 0
    · have hs : Fix.sat a b = -9223372036854775808 := by
        unfold Fix.sat; rw [if_neg (by omega), if_pos (by unfold Fix.Room at e3; omega)]
      rw [hs]
      clear e1 e2 hs e3
      go_enter Tryd.func38, Tryd.ntmps38
      go_wp2_with (go_at_call 42; refine (A.out _).mono ?_; rintro e w' ⟨rfl, rfl⟩)
      go_ret
      exact ⟨rfl, rfl⟩
    · have hs : Fix.sat a b = 9223372036854775807 := by
        unfold Fix.sat; rw [if_pos (by unfold Fix.Room at e3; omega)]
      rw [hs]
      clear e1 e2 hs e3
      go_enter Tryd.func38, Tryd.ntmps38
      go_wp2_with (go_at_call 42; refine (A.out _).mono ?_; rintro e w' ⟨rfl, rfl⟩)
      go_ret
      exact ⟨rfl, rfl⟩

theorem Clamp_any (a low high : Int) (w : World) :
    Calls Tryd.prog 22 #[.int .i64 a, .int .i64 low, .int .i64 high] w fun e w' => e = .returned (.int .i64 (Fix.clamp a low high)) ∧ w = w' := by
  unfold Fix.clamp
  by_cases h1 : high < a
  · by_cases h2 : high < low
    all_goals
      go_enter Tryd.func22, Tryd.ntmps22
      go_wp2
      go_ret
      exact ⟨one (by omega), rfl⟩
  · by_cases h2 : a < low
    all_goals
      go_enter Tryd.func22, Tryd.ntmps22
      go_wp2
      go_ret
      exact ⟨one (by omega), rfl⟩

theorem sat_room {a b : Int} : Fix.Room (Fix.sat a b) := by
  unfold Fix.sat; split
  · exact ⟨by omega, by omega⟩
  · split
    · exact ⟨by omega, by omega⟩
    · exact ⟨by omega, by omega⟩

end Go.Proofs.YtkjkmnclnedfhaaDoor
