/- Mul, Sat, Clamp and Mean of package fixq, out of those before. -/
import Derived.Test.YtdembidbaojldaaDoorFixB
import Derived.Test.YtdembidbaojldaaDoorFixC
import Derived.Test.YtdembidbaojldaaDoorMean
namespace Go.Proofs.YtdembidbaojldaaDoor
open Go.RowKit

theorem Mul_any (a b : Int) (w : World) (ha : Fix.Room a) (hb : Fix.Room b) :
    Calls Tryd.prog 16 #[.int .i64 a, .int .i64 b] w fun e w' => e = .returned (.tuple #[.int .i64 (Fix.okV (a * b)), .int .i64 (Fix.okE (a * b))]) ∧ ∃ n, w' = w.drewN n := by
  have M : Hid (∀ w, Calls Tryd.prog 30 #[.int .i64 a, .int .i64 b, .int .i64 1] w fun e w' => e = .returned (.tuple #[.int .i64 (Fix.okV (a * b)), .int .i64 (Fix.okE (a * b))]) ∧ ∃ n, w' = w.drewN n) := by
    refine Lib.hid fun w => ?_
    have c := MulDiv_any a b 1 w ha hb ⟨by omega, by omega⟩
    unfold Fix.mulDivV Fix.mulDivE at c
    rw [if_neg (by omega), if_neg (by omega), Int.ediv_one] at c
    exact c
  go_enter Tryd.func16, Tryd.ntmps16
  go_wp2_with (go_at_call 30; refine (M.out _).mono ?_; rintro e w' ⟨rfl, nq, rfl⟩)
  go_ret2
  exact ⟨rfl, _, rfl⟩

theorem Sat_any (a b : Int) (w : World) (ha : Fix.Room a) (hb : Fix.Room b) :
    Calls Tryd.prog 28 #[.int .i64 a, .int .i64 b] w fun e w' => e = .returned (.int .i64 (Fix.sat a b)) ∧ w = w' := by
  have A := Lib.hid fun w => Add_any a b w ha hb
  obtain ⟨ha1, ha2⟩ := ha; obtain ⟨hb1, hb2⟩ := hb
  rcases Fix.okE_cases (a + b) with ⟨e1, e2, e3⟩ | ⟨e1, e2, e3⟩
  · rw [e1, e2] at A
    obtain ⟨r1, r2⟩ := e3
    have hs : Fix.sat a b = a + b := by unfold Fix.sat; rw [if_neg (by omega), if_neg (by omega)]
    rw [hs]
    clear e1 e2 hs
    go_enter Tryd.func28, Tryd.ntmps28
    go_wp2_with (go_at_call 12; refine (A.out _).mono ?_; rintro e w' ⟨rfl, rfl⟩)
    go_ret
    exact ⟨rfl, rfl⟩
  · rw [e1, e2] at A
    by_cases hb0 : b < 0
    · have hs : Fix.sat a b = -9223372036854775808 := by
        unfold Fix.sat; rw [if_neg (by omega), if_pos (by unfold Fix.Room at e3; omega)]
      rw [hs]
      clear e1 e2 hs e3
      go_enter Tryd.func28, Tryd.ntmps28
      go_wp2_with (go_at_call 12; refine (A.out _).mono ?_; rintro e w' ⟨rfl, rfl⟩)
      go_ret
      exact ⟨rfl, rfl⟩
    · have hs : Fix.sat a b = 9223372036854775807 := by
        unfold Fix.sat; rw [if_pos (by unfold Fix.Room at e3; omega)]
      rw [hs]
      clear e1 e2 hs e3
      go_enter Tryd.func28, Tryd.ntmps28
      go_wp2_with (go_at_call 12; refine (A.out _).mono ?_; rintro e w' ⟨rfl, rfl⟩)
      go_ret
      exact ⟨rfl, rfl⟩

theorem Clamp_any (a low high : Int) (w : World) :
    Calls Tryd.prog 35 #[.int .i64 a, .int .i64 low, .int .i64 high] w fun e w' => e = .returned (.int .i64 (Fix.clamp a low high)) ∧ w = w' := by
  unfold Fix.clamp
  by_cases h1 : high < a
  · by_cases h2 : high < low
    all_goals
      go_enter Tryd.func35, Tryd.ntmps35
      go_wp2
      go_ret
      exact ⟨one (by omega), rfl⟩
  · by_cases h2 : a < low
    all_goals
      go_enter Tryd.func35, Tryd.ntmps35
      go_wp2
      go_ret
      exact ⟨one (by omega), rfl⟩

theorem Mean_any (a b : Int) (w : World) (ha : Fix.Room a) (hb : Fix.Room b) :
    Calls Tryd.prog 34 #[.int .i64 a, .int .i64 b] w fun e w' => e = .returned (.int .i64 (Fix.mean a b)) ∧ w = w' := by
  unfold Fix.mean
  go_enter Tryd.func34, Tryd.ntmps34
  go_wp2
  go_ret
  exact ⟨one (mean_bits a b ha hb).symm, rfl⟩

theorem sat_room {a b : Int} : Fix.Room (Fix.sat a b) := by
  unfold Fix.sat; split
  · exact ⟨by omega, by omega⟩
  · split
    · exact ⟨by omega, by omega⟩
    · exact ⟨by omega, by omega⟩

end Go.Proofs.YtdembidbaojldaaDoor
