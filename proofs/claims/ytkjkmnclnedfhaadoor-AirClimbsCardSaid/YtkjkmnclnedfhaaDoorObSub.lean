/- fixq.Sub (a part of XFixA). -/
import Derived.Test.YtkjkmnclnedfhaaDoorFxSat
namespace Go.Proofs.YtkjkmnclnedfhaaDoor
open Go.RowKit

theorem Sub_any (a b : Int) (w : World) (ha : Fix.Room a) (hb : Fix.Room b) :
    Calls Tryd.prog 41 #[.int .i64 a, .int .i64 b] w fun e w' => e = .returned (.tuple #[.int .i64 (Fix.okV (a - b)), .int .i64 (Fix.okE (a - b))]) ∧ w = w' := by
  obtain ⟨ha1, ha2⟩ := ha; obtain ⟨hb1, hb2⟩ := hb
  by_cases p : 0 < b
  · by_cases q : a < -9223372036854775808 + b
    all_goals
      go_enter Tryd.func41, Tryd.ntmps41
      go_wp2
      go_ret2
      first
        | exact ⟨two (Fix.okV_in (by omega)) (Fix.okE_in (by omega)), rfl⟩
        | exact ⟨two (Fix.okV_out (by omega)) (Fix.okE_out (by omega)), rfl⟩
  · by_cases p2 : b < 0
    · by_cases q : 9223372036854775807 + b < a
      all_goals
        go_enter Tryd.func41, Tryd.ntmps41
        go_wp2
        go_ret2
        first
          | exact ⟨two (Fix.okV_in (by omega)) (Fix.okE_in (by omega)), rfl⟩
          | exact ⟨two (Fix.okV_out (by omega)) (Fix.okE_out (by omega)), rfl⟩
    · go_enter Tryd.func41, Tryd.ntmps41
      go_wp2
      go_ret2
      exact ⟨two (Fix.okV_in (by omega)) (Fix.okE_in (by omega)), rfl⟩

theorem wrap_i64 (n : Int) : IntKind.i64.wrap n = (n + 9223372036854775808) % 18446744073709551616 - 9223372036854775808 := by
  simp [IntKind.wrap, IntKind.bits, IntKind.signed]
  split <;> omega

end Go.Proofs.YtkjkmnclnedfhaaDoor
