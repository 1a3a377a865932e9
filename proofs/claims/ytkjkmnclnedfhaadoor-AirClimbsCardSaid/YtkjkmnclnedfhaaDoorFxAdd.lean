/- fixq.Add alone, and how a result of one or two numbers is told (parts of XFixA, for a seat that reaches no more). -/
import Derived.Test.YtkjkmnclnedfhaaDoorProg
import Derived.Test.YtkjkmnclnedfhaaDoorSpec
import Derived.WalkKit
import Derived.WalkSpells
import Derived.WalkLawsBesides
import Derived.Lib.Hide
import Derived.Laws.Bits64b
import Derived.Outline
import Derived.Deep.QuietTactic
import Derived.BigQuiet
namespace Go.Proofs.YtkjkmnclnedfhaaDoor
open Go.RowKit

theorem two {k l : IntKind} {a b c d : Int} (h : b = a) (g : d = c) : Ending.returned (.tuple #[.int k a, .int l c]) = .returned (.tuple #[.int k b, .int l d]) := by rw [h, g]
theorem one {k : IntKind} {a b : Int} (h : b = a) : Ending.returned (.int k a) = .returned (.int k b) := by rw [h]

theorem Add_any (a b : Int) (w : World) (ha : Fix.Room a) (hb : Fix.Room b) :
    Calls Tryd.prog 42 #[.int .i64 a, .int .i64 b] w fun e w' => e = .returned (.tuple #[.int .i64 (Fix.okV (a + b)), .int .i64 (Fix.okE (a + b))]) ∧ w = w' := by
  obtain ⟨ha1, ha2⟩ := ha; obtain ⟨hb1, hb2⟩ := hb
  by_cases p : 0 < b
  · by_cases q : 9223372036854775807 - b < a
    all_goals
      go_enter Tryd.func42, Tryd.ntmps42
      go_wp2
      go_ret2
      first
        | exact ⟨two (Fix.okV_in (by omega)) (Fix.okE_in (by omega)), rfl⟩
        | exact ⟨two (Fix.okV_out (by omega)) (Fix.okE_out (by omega)), rfl⟩
  · by_cases p2 : b < 0
    · by_cases q : a < -9223372036854775808 - b
      all_goals
        go_enter Tryd.func42, Tryd.ntmps42
        go_wp2
        go_ret2
        first
          | exact ⟨two (Fix.okV_in (by omega)) (Fix.okE_in (by omega)), rfl⟩
          | exact ⟨two (Fix.okV_out (by omega)) (Fix.okE_out (by omega)), rfl⟩
    · go_enter Tryd.func42, Tryd.ntmps42
      go_wp2
      go_ret2
      exact ⟨two (Fix.okV_in (by omega)) (Fix.okE_in (by omega)), rfl⟩

end Go.Proofs.YtkjkmnclnedfhaaDoor
