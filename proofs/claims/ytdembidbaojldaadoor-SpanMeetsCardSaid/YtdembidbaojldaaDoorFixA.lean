/- The small calls of package fixq: sums, differences, sizes, signs, quotients and what is left. -/
import Derived.Test.YtdembidbaojldaaDoorProg
import Derived.Test.YtdembidbaojldaaDoorSpec
import Derived.WalkKit
import Derived.WalkSpells
import Derived.WalkLawsBesides
import Derived.Lib.Hide
import Derived.Laws.Bits64b
import Derived.Outline
import Derived.Deep.QuietTactic
import Derived.BigQuiet
namespace Go.Proofs.YtdembidbaojldaaDoor
open Go.RowKit

theorem two {k l : IntKind} {a b c d : Int} (h : b = a) (g : d = c) : Ending.returned (.tuple #[.int k a, .int l c]) = .returned (.tuple #[.int k b, .int l d]) := by rw [h, g]
theorem one {k : IntKind} {a b : Int} (h : b = a) : Ending.returned (.int k a) = .returned (.int k b) := by rw [h]

theorem Add_any (a b : Int) (w : World) (ha : Fix.Room a) (hb : Fix.Room b) :
    Calls Tryd.prog 12 #[.int .i64 a, .int .i64 b] w fun e w' => e = .returned (.tuple #[.int .i64 (Fix.okV (a + b)), .int .i64 (Fix.okE (a + b))]) ∧ w = w' := by
  obtain ⟨ha1, ha2⟩ := ha; obtain ⟨hb1, hb2⟩ := hb
  by_cases p : 0 < b
  · by_cases q : 9223372036854775807 - b < a
    all_goals
      go_enter Tryd.func12, Tryd.ntmps12
      go_wp2
      go_ret2
      first
        | exact ⟨two (Fix.okV_in (by omega)) (Fix.okE_in (by omega)), rfl⟩
        | exact ⟨two (Fix.okV_out (by omega)) (Fix.okE_out (by omega)), rfl⟩
  · by_cases p2 : b < 0
    · by_cases q : a < -9223372036854775808 - b
      all_goals
        go_enter Tryd.func12, Tryd.ntmps12
        go_wp2
        go_ret2
        first
          | exact ⟨two (Fix.okV_in (by omega)) (Fix.okE_in (by omega)), rfl⟩
          | exact ⟨two (Fix.okV_out (by omega)) (Fix.okE_out (by omega)), rfl⟩
    · go_enter Tryd.func12, Tryd.ntmps12
      go_wp2
      go_ret2
      exact ⟨two (Fix.okV_in (by omega)) (Fix.okE_in (by omega)), rfl⟩

theorem Sub_any (a b : Int) (w : World) (ha : Fix.Room a) (hb : Fix.Room b) :
    Calls Tryd.prog 14 #[.int .i64 a, .int .i64 b] w fun e w' => e = .returned (.tuple #[.int .i64 (Fix.okV (a - b)), .int .i64 (Fix.okE (a - b))]) ∧ w = w' := by
  obtain ⟨ha1, ha2⟩ := ha; obtain ⟨hb1, hb2⟩ := hb
  by_cases p : 0 < b
  · by_cases q : a < -9223372036854775808 + b
    all_goals
      go_enter Tryd.func14, Tryd.ntmps14
      go_wp2
      go_ret2
      first
        | exact ⟨two (Fix.okV_in (by omega)) (Fix.okE_in (by omega)), rfl⟩
        | exact ⟨two (Fix.okV_out (by omega)) (Fix.okE_out (by omega)), rfl⟩
  · by_cases p2 : b < 0
    · by_cases q : 9223372036854775807 + b < a
      all_goals
        go_enter Tryd.func14, Tryd.ntmps14
        go_wp2
        go_ret2
        first
          | exact ⟨two (Fix.okV_in (by omega)) (Fix.okE_in (by omega)), rfl⟩
          | exact ⟨two (Fix.okV_out (by omega)) (Fix.okE_out (by omega)), rfl⟩
    · go_enter Tryd.func14, Tryd.ntmps14
      go_wp2
      go_ret2
      exact ⟨two (Fix.okV_in (by omega)) (Fix.okE_in (by omega)), rfl⟩

theorem size_any (a : Int) (w : World) (ha : Fix.Room a) :
    Calls Tryd.prog 37 #[.int .i64 a] w fun e w' => e = .returned (.int .u64 (a.natAbs : Int)) ∧ w = w' := by
  obtain ⟨ha1, ha2⟩ := ha
  by_cases p : a < 0
  all_goals
    go_enter Tryd.func37, Tryd.ntmps37
    go_wp2
    go_ret
    exact ⟨one (by first | omega | (simp only [IntKind.wrap_u64]; omega)), rfl⟩

theorem neg_wrap (q : Int) (h0 : 0 ≤ q) (h : q ≤ 9223372036854775808) : wrap64 (IntKind.u64.wrap (-q)) = -q := by
  simp only [IntKind.wrap_u64, wrap64]; omega

theorem signed_any (q : Nat) (below : Bool) (w : World) (hq : q < 18446744073709551616) :
    Calls Tryd.prog 39 #[.int .u64 q, .bool below] w fun e w' => e = .returned (.tuple #[.int .i64 (Fix.okV (if below then -(q : Int) else q)), .int .i64 (Fix.okE (if below then -(q : Int) else q))]) ∧ w = w' := by
  by_cases p : (9223372036854775808 : Int) < q
  · cases below
    all_goals
      go_enter Tryd.func39, Tryd.ntmps39
      go_wp2
      go_ret2
      exact ⟨two (Fix.okV_out (by omega)) (Fix.okE_out (by omega)), rfl⟩
  · by_cases p2 : (q : Int) = 9223372036854775808
    · obtain rfl : q = 9223372036854775808 := by omega
      clear p p2
      cases below
      · go_enter Tryd.func39, Tryd.ntmps39
        go_wp2
        go_ret2
        exact ⟨two (Fix.okV_out (by omega)) (Fix.okE_out (by omega)), rfl⟩
      · go_enter Tryd.func39, Tryd.ntmps39
        go_wp2
        go_ret2
        exact ⟨two ((Fix.okV_in (by omega)).trans (neg_wrap _ (by omega) (by omega)).symm) (Fix.okE_in (by omega)), rfl⟩
    · have p3 : ((q : Int) == 9223372036854775808) = false := by rw [beq_eq_false_iff_ne]; exact p2
      have p4 : (q : Int) ≤ 9223372036854775807 := by omega
      clear p2
      cases below
      · go_enter Tryd.func39, Tryd.ntmps39
        go_wp2
        go_ret2
        exact ⟨two (Fix.okV_in (by omega)) (Fix.okE_in (by omega)), rfl⟩
      · go_enter Tryd.func39, Tryd.ntmps39
        go_wp2
        go_ret2
        exact ⟨two ((Fix.okV_in (by omega)).trans (neg_wrap _ (by omega) (by omega)).symm) (Fix.okE_in (by omega)), rfl⟩

set_option maxHeartbeats 400000 in
theorem split_core (a b t m : Int) (w : World) (hb1 : -9223372036854775808 ≤ b) (hb2 : b ≤ 9223372036854775807)
    (h0 : b ≠ 0) (eT : a.tdiv b = t) (eM : a.tmod b = m) (hm : m.natAbs < b.natAbs) (ht : m ≠ 0 → -4611686018427387904 ≤ t ∧ t ≤ 4611686018427387904)
    (ht1 : -9223372036854775808 ≤ t) (ht2 : t ≤ 9223372036854775807) :
    Calls Tryd.prog 42 #[.int .i64 a, .int .i64 b] w fun e w' => e = .returned (.tuple #[.int .i64 (if m = 0 ∨ (m < 0 ↔ b < 0) then t else t - 1), .int .i64 (if m = 0 ∨ (m < 0 ↔ b < 0) then m else m + b)]) ∧ ∃ n, w' = w.drewN n := by
  have hb0 : (b == 0) = false := by rw [beq_eq_false_iff_ne]; exact h0
  by_cases h1 : m = 0
  · rw [if_pos (Or.inl h1), if_pos (Or.inl h1)]
    have hm1 : (m != 0) = false := by simp [h1]
    clear ht hm h1
    by_cases h3 : b < 0
    · clear h0
      go_enter Tryd.func42, Tryd.ntmps42
      go_wp2
      go_quiet (fail)
      go_wp2
      go_ret2
      exact ⟨rfl, _, rfl⟩
    · have h4 : 1 ≤ b := by omega
      have d3 : decide (b < 0) = false := decide_eq_false (by omega)
      clear h0 h3
      go_enter Tryd.func42, Tryd.ntmps42
      go_wp2
      go_quiet (fail)
      go_wp2
      go_ret2
      exact ⟨rfl, _, rfl⟩
  · obtain ⟨t1, t2⟩ := ht h1
    have hm1 : (m != 0) = true := by simp [h1]
    clear ht
    by_cases h2 : m < 0 <;> by_cases h3 : b < 0
    · rw [if_pos (by omega), if_pos (by omega)]
      clear h0 h1
      go_enter Tryd.func42, Tryd.ntmps42
      go_wp2
      go_quiet (fail)
      go_wp2
      go_ret2
      exact ⟨rfl, _, rfl⟩
    · have h4 : 1 ≤ b := by omega
      have d3 : decide (b < 0) = false := decide_eq_false (by omega)
      rw [if_neg (by omega), if_neg (by omega)]
      clear h0 h1 h3
      go_enter Tryd.func42, Tryd.ntmps42
      go_wp2
      go_quiet (fail)
      go_wp2
      go_ret2
      exact ⟨rfl, _, rfl⟩
    · have h4 : 1 ≤ m := by omega
      have d2 : decide (m < 0) = false := decide_eq_false (by omega)
      rw [if_neg (by omega), if_neg (by omega)]
      clear h0 h1 h2
      go_enter Tryd.func42, Tryd.ntmps42
      go_wp2
      go_quiet (fail)
      go_wp2
      go_ret2
      exact ⟨rfl, _, rfl⟩
    · have h4 : 1 ≤ b := by omega
      have d3 : decide (b < 0) = false := decide_eq_false (by omega)
      have h5 : 1 ≤ m := by omega
      have d2 : decide (m < 0) = false := decide_eq_false (by omega)
      rw [if_pos (by omega), if_pos (by omega)]
      clear h0 h1 h2 h3
      go_enter Tryd.func42, Tryd.ntmps42
      go_wp2
      go_quiet (fail)
      go_wp2
      go_ret2
      exact ⟨rfl, _, rfl⟩

theorem split_any (a b : Int) (w : World) (ha : Fix.Room a) (hb : Fix.Room b) (h0 : b ≠ 0) (h1 : ¬(a = -9223372036854775808 ∧ b = -1)) :
    Calls Tryd.prog 42 #[.int .i64 a, .int .i64 b] w fun e w' => e = .returned (.tuple #[.int .i64 (Fix.flr a b), .int .i64 (a - Fix.flr a b * b)]) ∧ ∃ n, w' = w.drewN n := by
  have q := Fix.quo a b ha h0
  have c := split_core a b (a.tdiv b) (a.tmod b) w hb.1 hb.2 h0 rfl rfl q.left q.room (q.room' h1).1 (q.room' h1).2
  by_cases h : a.tmod b = 0 ∨ (a.tmod b < 0 ↔ b < 0)
  · obtain ⟨e1, e2⟩ := q.same h h0
    rw [if_pos h, if_pos h] at c
    rw [e2, e1]; exact c
  · obtain ⟨e1, e2⟩ := q.less h h0
    rw [if_neg h, if_neg h] at c
    rw [e2, e1]; exact c

end Go.Proofs.YtdembidbaojldaaDoor
