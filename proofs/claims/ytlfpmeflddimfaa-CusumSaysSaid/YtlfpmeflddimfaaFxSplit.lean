/- fixq.size and fixq.split (parts of XFixA). -/
import Derived.Test.YtlfpmeflddimfaaFxAdd
namespace Go.Proofs.Ytlfpmeflddimfaa
open Go.RowKit

theorem size_any (a : Int) (w : World) (ha : Fix.Room a) :
    Calls Try.prog 27 #[.int .i64 a] w fun e w' => e = .returned (.int .u64 (a.natAbs : Int)) ∧ w = w' := by
  obtain ⟨ha1, ha2⟩ := ha
  by_cases p : a < 0
  all_goals
    go_enter Try.func27, Try.ntmps27
    go_wp2
    go_ret
    exact ⟨one (by first | omega | (simp only [IntKind.wrap_u64]; omega)), rfl⟩

set_option maxHeartbeats 400000 in
theorem split_core (a b t m : Int) (w : World) (hb1 : -9223372036854775808 ≤ b) (hb2 : b ≤ 9223372036854775807)
    (h0 : b ≠ 0) (eT : a.tdiv b = t) (eM : a.tmod b = m) (hm : m.natAbs < b.natAbs) (ht : m ≠ 0 → -4611686018427387904 ≤ t ∧ t ≤ 4611686018427387904)
    (ht1 : -9223372036854775808 ≤ t) (ht2 : t ≤ 9223372036854775807) :
    Calls Try.prog 26 #[.int .i64 a, .int .i64 b] w fun e w' => e = .returned (.tuple #[.int .i64 (if m = 0 ∨ (m < 0 ↔ b < 0) then t else t - 1), .int .i64 (if m = 0 ∨ (m < 0 ↔ b < 0) then m else m + b)]) ∧ ∃ n, w' = w.drewN n := by
  have hb0 : (b == 0) = false := by rw [beq_eq_false_iff_ne]; exact h0
  by_cases h1 : m = 0
  · rw [if_pos (Or.inl h1), if_pos (Or.inl h1)]
    have hm1 : (m != 0) = false := by simp [h1]
    clear ht hm h1
    by_cases h3 : b < 0
    · clear h0
      go_enter Try.func26, Try.ntmps26
      go_wp2
      go_quiet (fail)
      go_wp2
      go_ret2
      exact ⟨rfl, _, rfl⟩
    · have h4 : 1 ≤ b := by omega
      have d3 : decide (b < 0) = false := decide_eq_false (by omega)
      clear h0 h3
      go_enter Try.func26, Try.ntmps26
      go_wp2
      go_quiet (fail)
      go_wp2
      go_ret2
      exact ⟨rfl, _, rfl⟩
  · obtain ⟨t1, t2⟩ := ht h1
    have hm1 : (m != 0) = true := by simp [h1]
    clear ht
    by_cases h2 : m < 0 <;> by_cases h3 : b < 0
    · rw [if_pos (by omega), if_pos (by omega)]
      clear h0 h1
      go_enter Try.func26, Try.ntmps26
      go_wp2
      go_quiet (fail)
      go_wp2
      go_ret2
      exact ⟨rfl, _, rfl⟩
    · have h4 : 1 ≤ b := by omega
      have d3 : decide (b < 0) = false := decide_eq_false (by omega)
      rw [if_neg (by omega), if_neg (by omega)]
      clear h0 h1 h3
      go_enter Try.func26, Try.ntmps26
      go_wp2
      go_quiet (fail)
      go_wp2
      go_ret2
      exact ⟨rfl, _, rfl⟩
    · have h4 : 1 ≤ m := by omega
      have d2 : decide (m < 0) = false := decide_eq_false (by omega)
      rw [if_neg (by omega), if_neg (by omega)]
      clear h0 h1 h2
      go_enter Try.func26, Try.ntmps26
      go_wp2
      go_quiet (fail)
      go_wp2
      go_ret2
      exact ⟨rfl, _, rfl⟩
    · have h4 : 1 ≤ b := by omega
      have d3 : decide (b < 0) = false := decide_eq_false (by omega)
      have h5 : 1 ≤ m := by omega
      have d2 : decide (m < 0) = false := decide_eq_false (by omega)
      rw [if_pos (by omega), if_pos (by omega)]
      clear h0 h1 h2 h3
      go_enter Try.func26, Try.ntmps26
      go_wp2
      go_quiet (fail)
      go_wp2
      go_ret2
      exact ⟨rfl, _, rfl⟩

theorem split_any (a b : Int) (w : World) (ha : Fix.Room a) (hb : Fix.Room b) (h0 : b ≠ 0) (h1 : ¬(a = -9223372036854775808 ∧ b = -1)) :
    Calls Try.prog 26 #[.int .i64 a, .int .i64 b] w fun e w' => e = .returned (.tuple #[.int .i64 (Fix.flr a b), .int .i64 (a - Fix.flr a b * b)]) ∧ ∃ n, w' = w.drewN n := by
  have q := Fix.quo a b ha h0
  have c := split_core a b (a.tdiv b) (a.tmod b) w hb.1 hb.2 h0 rfl rfl q.left q.room (q.room' h1).1 (q.room' h1).2
  by_cases h : a.tmod b = 0 ∨ (a.tmod b < 0 ↔ b < 0)
  · obtain ⟨e1, e2⟩ := q.same h h0
    rw [if_pos h, if_pos h] at c
    rw [e2, e1]; exact c
  · obtain ⟨e1, e2⟩ := q.less h h0
    rw [if_neg h, if_neg h] at c
    rw [e2, e1]; exact c

end Go.Proofs.Ytlfpmeflddimfaa
