/- fixq.divide as Ceil asks it, fixq.Ceil (parts of XFixB). -/
import Derived.Test.YtlfpmeflddimfaaFxSplit
import Derived.Deep.RegionWith
namespace Go.Proofs.Ytlfpmeflddimfaa
open Go.RowKit

theorem divide_zero (a k : Int) (w : World) :
    Calls Try.prog 24 #[.int .i64 a, .int .i64 0, .int .i64 k] w fun e w' => e = .returned (.tuple #[.int .i64 0, .int .i64 1]) ∧ w = w' := by
  go_enter Try.func24, Try.ntmps24
  go_wp2
  go_ret2
  exact ⟨rfl, rfl⟩

theorem divide_over (k : Int) (w : World) :
    Calls Try.prog 24 #[.int .i64 (-9223372036854775808), .int .i64 (-1), .int .i64 k] w fun e w' => e = .returned (.tuple #[.int .i64 0, .int .i64 8]) ∧ w = w' := by
  go_enter Try.func24, Try.ntmps24
  go_wp2
  go_ret2
  exact ⟨rfl, rfl⟩

theorem divide_up (a b q r : Int) (w : World)
    (HS : Hid (∀ w, Calls Try.prog 26 #[.int .i64 a, .int .i64 b] w fun e w' => e = .returned (.tuple #[.int .i64 q, .int .i64 r]) ∧ ∃ n, w' = w.drewN n))
    (h0 : (b == 0) = false) (h1 : (a == -9223372036854775808) = false ∨ (a == -9223372036854775808) = true ∧ (b == -1) = false)
    (hr : r ≠ 0 → -9223372036854775808 ≤ q ∧ q ≤ 9223372036854775806) :
    Calls Try.prog 24 #[.int .i64 a, .int .i64 b, .int .i64 2] w fun e w' => e = .returned (.tuple #[.int .i64 (if r = 0 then q else q + 1), .int .i64 0]) ∧ ∃ n, w' = w.drewN n := by
  by_cases c : r = 0
  · rw [if_pos c]
    have c2 : (r != 0) = false := by simp [c]
    clear c hr
    rcases h1 with h1 | ⟨h1, h2⟩
    all_goals
      go_enter Try.func24, Try.ntmps24
      go_wp2_with (go_at_call 26; refine (HS.out _).mono ?_; rintro e w' ⟨rfl, nq, rfl⟩)
      go_ret2
      exact ⟨rfl, _, rfl⟩
  · rw [if_neg c]
    have c2 : (r != 0) = true := by simp [c]
    obtain ⟨q1, q2⟩ := hr c
    clear c hr
    rcases h1 with h1 | ⟨h1, h2⟩
    all_goals
      go_enter Try.func24, Try.ntmps24
      go_wp2_with (go_at_call 26; refine (HS.out _).mono ?_; rintro e w' ⟨rfl, nq, rfl⟩)
      go_ret2
      exact ⟨rfl, _, rfl⟩

/-- what divide is handed where it has room: split, its ranges, and the tests in the walk's own form -/
theorem div_ready (a b : Int) (ha : Fix.Room a) (hb : Fix.Room b) (h0 : b ≠ 0) (h1 : ¬(a = -9223372036854775808 ∧ b = -1)) :
    Hid (∀ w, Calls Try.prog 26 #[.int .i64 a, .int .i64 b] w fun e w' => e = .returned (.tuple #[.int .i64 (Fix.flr a b), .int .i64 (a - Fix.flr a b * b)]) ∧ ∃ n, w' = w.drewN n)
    ∧ (b == 0) = false ∧ ((a == -9223372036854775808) = false ∨ (a == -9223372036854775808) = true ∧ (b == -1) = false)
    ∧ (a - Fix.flr a b * b).natAbs < b.natAbs
    ∧ (a - Fix.flr a b * b ≠ 0 → -9223372036854775808 ≤ Fix.flr a b ∧ Fix.flr a b ≤ 9223372036854775806)
    ∧ Fix.okV (Fix.flr a b) = Fix.flr a b ∧ Fix.okE (Fix.flr a b) = 0 := by
  obtain ⟨hroom, hfar⟩ := Fix.flr_room a b ha h0 h1
  have hl := Fix.flr_left a b h0
  refine ⟨Lib.hid fun w => split_any a b w ha hb h0 h1, by rw [beq_eq_false_iff_ne]; exact h0, ?_, ?_, fun n => ?_, Fix.okV_in hroom, Fix.okE_in hroom⟩
  · by_cases e : a = -9223372036854775808
    · exact Or.inr ⟨by rw [beq_iff_eq]; exact e, by rw [beq_eq_false_iff_ne]; exact fun n => h1 ⟨e, n⟩⟩
    · exact Or.inl (by rw [beq_eq_false_iff_ne]; exact e)
  · rcases Int.lt_or_gt_of_ne h0 with n | n
    · have := hl.2 n; omega
    · have := hl.1 n; omega
  · have := hfar n; omega

theorem Ceil_any (a b : Int) (w : World) (ha : Fix.Room a) (hb : Fix.Room b) :
    Calls Try.prog 17 #[.int .i64 a, .int .i64 b] w fun e w' => e = .returned (.tuple #[.int .i64 (Fix.ceilV a b), .int .i64 (Fix.ceilE a b)]) ∧ ∃ n, w' = w.drewN n := by
  have D : Hid (∀ w, Calls Try.prog 24 #[.int .i64 a, .int .i64 b, .int .i64 2] w fun e w' => e = .returned (.tuple #[.int .i64 (Fix.ceilV a b), .int .i64 (Fix.ceilE a b)]) ∧ ∃ n, w' = w.drewN n) := by
    refine Lib.hid fun w => ?_
    unfold Fix.ceilV Fix.ceilE
    by_cases h0 : b = 0
    · subst h0
      rw [if_pos rfl, if_pos rfl]
      exact (divide_zero a 2 w).mono fun e w' h => ⟨h.1, 0, h.2.symm⟩
    · rw [if_neg h0, if_neg h0, Fix.ceil_eq a b h0]
      by_cases h1 : a = -9223372036854775808 ∧ b = -1
      · obtain ⟨rfl, rfl⟩ := h1
        rw [Fix.flr_over]
        exact (divide_over 2 w).mono fun e w' h => ⟨h.1, 0, h.2.symm⟩
      · obtain ⟨HS, r0, r1, rl, rq, e1, e2⟩ := div_ready a b ha hb h0 h1
        have c := divide_up a b _ _ w HS r0 r1 rq
        by_cases z : a - Fix.flr a b * b = 0
        · rw [if_pos z] at c ⊢
          rw [e1, e2]; exact c
        · rw [if_neg z] at c ⊢
          have := rq z
          rw [Fix.okV_in (by omega), Fix.okE_in (by omega)]; exact c
  go_enter Try.func17, Try.ntmps17
  go_wp2_with (go_at_call 24; refine (D.out _).mono ?_; rintro e w' ⟨rfl, nq, rfl⟩)
  go_ret2
  exact ⟨rfl, _, rfl⟩

end Go.Proofs.Ytlfpmeflddimfaa
