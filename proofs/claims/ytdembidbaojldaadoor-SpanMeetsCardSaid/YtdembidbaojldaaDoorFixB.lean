/- The quotients of package fixq: divide, Floor, Ceil. -/
import Derived.Test.YtdembidbaojldaaDoorFixA
import Derived.Deep.RegionWith
namespace Go.Proofs.YtdembidbaojldaaDoor
open Go.RowKit

theorem divide_zero (a k : Int) (w : World) :
    Calls Tryd.prog 40 #[.int .i64 a, .int .i64 0, .int .i64 k] w fun e w' => e = .returned (.tuple #[.int .i64 0, .int .i64 1]) ∧ w = w' := by
  go_enter Tryd.func40, Tryd.ntmps40
  go_wp2
  go_ret2
  exact ⟨rfl, rfl⟩

theorem divide_over (k : Int) (w : World) :
    Calls Tryd.prog 40 #[.int .i64 (-9223372036854775808), .int .i64 (-1), .int .i64 k] w fun e w' => e = .returned (.tuple #[.int .i64 0, .int .i64 8]) ∧ w = w' := by
  go_enter Tryd.func40, Tryd.ntmps40
  go_wp2
  go_ret2
  exact ⟨rfl, rfl⟩

theorem divide_down (a b q r : Int) (w : World)
    (HS : Hid (∀ w, Calls Tryd.prog 42 #[.int .i64 a, .int .i64 b] w fun e w' => e = .returned (.tuple #[.int .i64 q, .int .i64 r]) ∧ ∃ n, w' = w.drewN n))
    (h0 : (b == 0) = false) (h1 : (a == -9223372036854775808) = false ∨ (a == -9223372036854775808) = true ∧ (b == -1) = false) :
    Calls Tryd.prog 40 #[.int .i64 a, .int .i64 b, .int .i64 0] w fun e w' => e = .returned (.tuple #[.int .i64 q, .int .i64 0]) ∧ ∃ n, w' = w.drewN n := by
  rcases h1 with h1 | ⟨h1, h2⟩
  all_goals
    go_enter Tryd.func40, Tryd.ntmps40
    go_wp2_with (go_at_call 42; refine (HS.out _).mono ?_; rintro e w' ⟨rfl, nq, rfl⟩)
    go_ret2
    exact ⟨rfl, _, rfl⟩

theorem divide_up (a b q r : Int) (w : World)
    (HS : Hid (∀ w, Calls Tryd.prog 42 #[.int .i64 a, .int .i64 b] w fun e w' => e = .returned (.tuple #[.int .i64 q, .int .i64 r]) ∧ ∃ n, w' = w.drewN n))
    (h0 : (b == 0) = false) (h1 : (a == -9223372036854775808) = false ∨ (a == -9223372036854775808) = true ∧ (b == -1) = false)
    (hr : r ≠ 0 → -9223372036854775808 ≤ q ∧ q ≤ 9223372036854775806) :
    Calls Tryd.prog 40 #[.int .i64 a, .int .i64 b, .int .i64 2] w fun e w' => e = .returned (.tuple #[.int .i64 (if r = 0 then q else q + 1), .int .i64 0]) ∧ ∃ n, w' = w.drewN n := by
  by_cases c : r = 0
  · rw [if_pos c]
    have c2 : (r != 0) = false := by simp [c]
    clear c hr
    rcases h1 with h1 | ⟨h1, h2⟩
    all_goals
      go_enter Tryd.func40, Tryd.ntmps40
      go_wp2_with (go_at_call 42; refine (HS.out _).mono ?_; rintro e w' ⟨rfl, nq, rfl⟩)
      go_ret2
      exact ⟨rfl, _, rfl⟩
  · rw [if_neg c]
    have c2 : (r != 0) = true := by simp [c]
    obtain ⟨q1, q2⟩ := hr c
    clear c hr
    rcases h1 with h1 | ⟨h1, h2⟩
    all_goals
      go_enter Tryd.func40, Tryd.ntmps40
      go_wp2_with (go_at_call 42; refine (HS.out _).mono ?_; rintro e w' ⟨rfl, nq, rfl⟩)
      go_ret2
      exact ⟨rfl, _, rfl⟩

theorem divide_near (a b q r : Int) (w : World)
    (HS : Hid (∀ w, Calls Tryd.prog 42 #[.int .i64 a, .int .i64 b] w fun e w' => e = .returned (.tuple #[.int .i64 q, .int .i64 r]) ∧ ∃ n, w' = w.drewN n))
    (h0 : (b == 0) = false) (h1 : (a == -9223372036854775808) = false ∨ (a == -9223372036854775808) = true ∧ (b == -1) = false)
    (hb : Fix.Room b) (hr : Fix.Room r) (hl : r.natAbs < b.natAbs)
    (hq : r ≠ 0 → -9223372036854775808 ≤ q ∧ q ≤ 9223372036854775806) :
    Calls Tryd.prog 40 #[.int .i64 a, .int .i64 b, .int .i64 1] w fun e w' => e = .returned (.tuple #[.int .i64 (if r.natAbs < b.natAbs - r.natAbs then q else q + 1), .int .i64 0]) ∧ ∃ n, w' = w.drewN n := by
  have zr := fun w => size_any r w hr
  have zb := fun w => size_any b w hb
  have Zr := Lib.hid zr
  have Zb := Lib.hid zb
  clear zr zb
  obtain ⟨hb1, hb2⟩ := hb; obtain ⟨hr1, hr2⟩ := hr
  obtain ⟨x, hx⟩ : ∃ x, x = r.natAbs := ⟨_, rfl⟩
  obtain ⟨y, hy⟩ : ∃ y, y = b.natAbs := ⟨_, rfl⟩
  have bx : (x : Int) ≤ 9223372036854775808 := by omega
  have yb : (y : Int) ≤ 9223372036854775808 := by omega
  have lxy : (x : Int) < y := by omega
  rw [← hx, ← hy]
  rw [← hx] at Zr
  rw [← hy] at Zb
  by_cases c : (x : Int) < y - x
  · rw [if_pos (by omega)]
    clear hx hy hl hq hr1 hr2 hb1 hb2
    rcases h1 with h1 | ⟨h1, h2⟩
    all_goals
      go_enter Tryd.func40, Tryd.ntmps40
      go_wp2_with (first | (go_at_call 42; refine (HS.out _).mono ?_; rintro e w' ⟨rfl, nq, rfl⟩) | (go_at_call_of 37 (Value.int .i64 r); refine (Zr.out _).mono ?_; rintro e w' ⟨rfl, rfl⟩) | (go_at_call_of 37 (Value.int .i64 b); refine (Zb.out _).mono ?_; rintro e w' ⟨rfl, rfl⟩))
      go_ret2
      exact ⟨rfl, _, rfl⟩
  · rw [if_neg (by omega)]
    have c3 : r ≠ 0 := by omega
    have c2 : (r != 0) = true := by simp [c3]
    obtain ⟨q1, q2⟩ := hq c3
    clear hx hy hl hq hr1 hr2 hb1 hb2 c3
    rcases h1 with h1 | ⟨h1, h2⟩
    all_goals
      go_enter Tryd.func40, Tryd.ntmps40
      go_wp2_with (first | (go_at_call 42; refine (HS.out _).mono ?_; rintro e w' ⟨rfl, nq, rfl⟩) | (go_at_call_of 37 (Value.int .i64 r); refine (Zr.out _).mono ?_; rintro e w' ⟨rfl, rfl⟩) | (go_at_call_of 37 (Value.int .i64 b); refine (Zb.out _).mono ?_; rintro e w' ⟨rfl, rfl⟩))
      go_ret2
      exact ⟨rfl, _, rfl⟩

/-- what divide is handed where it has room: split, its ranges, and the tests in the walk's own form -/
theorem div_ready (a b : Int) (ha : Fix.Room a) (hb : Fix.Room b) (h0 : b ≠ 0) (h1 : ¬(a = -9223372036854775808 ∧ b = -1)) :
    Hid (∀ w, Calls Tryd.prog 42 #[.int .i64 a, .int .i64 b] w fun e w' => e = .returned (.tuple #[.int .i64 (Fix.flr a b), .int .i64 (a - Fix.flr a b * b)]) ∧ ∃ n, w' = w.drewN n)
    ∧ (b == 0) = false ∧ ((a == -9223372036854775808) = false ∨ (a == -9223372036854775808) = true ∧ (b == -1) = false)
    ∧ (a - Fix.flr a b * b).natAbs < b.natAbs
    ∧ (a - Fix.flr a b * b ≠ 0 → -9223372036854775808 ≤ Fix.flr a b ∧ Fix.flr a b ≤ 9223372036854775806)
    ∧ Fix.okV (Fix.flr a b) = Fix.flr a b ∧ Fix.okE (Fix.flr a b) = 0 := by
  obtain ⟨hroom, hfar⟩ := Fix.flr_room a b ha h0 h1
  have hl := Fix.flr_left a b h0
  refine ⟨Lib.hid fun w => split_any a b w ha hb h0 h1, by rw [beq_eq_false_iff_ne]; exact h0, ?_, ?_, fun n => ?_, Fix.okV_in hroom, Fix.okE_in hroom⟩
  · by_cases e : a = -9223372036854775808
    · exact Or.inr ⟨by rw [beq_iff_eq]; exact e, by rw [beq_eq_false_iff_ne]; exact fun n => h1 ⟨e, n⟩⟩
    · exact Or.inl (by rw [beq_eq_false_iff_ne]; exact e)
  · rcases Int.lt_or_gt_of_ne h0 with n | n
    · have := hl.2 n; omega
    · have := hl.1 n; omega
  · have := hfar n; omega

theorem Floor_any (a b : Int) (w : World) (ha : Fix.Room a) (hb : Fix.Room b) :
    Calls Tryd.prog 33 #[.int .i64 a, .int .i64 b] w fun e w' => e = .returned (.tuple #[.int .i64 (Fix.floorV a b), .int .i64 (Fix.floorE a b)]) ∧ ∃ n, w' = w.drewN n := by
  have D : Hid (∀ w, Calls Tryd.prog 40 #[.int .i64 a, .int .i64 b, .int .i64 0] w fun e w' => e = .returned (.tuple #[.int .i64 (Fix.floorV a b), .int .i64 (Fix.floorE a b)]) ∧ ∃ n, w' = w.drewN n) := by
    refine Lib.hid fun w => ?_
    unfold Fix.floorV Fix.floorE
    by_cases h0 : b = 0
    · subst h0
      rw [if_pos rfl, if_pos rfl]
      exact (divide_zero a 0 w).mono fun e w' h => ⟨h.1, 0, h.2.symm⟩
    · rw [if_neg h0, if_neg h0]
      by_cases h1 : a = -9223372036854775808 ∧ b = -1
      · obtain ⟨rfl, rfl⟩ := h1
        rw [Fix.flr_over]
        exact (divide_over 0 w).mono fun e w' h => ⟨h.1, 0, h.2.symm⟩
      · obtain ⟨HS, r0, r1, rl, rq, e1, e2⟩ := div_ready a b ha hb h0 h1
        rw [e1, e2]
        exact divide_down a b _ _ w HS r0 r1
  go_enter Tryd.func33, Tryd.ntmps33
  go_wp2_with (go_at_call 40; refine (D.out _).mono ?_; rintro e w' ⟨rfl, nq, rfl⟩)
  go_ret2
  exact ⟨rfl, _, rfl⟩

theorem Ceil_any (a b : Int) (w : World) (ha : Fix.Room a) (hb : Fix.Room b) :
    Calls Tryd.prog 32 #[.int .i64 a, .int .i64 b] w fun e w' => e = .returned (.tuple #[.int .i64 (Fix.ceilV a b), .int .i64 (Fix.ceilE a b)]) ∧ ∃ n, w' = w.drewN n := by
  have D : Hid (∀ w, Calls Tryd.prog 40 #[.int .i64 a, .int .i64 b, .int .i64 2] w fun e w' => e = .returned (.tuple #[.int .i64 (Fix.ceilV a b), .int .i64 (Fix.ceilE a b)]) ∧ ∃ n, w' = w.drewN n) := by
    refine Lib.hid fun w => ?_
    unfold Fix.ceilV Fix.ceilE
    by_cases h0 : b = 0
    · subst h0
      rw [if_pos rfl, if_pos rfl]
      exact (divide_zero a 2 w).mono fun e w' h => ⟨h.1, 0, h.2.symm⟩
    · rw [if_neg h0, if_neg h0, Fix.ceil_eq a b h0]
      by_cases h1 : a = -9223372036854775808 ∧ b = -1
      · obtain ⟨rfl, rfl⟩ := h1
        rw [Fix.flr_over]
        exact (divide_over 2 w).mono fun e w' h => ⟨h.1, 0, h.2.symm⟩
      · obtain ⟨HS, r0, r1, rl, rq, e1, e2⟩ := div_ready a b ha hb h0 h1
        have c := divide_up a b _ _ w HS r0 r1 rq
        by_cases z : a - Fix.flr a b * b = 0
        · rw [if_pos z] at c ⊢
          rw [e1, e2]; exact c
        · rw [if_neg z] at c ⊢
          have := rq z
          rw [Fix.okV_in (by omega), Fix.okE_in (by omega)]; exact c
  go_enter Tryd.func32, Tryd.ntmps32
  go_wp2_with (go_at_call 40; refine (D.out _).mono ?_; rintro e w' ⟨rfl, nq, rfl⟩)
  go_ret2
  exact ⟨rfl, _, rfl⟩

end Go.Proofs.YtdembidbaojldaaDoor
