/- WideDivides: the walk. -/
import Derived.Test.YtfgjkkabipmhhaaWideF
namespace Go.Proofs.Ytfgjkkabipmhhaa
open Go.RowKit

theorem divides_arg (a d left : Int) (w : World) (ra : Wd.R6 a) (hd : d < 1) :
    Calls Try.prog 4 #[.int .i64 a, .int .i64 d, .int .u64 left] w fun e w' => e = .returned (.bool true) ∧ Below w.heap.size w w' := by
  have O := Lib.hid fun w => Of_any a w ra
  have D := Lib.hid fun w => Div_arg (Wd.hi a) (Wd.lo a) d w hd
  have K := Lib.hid fun w => awake_any w
  clear ra
  go_enter Try.func4, Try.ntmps4
  go_wp2_with fail
  refine (O.out _).mono ?_; rintro e w1 ⟨rfl, hb1⟩
  have B1 := belowT (Below.refl _ _) hb1
  go_wp2_with fail
  refine (D.out _).mono ?_; rintro e w2 ⟨rfl, hb2⟩
  have B2 := belowT (B1) hb2
  go_wp2_with fail
  refine (K.out _).mono ?_; rintro e w3 ⟨rfl, hb3⟩
  have B3 := belowT (belowT B2 (below1 _ _)) hb3
  go_wp2_with fail
  go_ret
  exact ⟨rfl, B3⟩

set_option maxHeartbeats 1000000 in
theorem divides_core (a d left m r s : Int) (w : World) (hd : 1 ≤ d) (hd2 : d ≤ 9223372036854775807) (l0 : 0 ≤ left) (l1 : left ≤ 18446744073709551615)
    (er : left % d = r) (r0 : 0 ≤ r) (r1 : r ≤ 9223372036854775807)
    (M : Hid (∀ w, Calls Try.prog 15 #[.int .i64 a, .int .i64 d] w fun e w' => e = .returned (.agg #[.int .i64 (Wd.hi m), .int .u64 (Wd.lo m)]) ∧ Below w.heap.size w w'))
    (O1 : Hid (∀ w, Calls Try.prog 13 #[.int .i64 r] w fun e w' => e = .returned (.agg #[.int .i64 (Wd.hi r), .int .u64 (Wd.lo r)]) ∧ Below w.heap.size w w'))
    (P : Hid (∀ w, Calls Try.prog 17 #[.agg #[.int .i64 (Wd.hi m), .int .u64 (Wd.lo m)], .agg #[.int .i64 (Wd.hi r), .int .u64 (Wd.lo r)]] w fun e w' => e = .returned (.agg #[.int .i64 (Wd.hi s), .int .u64 (Wd.lo s)]) ∧ Below w.heap.size w w'))
    (D : Hid (∀ w, Calls Try.prog 9 #[.agg #[.int .i64 (Wd.hi s), .int .u64 (Wd.lo s)], .int .i64 d] w fun e w' => e = .returned (.tuple #[.agg #[.int .i64 (Wd.hi a), .int .u64 (Wd.lo a)], .int .i64 r, .int .i64 0]) ∧ Below w.heap.size w w'))
    (O2 : Hid (∀ w, Calls Try.prog 13 #[.int .i64 a] w fun e w' => e = .returned (.agg #[.int .i64 (Wd.hi a), .int .u64 (Wd.lo a)]) ∧ Below w.heap.size w w')) :
    Calls Try.prog 4 #[.int .i64 a, .int .i64 d, .int .u64 left] w fun e w' => e = .returned (.bool true) ∧ Below w.heap.size w w' := by
  have K := Lib.hid fun w => awake_any w
  have d3 : decide (d < 1) = false := decide_eq_false (by omega)
  have hw : IntKind.u64.wrap d = d := by rw [IntKind.wrap_u64]; omega
  have hz : (d == 0) = false := by rw [beq_eq_false_iff_ne]; omega
  go_enter Try.func4, Try.ntmps4
  go_wp2_with fail
  refine (M.out _).mono ?_; rintro e w1 ⟨rfl, hb1⟩
  have B1 := belowT (Below.refl _ _) hb1
  go_wp2_with fail
  refine (O1.out _).mono ?_; rintro e w2 ⟨rfl, hb2⟩
  have B2 := belowT (B1) hb2
  go_wp2_with fail
  refine (P.out _).mono ?_; rintro e w3 ⟨rfl, hb3⟩
  have B3 := belowT (B2) hb3
  go_wp2_with fail
  refine (D.out _).mono ?_; rintro e w4 ⟨rfl, hb4⟩
  have B4 := belowT (B3) hb4
  go_wp2_with fail
  have B5 := belowT B4 (below1 w4 (.cells #[.int .i64 (Wd.hi a), .int .u64 (Wd.lo a)] 24))
  go_region_held3 (fun w' => w'.cell? ⟨w4.heap.size, 0, none⟩ = some (.int .i64 (Wd.hi a)) ∧ w'.cell? ⟨w4.heap.size, 1, none⟩ = some (.int .u64 (Wd.lo a)))
    (first
      | (go_split_ands; refine ⟨?_, ?_⟩ <;> first | exact keepc hb12 (by assumption) | exact keepc hb11 (by assumption))
      | go_keep)
    (first
      | (go_at_call 13; (with_reducible refine (O2.out _).mono ?_); rintro e w11 ⟨rfl, hb11⟩; have B11 := belowT B5.drew hb11)
      | (go_at_call 25; (with_reducible refine (K.out _).mono ?_); rintro e w12 ⟨rfl, hb12⟩; have B12 := belowT B11 hb12))
  all_goals
    go_wp2_with fail
    go_ret
    exact ⟨rfl, B12⟩

theorem divides_any (a d left : Int) (w : World) (ra : Wd.R6 a) (rd : Wd.R6 d) (l0 : 0 ≤ left) (l1 : left ≤ 18446744073709551615) :
    Calls Try.prog 4 #[.int .i64 a, .int .i64 d, .int .u64 left] w fun e w' => e = .returned (.bool true) ∧ Below w.heap.size w w' := by
  by_cases hd : d < 1
  · exact divides_arg a d left w ra hd
  · have h1 : 1 ≤ d := by omega
    have m0 := Int.emod_nonneg left (show d ≠ 0 by omega)
    have m1 := Int.emod_lt_of_pos left (show 0 < d by omega)
    obtain ⟨a1, a2⟩ := ra
    obtain ⟨d1, d2⟩ := rd
    have r6 : Wd.R6 (left % d) := ⟨by omega, by omega⟩
    have q1 : (a * d + left % d) / d = a := by
      rw [Int.add_comm, Int.add_mul_ediv_right _ _ (by omega), Int.ediv_eq_zero_of_lt m0 m1]; omega
    have q2 : (a * d + left % d) % d = left % d := by
      rw [Int.add_comm, Int.add_mul_emod_self_right, Int.emod_eq_of_lt m0 m1]
    have rs : Wd.Rm (a * d + left % d) := by
      have u1 : a * d ≤ 9223372036854775807 * d := Int.mul_le_mul_of_nonneg_right a2 (by omega)
      have u2 : -9223372036854775808 * d ≤ a * d := Int.mul_le_mul_of_nonneg_right a1 (by omega)
      unfold Wd.Rm
      omega
    refine divides_core a d left (a * d) (left % d) (a * d + left % d) w h1 d2 l0 l1 rfl m0 (by omega)
      (Lib.hid fun w => Mul_any a d w ⟨a1, a2⟩ ⟨d1, d2⟩) (Lib.hid fun w => Of_any _ w r6) (Lib.hid fun w => Add_any _ _ w) (Lib.hid fun w => ?_) (Lib.hid fun w => Of_any a w ⟨a1, a2⟩)
    have c := Div_any (a * d + left % d) d w rs h1 d2
    rw [q1, q2] at c
    exact c

end Go.Proofs.Ytfgjkkabipmhhaa
