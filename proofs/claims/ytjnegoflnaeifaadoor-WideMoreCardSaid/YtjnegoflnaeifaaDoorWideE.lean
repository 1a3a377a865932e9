/- Narrow and Shift of package wide. -/
import Derived.Test.YtjnegoflnaeifaaDoorWideA
import Derived.Deep.RegionHeld3
import Derived.RegionTactic
import Derived.ChangeAlike
namespace Go.Proofs.YtjnegoflnaeifaaDoor
open Go.RowKit

set_option maxHeartbeats 400000 in
theorem Narrow_same (h l n : Int) (w : World) (en : wrap64 l = n) 
    (O : Hid (∀ w, Calls Tryd.prog 20 #[.int .i64 n] w fun e w' => e = .returned (.agg #[.int .i64 h, .int .u64 l]) ∧ Below w.heap.size w w')) :
    Calls Tryd.prog 21 #[.agg #[.int .i64 h, .int .u64 l]] w fun e w' => e = .returned (.tuple #[.int .i64 n, .int .i64 0]) ∧ Below w.heap.size w w' := by
  go_enter Tryd.func21, Tryd.ntmps21
  go_wp2_with fail
  go_region_held3 (fun w' => w'.cell? ⟨w.heap.size, 0, none⟩ = some (.int .i64 h) ∧ w'.cell? ⟨w.heap.size, 1, none⟩ = some (.int .u64 l))
    (first
      | (go_split_ands; refine ⟨?_, ?_⟩ <;> exact keepc hb4 (by assumption))
      | go_keep)
    (first
      | (go_at_call 20; refine (O.out _).mono ?_; rintro e w4 ⟨rfl, hb4⟩; have B4 := belowT (below1 w _).drew hb4))
  all_goals
    go_wp2_with fail
    go_ret2
    exact ⟨rfl, B4⟩

set_option maxHeartbeats 400000 in
theorem Narrow_hi (h l n h2 l2 : Int) (w : World) (en : wrap64 l = n) (q : (h == h2) = false)
    (O : Hid (∀ w, Calls Tryd.prog 20 #[.int .i64 n] w fun e w' => e = .returned (.agg #[.int .i64 h2, .int .u64 l2]) ∧ Below w.heap.size w w')) :
    Calls Tryd.prog 21 #[.agg #[.int .i64 h, .int .u64 l]] w fun e w' => e = .returned (.tuple #[.int .i64 0, .int .i64 8]) ∧ Below w.heap.size w w' := by
  go_enter Tryd.func21, Tryd.ntmps21
  go_wp2_with fail
  go_region_held3 (fun w' => w'.cell? ⟨w.heap.size, 0, none⟩ = some (.int .i64 h) ∧ w'.cell? ⟨w.heap.size, 1, none⟩ = some (.int .u64 l))
    (first
      | (go_split_ands; refine ⟨?_, ?_⟩ <;> exact keepc hb4 (by assumption))
      | go_keep)
    (first
      | (go_at_call 20; refine (O.out _).mono ?_; rintro e w4 ⟨rfl, hb4⟩; have B4 := belowT (below1 w _).drew hb4))
  all_goals
    go_wp2_with fail
    go_ret2
    exact ⟨rfl, B4⟩

set_option maxHeartbeats 400000 in
theorem Narrow_lo (h l n l2 : Int) (w : World) (en : wrap64 l = n) (q : (l == l2) = false)
    (O : Hid (∀ w, Calls Tryd.prog 20 #[.int .i64 n] w fun e w' => e = .returned (.agg #[.int .i64 h, .int .u64 l2]) ∧ Below w.heap.size w w')) :
    Calls Tryd.prog 21 #[.agg #[.int .i64 h, .int .u64 l]] w fun e w' => e = .returned (.tuple #[.int .i64 0, .int .i64 8]) ∧ Below w.heap.size w w' := by
  go_enter Tryd.func21, Tryd.ntmps21
  go_wp2_with fail
  go_region_held3 (fun w' => w'.cell? ⟨w.heap.size, 0, none⟩ = some (.int .i64 h) ∧ w'.cell? ⟨w.heap.size, 1, none⟩ = some (.int .u64 l))
    (first
      | (go_split_ands; refine ⟨?_, ?_⟩ <;> exact keepc hb4 (by assumption))
      | go_keep)
    (first
      | (go_at_call 20; refine (O.out _).mono ?_; rintro e w4 ⟨rfl, hb4⟩; have B4 := belowT (below1 w _).drew hb4))
  all_goals
    go_wp2_with fail
    go_ret2
    exact ⟨rfl, B4⟩


theorem low_of (x : Int) (r : Wd.R6 x) : wrap64 (Wd.lo x) = x := by rw [wrap_i]; unfold Wd.lo Wd.R6 at *; omega

theorem Narrow_in (x : Int) (w : World) (r : Wd.R6 x) :
    Calls Tryd.prog 21 #[.agg #[.int .i64 (Wd.hi x), .int .u64 (Wd.lo x)]] w fun e w' => e = .returned (.tuple #[.int .i64 x, .int .i64 0]) ∧ Below w.heap.size w w' :=
  Narrow_same _ _ x w (low_of x r) (Lib.hid fun w => Of_any x w r)

theorem wrap_r6 (x : Int) : Wd.R6 (wrap64 x) := by rw [wrap_i]; unfold Wd.R6; omega

theorem Narrow_out (x : Int) (w : World) (rx : Wd.Rm x) (r : ¬ Wd.R6 x) :
    Calls Tryd.prog 21 #[.agg #[.int .i64 (Wd.hi x), .int .u64 (Wd.lo x)]] w fun e w' => e = .returned (.tuple #[.int .i64 0, .int .i64 8]) ∧ Below w.heap.size w w' := by
  have r2 := wrap_r6 (Wd.lo x)
  have O := Lib.hid fun w => Of_any (wrap64 (Wd.lo x)) w r2
  have ne : x ≠ wrap64 (Wd.lo x) := fun e => r (e ▸ r2)
  by_cases h : Wd.hi x = Wd.hi (wrap64 (Wd.lo x))
  · have l : Wd.lo x ≠ Wd.lo (wrap64 (Wd.lo x)) := fun l => ne (Wd.same_iff rx (Wd.rm_of r2) h l)
    rw [← h] at O
    exact Narrow_lo _ _ _ _ w rfl (by rw [beq_eq_false_iff_ne]; exact l) O
  · exact Narrow_hi _ _ _ _ _ w rfl (by rw [beq_eq_false_iff_ne]; exact h) O

theorem Shift_arg (h l n : Int) (w : World) (hn : n < 0 ∨ 127 < n) :
    Calls Tryd.prog 22 #[.agg #[.int .i64 h, .int .u64 l], .int .i64 n] w fun e w' => e = .returned (.tuple #[.agg #[.int .i64 (Wd.hi 0), .int .u64 (Wd.lo 0)], .int .i64 1]) ∧ Below w.heap.size w w' := by
  rw [Wd.hi_zero, Wd.lo_zero]
  rcases hn with hn | hn
  all_goals
    go_enter Tryd.func22, Tryd.ntmps22
    go_wp2_with fail
    exact bodyPost_ret (v := .tuple #[.agg #[.int .i64 0, .int .u64 0], .int .i64 1]) (by simp [results, Tryd.results22, go_sem]) rfl ⟨rfl, below2 w _ _⟩

theorem Shift_lo (h l v : Int) (k : Nat) (w : World) (hk : k < 64)
    (ev : bits .or .u64 (IntKind.u64.wrap (IntKind.u64.wrap h * 2 ^ (64 - k))) (l / 2 ^ k) = v) :
    Calls Tryd.prog 22 #[.agg #[.int .i64 h, .int .u64 l], .int .i64 (k : Int)] w fun e w' => e = .returned (.tuple #[.agg #[.int .i64 (h / 2 ^ k), .int .u64 v], .int .i64 0]) ∧ Below w.heap.size w w' := by
  have k1 : (k : Int) < 64 := by omega
  have k2 : IntKind.i64.wrap (64 - (k : Int)) = 64 - (k : Int) := by rw [IntKind.wrap_i64]; omega
  have k3 : decide ((k : Int) < 0) = false := decide_eq_false (by omega)
  have k4 : decide (127 < (k : Int)) = false := decide_eq_false (by omega)
  go_enter Tryd.func22, Tryd.ntmps22
  go_wp2_with fail
  go_region
  go_wp2_with fail
  exact bodyPost_ret (v := .tuple #[.agg #[.int .i64 (h / 2 ^ k), .int .u64 v], .int .i64 0]) (by simp [results, Tryd.results22, go_sem, *]) rfl ⟨rfl, (below2 w _ _).drew⟩

theorem Shift_hi (h l : Int) (k : Nat) (v1 v2 : Int) (w : World) (hk : k < 64)
    (O : Hid (∀ w, Calls Tryd.prog 20 #[.int .i64 (h / 2 ^ k)] w fun e w' => e = .returned (.agg #[.int .i64 v1, .int .u64 v2]) ∧ Below w.heap.size w w')) :
    Calls Tryd.prog 22 #[.agg #[.int .i64 h, .int .u64 l], .int .i64 ((k : Int) + 64)] w fun e w' => e = .returned (.tuple #[.agg #[.int .i64 v1, .int .u64 v2], .int .i64 0]) ∧ Below w.heap.size w w' := by
  have k1 : (k : Int) < 64 := by omega
  have k2 : decide ((k : Int) + 64 < 64) = false := decide_eq_false (by omega)
  have k3 : decide ((k : Int) + 64 < 0) = false := decide_eq_false (by omega)
  have k4 : decide (127 < (k : Int) + 64) = false := decide_eq_false (by omega)
  have k5 : IntKind.i64.wrap ((k : Int) + 64 - 64) = (k : Int) := by rw [IntKind.wrap_i64]; omega
  have R := own2b w (.cells #[.int .i64 h, .int .u64 l] 24) (.int .i64 0) (.int .u64 0) 24
  go_enter Tryd.func22, Tryd.ntmps22
  go_wp2_with fail
  refine (O.out _).mono ?_; rintro e w1 ⟨rfl, hb1⟩
  have B1 := belowT (below2 w _ _) hb1
  have R1 := (R).keep hb1; have R1a := R1.c0; have R1b := R1.c1; have R1c := R1.f0; have R1d := R1.f1; have R1l := R1.lt
  go_wp2_with fail
  exact bodyPost_ret (v := .tuple #[.agg #[.int .i64 v1, .int .u64 v2], .int .i64 0]) (by simp [results, Tryd.results22, go_sem, *]) rfl ⟨rfl, (B1.setCell (by simp) _).setCell (by simp) _⟩

/-- the halves of a number shifted down, with P * T = 2^64 -/
theorem shift_num (h l P T : Int) (hP : 0 < P) (hT : 0 < T) (e : T * P = 18446744073709551616) (h1 : -9223372036854775808 ≤ h) (h2 : h ≤ 9223372036854775807) (l1 : 0 ≤ l) (l2 : l < 18446744073709551616) :
    Wd.hi ((h * 18446744073709551616 + l) / P) = h / P ∧ Wd.lo ((h * 18446744073709551616 + l) / P) = h % P * T + l / P ∧ 0 ≤ l / P ∧ l / P < T ∧ h * T % 18446744073709551616 = h % P * T ∧ 0 ≤ h % P * T ∧ h % P * T + l / P < 18446744073709551616 := by
  have q1 : (h * 18446744073709551616 + l) / P = h * T + l / P := by
    rw [← e, ← Int.mul_assoc, Int.add_comm, Int.add_mul_ediv_right _ _ (by omega)]; omega
  have q2 : 0 ≤ l / P := Int.ediv_nonneg l1 (by omega)
  have q3 : l / P < T := Int.ediv_lt_of_lt_mul hP (by omega)
  have d := Int.mul_ediv_add_emod h P
  have m1 := Int.emod_nonneg h (show P ≠ 0 by omega)
  have m2 := Int.emod_lt_of_pos h hP
  have s : h * T = h / P * 18446744073709551616 + h % P * T := by
    rw [← e, ← Int.mul_assoc, Int.mul_right_comm, ← Int.add_mul]
    congr 1
    rw [Int.mul_comm]; omega
  have b1 : 0 ≤ h % P * T := Int.mul_nonneg m1 (by omega)
  have b2 : (h % P + 1) * T ≤ P * T := Int.mul_le_mul_of_nonneg_right (by omega) (by omega)
  rw [Int.mul_comm P T, e, Int.add_mul] at b2
  have g1 : -9223372036854775808 ≤ h / P := by
    rw [Int.le_ediv_iff_mul_le hP]
    have := Int.mul_le_mul_of_nonpos_left (a := -9223372036854775808) (by omega) (show (1 : Int) ≤ P by omega)
    omega
  have g2 : h / P ≤ 9223372036854775807 := by
    have : h / P < 9223372036854775808 := Int.ediv_lt_of_lt_mul hP (by omega)
    omega
  rw [q1, s]
  generalize h / P = Q at *
  generalize h % P * T = R at *
  generalize l / P = S at *
  unfold Wd.hi Wd.lo
  omega

theorem two_pow_int (k : Nat) : ((2 ^ k : Nat) : Int) = 2 ^ k := by push_cast; rfl

theorem or_shift (a b : Int) (s : Nat) (a0 : 0 ≤ a) (b0 : 0 ≤ b) (hb : b < 2 ^ s) (hs : a * 2 ^ s + b < 18446744073709551616) (ha : 0 ≤ a * 2 ^ s) :
    bits .or .u64 (a * 2 ^ s) b = a * 2 ^ s + b := by
  obtain ⟨A, rfl⟩ := Int.eq_ofNat_of_zero_le a0
  obtain ⟨B, rfl⟩ := Int.eq_ofNat_of_zero_le b0
  rw [← two_pow_int, ← Int.natCast_mul] at *
  have hb' : B < 2 ^ s := by omega
  have e : A * 2 ^ s ||| B = A * 2 ^ s + B := by rw [Nat.mul_comm, Nat.two_pow_add_eq_or_of_lt hb']
  rw [bits_or_u64_nat _ _ (by omega) (by omega), e]
  omega

theorem emod_mul (a b M : Int) : a % M * b % M = a * b % M := by
  rw [Int.mul_emod (a % M), Int.emod_emod_of_dvd _ (Int.dvd_refl _), ← Int.mul_emod]

theorem Shift_small (x : Int) (k : Nat) (w : World) (rx : Wd.Rm x) (hk : k < 64) :
    Calls Tryd.prog 22 #[.agg #[.int .i64 (Wd.hi x), .int .u64 (Wd.lo x)], .int .i64 (k : Int)] w fun e w' => e = .returned (.tuple #[.agg #[.int .i64 (Wd.hi (x / 2 ^ k)), .int .u64 (Wd.lo (x / 2 ^ k))], .int .i64 0]) ∧ Below w.heap.size w w' := by
  have h := Wd.hi_rm x
  have l := Wd.lo_rm x
  have ex := Wd.halves x rx
  have e : (2 : Int) ^ (64 - k) * 2 ^ k = 18446744073709551616 := by
    rw [← Int.pow_add, show 64 - k + k = 64 by omega]; rfl
  have p1 : (0 : Int) < 2 ^ k := Int.pow_pos (by omega)
  have p2 : (0 : Int) < 2 ^ (64 - k) := Int.pow_pos (by omega)
  obtain ⟨s1, s2, s3, s4, s5, s6, s7⟩ := shift_num (Wd.hi x) (Wd.lo x) (2 ^ k) (2 ^ (64 - k)) p1 p2 e h.1 h.2 l.1 (by omega)
  rw [← ex] at s1 s2
  have m := Int.emod_nonneg (Wd.hi x) (show (2 : Int) ^ k ≠ 0 by omega)
  have o := or_shift _ _ (64 - k) m s3 s4 s7 s6
  rw [s1, s2]
  refine Shift_lo (Wd.hi x) (Wd.lo x) _ k w hk ?_
  rw [wrap_u, wrap_u, emod_mul, s5]
  exact o

theorem Shift_great (x : Int) (k : Nat) (w : World) (rx : Wd.Rm x) (hk : k < 64) :
    Calls Tryd.prog 22 #[.agg #[.int .i64 (Wd.hi x), .int .u64 (Wd.lo x)], .int .i64 ((k : Int) + 64)] w fun e w' => e = .returned (.tuple #[.agg #[.int .i64 (Wd.hi (x / 2 ^ (k + 64))), .int .u64 (Wd.lo (x / 2 ^ (k + 64)))], .int .i64 0]) ∧ Below w.heap.size w w' := by
  have h := Wd.hi_rm x
  have l := Wd.lo_rm x
  have ex := Wd.halves x rx
  have p1 : (0 : Int) < 2 ^ k := Int.pow_pos (by omega)
  have e : x / 2 ^ (k + 64) = Wd.hi x / 2 ^ k := by
    rw [Nat.add_comm, Int.pow_add, ← Int.ediv_ediv_of_nonneg (by decide), show (2 : Int) ^ 64 = 18446744073709551616 from rfl]
    congr 1
    omega
  have r : Wd.R6 (Wd.hi x / 2 ^ k) := by
    constructor
    · rw [Int.le_ediv_iff_mul_le p1]
      have := Int.mul_le_mul_of_nonpos_left (a := -9223372036854775808) (by omega) (show (1 : Int) ≤ 2 ^ k by omega)
      omega
    · have : Wd.hi x / 2 ^ k < 9223372036854775808 := by
        refine Int.ediv_lt_of_lt_mul p1 ?_
        have := Int.mul_le_mul_of_nonneg_left (show (1 : Int) ≤ 2 ^ k by omega) (show (0 : Int) ≤ 9223372036854775808 by omega)
        omega
      omega
  rw [e]
  exact Shift_hi (Wd.hi x) (Wd.lo x) k _ _ w hk (Lib.hid fun w => Of_any _ w r)

/-- Shift: the quotient by a power of two, rounded down. -/
theorem Shift_any (x n : Int) (w : World) (rx : Wd.Rm x) (h0 : 0 ≤ n) (h1 : n ≤ 127) :
    Calls Tryd.prog 22 #[.agg #[.int .i64 (Wd.hi x), .int .u64 (Wd.lo x)], .int .i64 n] w fun e w' => e = .returned (.tuple #[.agg #[.int .i64 (Wd.hi (x / 2 ^ n.toNat)), .int .u64 (Wd.lo (x / 2 ^ n.toNat))], .int .i64 0]) ∧ Below w.heap.size w w' := by
  by_cases h : n < 64
  · have c := Shift_small x n.toNat w rx (by omega)
    rw [show ((n.toNat : Nat) : Int) = n by omega] at c
    exact c
  · have c := Shift_great x (n.toNat - 64) w rx (by omega)
    rw [show (((n.toNat - 64 : Nat) : Int) + 64) = n by omega, show n.toNat - 64 + 64 = n.toNat by omega] at c
    exact c

end Go.Proofs.YtjnegoflnaeifaaDoor
