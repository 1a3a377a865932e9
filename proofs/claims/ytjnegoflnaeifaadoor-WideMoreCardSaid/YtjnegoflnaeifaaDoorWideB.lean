/- Products, quotients of package wide. -/
import Derived.Test.YtjnegoflnaeifaaDoorWideA
import Derived.Test.YtjnegoflnaeifaaDoorDiv
namespace Go.Proofs.YtjnegoflnaeifaaDoor
open Go.RowKit

theorem prod_halves (x y : Nat) (hx : x < 18446744073709551616) (hy : y < 18446744073709551616) :
    wrap64 ((x * y / 18446744073709551616 : Nat) : Int) = Wd.hi ((x * y : Nat) : Int) ∧ ((x * y % 18446744073709551616 : Nat) : Int) = Wd.lo ((x * y : Nat) : Int) := by
  have h : x * y / 18446744073709551616 < 18446744073709551616 := by
    rw [Nat.div_lt_iff_lt_mul (by omega)]
    exact Nat.mul_lt_mul'' hx hy
  generalize x * y = p at *
  rw [wrap_i]
  unfold Wd.hi Wd.lo
  omega

theorem product_any (x y : Nat) (hx : x < 18446744073709551616) (hy : y < 18446744073709551616) (w : World) :
    Calls Tryd.prog 34 #[.int .u64 x, .int .u64 y] w fun e w' => e = .returned (.agg #[.int .i64 (Wd.hi ((x * y : Nat) : Int)), .int .u64 (Wd.lo ((x * y : Nat) : Int))]) ∧ Below w.heap.size w w' := by
  obtain ⟨e1, e2⟩ := prod_halves x y hx hy
  have M := Lib.hid fun w => Mul64_any x y hx hy w
  rw [e2] at M
  have e3 := wrap_i ((x * y / 18446744073709551616 : Nat) : Int)
  generalize ((x * y / 18446744073709551616 : Nat) : Int) = p at *
  generalize ((x * y : Nat) : Int) = q at *
  rw [← e1]
  clear e1 e2 e3
  go_enter Tryd.func34, Tryd.ntmps34
  go_wp2_with fail
  refine (M.out _).mono ?_; rintro e w1 ⟨rfl, rfl⟩
  go_wp2_with fail
  exact bodyPost_ret (v := .agg #[.int .i64 (wrap64 p), .int .u64 (Wd.lo q)]) (by simp [results, Tryd.results34, go_sem]) rfl ⟨rfl, below1 w _⟩

theorem abs_u {a : Int} (r : Wd.R6 a) : Wd.lo (a.natAbs : Int) = ((a.natAbs : Nat) : Int) ∧ a.natAbs < 18446744073709551616 := by
  unfold Wd.R6 at r
  exact ⟨Wd.lo_pos (by omega) (by omega), by omega⟩

set_option maxHeartbeats 400000 in
theorem Mul_np (a b x y p : Int) (w : World) (sa : a < 0) (sb : decide (b < 0) = false)
    (O1 : Hid (∀ w, Calls Tryd.prog 20 #[.int .i64 a] w fun e w' => e = .returned (.agg #[.int .i64 (Wd.hi a), .int .u64 (Wd.lo a)]) ∧ Below w.heap.size w w'))
    (O2 : Hid (∀ w, Calls Tryd.prog 20 #[.int .i64 b] w fun e w' => e = .returned (.agg #[.int .i64 (Wd.hi b), .int .u64 (Wd.lo b)]) ∧ Below w.heap.size w w'))
    (A1 : Hid (∀ w, Calls Tryd.prog 14 #[.agg #[.int .i64 (Wd.hi a), .int .u64 (Wd.lo a)]] w fun e w' => e = .returned (.agg #[.int .i64 (Wd.hi x), .int .u64 x]) ∧ Below w.heap.size w w'))
    (A2 : Hid (∀ w, Calls Tryd.prog 14 #[.agg #[.int .i64 (Wd.hi b), .int .u64 (Wd.lo b)]] w fun e w' => e = .returned (.agg #[.int .i64 (Wd.hi y), .int .u64 y]) ∧ Below w.heap.size w w'))
    (P : Hid (∀ w, Calls Tryd.prog 34 #[.int .u64 x, .int .u64 y] w fun e w' => e = .returned (.agg #[.int .i64 (Wd.hi p), .int .u64 (Wd.lo p)]) ∧ Below w.heap.size w w'))
    (N : Hid (∀ w, Calls Tryd.prog 26 #[.agg #[.int .i64 (Wd.hi p), .int .u64 (Wd.lo p)]] w fun e w' => e = .returned (.agg #[.int .i64 (Wd.hi (-p)), .int .u64 (Wd.lo (-p))]) ∧ Below w.heap.size w w')) :
    Calls Tryd.prog 18 #[.int .i64 a, .int .i64 b] w fun e w' => e = .returned (.agg #[.int .i64 (Wd.hi (-p)), .int .u64 (Wd.lo (-p))]) ∧ Below w.heap.size w w' := by
  have kf : ∀ (h l : Int) (w : World), (Instr.field 24 (.agg #[.int .i64 h, .int .u64 l]) 1).run Tryd.prog w = .ok (.int .u64 l) w := fun _ _ _ => by kernel_rfl
  go_enter Tryd.func18, Tryd.ntmps18
  go_wp2_with fail
  refine (O1.out _).mono ?_; rintro e w1 ⟨rfl, hb1⟩
  have B1 := belowT (below1 w _) hb1
  obtain ⟨hc1, hf1⟩ := bcell hb1
  have hz1 : w.heap.size < w1.heap.size := by have := hb1.size; simp at this; omega
  go_wp2_with fail
  refine (A1.out _).mono ?_; rintro e w2 ⟨rfl, hb2⟩
  have B2 := belowT (B1) hb2
  obtain ⟨hc2, hf2⟩ := bcell hb2
  have hz2 : w.heap.size < w2.heap.size := by have := hb2.size; omega
  go_wp2_with fail
  refine (O2.out _).mono ?_; rintro e w3 ⟨rfl, hb3⟩
  have B3 := belowT (B2) hb3
  obtain ⟨hc3, hf3⟩ := bcell hb3
  have hz3 : w.heap.size < w3.heap.size := by have := hb3.size; omega
  go_wp2_with fail
  refine (A2.out _).mono ?_; rintro e w4 ⟨rfl, hb4⟩
  have B4 := belowT (B3) hb4
  obtain ⟨hc4, hf4⟩ := bcell hb4
  have hz4 : w.heap.size < w4.heap.size := by have := hb4.size; omega
  go_wp2_with fail
  refine (P.out _).mono ?_; rintro e w5 ⟨rfl, hb5⟩
  have B5 := belowT (B4) hb5
  obtain ⟨hc5, hf5⟩ := bcell hb5
  have hz5 : w.heap.size < w5.heap.size := by have := hb5.size; omega
  go_wp2_with fail
  refine (N.out _).mono ?_; rintro e w6 ⟨rfl, hb6⟩
  have B6 := belowT (B5.alloc (Nat.le_of_lt hz5) _) hb6
  have hy5 := Nat.lt_succ_of_lt hz5
  obtain ⟨hc6, hf6⟩ := bcell hb6
  have hz6 : w.heap.size < w6.heap.size := by have := hb6.size; simp at this; omega
  go_wp2_with fail
  exact bodyPost_ret (v := .agg #[.int .i64 (Wd.hi (-p)), .int .u64 (Wd.lo (-p))]) (by simp [results, Tryd.results18, go_sem, *]) rfl ⟨rfl, (B6.setCell (by simp) _).setCell (by simp) _⟩

set_option maxHeartbeats 400000 in
theorem Mul_pn (a b x y p : Int) (w : World) (sa : decide (a < 0) = false) (sb : b < 0)
    (O1 : Hid (∀ w, Calls Tryd.prog 20 #[.int .i64 a] w fun e w' => e = .returned (.agg #[.int .i64 (Wd.hi a), .int .u64 (Wd.lo a)]) ∧ Below w.heap.size w w'))
    (O2 : Hid (∀ w, Calls Tryd.prog 20 #[.int .i64 b] w fun e w' => e = .returned (.agg #[.int .i64 (Wd.hi b), .int .u64 (Wd.lo b)]) ∧ Below w.heap.size w w'))
    (A1 : Hid (∀ w, Calls Tryd.prog 14 #[.agg #[.int .i64 (Wd.hi a), .int .u64 (Wd.lo a)]] w fun e w' => e = .returned (.agg #[.int .i64 (Wd.hi x), .int .u64 x]) ∧ Below w.heap.size w w'))
    (A2 : Hid (∀ w, Calls Tryd.prog 14 #[.agg #[.int .i64 (Wd.hi b), .int .u64 (Wd.lo b)]] w fun e w' => e = .returned (.agg #[.int .i64 (Wd.hi y), .int .u64 y]) ∧ Below w.heap.size w w'))
    (P : Hid (∀ w, Calls Tryd.prog 34 #[.int .u64 x, .int .u64 y] w fun e w' => e = .returned (.agg #[.int .i64 (Wd.hi p), .int .u64 (Wd.lo p)]) ∧ Below w.heap.size w w'))
    (N : Hid (∀ w, Calls Tryd.prog 26 #[.agg #[.int .i64 (Wd.hi p), .int .u64 (Wd.lo p)]] w fun e w' => e = .returned (.agg #[.int .i64 (Wd.hi (-p)), .int .u64 (Wd.lo (-p))]) ∧ Below w.heap.size w w')) :
    Calls Tryd.prog 18 #[.int .i64 a, .int .i64 b] w fun e w' => e = .returned (.agg #[.int .i64 (Wd.hi (-p)), .int .u64 (Wd.lo (-p))]) ∧ Below w.heap.size w w' := by
  have kf : ∀ (h l : Int) (w : World), (Instr.field 24 (.agg #[.int .i64 h, .int .u64 l]) 1).run Tryd.prog w = .ok (.int .u64 l) w := fun _ _ _ => by kernel_rfl
  go_enter Tryd.func18, Tryd.ntmps18
  go_wp2_with fail
  refine (O1.out _).mono ?_; rintro e w1 ⟨rfl, hb1⟩
  have B1 := belowT (below1 w _) hb1
  obtain ⟨hc1, hf1⟩ := bcell hb1
  have hz1 : w.heap.size < w1.heap.size := by have := hb1.size; simp at this; omega
  go_wp2_with fail
  refine (A1.out _).mono ?_; rintro e w2 ⟨rfl, hb2⟩
  have B2 := belowT (B1) hb2
  obtain ⟨hc2, hf2⟩ := bcell hb2
  have hz2 : w.heap.size < w2.heap.size := by have := hb2.size; omega
  go_wp2_with fail
  refine (O2.out _).mono ?_; rintro e w3 ⟨rfl, hb3⟩
  have B3 := belowT (B2) hb3
  obtain ⟨hc3, hf3⟩ := bcell hb3
  have hz3 : w.heap.size < w3.heap.size := by have := hb3.size; omega
  go_wp2_with fail
  refine (A2.out _).mono ?_; rintro e w4 ⟨rfl, hb4⟩
  have B4 := belowT (B3) hb4
  obtain ⟨hc4, hf4⟩ := bcell hb4
  have hz4 : w.heap.size < w4.heap.size := by have := hb4.size; omega
  go_wp2_with fail
  refine (P.out _).mono ?_; rintro e w5 ⟨rfl, hb5⟩
  have B5 := belowT (B4) hb5
  obtain ⟨hc5, hf5⟩ := bcell hb5
  have hz5 : w.heap.size < w5.heap.size := by have := hb5.size; omega
  go_wp2_with fail
  refine (N.out _).mono ?_; rintro e w6 ⟨rfl, hb6⟩
  have B6 := belowT (B5.alloc (Nat.le_of_lt hz5) _) hb6
  have hy5 := Nat.lt_succ_of_lt hz5
  obtain ⟨hc6, hf6⟩ := bcell hb6
  have hz6 : w.heap.size < w6.heap.size := by have := hb6.size; simp at this; omega
  go_wp2_with fail
  exact bodyPost_ret (v := .agg #[.int .i64 (Wd.hi (-p)), .int .u64 (Wd.lo (-p))]) (by simp [results, Tryd.results18, go_sem, *]) rfl ⟨rfl, (B6.setCell (by simp) _).setCell (by simp) _⟩

set_option maxHeartbeats 400000 in
theorem Mul_nn (a b x y p : Int) (w : World) (sa : a < 0) (sb : b < 0)
    (O1 : Hid (∀ w, Calls Tryd.prog 20 #[.int .i64 a] w fun e w' => e = .returned (.agg #[.int .i64 (Wd.hi a), .int .u64 (Wd.lo a)]) ∧ Below w.heap.size w w'))
    (O2 : Hid (∀ w, Calls Tryd.prog 20 #[.int .i64 b] w fun e w' => e = .returned (.agg #[.int .i64 (Wd.hi b), .int .u64 (Wd.lo b)]) ∧ Below w.heap.size w w'))
    (A1 : Hid (∀ w, Calls Tryd.prog 14 #[.agg #[.int .i64 (Wd.hi a), .int .u64 (Wd.lo a)]] w fun e w' => e = .returned (.agg #[.int .i64 (Wd.hi x), .int .u64 x]) ∧ Below w.heap.size w w'))
    (A2 : Hid (∀ w, Calls Tryd.prog 14 #[.agg #[.int .i64 (Wd.hi b), .int .u64 (Wd.lo b)]] w fun e w' => e = .returned (.agg #[.int .i64 (Wd.hi y), .int .u64 y]) ∧ Below w.heap.size w w'))
    (P : Hid (∀ w, Calls Tryd.prog 34 #[.int .u64 x, .int .u64 y] w fun e w' => e = .returned (.agg #[.int .i64 (Wd.hi p), .int .u64 (Wd.lo p)]) ∧ Below w.heap.size w w')) :
    Calls Tryd.prog 18 #[.int .i64 a, .int .i64 b] w fun e w' => e = .returned (.agg #[.int .i64 (Wd.hi p), .int .u64 (Wd.lo p)]) ∧ Below w.heap.size w w' := by
  have kf : ∀ (h l : Int) (w : World), (Instr.field 24 (.agg #[.int .i64 h, .int .u64 l]) 1).run Tryd.prog w = .ok (.int .u64 l) w := fun _ _ _ => by kernel_rfl
  go_enter Tryd.func18, Tryd.ntmps18
  go_wp2_with fail
  refine (O1.out _).mono ?_; rintro e w1 ⟨rfl, hb1⟩
  have B1 := belowT (below1 w _) hb1
  obtain ⟨hc1, hf1⟩ := bcell hb1
  have hz1 : w.heap.size < w1.heap.size := by have := hb1.size; simp at this; omega
  go_wp2_with fail
  refine (A1.out _).mono ?_; rintro e w2 ⟨rfl, hb2⟩
  have B2 := belowT (B1) hb2
  obtain ⟨hc2, hf2⟩ := bcell hb2
  have hz2 : w.heap.size < w2.heap.size := by have := hb2.size; omega
  go_wp2_with fail
  refine (O2.out _).mono ?_; rintro e w3 ⟨rfl, hb3⟩
  have B3 := belowT (B2) hb3
  obtain ⟨hc3, hf3⟩ := bcell hb3
  have hz3 : w.heap.size < w3.heap.size := by have := hb3.size; omega
  go_wp2_with fail
  refine (A2.out _).mono ?_; rintro e w4 ⟨rfl, hb4⟩
  have B4 := belowT (B3) hb4
  obtain ⟨hc4, hf4⟩ := bcell hb4
  have hz4 : w.heap.size < w4.heap.size := by have := hb4.size; omega
  go_wp2_with fail
  refine (P.out _).mono ?_; rintro e w5 ⟨rfl, hb5⟩
  have B5 := belowT (B4) hb5
  obtain ⟨hc5, hf5⟩ := bcell hb5
  have hz5 : w.heap.size < w5.heap.size := by have := hb5.size; omega
  go_wp2_with fail
  exact bodyPost_ret (v := .agg #[.int .i64 (Wd.hi p), .int .u64 (Wd.lo p)]) (by simp [results, Tryd.results18, go_sem, *]) rfl ⟨rfl, ((B5.setCell (by simp) _).setCell (by simp) _).alloc (by simp; omega) _⟩

set_option maxHeartbeats 400000 in
theorem Mul_pp (a b x y p : Int) (w : World) (sa : decide (a < 0) = false) (sb : decide (b < 0) = false)
    (O1 : Hid (∀ w, Calls Tryd.prog 20 #[.int .i64 a] w fun e w' => e = .returned (.agg #[.int .i64 (Wd.hi a), .int .u64 (Wd.lo a)]) ∧ Below w.heap.size w w'))
    (O2 : Hid (∀ w, Calls Tryd.prog 20 #[.int .i64 b] w fun e w' => e = .returned (.agg #[.int .i64 (Wd.hi b), .int .u64 (Wd.lo b)]) ∧ Below w.heap.size w w'))
    (A1 : Hid (∀ w, Calls Tryd.prog 14 #[.agg #[.int .i64 (Wd.hi a), .int .u64 (Wd.lo a)]] w fun e w' => e = .returned (.agg #[.int .i64 (Wd.hi x), .int .u64 x]) ∧ Below w.heap.size w w'))
    (A2 : Hid (∀ w, Calls Tryd.prog 14 #[.agg #[.int .i64 (Wd.hi b), .int .u64 (Wd.lo b)]] w fun e w' => e = .returned (.agg #[.int .i64 (Wd.hi y), .int .u64 y]) ∧ Below w.heap.size w w'))
    (P : Hid (∀ w, Calls Tryd.prog 34 #[.int .u64 x, .int .u64 y] w fun e w' => e = .returned (.agg #[.int .i64 (Wd.hi p), .int .u64 (Wd.lo p)]) ∧ Below w.heap.size w w')) :
    Calls Tryd.prog 18 #[.int .i64 a, .int .i64 b] w fun e w' => e = .returned (.agg #[.int .i64 (Wd.hi p), .int .u64 (Wd.lo p)]) ∧ Below w.heap.size w w' := by
  have kf : ∀ (h l : Int) (w : World), (Instr.field 24 (.agg #[.int .i64 h, .int .u64 l]) 1).run Tryd.prog w = .ok (.int .u64 l) w := fun _ _ _ => by kernel_rfl
  go_enter Tryd.func18, Tryd.ntmps18
  go_wp2_with fail
  refine (O1.out _).mono ?_; rintro e w1 ⟨rfl, hb1⟩
  have B1 := belowT (below1 w _) hb1
  obtain ⟨hc1, hf1⟩ := bcell hb1
  have hz1 : w.heap.size < w1.heap.size := by have := hb1.size; simp at this; omega
  go_wp2_with fail
  refine (A1.out _).mono ?_; rintro e w2 ⟨rfl, hb2⟩
  have B2 := belowT (B1) hb2
  obtain ⟨hc2, hf2⟩ := bcell hb2
  have hz2 : w.heap.size < w2.heap.size := by have := hb2.size; omega
  go_wp2_with fail
  refine (O2.out _).mono ?_; rintro e w3 ⟨rfl, hb3⟩
  have B3 := belowT (B2) hb3
  obtain ⟨hc3, hf3⟩ := bcell hb3
  have hz3 : w.heap.size < w3.heap.size := by have := hb3.size; omega
  go_wp2_with fail
  refine (A2.out _).mono ?_; rintro e w4 ⟨rfl, hb4⟩
  have B4 := belowT (B3) hb4
  obtain ⟨hc4, hf4⟩ := bcell hb4
  have hz4 : w.heap.size < w4.heap.size := by have := hb4.size; omega
  go_wp2_with fail
  refine (P.out _).mono ?_; rintro e w5 ⟨rfl, hb5⟩
  have B5 := belowT (B4) hb5
  obtain ⟨hc5, hf5⟩ := bcell hb5
  have hz5 : w.heap.size < w5.heap.size := by have := hb5.size; omega
  go_wp2_with fail
  exact bodyPost_ret (v := .agg #[.int .i64 (Wd.hi p), .int .u64 (Wd.lo p)]) (by simp [results, Tryd.results18, go_sem, *]) rfl ⟨rfl, ((B5.setCell (by simp) _).setCell (by simp) _).alloc (by simp; omega) _⟩

theorem Mul_any (a b : Int) (w : World) (ra : Wd.R6 a) (rb : Wd.R6 b) :
    Calls Tryd.prog 18 #[.int .i64 a, .int .i64 b] w fun e w' => e = .returned (.agg #[.int .i64 (Wd.hi (a * b)), .int .u64 (Wd.lo (a * b))]) ∧ Below w.heap.size w w' := by
  obtain ⟨a1, a2⟩ := abs_u ra
  obtain ⟨b1, b2⟩ := abs_u rb
  have O1 := Lib.hid fun w => Of_any a w ra
  have O2 := Lib.hid fun w => Of_any b w rb
  have A1 := Lib.hid fun w => Abs_any a w (Wd.rm_of ra)
  have A2 := Lib.hid fun w => Abs_any b w (Wd.rm_of rb)
  rw [a1] at A1
  rw [b1] at A2
  have P := Lib.hid fun w => product_any a.natAbs b.natAbs a2 b2 w
  have N := Lib.hid fun w => Neg_any ((a.natAbs * b.natAbs : Nat) : Int) w
  have e : ((a.natAbs * b.natAbs : Nat) : Int) = ((a * b).natAbs : Int) := by rw [Int.natAbs_mul]
  by_cases sa : a < 0 <;> by_cases sb : b < 0
  · have := Int.mul_nonneg_of_nonpos_of_nonpos (show a ≤ 0 by omega) (show b ≤ 0 by omega)
    have q : ((a.natAbs * b.natAbs : Nat) : Int) = a * b := by omega
    have c := Mul_nn a b _ _ _ w sa sb O1 O2 A1 A2 P
    rw [q] at c; exact c
  · have := Int.mul_nonpos_of_nonpos_of_nonneg (show a ≤ 0 by omega) (show 0 ≤ b by omega)
    have q : -((a.natAbs * b.natAbs : Nat) : Int) = a * b := by omega
    have c := Mul_np a b _ _ _ w sa (decide_eq_false sb) O1 O2 A1 A2 P N
    rw [q] at c; exact c
  · have := Int.mul_nonpos_of_nonneg_of_nonpos (show 0 ≤ a by omega) (show b ≤ 0 by omega)
    have q : -((a.natAbs * b.natAbs : Nat) : Int) = a * b := by omega
    have c := Mul_pn a b _ _ _ w (decide_eq_false sa) sb O1 O2 A1 A2 P N
    rw [q] at c; exact c
  · have := Int.mul_nonneg (show 0 ≤ a by omega) (show 0 ≤ b by omega)
    have q : ((a.natAbs * b.natAbs : Nat) : Int) = a * b := by omega
    have c := Mul_pp a b _ _ _ w (decide_eq_false sa) (decide_eq_false sb) O1 O2 A1 A2 P
    rw [q] at c; exact c

end Go.Proofs.YtjnegoflnaeifaaDoor
