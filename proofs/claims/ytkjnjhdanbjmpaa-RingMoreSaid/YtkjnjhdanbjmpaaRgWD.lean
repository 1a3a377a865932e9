
/- Quotients of package wide: Div. -/
import Derived.Test.YtkjnjhdanbjmpaaRgWC
import Derived.Deep.RegionHeld3
import Derived.IntWalk
namespace Go.Proofs.Ytkjnjhdanbjmpaa
open Go.RowKit

theorem Div_arg (h l d : Int) (w : World) (hd : d < 1) :
    Calls Try.prog 18 #[.agg #[.int .i64 h, .int .u64 l], .int .i64 d] w fun e w' => e = .returned (.tuple #[.agg #[.int .i64 (Wd.hi 0), .int .u64 (Wd.lo 0)], .int .i64 0, .int .i64 1]) ∧ Below w.heap.size w w' := by
  rw [Wd.hi_zero, Wd.lo_zero]
  go_enter Try.func18, Try.ntmps18
  go_wp2_with fail
  exact bodyPost_ret (v := .tuple #[.agg #[.int .i64 0, .int .u64 0], .int .i64 0, .int .i64 1]) (by simp [results, Try.results18, go_sem]) rfl ⟨rfl, below2 w _ _⟩

set_option maxHeartbeats 400000 in
theorem Div_up (x m q r g d : Int) (w : World) (hd : 1 ≤ d) (hd2 : d ≤ 9223372036854775807) (hr0 : 0 ≤ r) (hr : r ≤ 9223372036854775807) (hg : 0 ≤ g)
    (A : Hid (∀ w, Calls Try.prog 28 #[.agg #[.int .i64 (Wd.hi x), .int .u64 (Wd.lo x)]] w fun e w' => e = .returned (.agg #[.int .i64 (Wd.hi m), .int .u64 (Wd.lo m)]) ∧ Below w.heap.size w w'))
    (S : Hid (∀ w, Calls Try.prog 27 #[.agg #[.int .i64 (Wd.hi m), .int .u64 (Wd.lo m)], .int .u64 d] w fun e w' => e = .returned (.tuple #[.agg #[.int .i64 (Wd.hi q), .int .u64 (Wd.lo q)], .int .u64 r]) ∧ Below w.heap.size w w'))
    (G : Hid (∀ w, Calls Try.prog 29 #[.agg #[.int .i64 (Wd.hi x), .int .u64 (Wd.lo x)]] w fun e w' => e = .returned (.int .i64 g) ∧ Below w.heap.size w w')) :
    Calls Try.prog 18 #[.agg #[.int .i64 (Wd.hi x), .int .u64 (Wd.lo x)], .int .i64 d] w fun e w' => e = .returned (.tuple #[.agg #[.int .i64 (Wd.hi q), .int .u64 (Wd.lo q)], .int .i64 r, .int .i64 0]) ∧ Below w.heap.size w w' := by
  have d3 : decide (d < 1) = false := decide_eq_false (by omega)
  go_enter Try.func18, Try.ntmps18
  go_wp2_with fail
  refine (A.out _).mono ?_; rintro e w1 ⟨rfl, hb1⟩
  have B1 := belowT (below2 w _ _) hb1
  have X1 := ((own2 w _ _ _).more _).keep hb1; have X1a := X1.c0; have X1b := X1.c1; have X1c := X1.f0; have X1d := X1.f1; have X1l := X1.lt
  have R1 := (own2b w _ _ _ _).keep hb1; have R1a := R1.c0; have R1b := R1.c1; have R1c := R1.f0; have R1d := R1.f1; have R1l := R1.lt
  go_wp2_with fail
  refine (S.out _).mono ?_; rintro e w2 ⟨rfl, hb2⟩
  have B2 := belowT (B1) hb2
  have X2 := (X1).keep hb2; have X2a := X2.c0; have X2b := X2.c1; have X2c := X2.f0; have X2d := X2.f1; have X2l := X2.lt
  have R2 := (R1).keep hb2; have R2a := R2.c0; have R2b := R2.c1; have R2c := R2.f0; have R2d := R2.f1; have R2l := R2.lt
  go_wp2_with fail
  refine (G.out _).mono ?_; rintro e w3 ⟨rfl, hb3⟩
  have B3 := belowT (belowT B2 (below1 _ _)) hb3
  have X3 := (X2.more _).keep hb3; have X3a := X3.c0; have X3b := X3.c1; have X3c := X3.f0; have X3d := X3.f1; have X3l := X3.lt
  have R3 := (R2.more _).keep hb3; have R3a := R3.c0; have R3b := R3.c1; have R3c := R3.f0; have R3d := R3.f1; have R3l := R3.lt
  have Q3 := (own2 w2 _ _ _).keep hb3; have Q3a := Q3.c0; have Q3b := Q3.c1; have Q3c := Q3.f0; have Q3d := Q3.f1; have Q3l := Q3.lt
  go_wp2_with fail
  exact bodyPost_ret (v := .tuple #[.agg #[.int .i64 (Wd.hi q), .int .u64 (Wd.lo q)], .int .i64 r, .int .i64 0]) (by simp [results, Try.results18, go_sem, *]) rfl ⟨rfl, (B3.setCell (by simp) _).setCell (by simp) _⟩

set_option maxHeartbeats 400000 in
theorem Div_whole (x m q d : Int) (w : World) (hd : 1 ≤ d) (hd2 : d ≤ 9223372036854775807)
    (A : Hid (∀ w, Calls Try.prog 28 #[.agg #[.int .i64 (Wd.hi x), .int .u64 (Wd.lo x)]] w fun e w' => e = .returned (.agg #[.int .i64 (Wd.hi m), .int .u64 (Wd.lo m)]) ∧ Below w.heap.size w w'))
    (S : Hid (∀ w, Calls Try.prog 27 #[.agg #[.int .i64 (Wd.hi m), .int .u64 (Wd.lo m)], .int .u64 d] w fun e w' => e = .returned (.tuple #[.agg #[.int .i64 (Wd.hi q), .int .u64 (Wd.lo q)], .int .u64 0]) ∧ Below w.heap.size w w'))
    (G : Hid (∀ w, Calls Try.prog 29 #[.agg #[.int .i64 (Wd.hi x), .int .u64 (Wd.lo x)]] w fun e w' => e = .returned (.int .i64 (-1)) ∧ Below w.heap.size w w'))
    (N : Hid (∀ w, Calls Try.prog 30 #[.agg #[.int .i64 (Wd.hi q), .int .u64 (Wd.lo q)]] w fun e w' => e = .returned (.agg #[.int .i64 (Wd.hi (-q)), .int .u64 (Wd.lo (-q))]) ∧ Below w.heap.size w w')) :
    Calls Try.prog 18 #[.agg #[.int .i64 (Wd.hi x), .int .u64 (Wd.lo x)], .int .i64 d] w fun e w' => e = .returned (.tuple #[.agg #[.int .i64 (Wd.hi (-q)), .int .u64 (Wd.lo (-q))], .int .i64 0, .int .i64 0]) ∧ Below w.heap.size w w' := by
  have d3 : decide (d < 1) = false := decide_eq_false (by omega)
  go_enter Try.func18, Try.ntmps18
  go_wp2_with fail
  refine (A.out _).mono ?_; rintro e w1 ⟨rfl, hb1⟩
  have B1 := belowT (below2 w _ _) hb1
  have X1 := ((own2 w _ _ _).more _).keep hb1; have X1a := X1.c0; have X1b := X1.c1; have X1c := X1.f0; have X1d := X1.f1; have X1l := X1.lt
  have R1 := (own2b w _ _ _ _).keep hb1; have R1a := R1.c0; have R1b := R1.c1; have R1c := R1.f0; have R1d := R1.f1; have R1l := R1.lt
  go_wp2_with fail
  refine (S.out _).mono ?_; rintro e w2 ⟨rfl, hb2⟩
  have B2 := belowT (B1) hb2
  have X2 := (X1).keep hb2; have X2a := X2.c0; have X2b := X2.c1; have X2c := X2.f0; have X2d := X2.f1; have X2l := X2.lt
  have R2 := (R1).keep hb2; have R2a := R2.c0; have R2b := R2.c1; have R2c := R2.f0; have R2d := R2.f1; have R2l := R2.lt
  go_wp2_with fail
  refine (G.out _).mono ?_; rintro e w3 ⟨rfl, hb3⟩
  have B3 := belowT (belowT B2 (below1 _ _)) hb3
  have X3 := (X2.more _).keep hb3; have X3a := X3.c0; have X3b := X3.c1; have X3c := X3.f0; have X3d := X3.f1; have X3l := X3.lt
  have R3 := (R2.more _).keep hb3; have R3a := R3.c0; have R3b := R3.c1; have R3c := R3.f0; have R3d := R3.f1; have R3l := R3.lt
  have Q3 := (own2 w2 _ _ _).keep hb3; have Q3a := Q3.c0; have Q3b := Q3.c1; have Q3c := Q3.f0; have Q3d := Q3.f1; have Q3l := Q3.lt
  go_wp2_with fail
  refine (N.out _).mono ?_; rintro e w4 ⟨rfl, hb4⟩
  have B4 := belowT (B3) hb4
  have R4 := (R3).keep hb4; have R4a := R4.c0; have R4b := R4.c1; have R4c := R4.f0; have R4d := R4.f1; have R4l := R4.lt
  go_wp2_with fail
  exact bodyPost_ret (v := .tuple #[.agg #[.int .i64 (Wd.hi (-q)), .int .u64 (Wd.lo (-q))], .int .i64 0, .int .i64 0]) (by simp [results, Try.results18, go_sem, *]) rfl ⟨rfl, (B4.setCell (by simp) _).setCell (by simp) _⟩

set_option maxHeartbeats 400000 in
theorem Div_down (x m q r d p s : Int) (w : World) (hd : 1 ≤ d) (hd2 : d ≤ 9223372036854775807) (hr0 : 1 ≤ r) (hr : r ≤ 9223372036854775807) (hrb : (r == 0) = false) (hs : IntKind.i64.wrap (d - r) = s)
    (A : Hid (∀ w, Calls Try.prog 28 #[.agg #[.int .i64 (Wd.hi x), .int .u64 (Wd.lo x)]] w fun e w' => e = .returned (.agg #[.int .i64 (Wd.hi m), .int .u64 (Wd.lo m)]) ∧ Below w.heap.size w w'))
    (S : Hid (∀ w, Calls Try.prog 27 #[.agg #[.int .i64 (Wd.hi m), .int .u64 (Wd.lo m)], .int .u64 d] w fun e w' => e = .returned (.tuple #[.agg #[.int .i64 (Wd.hi q), .int .u64 (Wd.lo q)], .int .u64 r]) ∧ Below w.heap.size w w'))
    (G : Hid (∀ w, Calls Try.prog 29 #[.agg #[.int .i64 (Wd.hi x), .int .u64 (Wd.lo x)]] w fun e w' => e = .returned (.int .i64 (-1)) ∧ Below w.heap.size w w'))
    (O : Hid (∀ w, Calls Try.prog 17 #[.int .i64 1] w fun e w' => e = .returned (.agg #[.int .i64 (Wd.hi 1), .int .u64 (Wd.lo 1)]) ∧ Below w.heap.size w w'))
    (P : Hid (∀ w, Calls Try.prog 16 #[.agg #[.int .i64 (Wd.hi q), .int .u64 (Wd.lo q)], .agg #[.int .i64 (Wd.hi 1), .int .u64 (Wd.lo 1)]] w fun e w' => e = .returned (.agg #[.int .i64 (Wd.hi p), .int .u64 (Wd.lo p)]) ∧ Below w.heap.size w w'))
    (N : Hid (∀ w, Calls Try.prog 30 #[.agg #[.int .i64 (Wd.hi p), .int .u64 (Wd.lo p)]] w fun e w' => e = .returned (.agg #[.int .i64 (Wd.hi (-p)), .int .u64 (Wd.lo (-p))]) ∧ Below w.heap.size w w')) :
    Calls Try.prog 18 #[.agg #[.int .i64 (Wd.hi x), .int .u64 (Wd.lo x)], .int .i64 d] w fun e w' => e = .returned (.tuple #[.agg #[.int .i64 (Wd.hi (-p)), .int .u64 (Wd.lo (-p))], .int .i64 s, .int .i64 0]) ∧ Below w.heap.size w w' := by
  have d3 : decide (d < 1) = false := decide_eq_false (by omega)
  go_enter Try.func18, Try.ntmps18
  go_wp2_with fail
  refine (A.out _).mono ?_; rintro e w1 ⟨rfl, hb1⟩
  have B1 := belowT (below2 w _ _) hb1
  have X1 := ((own2 w _ _ _).more _).keep hb1; have X1a := X1.c0; have X1b := X1.c1; have X1c := X1.f0; have X1d := X1.f1; have X1l := X1.lt
  have R1 := (own2b w _ _ _ _).keep hb1; have R1a := R1.c0; have R1b := R1.c1; have R1c := R1.f0; have R1d := R1.f1; have R1l := R1.lt
  go_wp2_with fail
  refine (S.out _).mono ?_; rintro e w2 ⟨rfl, hb2⟩
  have B2 := belowT (B1) hb2
  have X2 := (X1).keep hb2; have X2a := X2.c0; have X2b := X2.c1; have X2c := X2.f0; have X2d := X2.f1; have X2l := X2.lt
  have R2 := (R1).keep hb2; have R2a := R2.c0; have R2b := R2.c1; have R2c := R2.f0; have R2d := R2.f1; have R2l := R2.lt
  go_wp2_with fail
  refine (G.out _).mono ?_; rintro e w3 ⟨rfl, hb3⟩
  have B3 := belowT (belowT B2 (below1 _ _)) hb3
  have X3 := (X2.more _).keep hb3; have X3a := X3.c0; have X3b := X3.c1; have X3c := X3.f0; have X3d := X3.f1; have X3l := X3.lt
  have R3 := (R2.more _).keep hb3; have R3a := R3.c0; have R3b := R3.c1; have R3c := R3.f0; have R3d := R3.f1; have R3l := R3.lt
  have Q3 := (own2 w2 _ _ _).keep hb3; have Q3a := Q3.c0; have Q3b := Q3.c1; have Q3c := Q3.f0; have Q3d := Q3.f1; have Q3l := Q3.lt
  go_wp2_with fail
  go_region_held3 (fun w' => w'.cell? ⟨w2.heap.size, 0, none⟩ = some (.int .i64 (Wd.hi q)) ∧ w'.cell? ⟨w2.heap.size, 1, none⟩ = some (.int .u64 (Wd.lo q)))
    (first
      | (go_split_ands; refine ⟨?_, ?_⟩ <;> first | exact keepc hb6 (by assumption) | exact keepc hb5 (by assumption) | exact keepc hb4 (by assumption))
      | (go_split_ands; refine ⟨?_, ?_⟩ <;> exact keeps (Nat.ne_of_lt R2l) (keeps (Nat.ne_of_lt R2l) (by assumption)))
      | go_keep)
    (first
      | (go_at_call 17; refine (O.out _).mono ?_; rintro e w4 ⟨rfl, hb4⟩; have B4 := belowT B3.drew hb4; have R4 := R3.drew.keep hb4)
      | (go_at_call 16; refine (P.out _).mono ?_; rintro e w5 ⟨rfl, hb5⟩; have B5 := belowT B4 hb5; have R5 := R4.keep hb5)
      | (go_at_call 30; refine (N.out _).mono ?_; rintro e w6 ⟨rfl, hb6⟩; have B6 := belowT B5 hb6; obtain ⟨g0, g1, g2, g3⟩ := R5.keep hb6))
  all_goals
    go_wp2_with fail
    exact bodyPost_ret (v := .tuple #[.agg #[.int .i64 (Wd.hi (-p)), .int .u64 (Wd.lo (-p))], .int .i64 s, .int .i64 0]) (by simp [results, Try.results18, go_sem, *]) rfl ⟨rfl, (B6.setCell (by simp) _).setCell (by simp) _⟩

theorem abs_down (x d : Int) (h : x < 0) (hd : 0 < d) (hr : (x.natAbs : Int) % d ≠ 0) : -((x.natAbs : Int) / d + 1) = x / d ∧ d - (x.natAbs : Int) % d = x % d := by
  have e : (x.natAbs : Int) = -x := by omega
  rw [e] at hr ⊢
  have a := Int.mul_ediv_add_emod (-x) d
  have l := Int.emod_nonneg (-x) (show d ≠ 0 by omega)
  have u := Int.emod_lt_of_pos (-x) hd
  generalize (-x) / d = q at *
  generalize (-x) % d = r at *
  have hx : x = (d - r) + d * (-(q + 1)) := by rw [Int.mul_neg, Int.mul_add]; omega
  have lo : 0 ≤ d - r := by omega
  have hi : d - r < d := by omega
  constructor
  · rw [hx, Int.add_mul_ediv_left _ _ (by omega), Int.ediv_eq_zero_of_lt lo hi]; omega
  · rw [hx, Int.add_mul_emod_self_left, Int.emod_eq_of_lt lo hi]

theorem abs_whole (x d : Int) (h : x < 0) (hd : 0 < d) (hr : (x.natAbs : Int) % d = 0) : -((x.natAbs : Int) / d) = x / d ∧ x % d = 0 := by
  have e : (x.natAbs : Int) = -x := by omega
  rw [e] at hr ⊢
  have a := Int.mul_ediv_add_emod (-x) d
  rw [hr] at a
  generalize (-x) / d = q at *
  have hx : x = d * (-q) := by rw [Int.mul_neg]; omega
  constructor
  · rw [hx, Int.mul_ediv_cancel_left _ (by omega)]
  · rw [hx, Int.mul_emod_right]

/-- Div: the quotient rounded down, and what is left. -/
theorem Div_any (x d : Int) (w : World) (rx : Wd.Rm x) (hd : 1 ≤ d) (hd2 : d ≤ 9223372036854775807) :
    Calls Try.prog 18 #[.agg #[.int .i64 (Wd.hi x), .int .u64 (Wd.lo x)], .int .i64 d] w fun e w' => e = .returned (.tuple #[.agg #[.int .i64 (Wd.hi (x / d)), .int .u64 (Wd.lo (x / d))], .int .i64 (x % d), .int .i64 0]) ∧ Below w.heap.size w w' := by
  have A := Lib.hid fun w => Abs_any x w rx
  have bx : (0 : Int) ≤ (x.natAbs : Int) ∧ (x.natAbs : Int) ≤ 340282366920938463463374607431768211455 := by unfold Wd.Rm at rx; omega
  have S := Lib.hid fun w => split_any (x.natAbs : Int) d w bx.1 bx.2 hd (by omega)
  have G := Lib.hid fun w => Sign_any x w rx
  have l := Int.emod_nonneg (x.natAbs : Int) (show d ≠ 0 by omega)
  have u := Int.emod_lt_of_pos (x.natAbs : Int) (show 0 < d by omega)
  by_cases h : x < 0
  · rw [Wd.sg_neg h] at G
    by_cases hr : (x.natAbs : Int) % d = 0
    · obtain ⟨e1, e2⟩ := abs_whole x d h (by omega) hr
      rw [hr] at S
      rw [← e1, e2]
      exact Div_whole x _ _ d w hd hd2 A S G (Lib.hid fun w => Neg_any _ w)
    · obtain ⟨e1, e2⟩ := abs_down x d h (by omega) hr
      rw [← e1]
      exact Div_down x _ _ _ d _ _ w hd hd2 (by omega) (by omega) (by rw [beq_eq_false_iff_ne]; exact hr) ((IntWalk.i64_in _ ⟨by omega, by omega⟩).trans e2) A S G
        (Lib.hid fun w => Of_any 1 w ⟨by omega, by omega⟩) (Lib.hid fun w => Add_any _ 1 w) (Lib.hid fun w => Neg_any _ w)
  · have e : (x.natAbs : Int) = x := by omega
    have g : 0 ≤ Wd.sg x := by
      by_cases h0 : x = 0
      · rw [Wd.sg_zero h0]; omega
      · rw [Wd.sg_pos (by omega)]; omega
    have c := Div_up x _ _ _ _ d w hd hd2 l (by omega) g A S G
    rw [e] at c
    exact c

end Go.Proofs.Ytkjnjhdanbjmpaa
