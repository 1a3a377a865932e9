/- Layer 2's own examples. -/
import Derived.Test.YtjnegoflnaeifaaDoorWideD
import Derived.Test.YtjnegoflnaeifaaDoorWideE
import Derived.Deep.RegionWith
namespace Go.Proofs.YtjnegoflnaeifaaDoor
open Go.RowKit

theorem lit_Mul1 : Hid (∀ w, Calls Tryd.prog 18 #[.int .i64 (-1), .int .i64 5] w fun e w' => e = .returned (.agg #[.int .i64 (-1), .int .u64 18446744073709551611]) ∧ Below w.heap.size w w') := by
  refine Lib.hid fun w => ?_
  have c := Mul_any (-1) 5 w ⟨by decide, by decide⟩ ⟨by decide, by decide⟩
  rw [show Wd.hi (-1 * 5) = -1 by decide, show Wd.lo (-1 * 5) = 18446744073709551611 by decide] at c
  exact c
theorem lit_Mul2 : Hid (∀ w, Calls Tryd.prog 18 #[.int .i64 4611686018427387904, .int .i64 4] w fun e w' => e = .returned (.agg #[.int .i64 1, .int .u64 0]) ∧ Below w.heap.size w w') := by
  refine Lib.hid fun w => ?_
  have c := Mul_any 4611686018427387904 4 w ⟨by decide, by decide⟩ ⟨by decide, by decide⟩
  rw [show Wd.hi (4611686018427387904 * 4) = 1 by decide, show Wd.lo (4611686018427387904 * 4) = 0 by decide] at c
  exact c
theorem lit_Mul3 : Hid (∀ w, Calls Tryd.prog 18 #[.int .i64 4611686018427387904, .int .i64 4611686018427387904] w fun e w' => e = .returned (.agg #[.int .i64 1152921504606846976, .int .u64 0]) ∧ Below w.heap.size w w') := by
  refine Lib.hid fun w => ?_
  have c := Mul_any 4611686018427387904 4611686018427387904 w ⟨by decide, by decide⟩ ⟨by decide, by decide⟩
  rw [show Wd.hi (4611686018427387904 * 4611686018427387904) = 1152921504606846976 by decide, show Wd.lo (4611686018427387904 * 4611686018427387904) = 0 by decide] at c
  exact c
theorem lit_Of7 : Hid (∀ w, Calls Tryd.prog 20 #[.int .i64 (-7)] w fun e w' => e = .returned (.agg #[.int .i64 (-1), .int .u64 18446744073709551609]) ∧ Below w.heap.size w w') := by
  refine Lib.hid fun w => ?_
  have c := Of_any (-7) w ⟨by decide, by decide⟩
  rw [show Wd.hi (-7) = -1 by decide, show Wd.lo (-7) = 18446744073709551609 by decide] at c
  exact c
theorem lit_Of4 : Hid (∀ w, Calls Tryd.prog 20 #[.int .i64 (-4)] w fun e w' => e = .returned (.agg #[.int .i64 (-1), .int .u64 18446744073709551612]) ∧ Below w.heap.size w w') := by
  refine Lib.hid fun w => ?_
  have c := Of_any (-4) w ⟨by decide, by decide⟩
  rw [show Wd.hi (-4) = -1 by decide, show Wd.lo (-4) = 18446744073709551612 by decide] at c
  exact c
theorem lit_Of1 : Hid (∀ w, Calls Tryd.prog 20 #[.int .i64 1] w fun e w' => e = .returned (.agg #[.int .i64 0, .int .u64 1]) ∧ Below w.heap.size w w') := by
  refine Lib.hid fun w => ?_
  have c := Of_any 1 w ⟨by decide, by decide⟩
  rw [show Wd.hi 1 = 0 by decide, show Wd.lo 1 = 1 by decide] at c
  exact c
theorem lit_Of0 : Hid (∀ w, Calls Tryd.prog 20 #[.int .i64 0] w fun e w' => e = .returned (.agg #[.int .i64 0, .int .u64 0]) ∧ Below w.heap.size w w') := by
  refine Lib.hid fun w => ?_
  have c := Of_any 0 w ⟨by decide, by decide⟩
  rw [Wd.hi_zero, Wd.lo_zero] at c
  exact c
theorem lit_Div : Hid (∀ w, Calls Tryd.prog 19 #[.agg #[.int .i64 (-1), .int .u64 18446744073709551609], .int .i64 2] w fun e w' => e = .returned (.tuple #[.agg #[.int .i64 (-1), .int .u64 18446744073709551612], .int .i64 1, .int .i64 0]) ∧ Below w.heap.size w w') := by
  refine Lib.hid fun w => ?_
  have c := Div_any (-7) 2 w ⟨by decide, by decide⟩ (by decide) (by decide)
  rw [show Wd.hi (-7) = -1 by decide, show Wd.lo (-7) = 18446744073709551609 by decide, show Wd.hi (-7 / 2) = -1 by decide, show Wd.lo (-7 / 2) = 18446744073709551612 by decide, show ((-7 : Int) % 2) = 1 by decide] at c
  exact c
theorem lit_Nar1 : Hid (∀ w, Calls Tryd.prog 21 #[.agg #[.int .i64 (-1), .int .u64 18446744073709551611]] w fun e w' => e = .returned (.tuple #[.int .i64 (-5), .int .i64 0]) ∧ Below w.heap.size w w') := by
  refine Lib.hid fun w => ?_
  have c := Narrow_in (-5) w ⟨by decide, by decide⟩
  rw [show Wd.hi (-5) = -1 by decide, show Wd.lo (-5) = 18446744073709551611 by decide] at c
  exact c
theorem lit_Nar2 : Hid (∀ w, Calls Tryd.prog 21 #[.agg #[.int .i64 1, .int .u64 0]] w fun e w' => e = .returned (.tuple #[.int .i64 0, .int .i64 8]) ∧ Below w.heap.size w w') := by
  refine Lib.hid fun w => ?_
  have c := Narrow_out 18446744073709551616 w ⟨by decide, by decide⟩ (fun h => absurd h.2 (by decide))
  rw [show Wd.hi 18446744073709551616 = 1 by decide, show Wd.lo 18446744073709551616 = 0 by decide] at c
  exact c
theorem lit_Shift : Hid (∀ w, Calls Tryd.prog 22 #[.agg #[.int .i64 1152921504606846976, .int .u64 0], .int .i64 124] w fun e w' => e = .returned (.tuple #[.agg #[.int .i64 0, .int .u64 1], .int .i64 0]) ∧ Below w.heap.size w w') := by
  refine Lib.hid fun w => ?_
  have c := Shift_any 21267647932558653966460912964485513216 124 w ⟨by decide, by decide⟩ (by decide) (by decide)
  rw [show Wd.hi 21267647932558653966460912964485513216 = 1152921504606846976 by decide, show Wd.lo 21267647932558653966460912964485513216 = 0 by decide,
    show (21267647932558653966460912964485513216 : Int) / 2 ^ (124 : Int).toNat = 1 by decide, show Wd.hi 1 = 0 by decide, show Wd.lo 1 = 1 by decide] at c
  exact c
theorem lit_Sign : Hid (∀ w, Calls Tryd.prog 23 #[.agg #[.int .i64 (-1), .int .u64 18446744073709551611]] w fun e w' => e = .returned (.int .i64 (-1)) ∧ Below w.heap.size w w') := by
  refine Lib.hid fun w => ?_
  have c := Sign_any (-5) w ⟨by decide, by decide⟩
  rw [show Wd.hi (-5) = -1 by decide, show Wd.lo (-5) = 18446744073709551611 by decide, show Wd.sg (-5) = -1 by decide] at c
  exact c
theorem lit_Cmp : Hid (∀ w, Calls Tryd.prog 24 #[.agg #[.int .i64 (-1), .int .u64 18446744073709551611], .agg #[.int .i64 0, .int .u64 0]] w fun e w' => e = .returned (.int .i64 (-1)) ∧ Below w.heap.size w w') := by
  refine Lib.hid fun w => ?_
  have c := Cmp_any (-5) 0 w ⟨by decide, by decide⟩ Wd.rm_zero
  rw [show Wd.hi (-5) = -1 by decide, show Wd.lo (-5) = 18446744073709551611 by decide, Wd.hi_zero, Wd.lo_zero, show Wd.sg (-5 - 0) = -1 by decide] at c
  exact c
theorem lit_Neg : Hid (∀ w, Calls Tryd.prog 26 #[.agg #[.int .i64 (-1), .int .u64 18446744073709551611]] w fun e w' => e = .returned (.agg #[.int .i64 0, .int .u64 5]) ∧ Below w.heap.size w w') := by
  refine Lib.hid fun w => ?_
  have c := Neg_any (-5) w
  rw [show Wd.hi (-5) = -1 by decide, show Wd.lo (-5) = 18446744073709551611 by decide, show Wd.hi (-(-5)) = 0 by decide, show Wd.lo (-(-5)) = 5 by decide] at c
  exact c
theorem lit_Add : Hid (∀ w, Calls Tryd.prog 25 #[.agg #[.int .i64 (-1), .int .u64 18446744073709551611], .agg #[.int .i64 0, .int .u64 5]] w fun e w' => e = .returned (.agg #[.int .i64 0, .int .u64 0]) ∧ Below w.heap.size w w') := by
  refine Lib.hid fun w => ?_
  have c := Add_any (-5) 5 w
  rw [show Wd.hi (-5) = -1 by decide, show Wd.lo (-5) = 18446744073709551611 by decide, show Wd.hi 5 = 0 by decide, show Wd.lo 5 = 5 by decide, show Wd.hi (-5 + 5) = 0 by decide, show Wd.lo (-5 + 5) = 0 by decide] at c
  exact c

set_option maxHeartbeats 2000000 in
set_option maxRecDepth 100000 in
theorem awake_any (w : World) :
    Calls Tryd.prog 5 #[] w fun e w' => e = .returned (.bool true) ∧ Below w.heap.size w w' := by
  go_enter Tryd.func5, Tryd.ntmps5
  go_wp2_with fail
  refine (lit_Mul1.out _).mono ?_; rintro e w1 ⟨rfl, hb1⟩
  have B1 := belowT (Below.refl _ _) hb1
  go_wp2_with fail
  refine (lit_Of7.out _).mono ?_; rintro e w2 ⟨rfl, hb2⟩
  have B2 := belowT (belowT B1 (below1 _ _)) hb2
  have X2 := (own2 w1 _ _ _).keep hb2; have X2a := X2.c0; have X2b := X2.c1; have X2c := X2.f0; have X2d := X2.f1; have X2l := X2.lt
  go_wp2_with fail
  refine (lit_Div.out _).mono ?_; rintro e w3 ⟨rfl, hb3⟩
  have B3 := belowT (B2) hb3
  have X3 := (X2).keep hb3; have X3a := X3.c0; have X3b := X3.c1; have X3c := X3.f0; have X3d := X3.f1; have X3l := X3.lt
  go_wp2_with fail
  refine (lit_Nar1.out _).mono ?_; rintro e w4 ⟨rfl, hb4⟩
  have B4 := belowT (belowT B3 (below1 _ _)) hb4
  have X4 := (X3.more _).keep hb4; have X4a := X4.c0; have X4b := X4.c1; have X4c := X4.f0; have X4d := X4.f1; have X4l := X4.lt
  have Y4 := (own2 w3 _ _ _).keep hb4; have Y4a := Y4.c0; have Y4b := Y4.c1; have Y4c := Y4.f0; have Y4d := Y4.f1; have Y4l := Y4.lt
  go_wp2_with fail
  refine (lit_Mul2.out _).mono ?_; rintro e w5 ⟨rfl, hb5⟩
  have B5 := belowT (B4) hb5
  have X5 := (X4).keep hb5; have X5a := X5.c0; have X5b := X5.c1; have X5c := X5.f0; have X5d := X5.f1; have X5l := X5.lt
  have Y5 := (Y4).keep hb5; have Y5a := Y5.c0; have Y5b := Y5.c1; have Y5c := Y5.f0; have Y5d := Y5.f1; have Y5l := Y5.lt
  go_wp2_with fail
  refine (lit_Nar2.out _).mono ?_; rintro e w6 ⟨rfl, hb6⟩
  have B6 := belowT (B5) hb6
  have X6 := (X5).keep hb6; have X6a := X6.c0; have X6b := X6.c1; have X6c := X6.f0; have X6d := X6.f1; have X6l := X6.lt
  have Y6 := (Y5).keep hb6; have Y6a := Y6.c0; have Y6b := Y6.c1; have Y6c := Y6.f0; have Y6d := Y6.f1; have Y6l := Y6.lt
  go_wp2_with fail
  refine (lit_Mul3.out _).mono ?_; rintro e w7 ⟨rfl, hb7⟩
  have B7 := belowT (B6) hb7
  have X7 := (X6).keep hb7; have X7a := X7.c0; have X7b := X7.c1; have X7c := X7.f0; have X7d := X7.f1; have X7l := X7.lt
  have Y7 := (Y6).keep hb7; have Y7a := Y7.c0; have Y7b := Y7.c1; have Y7c := Y7.f0; have Y7d := Y7.f1; have Y7l := Y7.lt
  go_wp2_with fail
  refine (lit_Shift.out _).mono ?_; rintro e w8 ⟨rfl, hb8⟩
  have B8 := belowT (B7) hb8
  have X8 := (X7).keep hb8; have X8a := X8.c0; have X8b := X8.c1; have X8c := X8.f0; have X8d := X8.f1; have X8l := X8.lt
  have Y8 := (Y7).keep hb8; have Y8a := Y8.c0; have Y8b := Y8.c1; have Y8c := Y8.f0; have Y8d := Y8.f1; have Y8l := Y8.lt
  go_wp2_with fail
  have B9 := belowT B8 (below1 w8 (.cells #[.int .i64 0, .int .u64 1] 24))
  go_region_held3 (fun w' => w'.cell? ⟨w1.heap.size, 0, none⟩ = some (.int .i64 (-1)) ∧ w'.cell? ⟨w1.heap.size, 1, none⟩ = some (.int .u64 18446744073709551611)
      ∧ w'.cell? ⟨w3.heap.size, 0, none⟩ = some (.int .i64 (-1)) ∧ w'.cell? ⟨w3.heap.size, 1, none⟩ = some (.int .u64 18446744073709551612)
      ∧ w'.cell? ⟨w8.heap.size, 0, none⟩ = some (.int .i64 0) ∧ w'.cell? ⟨w8.heap.size, 1, none⟩ = some (.int .u64 1))
    (first
      | (go_split_ands; refine ⟨?_, ?_, ?_, ?_, ?_, ?_⟩ <;> first | exact keepc hb17 (by assumption) | exact keepc hb16 (by assumption) | exact keepc hb15 (by assumption) | exact keepc hb14 (by assumption) | exact keepc hb13 (by assumption) | exact keepc hb12 (by assumption) | exact keepc hb11 (by assumption))
      | go_keep)
    (first
      | (go_at_call 20; (with_reducible refine (lit_Of4.out _).mono ?_); rintro e w11 ⟨rfl, hb11⟩; have B11 := belowT B9.drew hb11)
      | (go_at_call 20; (with_reducible refine (lit_Of1.out _).mono ?_); rintro e w12 ⟨rfl, hb12⟩; have B12 := belowT B11 hb12)
      | (go_at_call 23; refine (lit_Sign.out _).mono ?_; rintro e w13 ⟨rfl, hb13⟩; have B13 := belowT B12 hb13)
      | (go_at_call 20; (with_reducible refine (lit_Of0.out _).mono ?_); rintro e w14 ⟨rfl, hb14⟩; have B14 := belowT B13 hb14)
      | (go_at_call 24; refine (lit_Cmp.out _).mono ?_; rintro e w15 ⟨rfl, hb15⟩; have B15 := belowT B14 hb15)
      | (go_at_call 26; refine (lit_Neg.out _).mono ?_; rintro e w16 ⟨rfl, hb16⟩; have B16 := belowT B15 hb16)
      | (go_at_call 25; refine (lit_Add.out _).mono ?_; rintro e w17 ⟨rfl, hb17⟩; have B17 := belowT B16 hb17))
  all_goals
    go_wp2_with fail
    go_ret
    exact ⟨rfl, B17⟩

end Go.Proofs.YtjnegoflnaeifaaDoor
