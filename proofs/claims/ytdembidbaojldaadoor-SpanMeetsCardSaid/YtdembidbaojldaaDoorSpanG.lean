/- The law's own examples. -/
import Derived.Test.YtdembidbaojldaaDoorSpanC
import Derived.Test.YtdembidbaojldaaDoorSpanD
namespace Go.Proofs.YtdembidbaojldaaDoor
open Go.RowKit

set_option maxHeartbeats 4000000 in
set_option maxRecDepth 100000 in
theorem awake_core (w : World)
    (M1 : Hid (∀ w', Below w.heap.size w w' → Calls Tryd.prog 7 #[.agg #[.int .i64 1, .int .i64 5], .agg #[.int .i64 4, .int .i64 9]] w' fun e w'' => e = .returned (.agg #[.int .i64 4, .int .i64 5]) ∧ Below w'.heap.size w' w''))
    (H1 : Hid (∀ w', Below w.heap.size w w' → Calls Tryd.prog 8 #[.agg #[.int .i64 1, .int .i64 2], .agg #[.int .i64 7, .int .i64 9]] w' fun e w'' => e = .returned (.agg #[.int .i64 1, .int .i64 9]) ∧ Below w'.heap.size w' w''))
    (K1 : Hid (∀ w, Calls Tryd.prog 24 #[.agg #[.int .i64 4, .int .i64 5]] w fun e w' => e = .returned (.int .i64 4) ∧ Below w.heap.size w w'))
    (K2 : Hid (∀ w, Calls Tryd.prog 25 #[.agg #[.int .i64 4, .int .i64 5]] w fun e w' => e = .returned (.int .i64 1) ∧ Below w.heap.size w w'))
    (K3 : Hid (∀ w, Calls Tryd.prog 9 #[.agg #[.int .i64 1, .int .i64 9], .int .i64 5] w fun e w' => e = .returned (.bool true) ∧ Below w.heap.size w w'))
    (K4 : Hid (∀ w, Calls Tryd.prog 9 #[.agg #[.int .i64 4, .int .i64 5], .int .i64 6] w fun e w' => e = .returned (.bool false) ∧ Below w.heap.size w w'))
    (M2 : Hid (∀ w', Below w.heap.size w w' → Calls Tryd.prog 7 #[.agg #[.int .i64 4, .int .i64 5], .agg #[.int .i64 7, .int .i64 8]] w' fun e w'' => e = .returned (.agg #[.int .i64 1, .int .i64 0]) ∧ Below w'.heap.size w' w''))
    (K5 : Hid (∀ w, Calls Tryd.prog 10 #[.agg #[.int .i64 1, .int .i64 0]] w fun e w' => e = .returned (.bool true) ∧ Below w.heap.size w w'))
    (M3 : Hid (∀ w', Below w.heap.size w w' → Calls Tryd.prog 17 #[.agg #[.int .i64 4, .int .i64 5], .int .i64 (-2)] w' fun e w'' => e = .returned (.agg #[.int .i64 (-10), .int .i64 (-8)]) ∧ Below w'.heap.size w' w''))
    (M4 : Hid (∀ w', Below w.heap.size w w' → Calls Tryd.prog 26 #[.agg #[.int .i64 4, .int .i64 5], .int .i64 3] w' fun e w'' => e = .returned (.agg #[.int .i64 1, .int .i64 8]) ∧ Below w'.heap.size w' w''))
    (M5 : Hid (∀ w', Below w.heap.size w w' → Calls Tryd.prog 15 #[.agg #[.int .i64 4, .int .i64 5], .agg #[.int .i64 4, .int .i64 5]] w' fun e w'' => e = .returned (.agg #[.int .i64 (-1), .int .i64 1]) ∧ Below w'.heap.size w' w''))
    (K6 : Hid (∀ w, Calls Tryd.prog 27 #[.agg #[.int .i64 4, .int .i64 5], .int .i64 99] w fun e w' => e = .returned (.int .i64 5) ∧ Below w.heap.size w w')) :
    Calls Tryd.prog 11 #[] w fun e w' => e = .returned (.bool true) ∧ Below w.heap.size w w' := by
  go_enter Tryd.func11, Tryd.ntmps11
  go_wp2_with fail
  refine (M1.out _ (Below.refl _ _)).mono ?_; rintro e w1 ⟨rfl, hb1⟩
  have B1 := belowT (Below.refl _ _) hb1
  go_wp2_with fail
  refine (H1.out _ (belowT B1 (below1 _ _))).mono ?_; rintro e w2 ⟨rfl, hb2⟩
  have B2 := belowT (belowT B1 (below1 _ _)) hb2
  have X2 := (own2 w1 _ _ _).keep hb2; have X2a := X2.c0; have X2b := X2.c1; have X2c := X2.f0; have X2d := X2.f1; have X2l := X2.lt
  go_wp2_with fail
  refine (K1.out _).mono ?_; rintro e w3 ⟨rfl, hb3⟩
  have B3 := belowT (belowT B2 (below1 _ _)) hb3
  have X3 := (X2.more _).keep hb3; have X3a := X3.c0; have X3b := X3.c1; have X3c := X3.f0; have X3d := X3.f1; have X3l := X3.lt
  have Y3 := (own2 w2 _ _ _).keep hb3; have Y3a := Y3.c0; have Y3b := Y3.c1; have Y3c := Y3.f0; have Y3d := Y3.f1; have Y3l := Y3.lt
  go_wp2_with fail
  refine (K2.out _).mono ?_; rintro e w4 ⟨rfl, hb4⟩
  have B4 := belowT (B3) hb4
  have X4 := (X3).keep hb4; have X4a := X4.c0; have X4b := X4.c1; have X4c := X4.f0; have X4d := X4.f1; have X4l := X4.lt
  have Y4 := (Y3).keep hb4; have Y4a := Y4.c0; have Y4b := Y4.c1; have Y4c := Y4.f0; have Y4d := Y4.f1; have Y4l := Y4.lt
  go_wp2_with fail
  refine (K3.out _).mono ?_; rintro e w5 ⟨rfl, hb5⟩
  have B5 := belowT (B4) hb5
  have X5 := (X4).keep hb5; have X5a := X5.c0; have X5b := X5.c1; have X5c := X5.f0; have X5d := X5.f1; have X5l := X5.lt
  have Y5 := (Y4).keep hb5; have Y5a := Y5.c0; have Y5b := Y5.c1; have Y5c := Y5.f0; have Y5d := Y5.f1; have Y5l := Y5.lt
  go_wp2_with fail
  refine (K4.out _).mono ?_; rintro e w6 ⟨rfl, hb6⟩
  have B6 := belowT (B5) hb6
  have X6 := (X5).keep hb6; have X6a := X6.c0; have X6b := X6.c1; have X6c := X6.f0; have X6d := X6.f1; have X6l := X6.lt
  have Y6 := (Y5).keep hb6; have Y6a := Y6.c0; have Y6b := Y6.c1; have Y6c := Y6.f0; have Y6d := Y6.f1; have Y6l := Y6.lt
  go_wp2_with fail
  refine (M2.out _ (B6)).mono ?_; rintro e w7 ⟨rfl, hb7⟩
  have B7 := belowT (B6) hb7
  have X7 := (X6).keep hb7; have X7a := X7.c0; have X7b := X7.c1; have X7c := X7.f0; have X7d := X7.f1; have X7l := X7.lt
  have Y7 := (Y6).keep hb7; have Y7a := Y7.c0; have Y7b := Y7.c1; have Y7c := Y7.f0; have Y7d := Y7.f1; have Y7l := Y7.lt
  go_wp2_with fail
  refine (K5.out _).mono ?_; rintro e w8 ⟨rfl, hb8⟩
  have B8 := belowT (B7) hb8
  have X8 := (X7).keep hb8; have X8a := X8.c0; have X8b := X8.c1; have X8c := X8.f0; have X8d := X8.f1; have X8l := X8.lt
  have Y8 := (Y7).keep hb8; have Y8a := Y8.c0; have Y8b := Y8.c1; have Y8c := Y8.f0; have Y8d := Y8.f1; have Y8l := Y8.lt
  go_wp2_with fail
  refine (M3.out _ (B8)).mono ?_; rintro e w9 ⟨rfl, hb9⟩
  have B9 := belowT (B8) hb9
  have X9 := (X8).keep hb9; have X9a := X9.c0; have X9b := X9.c1; have X9c := X9.f0; have X9d := X9.f1; have X9l := X9.lt
  have Y9 := (Y8).keep hb9; have Y9a := Y9.c0; have Y9b := Y9.c1; have Y9c := Y9.f0; have Y9d := Y9.f1; have Y9l := Y9.lt
  go_wp2_with fail
  refine (M4.out _ (B9)).mono ?_; rintro e w10 ⟨rfl, hb10⟩
  have B10 := belowT (B9) hb10
  have X10 := (X9).keep hb10; have X10a := X10.c0; have X10b := X10.c1; have X10c := X10.f0; have X10d := X10.f1; have X10l := X10.lt
  have Y10 := (Y9).keep hb10; have Y10a := Y10.c0; have Y10b := Y10.c1; have Y10c := Y10.f0; have Y10d := Y10.f1; have Y10l := Y10.lt
  go_wp2_with fail
  refine (M5.out _ (B10)).mono ?_; rintro e w11 ⟨rfl, hb11⟩
  have B11 := belowT (B10) hb11
  have X11 := (X10).keep hb11; have X11a := X11.c0; have X11b := X11.c1; have X11c := X11.f0; have X11d := X11.f1; have X11l := X11.lt
  have Y11 := (Y10).keep hb11; have Y11a := Y11.c0; have Y11b := Y11.c1; have Y11c := Y11.f0; have Y11d := Y11.f1; have Y11l := Y11.lt
  go_wp2_with fail
  refine (K6.out _).mono ?_; rintro e w12 ⟨rfl, hb12⟩
  have B12 := belowT (B11) hb12
  have X12 := (X11).keep hb12; have X12a := X12.c0; have X12b := X12.c1; have X12c := X12.f0; have X12d := X12.f1; have X12l := X12.lt
  have Y12 := (Y11).keep hb12; have Y12a := Y12.c0; have Y12b := Y12.c1; have Y12c := Y12.f0; have Y12d := Y12.f1; have Y12l := Y12.lt
  go_wp2_with fail
  go_ret
  exact ⟨rfl, B12⟩

theorem awake_any (w : World) (n : NoneAt w) :
    Calls Tryd.prog 11 #[] w fun e w' => e = .returned (.bool true) ∧ Below w.heap.size w w' :=
  awake_core w (Lib.hid fun w' B => Meet_any 1 5 4 9 w' (n.keep B)) (Lib.hid fun w' B => Hull_any 1 2 7 9 w' (n.keep B))
    (Lib.hid fun w => sMid 4 5 w ⟨by decide, by decide⟩ ⟨by decide, by decide⟩) (Lib.hid half_lit) (Lib.hid fun w => Has_any 1 9 5 w) (Lib.hid fun w => Has_any 4 5 6 w)
    (Lib.hid fun w' B => Meet_any 4 5 7 8 w' (n.keep B)) (Lib.hid fun w => Empty_any 1 0 w)
    (Lib.hid fun w' B => sScale 4 5 (-2) w' (n.keep B) ⟨by decide, by decide⟩ ⟨by decide, by decide⟩ ⟨by decide, by decide⟩)
    (Lib.hid fun w' B => sWiden 4 5 3 w' (n.keep B) ⟨by decide, by decide⟩ ⟨by decide, by decide⟩ (by decide) (by decide) (by decide))
    (Lib.hid fun w' B => sSub 4 5 4 5 w' (n.keep B) ⟨by decide, by decide⟩ ⟨by decide, by decide⟩ ⟨by decide, by decide⟩ ⟨by decide, by decide⟩) (Lib.hid clamp_lit)

end Go.Proofs.YtdembidbaojldaaDoor
