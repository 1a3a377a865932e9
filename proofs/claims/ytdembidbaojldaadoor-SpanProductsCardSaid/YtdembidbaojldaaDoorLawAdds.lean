/- SpanAdds: the walk. -/
import Derived.Test.YtdembidbaojldaaDoorSpanG
import Derived.Test.YtdembidbaojldaaDoorSpanNumB
namespace Go.Proofs.YtdembidbaojldaaDoor
open Go.RowKit

theorem Add_b (a b : Int) (w : World) (ha : Fix.Room a) (hb : Fix.Room b) :
    Calls Tryd.prog 12 #[.int .i64 a, .int .i64 b] w fun e w' => e = .returned (.tuple #[.int .i64 (Fix.okV (a + b)), .int .i64 (Fix.okE (a + b))]) ∧ Below w.heap.size w w' :=
  (Add_any a b w ha hb).mono fun _ _ h => ⟨h.1, h.2 ▸ Below.refl _ _⟩
theorem Sub_b (a b : Int) (w : World) (ha : Fix.Room a) (hb : Fix.Room b) :
    Calls Tryd.prog 14 #[.int .i64 a, .int .i64 b] w fun e w' => e = .returned (.tuple #[.int .i64 (Fix.okV (a - b)), .int .i64 (Fix.okE (a - b))]) ∧ Below w.heap.size w w' :=
  (Sub_any a b w ha hb).mono fun _ _ h => ⟨h.1, h.2 ▸ Below.refl _ _⟩
theorem Mul_b (a b : Int) (w : World) (ha : Fix.Room a) (hb : Fix.Room b) :
    Calls Tryd.prog 16 #[.int .i64 a, .int .i64 b] w fun e w' => e = .returned (.tuple #[.int .i64 (Fix.okV (a * b)), .int .i64 (Fix.okE (a * b))]) ∧ Below w.heap.size w w' :=
  (Mul_any a b w ha hb).mono fun _ _ h => ⟨h.1, let ⟨k, e⟩ := h.2; e ▸ belowN (Below.refl _ _) k⟩

theorem adds_out1 (a b c d x y k : Int) (w : World)
    (K1 : Hid (∀ w, Calls Tryd.prog 9 #[.agg #[.int .i64 a, .int .i64 b], .int .i64 x] w fun e w' => e = .returned (.bool false) ∧ Below w.heap.size w w'))
    (AW : Hid (∀ w', Below w.heap.size w w' → Calls Tryd.prog 11 #[] w' fun e w'' => e = .returned (.bool true) ∧ Below w'.heap.size w' w'')) :
    Calls Tryd.prog 4 #[.agg #[.int .i64 a, .int .i64 b], .agg #[.int .i64 c, .int .i64 d], .agg #[.int .i64 x, .int .i64 y, .int .i64 k]] w fun e w' => e = .returned (.bool true) ∧ Below w.heap.size w w' := by
  go_enter Tryd.func4, Tryd.ntmps4
  go_wp2_with fail
  go_region
  go_wp2_with fail
  refine (K1.out _).mono ?_; rintro e w1 ⟨rfl, hb1⟩
  have B1 := belowT ((below3 w _ _ _).drew) hb1
  have X1 := ((((own2 w _ _ _).more _).more _).drew).keep hb1; have X1a := X1.c0; have X1b := X1.c1; have X1c := X1.f0; have X1d := X1.f1; have X1l := X1.lt
  have Y1 := (((own2b w _ _ _ _).more _).drew).keep hb1; have Y1a := Y1.c0; have Y1b := Y1.c1; have Y1c := Y1.f0; have Y1d := Y1.f1; have Y1l := Y1.lt
  go_wp2_with fail
  refine (AW.out _ B1).mono ?_; rintro e w2 ⟨rfl, hb2⟩
  have B2 := belowT (B1) hb2
  go_wp2_with fail
  go_ret
  exact ⟨rfl, B2⟩

theorem adds_out2 (a b c d x y k : Int) (w : World)
    (K1 : Hid (∀ w, Calls Tryd.prog 9 #[.agg #[.int .i64 a, .int .i64 b], .int .i64 x] w fun e w' => e = .returned (.bool true) ∧ Below w.heap.size w w'))
    (K2 : Hid (∀ w, Calls Tryd.prog 9 #[.agg #[.int .i64 c, .int .i64 d], .int .i64 y] w fun e w' => e = .returned (.bool false) ∧ Below w.heap.size w w'))
    (AW : Hid (∀ w', Below w.heap.size w w' → Calls Tryd.prog 11 #[] w' fun e w'' => e = .returned (.bool true) ∧ Below w'.heap.size w' w'')) :
    Calls Tryd.prog 4 #[.agg #[.int .i64 a, .int .i64 b], .agg #[.int .i64 c, .int .i64 d], .agg #[.int .i64 x, .int .i64 y, .int .i64 k]] w fun e w' => e = .returned (.bool true) ∧ Below w.heap.size w w' := by
  go_enter Tryd.func4, Tryd.ntmps4
  go_wp2_with fail
  go_region
  go_wp2_with fail
  refine (K1.out _).mono ?_; rintro e w1 ⟨rfl, hb1⟩
  have B1 := belowT ((below3 w _ _ _).drew) hb1
  have X1 := ((((own2 w _ _ _).more _).more _).drew).keep hb1; have X1a := X1.c0; have X1b := X1.c1; have X1c := X1.f0; have X1d := X1.f1; have X1l := X1.lt
  have Y1 := (((own2b w _ _ _ _).more _).drew).keep hb1; have Y1a := Y1.c0; have Y1b := Y1.c1; have Y1c := Y1.f0; have Y1d := Y1.f1; have Y1l := Y1.lt
  go_wp2_with fail
  refine (K2.out _).mono ?_; rintro e w2 ⟨rfl, hb2⟩
  have B2 := belowT (B1) hb2
  have X2 := (X1).keep hb2; have X2a := X2.c0; have X2b := X2.c1; have X2c := X2.f0; have X2d := X2.f1; have X2l := X2.lt
  have Y2 := (Y1).keep hb2; have Y2a := Y2.c0; have Y2b := Y2.c1; have Y2c := Y2.f0; have Y2d := Y2.f1; have Y2l := Y2.lt
  go_wp2_with fail
  refine (AW.out _ B2).mono ?_; rintro e w3 ⟨rfl, hb3⟩
  have B3 := belowT (B2) hb3
  go_wp2_with fail
  go_ret
  exact ⟨rfl, B3⟩

set_option maxHeartbeats 4000000 in
theorem adds_core (a b c d x y k s1 e1 s2 e2 s3 e3 L1 H1 L2 H2 L3 H3 : Int) (w : World)
    (K1 : Hid (∀ w, Calls Tryd.prog 9 #[.agg #[.int .i64 a, .int .i64 b], .int .i64 x] w fun e w' => e = .returned (.bool true) ∧ Below w.heap.size w w'))
    (K2 : Hid (∀ w, Calls Tryd.prog 9 #[.agg #[.int .i64 c, .int .i64 d], .int .i64 y] w fun e w' => e = .returned (.bool true) ∧ Below w.heap.size w w'))
    (A1 : Hid (∀ w, Calls Tryd.prog 12 #[.int .i64 x, .int .i64 y] w fun e w' => e = .returned (.tuple #[.int .i64 s1, .int .i64 e1]) ∧ Below w.heap.size w w'))
    (A2 : Hid (∀ w, Calls Tryd.prog 14 #[.int .i64 x, .int .i64 y] w fun e w' => e = .returned (.tuple #[.int .i64 s2, .int .i64 e2]) ∧ Below w.heap.size w w'))
    (A3 : Hid (∀ w, Calls Tryd.prog 16 #[.int .i64 x, .int .i64 k] w fun e w' => e = .returned (.tuple #[.int .i64 s3, .int .i64 e3]) ∧ Below w.heap.size w w'))
    (S1 : Hid (∀ w', Below w.heap.size w w' → Calls Tryd.prog 13 #[.agg #[.int .i64 a, .int .i64 b], .agg #[.int .i64 c, .int .i64 d]] w' fun e w'' => e = .returned (.agg #[.int .i64 L1, .int .i64 H1]) ∧ Below w'.heap.size w' w''))
    (S2 : Hid (∀ w', Below w.heap.size w w' → Calls Tryd.prog 15 #[.agg #[.int .i64 a, .int .i64 b], .agg #[.int .i64 c, .int .i64 d]] w' fun e w'' => e = .returned (.agg #[.int .i64 L2, .int .i64 H2]) ∧ Below w'.heap.size w' w''))
    (S3 : Hid (∀ w', Below w.heap.size w w' → Calls Tryd.prog 17 #[.agg #[.int .i64 a, .int .i64 b], .int .i64 k] w' fun e w'' => e = .returned (.agg #[.int .i64 L3, .int .i64 H3]) ∧ Below w'.heap.size w' w''))
    (P1 : (e1 == 0) = true → Hid (∀ w, Calls Tryd.prog 9 #[.agg #[.int .i64 L1, .int .i64 H1], .int .i64 s1] w fun e w' => e = .returned (.bool true) ∧ Below w.heap.size w w'))
    (P2 : (e2 == 0) = true → Hid (∀ w, Calls Tryd.prog 9 #[.agg #[.int .i64 L2, .int .i64 H2], .int .i64 s2] w fun e w' => e = .returned (.bool true) ∧ Below w.heap.size w w'))
    (P3 : (e3 == 0) = true → Hid (∀ w, Calls Tryd.prog 9 #[.agg #[.int .i64 L3, .int .i64 H3], .int .i64 s3] w fun e w' => e = .returned (.bool true) ∧ Below w.heap.size w w'))
    (AW : Hid (∀ w', Below w.heap.size w w' → Calls Tryd.prog 11 #[] w' fun e w'' => e = .returned (.bool true) ∧ Below w'.heap.size w' w'')) :
    Calls Tryd.prog 4 #[.agg #[.int .i64 a, .int .i64 b], .agg #[.int .i64 c, .int .i64 d], .agg #[.int .i64 x, .int .i64 y, .int .i64 k]] w fun e w' => e = .returned (.bool true) ∧ Below w.heap.size w w' := by
  go_enter Tryd.func4, Tryd.ntmps4
  go_wp2_with fail
  go_region
  go_wp2_with fail
  refine (K1.out _).mono ?_; rintro e w1 ⟨rfl, hb1⟩
  have B1 := belowT ((below3 w _ _ _).drew) hb1
  have X1 := ((((own2 w _ _ _).more _).more _).drew).keep hb1; have X1a := X1.c0; have X1b := X1.c1; have X1c := X1.f0; have X1d := X1.f1; have X1l := X1.lt
  have Y1 := (((own2b w _ _ _ _).more _).drew).keep hb1; have Y1a := Y1.c0; have Y1b := Y1.c1; have Y1c := Y1.f0; have Y1d := Y1.f1; have Y1l := Y1.lt
  go_wp2_with fail
  refine (K2.out _).mono ?_; rintro e w2 ⟨rfl, hb2⟩
  have B2 := belowT (B1) hb2
  have X2 := (X1).keep hb2; have X2a := X2.c0; have X2b := X2.c1; have X2c := X2.f0; have X2d := X2.f1; have X2l := X2.lt
  have Y2 := (Y1).keep hb2; have Y2a := Y2.c0; have Y2b := Y2.c1; have Y2c := Y2.f0; have Y2d := Y2.f1; have Y2l := Y2.lt
  go_wp2_with fail
  refine (A1.out _).mono ?_; rintro e w3 ⟨rfl, hb3⟩
  have B3 := belowT (B2) hb3
  have X3 := (X2).keep hb3; have X3a := X3.c0; have X3b := X3.c1; have X3c := X3.f0; have X3d := X3.f1; have X3l := X3.lt
  have Y3 := (Y2).keep hb3; have Y3a := Y3.c0; have Y3b := Y3.c1; have Y3c := Y3.f0; have Y3d := Y3.f1; have Y3l := Y3.lt
  by_cases c1 : (e1 == 0) = true
  · skip
    have p1 := P1 c1
    go_wp2_with fail
    refine (S1.out _ B3).mono ?_; rintro e w4 ⟨rfl, hb4⟩
    have B4 := belowT (B3) hb4
    have X4 := (X3).keep hb4; have X4a := X4.c0; have X4b := X4.c1; have X4c := X4.f0; have X4d := X4.f1; have X4l := X4.lt
    have Y4 := (Y3).keep hb4; have Y4a := Y4.c0; have Y4b := Y4.c1; have Y4c := Y4.f0; have Y4d := Y4.f1; have Y4l := Y4.lt
    go_wp2_with fail
    refine (p1.out _).mono ?_; rintro e w5 ⟨rfl, hb5⟩
    have B5 := belowT (B4) hb5
    have X5 := (X4).keep hb5; have X5a := X5.c0; have X5b := X5.c1; have X5c := X5.f0; have X5d := X5.f1; have X5l := X5.lt
    have Y5 := (Y4).keep hb5; have Y5a := Y5.c0; have Y5b := Y5.c1; have Y5c := Y5.f0; have Y5d := Y5.f1; have Y5l := Y5.lt
    go_wp2_with fail
    refine (A2.out _).mono ?_; rintro e w6 ⟨rfl, hb6⟩
    have B6 := belowT (B5) hb6
    have X6 := (X5).keep hb6; have X6a := X6.c0; have X6b := X6.c1; have X6c := X6.f0; have X6d := X6.f1; have X6l := X6.lt
    have Y6 := (Y5).keep hb6; have Y6a := Y6.c0; have Y6b := Y6.c1; have Y6c := Y6.f0; have Y6d := Y6.f1; have Y6l := Y6.lt
    by_cases c2 : (e2 == 0) = true
    · skip
      have p2 := P2 c2
      go_wp2_with fail
      refine (S2.out _ B6).mono ?_; rintro e w7 ⟨rfl, hb7⟩
      have B7 := belowT (B6) hb7
      have X7 := (X6).keep hb7; have X7a := X7.c0; have X7b := X7.c1; have X7c := X7.f0; have X7d := X7.f1; have X7l := X7.lt
      have Y7 := (Y6).keep hb7; have Y7a := Y7.c0; have Y7b := Y7.c1; have Y7c := Y7.f0; have Y7d := Y7.f1; have Y7l := Y7.lt
      go_wp2_with fail
      refine (p2.out _).mono ?_; rintro e w8 ⟨rfl, hb8⟩
      have B8 := belowT (B7) hb8
      have X8 := (X7).keep hb8; have X8a := X8.c0; have X8b := X8.c1; have X8c := X8.f0; have X8d := X8.f1; have X8l := X8.lt
      have Y8 := (Y7).keep hb8; have Y8a := Y8.c0; have Y8b := Y8.c1; have Y8c := Y8.f0; have Y8d := Y8.f1; have Y8l := Y8.lt
      go_wp2_with fail
      refine (A3.out _).mono ?_; rintro e w9 ⟨rfl, hb9⟩
      have B9 := belowT (B8) hb9
      have X9 := (X8).keep hb9; have X9a := X9.c0; have X9b := X9.c1; have X9c := X9.f0; have X9d := X9.f1; have X9l := X9.lt
      have Y9 := (Y8).keep hb9; have Y9a := Y9.c0; have Y9b := Y9.c1; have Y9c := Y9.f0; have Y9d := Y9.f1; have Y9l := Y9.lt
      by_cases c3 : (e3 == 0) = true
      · skip
        have p3 := P3 c3
        go_wp2_with fail
        refine (S3.out _ B9).mono ?_; rintro e w10 ⟨rfl, hb10⟩
        have B10 := belowT (B9) hb10
        have X10 := (X9).keep hb10; have X10a := X10.c0; have X10b := X10.c1; have X10c := X10.f0; have X10d := X10.f1; have X10l := X10.lt
        have Y10 := (Y9).keep hb10; have Y10a := Y10.c0; have Y10b := Y10.c1; have Y10c := Y10.f0; have Y10d := Y10.f1; have Y10l := Y10.lt
        go_wp2_with fail
        refine (p3.out _).mono ?_; rintro e w11 ⟨rfl, hb11⟩
        have B11 := belowT (B10) hb11
        have X11 := (X10).keep hb11; have X11a := X11.c0; have X11b := X11.c1; have X11c := X11.f0; have X11d := X11.f1; have X11l := X11.lt
        have Y11 := (Y10).keep hb11; have Y11a := Y11.c0; have Y11b := Y11.c1; have Y11c := Y11.f0; have Y11d := Y11.f1; have Y11l := Y11.lt
        go_wp2_with fail
        refine (AW.out _ B11).mono ?_; rintro e w12 ⟨rfl, hb12⟩
        have B12 := belowT (B11) hb12
        go_wp2_with fail
        go_ret
        exact ⟨rfl, B12⟩
      · skip
        have c3 : (e3 == 0) = false := by simpa using c3
        go_wp2_with fail
        refine (AW.out _ B9).mono ?_; rintro e w10 ⟨rfl, hb10⟩
        have B10 := belowT (B9) hb10
        go_wp2_with fail
        go_ret
        exact ⟨rfl, B10⟩
    · skip
      have c2 : (e2 == 0) = false := by simpa using c2
      go_wp2_with fail
      refine (A3.out _).mono ?_; rintro e w7 ⟨rfl, hb7⟩
      have B7 := belowT (B6) hb7
      have X7 := (X6).keep hb7; have X7a := X7.c0; have X7b := X7.c1; have X7c := X7.f0; have X7d := X7.f1; have X7l := X7.lt
      have Y7 := (Y6).keep hb7; have Y7a := Y7.c0; have Y7b := Y7.c1; have Y7c := Y7.f0; have Y7d := Y7.f1; have Y7l := Y7.lt
      by_cases c3 : (e3 == 0) = true
      · skip
        have p3 := P3 c3
        go_wp2_with fail
        refine (S3.out _ B7).mono ?_; rintro e w8 ⟨rfl, hb8⟩
        have B8 := belowT (B7) hb8
        have X8 := (X7).keep hb8; have X8a := X8.c0; have X8b := X8.c1; have X8c := X8.f0; have X8d := X8.f1; have X8l := X8.lt
        have Y8 := (Y7).keep hb8; have Y8a := Y8.c0; have Y8b := Y8.c1; have Y8c := Y8.f0; have Y8d := Y8.f1; have Y8l := Y8.lt
        go_wp2_with fail
        refine (p3.out _).mono ?_; rintro e w9 ⟨rfl, hb9⟩
        have B9 := belowT (B8) hb9
        have X9 := (X8).keep hb9; have X9a := X9.c0; have X9b := X9.c1; have X9c := X9.f0; have X9d := X9.f1; have X9l := X9.lt
        have Y9 := (Y8).keep hb9; have Y9a := Y9.c0; have Y9b := Y9.c1; have Y9c := Y9.f0; have Y9d := Y9.f1; have Y9l := Y9.lt
        go_wp2_with fail
        refine (AW.out _ B9).mono ?_; rintro e w10 ⟨rfl, hb10⟩
        have B10 := belowT (B9) hb10
        go_wp2_with fail
        go_ret
        exact ⟨rfl, B10⟩
      · skip
        have c3 : (e3 == 0) = false := by simpa using c3
        go_wp2_with fail
        refine (AW.out _ B7).mono ?_; rintro e w8 ⟨rfl, hb8⟩
        have B8 := belowT (B7) hb8
        go_wp2_with fail
        go_ret
        exact ⟨rfl, B8⟩
  · skip
    have c1 : (e1 == 0) = false := by simpa using c1
    go_wp2_with fail
    refine (A2.out _).mono ?_; rintro e w4 ⟨rfl, hb4⟩
    have B4 := belowT (B3) hb4
    have X4 := (X3).keep hb4; have X4a := X4.c0; have X4b := X4.c1; have X4c := X4.f0; have X4d := X4.f1; have X4l := X4.lt
    have Y4 := (Y3).keep hb4; have Y4a := Y4.c0; have Y4b := Y4.c1; have Y4c := Y4.f0; have Y4d := Y4.f1; have Y4l := Y4.lt
    by_cases c2 : (e2 == 0) = true
    · skip
      have p2 := P2 c2
      go_wp2_with fail
      refine (S2.out _ B4).mono ?_; rintro e w5 ⟨rfl, hb5⟩
      have B5 := belowT (B4) hb5
      have X5 := (X4).keep hb5; have X5a := X5.c0; have X5b := X5.c1; have X5c := X5.f0; have X5d := X5.f1; have X5l := X5.lt
      have Y5 := (Y4).keep hb5; have Y5a := Y5.c0; have Y5b := Y5.c1; have Y5c := Y5.f0; have Y5d := Y5.f1; have Y5l := Y5.lt
      go_wp2_with fail
      refine (p2.out _).mono ?_; rintro e w6 ⟨rfl, hb6⟩
      have B6 := belowT (B5) hb6
      have X6 := (X5).keep hb6; have X6a := X6.c0; have X6b := X6.c1; have X6c := X6.f0; have X6d := X6.f1; have X6l := X6.lt
      have Y6 := (Y5).keep hb6; have Y6a := Y6.c0; have Y6b := Y6.c1; have Y6c := Y6.f0; have Y6d := Y6.f1; have Y6l := Y6.lt
      go_wp2_with fail
      refine (A3.out _).mono ?_; rintro e w7 ⟨rfl, hb7⟩
      have B7 := belowT (B6) hb7
      have X7 := (X6).keep hb7; have X7a := X7.c0; have X7b := X7.c1; have X7c := X7.f0; have X7d := X7.f1; have X7l := X7.lt
      have Y7 := (Y6).keep hb7; have Y7a := Y7.c0; have Y7b := Y7.c1; have Y7c := Y7.f0; have Y7d := Y7.f1; have Y7l := Y7.lt
      by_cases c3 : (e3 == 0) = true
      · skip
        have p3 := P3 c3
        go_wp2_with fail
        refine (S3.out _ B7).mono ?_; rintro e w8 ⟨rfl, hb8⟩
        have B8 := belowT (B7) hb8
        have X8 := (X7).keep hb8; have X8a := X8.c0; have X8b := X8.c1; have X8c := X8.f0; have X8d := X8.f1; have X8l := X8.lt
        have Y8 := (Y7).keep hb8; have Y8a := Y8.c0; have Y8b := Y8.c1; have Y8c := Y8.f0; have Y8d := Y8.f1; have Y8l := Y8.lt
        go_wp2_with fail
        refine (p3.out _).mono ?_; rintro e w9 ⟨rfl, hb9⟩
        have B9 := belowT (B8) hb9
        have X9 := (X8).keep hb9; have X9a := X9.c0; have X9b := X9.c1; have X9c := X9.f0; have X9d := X9.f1; have X9l := X9.lt
        have Y9 := (Y8).keep hb9; have Y9a := Y9.c0; have Y9b := Y9.c1; have Y9c := Y9.f0; have Y9d := Y9.f1; have Y9l := Y9.lt
        go_wp2_with fail
        refine (AW.out _ B9).mono ?_; rintro e w10 ⟨rfl, hb10⟩
        have B10 := belowT (B9) hb10
        go_wp2_with fail
        go_ret
        exact ⟨rfl, B10⟩
      · skip
        have c3 : (e3 == 0) = false := by simpa using c3
        go_wp2_with fail
        refine (AW.out _ B7).mono ?_; rintro e w8 ⟨rfl, hb8⟩
        have B8 := belowT (B7) hb8
        go_wp2_with fail
        go_ret
        exact ⟨rfl, B8⟩
    · skip
      have c2 : (e2 == 0) = false := by simpa using c2
      go_wp2_with fail
      refine (A3.out _).mono ?_; rintro e w5 ⟨rfl, hb5⟩
      have B5 := belowT (B4) hb5
      have X5 := (X4).keep hb5; have X5a := X5.c0; have X5b := X5.c1; have X5c := X5.f0; have X5d := X5.f1; have X5l := X5.lt
      have Y5 := (Y4).keep hb5; have Y5a := Y5.c0; have Y5b := Y5.c1; have Y5c := Y5.f0; have Y5d := Y5.f1; have Y5l := Y5.lt
      by_cases c3 : (e3 == 0) = true
      · skip
        have p3 := P3 c3
        go_wp2_with fail
        refine (S3.out _ B5).mono ?_; rintro e w6 ⟨rfl, hb6⟩
        have B6 := belowT (B5) hb6
        have X6 := (X5).keep hb6; have X6a := X6.c0; have X6b := X6.c1; have X6c := X6.f0; have X6d := X6.f1; have X6l := X6.lt
        have Y6 := (Y5).keep hb6; have Y6a := Y6.c0; have Y6b := Y6.c1; have Y6c := Y6.f0; have Y6d := Y6.f1; have Y6l := Y6.lt
        go_wp2_with fail
        refine (p3.out _).mono ?_; rintro e w7 ⟨rfl, hb7⟩
        have B7 := belowT (B6) hb7
        have X7 := (X6).keep hb7; have X7a := X7.c0; have X7b := X7.c1; have X7c := X7.f0; have X7d := X7.f1; have X7l := X7.lt
        have Y7 := (Y6).keep hb7; have Y7a := Y7.c0; have Y7b := Y7.c1; have Y7c := Y7.f0; have Y7d := Y7.f1; have Y7l := Y7.lt
        go_wp2_with fail
        refine (AW.out _ B7).mono ?_; rintro e w8 ⟨rfl, hb8⟩
        have B8 := belowT (B7) hb8
        go_wp2_with fail
        go_ret
        exact ⟨rfl, B8⟩
      · skip
        have c3 : (e3 == 0) = false := by simpa using c3
        go_wp2_with fail
        refine (AW.out _ B5).mono ?_; rintro e w6 ⟨rfl, hb6⟩
        have B6 := belowT (B5) hb6
        go_wp2_with fail
        go_ret
        exact ⟨rfl, B6⟩

theorem ok_room {x e v : Int} (he : e = Fix.okE x) (hv : v = Fix.okV x) (h : (e == 0) = true) : v = x ∧ Sp.R6 x := by
  rw [beq_iff_eq] at h
  rcases Fix.okE_cases x with ⟨e1, e2, e3⟩ | ⟨e1, e2, e3⟩
  · exact ⟨hv.trans e2, e3⟩
  · rw [he, e1] at h; exact absurd h (by decide)

theorem adds_any (a b c d x y k : Int) (w : World) (n : NoneAt w) (ra : Fix.Room a) (rb : Fix.Room b) (rc : Fix.Room c) (rd : Fix.Room d) (rx : Fix.Room x) (ry : Fix.Room y) (rk : Fix.Room k) :
    Calls Tryd.prog 4 #[.agg #[.int .i64 a, .int .i64 b], .agg #[.int .i64 c, .int .i64 d], .agg #[.int .i64 x, .int .i64 y, .int .i64 k]] w fun e w' => e = .returned (.bool true) ∧ Below w.heap.size w w' := by
  have K1 := Lib.hid fun w => Has_any a b x w
  have K2 := Lib.hid fun w => Has_any c d y w
  have AW : Hid (∀ w', Below w.heap.size w w' → Calls Tryd.prog 11 #[] w' fun e w'' => e = .returned (.bool true) ∧ Below w'.heap.size w' w'') := Lib.hid fun w' B => awake_any w' (n.keep B)
  cases p : Sp.has a b x
  · rw [p] at K1; exact adds_out1 a b c d x y k w K1 AW
  cases q : Sp.has c d y
  · rw [p] at K1; rw [q] at K2; exact adds_out2 a b c d x y k w K1 K2 AW
  rw [p] at K1
  rw [q] at K2
  have kk : Sp.has k k k = true := Sp.has_iff.2 ⟨Int.le_refl _, Int.le_refl _⟩
  refine adds_core a b c d x y k _ _ _ _ _ _ _ _ _ _ _ _ w K1 K2 (Lib.hid fun w => Add_b x y w rx ry) (Lib.hid fun w => Sub_b x y w rx ry) (Lib.hid fun w => Mul_b x k w rx rk)
    (Lib.hid fun w' B => sAdd a b c d w' (n.keep B) ra rb rc rd) (Lib.hid fun w' B => sSub a b c d w' (n.keep B) ra rb rc rd) (Lib.hid fun w' B => sScale a b k w' (n.keep B) ra rb rk) (fun h => Lib.hid fun w => ?_) (fun h => Lib.hid fun w => ?_) (fun h => Lib.hid fun w => ?_) AW
  · obtain ⟨e, r⟩ := ok_room rfl rfl h
    have c := Has_any (Sp.sel a b c d 1 (Sp.oL (Sp.sat (a + c)) (Sp.sat (b + d)))) (Sp.sel a b c d 0 (Sp.oH (Sp.sat (a + c)) (Sp.sat (b + d)))) (x + y) w
    rw [Sp.has_sel p q (Sp.add_has p q r)] at c
    rw [e]; exact c
  · obtain ⟨e, r⟩ := ok_room rfl rfl h
    have c := Has_any (Sp.sel a b c d 1 (Sp.oL (Sp.sat (a - d)) (Sp.sat (b - c)))) (Sp.sel a b c d 0 (Sp.oH (Sp.sat (a - d)) (Sp.sat (b - c)))) (x - y) w
    rw [Sp.has_sel p q (Sp.sub_has p q r)] at c
    rw [e]; exact c
  · obtain ⟨e, r⟩ := ok_room rfl rfl h
    have c := Has_any (Sp.sel a b k k 1 (Sp.oL (Sp.mulL a b k k) (Sp.mulH a b k k))) (Sp.sel a b k k 0 (Sp.oH (Sp.mulL a b k k) (Sp.mulH a b k k))) (x * k) w
    rw [Sp.has_sel p kk (Sp.mul_has p kk r)] at c
    rw [e]; exact c

end Go.Proofs.YtdembidbaojldaaDoor
