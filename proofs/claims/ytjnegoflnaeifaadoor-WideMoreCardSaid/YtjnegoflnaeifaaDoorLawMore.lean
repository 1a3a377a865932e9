/- WideMore: the walk. -/
import Derived.Test.YtjnegoflnaeifaaDoorRefParseC
import Derived.Test.YtjnegoflnaeifaaDoorRefSqrt
import Derived.Test.YtjnegoflnaeifaaDoorWideF
import Derived.Deep.RegionHeld3
namespace Go.Proofs.YtjnegoflnaeifaaDoor
open Go.RowKit

theorem more_long (h1 l1 h2 l2 d : Int) (s : ByteArray) (w : World) (hl : decide (300 < (s.size : Int)) = true)
    (K : Hid (∀ w, Calls Tryd.prog 5 #[] w fun e w' => e = .returned (.bool true) ∧ Below w.heap.size w w')) :
    Calls Tryd.prog 3 #[.agg #[.int .i64 h1, .int .u64 l1], .agg #[.int .i64 h2, .int .u64 l2], .agg #[.int .i64 d, .string s]] w fun e w' => e = .returned (.bool true) ∧ Below w.heap.size w w' := by
  go_enter Tryd.func3, Tryd.ntmps3
  go_wp2_with fail
  refine (K.out _).mono ?_; rintro e w1 ⟨rfl, hb1⟩
  have B1 := belowT (below3 w _ _ _) hb1
  go_wp2_with fail
  go_ret
  exact ⟨rfl, B1⟩

set_option maxHeartbeats 8000000 in
set_option maxRecDepth 100000 in
theorem more_core (h1 l1 h2 l2 d hp lp ep rt er hu lu eu hd ld ha la : Int) (s : ByteArray) (tx : List UInt8) (w : World) (hl : decide (300 < (s.size : Int)) = false)
    (N1 : Hid (∀ w, Calls Tryd.prog 6 #[.agg #[.int .i64 h1, .int .u64 l1], .int .i64 d] w fun e w' => e = .returned (.tuple #[.agg #[.int .i64 hp, .int .u64 lp], .int .i64 ep]) ∧ Below w.heap.size w w'))
    (N2 : Hid (∀ w, Calls Tryd.prog 7 #[.agg #[.int .i64 h1, .int .u64 l1], .int .i64 d] w fun e w' => e = .returned (.tuple #[.agg #[.int .i64 hp, .int .u64 lp], .int .i64 ep]) ∧ Below w.heap.size w w'))
    (S1 : Hid (∀ w, Calls Tryd.prog 8 #[.agg #[.int .i64 h1, .int .u64 l1]] w fun e w' => e = .returned (.tuple #[.int .i64 rt, .int .i64 er]) ∧ Below w.heap.size w w'))
    (S2 : Hid (∀ w, Calls Tryd.prog 9 #[.agg #[.int .i64 h1, .int .u64 l1]] w fun e w' => e = .returned (.tuple #[.int .i64 rt, .int .i64 er]) ∧ Below w.heap.size w w'))
    (PA : Hid (∀ w', Below w.heap.size w w' → Calls Tryd.prog 10 #[.string s] w' fun e w'' => e = .returned (.tuple #[.agg #[.int .i64 hu, .int .u64 lu], .int .i64 eu]) ∧ Below w'.heap.size w' w''))
    (PB : Hid (∀ w', Below w.heap.size w w' → Calls Tryd.prog 11 #[.string s] w' fun e w'' => e = .returned (.tuple #[.agg #[.int .i64 hu, .int .u64 lu], .int .i64 eu]) ∧ Below w'.heap.size w' w''))
    (D1 : Hid (∀ w, Calls Tryd.prog 12 #[.agg #[.int .i64 h1, .int .u64 l1], .agg #[.int .i64 h2, .int .u64 l2]] w fun e w' => e = .returned (.agg #[.int .i64 hd, .int .u64 ld]) ∧ Below w.heap.size w w'))
    (D2 : Hid (∀ w, Calls Tryd.prog 13 #[.agg #[.int .i64 h1, .int .u64 l1], .agg #[.int .i64 h2, .int .u64 l2]] w fun e w' => e = .returned (.agg #[.int .i64 hd, .int .u64 ld]) ∧ Below w.heap.size w w'))
    (A1 : Hid (∀ w, Calls Tryd.prog 14 #[.agg #[.int .i64 h1, .int .u64 l1]] w fun e w' => e = .returned (.agg #[.int .i64 ha, .int .u64 la]) ∧ Below w.heap.size w w'))
    (A2 : Hid (∀ w, Calls Tryd.prog 15 #[.agg #[.int .i64 h1, .int .u64 l1]] w fun e w' => e = .returned (.agg #[.int .i64 ha, .int .u64 la]) ∧ Below w.heap.size w w'))
    (TA : Hid (∀ w', Below w.heap.size w w' → Calls Tryd.prog 16 #[.agg #[.int .i64 h1, .int .u64 l1]] w' fun e w'' => e = .returned (.string ⟨tx.toArray⟩) ∧ Below w'.heap.size w' w''))
    (TB : Hid (∀ w', Below w.heap.size w w' → Calls Tryd.prog 17 #[.agg #[.int .i64 h1, .int .u64 l1]] w' fun e w'' => e = .returned (.string ⟨tx.toArray⟩) ∧ Below w'.heap.size w' w''))
    (K : Hid (∀ w, Calls Tryd.prog 5 #[] w fun e w' => e = .returned (.bool true) ∧ Below w.heap.size w w')) :
    Calls Tryd.prog 3 #[.agg #[.int .i64 h1, .int .u64 l1], .agg #[.int .i64 h2, .int .u64 l2], .agg #[.int .i64 d, .string s]] w fun e w' => e = .returned (.bool true) ∧ Below w.heap.size w w' := by
  go_enter Tryd.func3, Tryd.ntmps3
  go_wp2_with fail
  refine (N1.out _).mono ?_; rintro e w1 ⟨rfl, hb1⟩
  have B1 := belowT (below3 w _ _ _) hb1
  have X1 := (((own2 w _ _ _).more _).more _).keep hb1; have X1a := X1.c0; have X1b := X1.c1; have X1c := X1.f0; have X1d := X1.f1; have X1l := X1.lt
  have Y1 := ((own2b w _ _ _ _).more _).keep hb1; have Y1a := Y1.c0; have Y1b := Y1.c1; have Y1c := Y1.f0; have Y1d := Y1.f1; have Y1l := Y1.lt
  have Z1 := (own2c w _ _ _ _ _).keep hb1; have Z1a := Z1.c0; have Z1b := Z1.c1; have Z1c := Z1.f0; have Z1d := Z1.f1; have Z1l := Z1.lt
  go_wp2_with fail
  refine (N2.out _).mono ?_; rintro e w2 ⟨rfl, hb2⟩
  have B2 := belowT (belowT B1 (below1 _ _)) hb2
  have X2 := (X1.more _).keep hb2; have X2a := X2.c0; have X2b := X2.c1; have X2c := X2.f0; have X2d := X2.f1; have X2l := X2.lt
  have Y2 := (Y1.more _).keep hb2; have Y2a := Y2.c0; have Y2b := Y2.c1; have Y2c := Y2.f0; have Y2d := Y2.f1; have Y2l := Y2.lt
  have Z2 := (Z1.more _).keep hb2; have Z2a := Z2.c0; have Z2b := Z2.c1; have Z2c := Z2.f0; have Z2d := Z2.f1; have Z2l := Z2.lt
  have P2 := (own2 w1 _ _ _).keep hb2; have P2a := P2.c0; have P2b := P2.c1; have P2c := P2.f0; have P2d := P2.f1; have P2l := P2.lt
  go_wp2_with fail
  refine (S1.out _).mono ?_; rintro e w3 ⟨rfl, hb3⟩
  have B3 := belowT (belowT B2 (below1 _ _)) hb3
  have X3 := (X2.more _).keep hb3; have X3a := X3.c0; have X3b := X3.c1; have X3c := X3.f0; have X3d := X3.f1; have X3l := X3.lt
  have Y3 := (Y2.more _).keep hb3; have Y3a := Y3.c0; have Y3b := Y3.c1; have Y3c := Y3.f0; have Y3d := Y3.f1; have Y3l := Y3.lt
  have Z3 := (Z2.more _).keep hb3; have Z3a := Z3.c0; have Z3b := Z3.c1; have Z3c := Z3.f0; have Z3d := Z3.f1; have Z3l := Z3.lt
  have P3 := (P2.more _).keep hb3; have P3a := P3.c0; have P3b := P3.c1; have P3c := P3.f0; have P3d := P3.f1; have P3l := P3.lt
  have Q3 := (own2 w2 _ _ _).keep hb3; have Q3a := Q3.c0; have Q3b := Q3.c1; have Q3c := Q3.f0; have Q3d := Q3.f1; have Q3l := Q3.lt
  go_wp2_with fail
  refine (S2.out _).mono ?_; rintro e w4 ⟨rfl, hb4⟩
  have B4 := belowT (B3) hb4
  have X4 := (X3).keep hb4; have X4a := X4.c0; have X4b := X4.c1; have X4c := X4.f0; have X4d := X4.f1; have X4l := X4.lt
  have Y4 := (Y3).keep hb4; have Y4a := Y4.c0; have Y4b := Y4.c1; have Y4c := Y4.f0; have Y4d := Y4.f1; have Y4l := Y4.lt
  have Z4 := (Z3).keep hb4; have Z4a := Z4.c0; have Z4b := Z4.c1; have Z4c := Z4.f0; have Z4d := Z4.f1; have Z4l := Z4.lt
  have P4 := (P3).keep hb4; have P4a := P4.c0; have P4b := P4.c1; have P4c := P4.f0; have P4d := P4.f1; have P4l := P4.lt
  have Q4 := (Q3).keep hb4; have Q4a := Q4.c0; have Q4b := Q4.c1; have Q4c := Q4.f0; have Q4d := Q4.f1; have Q4l := Q4.lt
  go_wp2_with fail
  refine (PA.out _ B4).mono ?_; rintro e w5 ⟨rfl, hb5⟩
  have B5 := belowT (B4) hb5
  have X5 := (X4).keep hb5; have X5a := X5.c0; have X5b := X5.c1; have X5c := X5.f0; have X5d := X5.f1; have X5l := X5.lt
  have Y5 := (Y4).keep hb5; have Y5a := Y5.c0; have Y5b := Y5.c1; have Y5c := Y5.f0; have Y5d := Y5.f1; have Y5l := Y5.lt
  have Z5 := (Z4).keep hb5; have Z5a := Z5.c0; have Z5b := Z5.c1; have Z5c := Z5.f0; have Z5d := Z5.f1; have Z5l := Z5.lt
  have P5 := (P4).keep hb5; have P5a := P5.c0; have P5b := P5.c1; have P5c := P5.f0; have P5d := P5.f1; have P5l := P5.lt
  have Q5 := (Q4).keep hb5; have Q5a := Q5.c0; have Q5b := Q5.c1; have Q5c := Q5.f0; have Q5d := Q5.f1; have Q5l := Q5.lt
  go_wp2_with fail
  refine (PB.out _ (belowT B5 (below1 _ _))).mono ?_; rintro e w6 ⟨rfl, hb6⟩
  have B6 := belowT (belowT B5 (below1 _ _)) hb6
  have X6 := (X5.more _).keep hb6; have X6a := X6.c0; have X6b := X6.c1; have X6c := X6.f0; have X6d := X6.f1; have X6l := X6.lt
  have Y6 := (Y5.more _).keep hb6; have Y6a := Y6.c0; have Y6b := Y6.c1; have Y6c := Y6.f0; have Y6d := Y6.f1; have Y6l := Y6.lt
  have Z6 := (Z5.more _).keep hb6; have Z6a := Z6.c0; have Z6b := Z6.c1; have Z6c := Z6.f0; have Z6d := Z6.f1; have Z6l := Z6.lt
  have P6 := (P5.more _).keep hb6; have P6a := P6.c0; have P6b := P6.c1; have P6c := P6.f0; have P6d := P6.f1; have P6l := P6.lt
  have Q6 := (Q5.more _).keep hb6; have Q6a := Q6.c0; have Q6b := Q6.c1; have Q6c := Q6.f0; have Q6d := Q6.f1; have Q6l := Q6.lt
  have T6 := (own2 w5 _ _ _).keep hb6; have T6a := T6.c0; have T6b := T6.c1; have T6c := T6.f0; have T6d := T6.f1; have T6l := T6.lt
  go_wp2_with fail
  have X7 := X6.more (.cells #[.int .i64 hu, .int .u64 lu] 24)
  have Y7 := Y6.more (.cells #[.int .i64 hu, .int .u64 lu] 24)
  have Z7 := Z6.more (.cells #[.int .i64 hu, .int .u64 lu] 24)
  have P7 := P6.more (.cells #[.int .i64 hu, .int .u64 lu] 24)
  have Q7 := Q6.more (.cells #[.int .i64 hu, .int .u64 lu] 24)
  have T7 := T6.more (.cells #[.int .i64 hu, .int .u64 lu] 24)
  have U7 := own2 w6 (.int .i64 hu) (.int .u64 lu) 24
  have B7 := belowT B6 (below1 w6 (.cells #[.int .i64 hu, .int .u64 lu] 24))
  generalize w6.alloc (.cells #[.int .i64 hu, .int .u64 lu] 24) = W0 at *
  have xr0 : ∀ w', Below W0.heap.size W0 w' → w'.cell? ⟨w.heap.size, 0, none⟩ = some (.int .i64 h1) := fun w' hb => keepc hb X7.c0
  have xr1 : ∀ w', Below W0.heap.size W0 w' → w'.cell? ⟨w.heap.size, 1, none⟩ = some (.int .u64 l1) := fun w' hb => keepc hb X7.c1
  have yr0 : ∀ w', Below W0.heap.size W0 w' → w'.cell? ⟨w.heap.size + 1, 0, none⟩ = some (.int .i64 h2) := fun w' hb => keepc hb Y7.c0
  have yr1 : ∀ w', Below W0.heap.size W0 w' → w'.cell? ⟨w.heap.size + 1, 1, none⟩ = some (.int .u64 l2) := fun w' hb => keepc hb Y7.c1
  have pr0 : ∀ w', Below W0.heap.size W0 w' → w'.cell? ⟨w1.heap.size, 0, none⟩ = some (.int .i64 hp) := fun w' hb => keepc hb P7.c0
  have pr1 : ∀ w', Below W0.heap.size W0 w' → w'.cell? ⟨w1.heap.size, 1, none⟩ = some (.int .u64 lp) := fun w' hb => keepc hb P7.c1
  have qr0 : ∀ w', Below W0.heap.size W0 w' → w'.cell? ⟨w2.heap.size, 0, none⟩ = some (.int .i64 hp) := fun w' hb => keepc hb Q7.c0
  have qr1 : ∀ w', Below W0.heap.size W0 w' → w'.cell? ⟨w2.heap.size, 1, none⟩ = some (.int .u64 lp) := fun w' hb => keepc hb Q7.c1
  have tr0 : ∀ w', Below W0.heap.size W0 w' → w'.cell? ⟨w5.heap.size, 0, none⟩ = some (.int .i64 hu) := fun w' hb => keepc hb T7.c0
  have tr1 : ∀ w', Below W0.heap.size W0 w' → w'.cell? ⟨w5.heap.size, 1, none⟩ = some (.int .u64 lu) := fun w' hb => keepc hb T7.c1
  have ur0 : ∀ w', Below W0.heap.size W0 w' → w'.cell? ⟨w6.heap.size, 0, none⟩ = some (.int .i64 hu) := fun w' hb => keepc hb U7.c0
  have ur1 : ∀ w', Below W0.heap.size W0 w' → w'.cell? ⟨w6.heap.size, 1, none⟩ = some (.int .u64 lu) := fun w' hb => keepc hb U7.c1
  have TC : Hid (∀ w', Below W0.heap.size W0 w' → Calls Tryd.prog 16 #[.agg #[.int .i64 h1, .int .u64 l1]] w' fun e w'' => e = .returned (.string ⟨tx.toArray⟩) ∧ Below w'.heap.size w' w'') := Lib.hid fun w' hb => TA.out w' (belowT B7 hb)
  have TD : Hid (∀ w', Below W0.heap.size W0 w' → Calls Tryd.prog 17 #[.agg #[.int .i64 h1, .int .u64 l1]] w' fun e w'' => e = .returned (.string ⟨tx.toArray⟩) ∧ Below w'.heap.size w' w'') := Lib.hid fun w' hb => TB.out w' (belowT B7 hb)
  clear X7 Y7 Z7 P7 Q7 T7 U7 N1 N2 S1 S2 PA PB TA TB
  clear X1 X1a X1b X1c X1d X1l Y1 Y1a Y1b Y1c Y1d Y1l Z1 Z1a Z1b Z1c Z1d Z1l B1 hb1
  clear X2 X2a X2b X2c X2d X2l Y2 Y2a Y2b Y2c Y2d Y2l Z2 Z2a Z2b Z2c Z2d Z2l P2 P2a P2b P2c P2d P2l B2 hb2
  clear X3 X3a X3b X3c X3d X3l Y3 Y3a Y3b Y3c Y3d Y3l Z3 Z3a Z3b Z3c Z3d Z3l P3 P3a P3b P3c P3d P3l Q3 Q3a Q3b Q3c Q3d Q3l B3 hb3
  clear X4 X4a X4b X4c X4d X4l Y4 Y4a Y4b Y4c Y4d Y4l Z4 Z4a Z4b Z4c Z4d Z4l P4 P4a P4b P4c P4d P4l Q4 Q4a Q4b Q4c Q4d Q4l B4 hb4
  clear X5 X5a X5b X5c X5d X5l Y5 Y5a Y5b Y5c Y5d Y5l Z5 Z5a Z5b Z5c Z5d Z5l P5 P5a P5b P5c P5d P5l Q5 Q5a Q5b Q5c Q5d Q5l B5 hb5
  clear X6 X6a X6b X6c X6d X6l Y6 Y6a Y6b Y6c Y6d Y6l Z6 Z6a Z6b Z6c Z6d Z6l P6 P6a P6b P6c P6d P6l Q6 Q6a Q6b Q6c Q6d Q6l T6 T6a T6b T6c T6d T6l B6 hb6
  go_region_held3 (fun w' => Below W0.heap.size W0 w')
    (first | exact belowT (by assumption) hb17 | exact belowT (by assumption) hb16 | exact belowT (by assumption) hb15 | exact belowT (by assumption) hb14 | exact belowT (by assumption) hb13 | exact belowT (by assumption) hb12 | exact belowT (by assumption) hb11 | exact (Below.refl _ _).drew)
    (first
      | (go_at_call 5; have _t := hb16; clear _t; (with_reducible refine (K.out _).mono ?_); rintro e w17 ⟨rfl, hb17⟩)
      | (go_at_call 17; have _t := hb15; clear _t; (with_reducible refine (TD.out _ (by assumption)).mono ?_); rintro e w16 ⟨rfl, hb16⟩)
      | (go_at_call 16; have _t := hb14; clear _t; (with_reducible refine (TC.out _ (by assumption)).mono ?_); rintro e w15 ⟨rfl, hb15⟩)
      | (go_at_call 15; have _t := hb13; clear _t; (with_reducible refine (A2.out _).mono ?_); rintro e w14 ⟨rfl, hb14⟩)
      | (go_at_call 14; have _t := hb12; clear _t; (with_reducible refine (A1.out _).mono ?_); rintro e w13 ⟨rfl, hb13⟩)
      | (go_at_call 13; have _t := hb11; clear _t; (with_reducible refine (D2.out _).mono ?_); rintro e w12 ⟨rfl, hb12⟩)
      | (go_at_call 12; (with_reducible refine (D1.out _).mono ?_); rintro e w11 ⟨rfl, hb11⟩))
  all_goals
    go_wp2_with fail
    go_ret
    exact ⟨rfl, belowT B7 (by assumption)⟩

end Go.Proofs.YtjnegoflnaeifaaDoor
