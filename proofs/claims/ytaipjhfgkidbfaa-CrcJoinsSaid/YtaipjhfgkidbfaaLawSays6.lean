/- CrcSays and CrcMore: the walks, over contracts. -/
import Derived.Test.YtaipjhfgkidbfaaArrEq
import Derived.Test.YtaipjhfgkidbfaaRebase
import Derived.Deep.CutBlock
import Derived.Deep.CutRange
namespace Go.Proofs.Ytaipjhfgkidbfaa
open Go.RowKit

set_option maxHeartbeats 4000000 in
set_option maxRecDepth 100000 in
theorem crcsays_long (ba : Option Addr) (len cap : Nat) (s : Int) (w : World) (hl : (2000 : Int) < len)
    (AW : Hid (∀ w, Calls Try.prog 8 #[] w fun e w' => e = .returned (.bool true) ∧ Below w.heap.size w w')) :
    Calls Try.prog 3 #[.int .u16 s, .slice ba len cap] w fun e w' => e = .returned (.bool true) ∧ Below w.heap.size w w' := by
  go_enter Try.func3, Try.ntmps3
  go_wp2_with fail
  refine (AW.out _).mono ?_; rintro e w1 ⟨rfl, hb1⟩
  go_wp2_with fail
  go_ret
  exact ⟨rfl, hb1⟩

set_option maxHeartbeats 4000000 in
set_option maxRecDepth 100000 in
theorem says6_core (ba : Option Addr) (len cap : Nat) (s : Int) (x t1 t2 t3 t4 : Int) (f5 : Bool) (w : World) (hl : (len : Int) ≤ 2000) (hx : IntKind.u8.wrap (len : Int) = x)
    (Step1 : Hid (∀ w', Below w.heap.size w w' → Calls Try.prog 9 #[.int .u16 s] w' fun e w'' => e = .returned (.int .u16 t1) ∧ Below w'.heap.size w' w''))
    (Step2 : Hid (∀ w', Below w.heap.size w w' → Calls Try.prog 10 #[.int .u16 s] w' fun e w'' => e = .returned (.int .u16 t1) ∧ Below w'.heap.size w' w''))
    (Byte1 : Hid (∀ w', Below w.heap.size w w' → Calls Try.prog 11 #[.int .u16 s, .int .u8 x] w' fun e w'' => e = .returned (.int .u16 t2) ∧ Below w'.heap.size w' w''))
    (Byte2 : Hid (∀ w', Below w.heap.size w w' → Calls Try.prog 12 #[.int .u16 s, .int .u8 x] w' fun e w'' => e = .returned (.int .u16 t2) ∧ Below w'.heap.size w' w''))
    (More1 : Hid (∀ w', Below w.heap.size w w' → Calls Try.prog 13 #[.int .u16 s, .slice ba len cap] w' fun e w'' => e = .returned (.int .u16 t3) ∧ Below w'.heap.size w' w''))
    (More2 : Hid (∀ w', Below w.heap.size w w' → Calls Try.prog 14 #[.int .u16 s, .slice ba len cap] w' fun e w'' => e = .returned (.int .u16 t3) ∧ Below w'.heap.size w' w''))
    (Of1 : Hid (∀ w', Below w.heap.size w w' → Calls Try.prog 15 #[.slice ba len cap] w' fun e w'' => e = .returned (.int .u16 t4) ∧ Below w'.heap.size w' w''))
    (Of2 : Hid (∀ w', Below w.heap.size w w' → Calls Try.prog 16 #[.slice ba len cap] w' fun e w'' => e = .returned (.int .u16 t4) ∧ Below w'.heap.size w' w''))
    (Fits1 : Hid (∀ w', Below w.heap.size w w' → Calls Try.prog 17 #[.slice ba len cap] w' fun e w'' => e = .returned (.bool f5) ∧ Below w'.heap.size w' w''))
    (Fits2 : Hid (∀ w', Below w.heap.size w w' → Calls Try.prog 18 #[.slice ba len cap] w' fun e w'' => e = .returned (.bool f5) ∧ Below w'.heap.size w' w''))
    (AW : Hid (∀ w, Calls Try.prog 8 #[] w fun e w' => e = .returned (.bool true) ∧ Below w.heap.size w w')) :
    Calls Try.prog 3 #[.int .u16 s, .slice ba len cap] w fun e w' => e = .returned (.bool true) ∧ Below w.heap.size w w' := by
  have hd : decide ((2000 : Int) < len) = false := decide_eq_false (by omega)
  go_enter Try.func3, Try.ntmps3
  go_wp2_with fail
  refine (Step1.out _ (Below.refl _ _)).mono ?_; rintro e w1 ⟨rfl, hb1⟩
  have B1 := belowT (Below.refl _ _) hb1
  go_wp2_with fail
  refine (Step2.out _ (B1)).mono ?_; rintro e w2 ⟨rfl, hb2⟩
  have B2 := belowT (B1) hb2
  go_wp2_with fail
  refine (Byte1.out _ (B2)).mono ?_; rintro e w3 ⟨rfl, hb3⟩
  have B3 := belowT (B2) hb3
  go_wp2_with fail
  refine (Byte2.out _ (B3)).mono ?_; rintro e w4 ⟨rfl, hb4⟩
  have B4 := belowT (B3) hb4
  go_wp2_with fail
  refine (More1.out _ (B4)).mono ?_; rintro e w5 ⟨rfl, hb5⟩
  have B5 := belowT (B4) hb5
  go_wp2_with fail
  refine (More2.out _ (B5)).mono ?_; rintro e w6 ⟨rfl, hb6⟩
  have B6 := belowT (B5) hb6
  go_wp2_with fail
  refine (Of1.out _ (B6)).mono ?_; rintro e w7 ⟨rfl, hb7⟩
  have B7 := belowT (B6) hb7
  go_wp2_with fail
  refine (Of2.out _ (B7)).mono ?_; rintro e w8 ⟨rfl, hb8⟩
  have B8 := belowT (B7) hb8
  go_wp2_with fail
  refine (Fits1.out _ (B8)).mono ?_; rintro e w9 ⟨rfl, hb9⟩
  have B9 := belowT (B8) hb9
  go_wp2_with fail
  refine (Fits2.out _ (B9)).mono ?_; rintro e w10 ⟨rfl, hb10⟩
  have B10 := belowT (B9) hb10
  go_wp2_with fail
  refine (AW.out _).mono ?_; rintro e w11 ⟨rfl, hb11⟩
  have B11 := belowT (B10) hb11
  go_wp2_with fail
  go_ret
  exact ⟨rfl, B11⟩

set_option maxHeartbeats 4000000 in
set_option maxRecDepth 100000 in
theorem crcmore_long (ba bb : Option Addr) (la ca lb cb : Nat) (n : Int) (w : World) (_h1 : (la : Int) ≤ 9223372036854775807) (_h2 : (lb : Int) ≤ 9223372036854775807) (hl : (2000 : Int) < wrap64 ((la : Int) + lb))
    (AW : Hid (∀ w, Calls Try.prog 8 #[] w fun e w' => e = .returned (.bool true) ∧ Below w.heap.size w w')) :
    Calls Try.prog 6 #[.slice ba la ca, .slice bb lb cb, .int .i64 n] w fun e w' => e = .returned (.bool true) ∧ Below w.heap.size w w' := by
  go_enter Try.func6, Try.ntmps6
  go_wp2_with fail
  refine (AW.out _).mono ?_; rintro e w1 ⟨rfl, hb1⟩
  go_wp2_with fail
  go_ret
  exact ⟨rfl, hb1⟩

set_option maxHeartbeats 4000000 in
set_option maxRecDepth 100000 in
theorem more6_core (ba bb : Option Addr) (la ca lb cb : Nat) (n : Int) (x y j d v0 v1 v2 v3 v4 v5 v6 v7 v8 v9 v10 v11 v12 v13 v14 v15 : Int) (w : World) (hl : (la : Int) + lb ≤ 2000)
    (OA : Hid (∀ w', Below w.heap.size w w' → Calls Try.prog 15 #[.slice ba la ca] w' fun e w'' => e = .returned (.int .u16 x) ∧ Below w'.heap.size w' w''))
    (OB : Hid (∀ w', Below w.heap.size w w' → Calls Try.prog 15 #[.slice bb lb cb] w' fun e w'' => e = .returned (.int .u16 y) ∧ Below w'.heap.size w' w''))
    (Power1 : Hid (∀ w', Below w.heap.size w w' → Calls Try.prog 19 #[.int .i64 n] w' fun e w'' => e = .returned (.agg #[.int .u16 v0, .int .u16 v1, .int .u16 v2, .int .u16 v3, .int .u16 v4, .int .u16 v5, .int .u16 v6, .int .u16 v7, .int .u16 v8, .int .u16 v9, .int .u16 v10, .int .u16 v11, .int .u16 v12, .int .u16 v13, .int .u16 v14, .int .u16 v15]) ∧ Below w'.heap.size w' w''))
    (Power2 : Hid (∀ w', Below w.heap.size w w' → Calls Try.prog 20 #[.int .i64 n] w' fun e w'' => e = .returned (.agg #[.int .u16 v0, .int .u16 v1, .int .u16 v2, .int .u16 v3, .int .u16 v4, .int .u16 v5, .int .u16 v6, .int .u16 v7, .int .u16 v8, .int .u16 v9, .int .u16 v10, .int .u16 v11, .int .u16 v12, .int .u16 v13, .int .u16 v14, .int .u16 v15]) ∧ Below w'.heap.size w' w''))
    (Join1 : Hid (∀ w', Below w.heap.size w w' → Calls Try.prog 21 #[.int .u16 x, .int .u16 y, .int .i64 n] w' fun e w'' => e = .returned (.int .u16 j) ∧ Below w'.heap.size w' w''))
    (Join2 : Hid (∀ w', Below w.heap.size w w' → Calls Try.prog 22 #[.int .u16 x, .int .u16 y, .int .i64 n] w' fun e w'' => e = .returned (.int .u16 j) ∧ Below w'.heap.size w' w''))
    (Burst1 : Hid (∀ w', Below w.heap.size w w' → Calls Try.prog 23 #[.slice ba la ca, .slice bb lb cb] w' fun e w'' => e = .returned (.int .i64 d) ∧ Below w'.heap.size w' w''))
    (Burst2 : Hid (∀ w', Below w.heap.size w w' → Calls Try.prog 24 #[.slice ba la ca, .slice bb lb cb] w' fun e w'' => e = .returned (.int .i64 d) ∧ Below w'.heap.size w' w''))
    (AW : Hid (∀ w, Calls Try.prog 8 #[] w fun e w' => e = .returned (.bool true) ∧ Below w.heap.size w w')) :
    Calls Try.prog 6 #[.slice ba la ca, .slice bb lb cb, .int .i64 n] w fun e w' => e = .returned (.bool true) ∧ Below w.heap.size w w' := by
  have EQ := arr_eq v0 v1 v2 v3 v4 v5 v6 v7 v8 v9 v10 v11 v12 v13 v14 v15
  have hd : decide ((2000 : Int) < (la : Int) + lb) = false := decide_eq_false (by omega)
  go_enter Try.func6, Try.ntmps6
  go_wp2_with fail
  refine (OA.out _ (Below.refl _ _)).mono ?_; rintro e w1 ⟨rfl, hb1⟩
  have B1 := belowT (Below.refl _ _) hb1
  go_wp2_with fail
  refine (OB.out _ (B1)).mono ?_; rintro e w2 ⟨rfl, hb2⟩
  have B2 := belowT (B1) hb2
  go_wp2_with fail
  refine (Power1.out _ (B2)).mono ?_; rintro e w3 ⟨rfl, hb3⟩
  have B3 := belowT (B2) hb3
  go_wp2_with fail
  refine (Power2.out _ (B3)).mono ?_; rintro e w4 ⟨rfl, hb4⟩
  have B4 := belowT (B3) hb4
  go_wp2_with fail
  refine (Join1.out _ (B4)).mono ?_; rintro e w5 ⟨rfl, hb5⟩
  have B5 := belowT (B4) hb5
  go_wp2_with fail
  refine (Join2.out _ (B5)).mono ?_; rintro e w6 ⟨rfl, hb6⟩
  have B6 := belowT (B5) hb6
  go_wp2_with fail
  refine (Burst1.out _ (B6)).mono ?_; rintro e w7 ⟨rfl, hb7⟩
  have B7 := belowT (B6) hb7
  go_wp2_with fail
  refine (Burst2.out _ (B7)).mono ?_; rintro e w8 ⟨rfl, hb8⟩
  have B8 := belowT (B7) hb8
  go_wp2_with fail
  refine (AW.out _).mono ?_; rintro e w9 ⟨rfl, hb9⟩
  have B9 := belowT (B8) hb9
  go_wp2_with fail
  go_ret
  exact ⟨rfl, B9⟩

end Go.Proofs.Ytaipjhfgkidbfaa
