/- Layer 32's laws: their own examples, LadderSays. -/
import Derived.Test.YtmenicgoabmcmaaDoorLdNum
import Derived.Test.YtmenicgoabmcmaaDoorLdA
import Derived.Test.YtmenicgoabmcmaaDoorLdR
import Derived.Deep.RegionWith
import Derived.Deep.CutBlock
import Derived.Deep.CutRange
import Derived.BigRegion
namespace Go.Proofs.YtmenicgoabmcmaaDoor
open Go.RowKit Ld


/-- the landed table of names, as it is laid -/
def Ld.NamesAt (w : World) : Prop := ∀ i, i < 6 → w.cell? ⟨0, i, none⟩ = some (.string (nmN i))
theorem Ld.NamesAt.keep {w w' : World} (h : NamesAt w) (hb : Below w.heap.size w w') : NamesAt w' := fun i hi => keepc hb (h i hi)
set_option maxHeartbeats 16000000 in
set_option maxRecDepth 100000 in
theorem awake_core  (w : World)
    (MG : Hid (∀ w', Below w.heap.size w w' → Calls Tryd.prog 10 #[.agg #[.int .i64 6, .bool false, .int .i64 0, .int .i64 0, .bool false, .bool false]] w' fun e w'' => e = .returned (.int .i64 0) ∧ Below w'.heap.size w' w''))
    (MF : Hid (∀ w', Below w.heap.size w w' → Calls Tryd.prog 10 #[.agg #[.int .i64 5, .bool false, .int .i64 0, .int .i64 0, .bool false, .bool false]] w' fun e w'' => e = .returned (.int .i64 1) ∧ Below w'.heap.size w' w''))
    (MA : Hid (∀ w', Below w.heap.size w w' → Calls Tryd.prog 10 #[.agg #[.int .i64 6, .bool true, .int .i64 0, .int .i64 0, .bool false, .bool false]] w' fun e w'' => e = .returned (.int .i64 3) ∧ Below w'.heap.size w' w''))
    (MO : Hid (∀ w', Below w.heap.size w w' → Calls Tryd.prog 10 #[.agg #[.int .i64 6, .bool false, .int .i64 0, .int .i64 0, .bool true, .bool false]] w' fun e w'' => e = .returned (.int .i64 2) ∧ Below w'.heap.size w' w''))
    (M2 : Hid (∀ w', Below w.heap.size w w' → Calls Tryd.prog 10 #[.agg #[.int .i64 2, .bool false, .int .i64 0, .int .i64 0, .bool false, .bool false]] w' fun e w'' => e = .returned (.int .i64 5) ∧ Below w'.heap.size w' w''))
    (MN : Hid (∀ w', Below w.heap.size w w' → Calls Tryd.prog 10 #[.agg #[.int .i64 6, .bool false, .int .i64 0, .int .i64 0, .bool false, .bool true]] w' fun e w'' => e = .returned (.int .i64 5) ∧ Below w'.heap.size w' w''))
    (A1 : Hid (∀ w', Below w.heap.size w w' → Calls Tryd.prog 8 #[.int .i64 2, .int .i64 0] w' fun e w'' => e = .returned (.int .i64 2) ∧ Below w'.heap.size w' w''))
    (A2 : Hid (∀ w', Below w.heap.size w w' → Calls Tryd.prog 8 #[.int .i64 2, .int .i64 2] w' fun e w'' => e = .returned (.int .i64 4) ∧ Below w'.heap.size w' w''))
    (N3 : Hid (∀ w', Below w.heap.size w w' → Calls Tryd.prog 12 #[.int .i64 3] w' fun e w'' => e = .returned (.string ⟨#[65, 77, 66, 73, 71, 85, 79, 85, 83]⟩) ∧ Below w'.heap.size w' w''))
    (N6 : Hid (∀ w', Below w.heap.size w w' → Calls Tryd.prog 12 #[.int .i64 6] w' fun e w'' => e = .returned (.string ⟨#[]⟩) ∧ Below w'.heap.size w' w''))
    (W1 : Hid (∀ w', Below w.heap.size w w' → Calls Tryd.prog 14 #[.agg #[.int .i64 5, .bool false, .int .i64 0, .int .i64 0, .bool false, .bool false], .agg #[.int .i64 6, .bool false, .int .i64 0, .int .i64 0, .bool false, .bool false]] w' fun e w'' => e = .returned (.bool true) ∧ Below w'.heap.size w' w''))
    (W2 : Hid (∀ w', Below w.heap.size w w' → Calls Tryd.prog 14 #[.agg #[.int .i64 6, .bool false, .int .i64 0, .int .i64 0, .bool false, .bool false], .agg #[.int .i64 5, .bool false, .int .i64 0, .int .i64 0, .bool false, .bool false]] w' fun e w'' => e = .returned (.bool false) ∧ Below w'.heap.size w' w''))
    (G3 : Hid (∀ w', Below w.heap.size w w' → Calls Tryd.prog 6 #[.int .i64 3] w' fun e w'' => e = .returned (.int .i64 4) ∧ Below w'.heap.size w' w''))
    : Calls Tryd.prog 16 #[] w fun e w' => e = .returned (.bool true) ∧ Below w.heap.size w w' := by
  have hS1 := ((Sp.none w).more [.int .i64 6, .bool false, .int .i64 0, .int .i64 0, .bool false, .bool false] 23).more [.int .i64 5, .bool false, .int .i64 0, .int .i64 0, .bool false, .bool false] 23
  simp only [heap1] at hS1
  have HS1 := Lib.hid hS1
  clear hS1
  go_enter Tryd.func16, Tryd.ntmps16
  go_upto_region 3 with fail
  obtain ⟨w1, hX, hS⟩ := (HS1.out).named
  rw [← hX]
  clear hX HS1
  have HS2 := Lib.hid hS
  clear hS
  have k0_0 := (HS2.out).at 0 rfl 0 (v := .int .i64 6) rfl
  have k0_1 := (HS2.out).at 0 rfl 1 (v := .bool false) rfl
  have k0_2 := (HS2.out).at 0 rfl 2 (v := .int .i64 0) rfl
  have k0_3 := (HS2.out).at 0 rfl 3 (v := .int .i64 0) rfl
  have k0_4 := (HS2.out).at 0 rfl 4 (v := .bool false) rfl
  have k0_5 := (HS2.out).at 0 rfl 5 (v := .bool false) rfl
  have k1_0 := (HS2.out).at 1 rfl 0 (v := .int .i64 5) rfl
  have k1_1 := (HS2.out).at 1 rfl 1 (v := .bool false) rfl
  have k1_2 := (HS2.out).at 1 rfl 2 (v := .int .i64 0) rfl
  have k1_3 := (HS2.out).at 1 rfl 3 (v := .int .i64 0) rfl
  have k1_4 := (HS2.out).at 1 rfl 4 (v := .bool false) rfl
  have k1_5 := (HS2.out).at 1 rfl 5 (v := .bool false) rfl
  go_wp2_with fail
  refine (MG.out _ HS2.out.below).mono ?_; rintro e w2 ⟨rfl, hb2⟩
  have hS3 := (HS2.out).keep hb2
  have HS3 := Lib.hid hS3
  clear hS3 HS2
  clear hb2
  clear MG k0_0 k0_1 k0_2 k0_3 k0_4 k0_5 k1_0 k1_1 k1_2 k1_3 k1_4 k1_5
  have k0_0 := (HS3.out).at 0 rfl 0 (v := .int .i64 6) rfl
  have k0_1 := (HS3.out).at 0 rfl 1 (v := .bool false) rfl
  have k0_2 := (HS3.out).at 0 rfl 2 (v := .int .i64 0) rfl
  have k0_3 := (HS3.out).at 0 rfl 3 (v := .int .i64 0) rfl
  have k0_4 := (HS3.out).at 0 rfl 4 (v := .bool false) rfl
  have k0_5 := (HS3.out).at 0 rfl 5 (v := .bool false) rfl
  have k1_0 := (HS3.out).at 1 rfl 0 (v := .int .i64 5) rfl
  have k1_1 := (HS3.out).at 1 rfl 1 (v := .bool false) rfl
  have k1_2 := (HS3.out).at 1 rfl 2 (v := .int .i64 0) rfl
  have k1_3 := (HS3.out).at 1 rfl 3 (v := .int .i64 0) rfl
  have k1_4 := (HS3.out).at 1 rfl 4 (v := .bool false) rfl
  have k1_5 := (HS3.out).at 1 rfl 5 (v := .bool false) rfl
  go_wp2_with fail
  refine (MF.out _ HS3.out.below).mono ?_; rintro e w3 ⟨rfl, hb3⟩
  have hS4 := (HS3.out).keep hb3
  have HS4 := Lib.hid hS4
  clear hS4 HS3
  clear hb3
  clear MF k0_0 k0_1 k0_2 k0_3 k0_4 k0_5 k1_0 k1_1 k1_2 k1_3 k1_4 k1_5
  have k0_0 := (HS4.out).at 0 rfl 0 (v := .int .i64 6) rfl
  have k0_1 := (HS4.out).at 0 rfl 1 (v := .bool false) rfl
  have k0_2 := (HS4.out).at 0 rfl 2 (v := .int .i64 0) rfl
  have k0_3 := (HS4.out).at 0 rfl 3 (v := .int .i64 0) rfl
  have k0_4 := (HS4.out).at 0 rfl 4 (v := .bool false) rfl
  have k0_5 := (HS4.out).at 0 rfl 5 (v := .bool false) rfl
  have k1_0 := (HS4.out).at 1 rfl 0 (v := .int .i64 5) rfl
  have k1_1 := (HS4.out).at 1 rfl 1 (v := .bool false) rfl
  have k1_2 := (HS4.out).at 1 rfl 2 (v := .int .i64 0) rfl
  have k1_3 := (HS4.out).at 1 rfl 3 (v := .int .i64 0) rfl
  have k1_4 := (HS4.out).at 1 rfl 4 (v := .bool false) rfl
  have k1_5 := (HS4.out).at 1 rfl 5 (v := .bool false) rfl
  go_wp2_with fail
  refine (MA.out _ HS4.out.below).mono ?_; rintro e w4 ⟨rfl, hb4⟩
  have hS5 := (HS4.out).keep hb4
  have HS5 := Lib.hid hS5
  clear hS5 HS4
  clear hb4
  clear MA k0_0 k0_1 k0_2 k0_3 k0_4 k0_5 k1_0 k1_1 k1_2 k1_3 k1_4 k1_5
  have k0_0 := (HS5.out).at 0 rfl 0 (v := .int .i64 6) rfl
  have k0_1 := (HS5.out).at 0 rfl 1 (v := .bool false) rfl
  have k0_2 := (HS5.out).at 0 rfl 2 (v := .int .i64 0) rfl
  have k0_3 := (HS5.out).at 0 rfl 3 (v := .int .i64 0) rfl
  have k0_4 := (HS5.out).at 0 rfl 4 (v := .bool false) rfl
  have k0_5 := (HS5.out).at 0 rfl 5 (v := .bool false) rfl
  have k1_0 := (HS5.out).at 1 rfl 0 (v := .int .i64 5) rfl
  have k1_1 := (HS5.out).at 1 rfl 1 (v := .bool false) rfl
  have k1_2 := (HS5.out).at 1 rfl 2 (v := .int .i64 0) rfl
  have k1_3 := (HS5.out).at 1 rfl 3 (v := .int .i64 0) rfl
  have k1_4 := (HS5.out).at 1 rfl 4 (v := .bool false) rfl
  have k1_5 := (HS5.out).at 1 rfl 5 (v := .bool false) rfl
  go_wp2_with fail
  refine (MO.out _ HS5.out.below).mono ?_; rintro e w5 ⟨rfl, hb5⟩
  have hS6 := (HS5.out).keep hb5
  have HS6 := Lib.hid hS6
  clear hS6 HS5
  clear hb5
  clear MO k0_0 k0_1 k0_2 k0_3 k0_4 k0_5 k1_0 k1_1 k1_2 k1_3 k1_4 k1_5
  have k0_0 := (HS6.out).at 0 rfl 0 (v := .int .i64 6) rfl
  have k0_1 := (HS6.out).at 0 rfl 1 (v := .bool false) rfl
  have k0_2 := (HS6.out).at 0 rfl 2 (v := .int .i64 0) rfl
  have k0_3 := (HS6.out).at 0 rfl 3 (v := .int .i64 0) rfl
  have k0_4 := (HS6.out).at 0 rfl 4 (v := .bool false) rfl
  have k0_5 := (HS6.out).at 0 rfl 5 (v := .bool false) rfl
  have k1_0 := (HS6.out).at 1 rfl 0 (v := .int .i64 5) rfl
  have k1_1 := (HS6.out).at 1 rfl 1 (v := .bool false) rfl
  have k1_2 := (HS6.out).at 1 rfl 2 (v := .int .i64 0) rfl
  have k1_3 := (HS6.out).at 1 rfl 3 (v := .int .i64 0) rfl
  have k1_4 := (HS6.out).at 1 rfl 4 (v := .bool false) rfl
  have k1_5 := (HS6.out).at 1 rfl 5 (v := .bool false) rfl
  go_wp2_with fail
  refine (M2.out _ HS6.out.below).mono ?_; rintro e w6 ⟨rfl, hb6⟩
  have hS7 := (HS6.out).keep hb6
  have HS7 := Lib.hid hS7
  clear hS7 HS6
  clear hb6
  clear M2 k0_0 k0_1 k0_2 k0_3 k0_4 k0_5 k1_0 k1_1 k1_2 k1_3 k1_4 k1_5
  have k0_0 := (HS7.out).at 0 rfl 0 (v := .int .i64 6) rfl
  have k0_1 := (HS7.out).at 0 rfl 1 (v := .bool false) rfl
  have k0_2 := (HS7.out).at 0 rfl 2 (v := .int .i64 0) rfl
  have k0_3 := (HS7.out).at 0 rfl 3 (v := .int .i64 0) rfl
  have k0_4 := (HS7.out).at 0 rfl 4 (v := .bool false) rfl
  have k0_5 := (HS7.out).at 0 rfl 5 (v := .bool false) rfl
  have k1_0 := (HS7.out).at 1 rfl 0 (v := .int .i64 5) rfl
  have k1_1 := (HS7.out).at 1 rfl 1 (v := .bool false) rfl
  have k1_2 := (HS7.out).at 1 rfl 2 (v := .int .i64 0) rfl
  have k1_3 := (HS7.out).at 1 rfl 3 (v := .int .i64 0) rfl
  have k1_4 := (HS7.out).at 1 rfl 4 (v := .bool false) rfl
  have k1_5 := (HS7.out).at 1 rfl 5 (v := .bool false) rfl
  go_wp2_with fail
  refine (MN.out _ HS7.out.below).mono ?_; rintro e w7 ⟨rfl, hb7⟩
  have hS8 := (HS7.out).keep hb7
  have HS8 := Lib.hid hS8
  clear hS8 HS7
  clear hb7
  clear MN k0_0 k0_1 k0_2 k0_3 k0_4 k0_5 k1_0 k1_1 k1_2 k1_3 k1_4 k1_5
  have k0_0 := (HS8.out).at 0 rfl 0 (v := .int .i64 6) rfl
  have k0_1 := (HS8.out).at 0 rfl 1 (v := .bool false) rfl
  have k0_2 := (HS8.out).at 0 rfl 2 (v := .int .i64 0) rfl
  have k0_3 := (HS8.out).at 0 rfl 3 (v := .int .i64 0) rfl
  have k0_4 := (HS8.out).at 0 rfl 4 (v := .bool false) rfl
  have k0_5 := (HS8.out).at 0 rfl 5 (v := .bool false) rfl
  have k1_0 := (HS8.out).at 1 rfl 0 (v := .int .i64 5) rfl
  have k1_1 := (HS8.out).at 1 rfl 1 (v := .bool false) rfl
  have k1_2 := (HS8.out).at 1 rfl 2 (v := .int .i64 0) rfl
  have k1_3 := (HS8.out).at 1 rfl 3 (v := .int .i64 0) rfl
  have k1_4 := (HS8.out).at 1 rfl 4 (v := .bool false) rfl
  have k1_5 := (HS8.out).at 1 rfl 5 (v := .bool false) rfl
  go_wp2_with fail
  refine (A1.out _ HS8.out.below).mono ?_; rintro e w8 ⟨rfl, hb8⟩
  have hS9 := (HS8.out).keep hb8
  have HS9 := Lib.hid hS9
  clear hS9 HS8
  clear hb8
  clear A1 k0_0 k0_1 k0_2 k0_3 k0_4 k0_5 k1_0 k1_1 k1_2 k1_3 k1_4 k1_5
  have k0_0 := (HS9.out).at 0 rfl 0 (v := .int .i64 6) rfl
  have k0_1 := (HS9.out).at 0 rfl 1 (v := .bool false) rfl
  have k0_2 := (HS9.out).at 0 rfl 2 (v := .int .i64 0) rfl
  have k0_3 := (HS9.out).at 0 rfl 3 (v := .int .i64 0) rfl
  have k0_4 := (HS9.out).at 0 rfl 4 (v := .bool false) rfl
  have k0_5 := (HS9.out).at 0 rfl 5 (v := .bool false) rfl
  have k1_0 := (HS9.out).at 1 rfl 0 (v := .int .i64 5) rfl
  have k1_1 := (HS9.out).at 1 rfl 1 (v := .bool false) rfl
  have k1_2 := (HS9.out).at 1 rfl 2 (v := .int .i64 0) rfl
  have k1_3 := (HS9.out).at 1 rfl 3 (v := .int .i64 0) rfl
  have k1_4 := (HS9.out).at 1 rfl 4 (v := .bool false) rfl
  have k1_5 := (HS9.out).at 1 rfl 5 (v := .bool false) rfl
  go_wp2_with fail
  refine (A2.out _ HS9.out.below).mono ?_; rintro e w9 ⟨rfl, hb9⟩
  have hS10 := (HS9.out).keep hb9
  have HS10 := Lib.hid hS10
  clear hS10 HS9
  clear hb9
  clear A2 k0_0 k0_1 k0_2 k0_3 k0_4 k0_5 k1_0 k1_1 k1_2 k1_3 k1_4 k1_5
  have k0_0 := (HS10.out).at 0 rfl 0 (v := .int .i64 6) rfl
  have k0_1 := (HS10.out).at 0 rfl 1 (v := .bool false) rfl
  have k0_2 := (HS10.out).at 0 rfl 2 (v := .int .i64 0) rfl
  have k0_3 := (HS10.out).at 0 rfl 3 (v := .int .i64 0) rfl
  have k0_4 := (HS10.out).at 0 rfl 4 (v := .bool false) rfl
  have k0_5 := (HS10.out).at 0 rfl 5 (v := .bool false) rfl
  have k1_0 := (HS10.out).at 1 rfl 0 (v := .int .i64 5) rfl
  have k1_1 := (HS10.out).at 1 rfl 1 (v := .bool false) rfl
  have k1_2 := (HS10.out).at 1 rfl 2 (v := .int .i64 0) rfl
  have k1_3 := (HS10.out).at 1 rfl 3 (v := .int .i64 0) rfl
  have k1_4 := (HS10.out).at 1 rfl 4 (v := .bool false) rfl
  have k1_5 := (HS10.out).at 1 rfl 5 (v := .bool false) rfl
  go_wp2_with fail
  refine (N3.out _ HS10.out.below).mono ?_; rintro e w10 ⟨rfl, hb10⟩
  have hS11 := (HS10.out).keep hb10
  have HS11 := Lib.hid hS11
  clear hS11 HS10
  clear hb10
  clear N3 k0_0 k0_1 k0_2 k0_3 k0_4 k0_5 k1_0 k1_1 k1_2 k1_3 k1_4 k1_5
  have k0_0 := (HS11.out).at 0 rfl 0 (v := .int .i64 6) rfl
  have k0_1 := (HS11.out).at 0 rfl 1 (v := .bool false) rfl
  have k0_2 := (HS11.out).at 0 rfl 2 (v := .int .i64 0) rfl
  have k0_3 := (HS11.out).at 0 rfl 3 (v := .int .i64 0) rfl
  have k0_4 := (HS11.out).at 0 rfl 4 (v := .bool false) rfl
  have k0_5 := (HS11.out).at 0 rfl 5 (v := .bool false) rfl
  have k1_0 := (HS11.out).at 1 rfl 0 (v := .int .i64 5) rfl
  have k1_1 := (HS11.out).at 1 rfl 1 (v := .bool false) rfl
  have k1_2 := (HS11.out).at 1 rfl 2 (v := .int .i64 0) rfl
  have k1_3 := (HS11.out).at 1 rfl 3 (v := .int .i64 0) rfl
  have k1_4 := (HS11.out).at 1 rfl 4 (v := .bool false) rfl
  have k1_5 := (HS11.out).at 1 rfl 5 (v := .bool false) rfl
  go_wp2_with fail
  refine (N6.out _ HS11.out.below).mono ?_; rintro e w11 ⟨rfl, hb11⟩
  have hS12 := (HS11.out).keep hb11
  have HS12 := Lib.hid hS12
  clear hS12 HS11
  clear hb11
  clear N6 k0_0 k0_1 k0_2 k0_3 k0_4 k0_5 k1_0 k1_1 k1_2 k1_3 k1_4 k1_5
  have k0_0 := (HS12.out).at 0 rfl 0 (v := .int .i64 6) rfl
  have k0_1 := (HS12.out).at 0 rfl 1 (v := .bool false) rfl
  have k0_2 := (HS12.out).at 0 rfl 2 (v := .int .i64 0) rfl
  have k0_3 := (HS12.out).at 0 rfl 3 (v := .int .i64 0) rfl
  have k0_4 := (HS12.out).at 0 rfl 4 (v := .bool false) rfl
  have k0_5 := (HS12.out).at 0 rfl 5 (v := .bool false) rfl
  have k1_0 := (HS12.out).at 1 rfl 0 (v := .int .i64 5) rfl
  have k1_1 := (HS12.out).at 1 rfl 1 (v := .bool false) rfl
  have k1_2 := (HS12.out).at 1 rfl 2 (v := .int .i64 0) rfl
  have k1_3 := (HS12.out).at 1 rfl 3 (v := .int .i64 0) rfl
  have k1_4 := (HS12.out).at 1 rfl 4 (v := .bool false) rfl
  have k1_5 := (HS12.out).at 1 rfl 5 (v := .bool false) rfl
  go_wp2_with fail
  refine (W1.out _ HS12.out.below).mono ?_; rintro e w12 ⟨rfl, hb12⟩
  have hS13 := (HS12.out).keep hb12
  have HS13 := Lib.hid hS13
  clear hS13 HS12
  clear hb12
  clear W1 k0_0 k0_1 k0_2 k0_3 k0_4 k0_5 k1_0 k1_1 k1_2 k1_3 k1_4 k1_5
  have k0_0 := (HS13.out).at 0 rfl 0 (v := .int .i64 6) rfl
  have k0_1 := (HS13.out).at 0 rfl 1 (v := .bool false) rfl
  have k0_2 := (HS13.out).at 0 rfl 2 (v := .int .i64 0) rfl
  have k0_3 := (HS13.out).at 0 rfl 3 (v := .int .i64 0) rfl
  have k0_4 := (HS13.out).at 0 rfl 4 (v := .bool false) rfl
  have k0_5 := (HS13.out).at 0 rfl 5 (v := .bool false) rfl
  have k1_0 := (HS13.out).at 1 rfl 0 (v := .int .i64 5) rfl
  have k1_1 := (HS13.out).at 1 rfl 1 (v := .bool false) rfl
  have k1_2 := (HS13.out).at 1 rfl 2 (v := .int .i64 0) rfl
  have k1_3 := (HS13.out).at 1 rfl 3 (v := .int .i64 0) rfl
  have k1_4 := (HS13.out).at 1 rfl 4 (v := .bool false) rfl
  have k1_5 := (HS13.out).at 1 rfl 5 (v := .bool false) rfl
  go_wp2_with fail
  refine (W2.out _ HS13.out.below).mono ?_; rintro e w13 ⟨rfl, hb13⟩
  have hS14 := (HS13.out).keep hb13
  have HS14 := Lib.hid hS14
  clear hS14 HS13
  clear hb13
  clear W2 k0_0 k0_1 k0_2 k0_3 k0_4 k0_5 k1_0 k1_1 k1_2 k1_3 k1_4 k1_5
  have k0_0 := (HS14.out).at 0 rfl 0 (v := .int .i64 6) rfl
  have k0_1 := (HS14.out).at 0 rfl 1 (v := .bool false) rfl
  have k0_2 := (HS14.out).at 0 rfl 2 (v := .int .i64 0) rfl
  have k0_3 := (HS14.out).at 0 rfl 3 (v := .int .i64 0) rfl
  have k0_4 := (HS14.out).at 0 rfl 4 (v := .bool false) rfl
  have k0_5 := (HS14.out).at 0 rfl 5 (v := .bool false) rfl
  have k1_0 := (HS14.out).at 1 rfl 0 (v := .int .i64 5) rfl
  have k1_1 := (HS14.out).at 1 rfl 1 (v := .bool false) rfl
  have k1_2 := (HS14.out).at 1 rfl 2 (v := .int .i64 0) rfl
  have k1_3 := (HS14.out).at 1 rfl 3 (v := .int .i64 0) rfl
  have k1_4 := (HS14.out).at 1 rfl 4 (v := .bool false) rfl
  have k1_5 := (HS14.out).at 1 rfl 5 (v := .bool false) rfl
  go_wp2_with fail
  refine (G3.out _ HS14.out.below).mono ?_; rintro e w14 ⟨rfl, hb14⟩
  have hS15 := (HS14.out).keep hb14
  have HS15 := Lib.hid hS15
  clear hS15 HS14
  clear hb14
  clear G3 k0_0 k0_1 k0_2 k0_3 k0_4 k0_5 k1_0 k1_1 k1_2 k1_3 k1_4 k1_5
  have BH := Lib.hid HS15.out.below
  go_wp2_with fail
  exact bodyPost_ret (v := .bool true) (by simp [results, Tryd.results16, go_sem, *]) rfl ⟨rfl, BH.out⟩
theorem awake_any (w : World) (N : NamesAt w) : Calls Tryd.prog 16 #[] w fun e w' => e = .returned (.bool true) ∧ Below w.heap.size w w' :=
  awake_core w (Lib.hid fun w' _ => Mode_any ⟨6, false, 0, 0, false, false⟩ w') (Lib.hid fun w' _ => Mode_any ⟨5, false, 0, 0, false, false⟩ w') (Lib.hid fun w' _ => Mode_any ⟨6, true, 0, 0, false, false⟩ w') (Lib.hid fun w' _ => Mode_any ⟨6, false, 0, 0, true, false⟩ w') (Lib.hid fun w' _ => Mode_any ⟨2, false, 0, 0, false, false⟩ w') (Lib.hid fun w' _ => Mode_any ⟨6, false, 0, 0, false, true⟩ w') (Lib.hid fun w' _ => Air_any _ _ w') (Lib.hid fun w' _ => Air_any _ _ w') (Lib.hid fun w' B => Name_any _ w' (Lib.hid (N.keep B))) (Lib.hid fun w' B => Name_any _ w' (Lib.hid (N.keep B))) (Lib.hid fun w' _ => Worse_any ⟨5, false, 0, 0, false, false⟩ ⟨6, false, 0, 0, false, false⟩ w') (Lib.hid fun w' _ => Worse_any ⟨6, false, 0, 0, false, false⟩ ⟨5, false, 0, 0, false, false⟩ w') (Lib.hid fun w' _ => Gyros_any _ w')

/-- The operations of a drawn region, as the translation has them. -/
def ldsay1 : Array Oper := #[
  { dst := some 7, op := .indexAddr 24 (.tmp 5) (.const (.int .i64 0)), type := 0, pos := "law.go:18", after := #[], guard := none },
  { dst := some 8, op := .load 3 (.tmp 7), type := 3, pos := "law.go:18", after := #[{ on := 0, ground := .data }], guard := none },
  { dst := some 9, op := .call { callee := .value (.func 6), args := #[.tmp 8], argTypes := #[3] }, type := 3, pos := "law.go:18", after := #[{ on := 1, ground := .data }], guard := none },
  { dst := some 10, op := .indexAddr 24 (.tmp 5) (.const (.int .i64 0)), type := 0, pos := "law.go:18", after := #[], guard := none },
  { dst := some 11, op := .load 3 (.tmp 10), type := 3, pos := "law.go:18", after := #[{ on := 3, ground := .data }], guard := none },
  { dst := some 12, op := .call { callee := .value (.func 7), args := #[.tmp 11], argTypes := #[3] }, type := 3, pos := "law.go:18", after := #[{ on := 4, ground := .data }, { on := 2, ground := .chain }], guard := none },
  { dst := some 13, op := .binOp .eql 3 (.tmp 9) (.tmp 12) 3, type := 4, pos := "law.go:18", after := #[{ on := 2, ground := .data }, { on := 5, ground := .data }], guard := none },
  { dst := some 14, op := .move (.tmp 13), type := 4, pos := "law.go:18", after := #[{ on := 6, ground := .data }, { on := 5, ground := .chain }], guard := none },
  { dst := some 15, op := .indexAddr 24 (.tmp 5) (.const (.int .i64 0)), type := 0, pos := "law.go:18", after := #[{ on := 7, ground := .guard }], guard := some (7, true) },
  { dst := some 16, op := .load 3 (.tmp 15), type := 3, pos := "law.go:18", after := #[{ on := 8, ground := .data }, { on := 7, ground := .guard }], guard := some (7, true) },
  { dst := some 17, op := .indexAddr 24 (.tmp 5) (.const (.int .i64 1)), type := 0, pos := "law.go:18", after := #[{ on := 7, ground := .guard }], guard := some (7, true) },
  { dst := some 18, op := .load 3 (.tmp 17), type := 3, pos := "law.go:18", after := #[{ on := 10, ground := .data }, { on := 7, ground := .guard }], guard := some (7, true) },
  { dst := some 19, op := .call { callee := .value (.func 8), args := #[.tmp 16, .tmp 18], argTypes := #[3, 3] }, type := 3, pos := "law.go:18", after := #[{ on := 9, ground := .data }, { on := 11, ground := .data }, { on := 7, ground := .chain }, { on := 7, ground := .guard }], guard := some (7, true) },
  { dst := some 20, op := .indexAddr 24 (.tmp 5) (.const (.int .i64 0)), type := 0, pos := "law.go:18", after := #[{ on := 7, ground := .guard }], guard := some (7, true) },
  { dst := some 21, op := .load 3 (.tmp 20), type := 3, pos := "law.go:18", after := #[{ on := 13, ground := .data }, { on := 7, ground := .guard }], guard := some (7, true) },
  { dst := some 22, op := .indexAddr 24 (.tmp 5) (.const (.int .i64 1)), type := 0, pos := "law.go:18", after := #[{ on := 7, ground := .guard }], guard := some (7, true) },
  { dst := some 23, op := .load 3 (.tmp 22), type := 3, pos := "law.go:18", after := #[{ on := 15, ground := .data }, { on := 7, ground := .guard }], guard := some (7, true) },
  { dst := some 24, op := .call { callee := .value (.func 9), args := #[.tmp 21, .tmp 23], argTypes := #[3, 3] }, type := 3, pos := "law.go:18", after := #[{ on := 14, ground := .data }, { on := 16, ground := .data }, { on := 12, ground := .chain }, { on := 7, ground := .guard }], guard := some (7, true) },
  { dst := some 25, op := .binOp .eql 3 (.tmp 19) (.tmp 24) 3, type := 4, pos := "law.go:18", after := #[{ on := 12, ground := .data }, { on := 17, ground := .data }, { on := 7, ground := .guard }], guard := some (7, true) },
  { dst := some 26, op := .pick (.tmp 14) (.tmp 25) (.const (.bool false)), type := 4, pos := "law.go:18", after := #[{ on := 7, ground := .data }, { on := 18, ground := .data }], guard := none },
  { dst := some 27, op := .move (.tmp 26), type := 4, pos := "law.go:18", after := #[{ on := 19, ground := .data }, { on := 17, ground := .chain }], guard := none },
  { dst := some 28, op := .load 23 (.tmp 3), type := 23, pos := "law.go:18", after := #[{ on := 20, ground := .guard }], guard := some (20, true) },
  { dst := some 29, op := .call { callee := .value (.func 10), args := #[.tmp 28], argTypes := #[23] }, type := 3, pos := "law.go:18", after := #[{ on := 21, ground := .data }, { on := 20, ground := .chain }, { on := 20, ground := .guard }], guard := some (20, true) },
  { dst := some 30, op := .load 23 (.tmp 3), type := 23, pos := "law.go:18", after := #[{ on := 20, ground := .guard }], guard := some (20, true) },
  { dst := some 31, op := .call { callee := .value (.func 11), args := #[.tmp 30], argTypes := #[23] }, type := 3, pos := "law.go:18", after := #[{ on := 23, ground := .data }, { on := 22, ground := .chain }, { on := 20, ground := .guard }], guard := some (20, true) },
  { dst := some 32, op := .binOp .eql 3 (.tmp 29) (.tmp 31) 3, type := 4, pos := "law.go:18", after := #[{ on := 22, ground := .data }, { on := 24, ground := .data }, { on := 20, ground := .guard }], guard := some (20, true) },
  { dst := some 33, op := .pick (.tmp 27) (.tmp 32) (.const (.bool false)), type := 4, pos := "law.go:18", after := #[{ on := 20, ground := .data }, { on := 25, ground := .data }], guard := none },
  { dst := some 34, op := .move (.tmp 33), type := 4, pos := "law.go:18", after := #[{ on := 26, ground := .data }, { on := 24, ground := .chain }], guard := none },
  { dst := some 35, op := .indexAddr 24 (.tmp 5) (.const (.int .i64 1)), type := 0, pos := "law.go:18", after := #[{ on := 27, ground := .guard }], guard := some (27, true) },
  { dst := some 36, op := .load 3 (.tmp 35), type := 3, pos := "law.go:18", after := #[{ on := 28, ground := .data }, { on := 27, ground := .guard }], guard := some (27, true) },
  { dst := some 37, op := .call { callee := .value (.func 12), args := #[.tmp 36], argTypes := #[3] }, type := 9, pos := "law.go:18", after := #[{ on := 29, ground := .data }, { on := 27, ground := .chain }, { on := 27, ground := .guard }], guard := some (27, true) },
  { dst := some 38, op := .indexAddr 24 (.tmp 5) (.const (.int .i64 1)), type := 0, pos := "law.go:18", after := #[{ on := 27, ground := .guard }], guard := some (27, true) },
  { dst := some 39, op := .load 3 (.tmp 38), type := 3, pos := "law.go:18", after := #[{ on := 31, ground := .data }, { on := 27, ground := .guard }], guard := some (27, true) },
  { dst := some 40, op := .call { callee := .value (.func 13), args := #[.tmp 39], argTypes := #[3] }, type := 9, pos := "law.go:18", after := #[{ on := 32, ground := .data }, { on := 30, ground := .chain }, { on := 27, ground := .guard }], guard := some (27, true) },
  { dst := some 41, op := .binOp .eql 9 (.tmp 37) (.tmp 40) 9, type := 4, pos := "law.go:18", after := #[{ on := 30, ground := .data }, { on := 33, ground := .data }, { on := 27, ground := .guard }], guard := some (27, true) },
  { dst := some 42, op := .pick (.tmp 34) (.tmp 41) (.const (.bool false)), type := 4, pos := "law.go:18", after := #[{ on := 27, ground := .data }, { on := 34, ground := .data }], guard := none },
  { dst := some 43, op := .move (.tmp 42), type := 4, pos := "law.go:18", after := #[{ on := 35, ground := .data }, { on := 33, ground := .chain }], guard := none },
  { dst := some 44, op := .load 23 (.tmp 3), type := 23, pos := "law.go:18", after := #[{ on := 36, ground := .guard }], guard := some (36, true) },
  { dst := some 45, op := .load 23 (.tmp 4), type := 23, pos := "law.go:18", after := #[{ on := 36, ground := .guard }], guard := some (36, true) },
  { dst := some 46, op := .call { callee := .value (.func 14), args := #[.tmp 44, .tmp 45], argTypes := #[23, 23] }, type := 4, pos := "law.go:18", after := #[{ on := 37, ground := .data }, { on := 38, ground := .data }, { on := 36, ground := .chain }, { on := 36, ground := .guard }], guard := some (36, true) },
  { dst := some 47, op := .load 23 (.tmp 3), type := 23, pos := "law.go:18", after := #[{ on := 36, ground := .guard }], guard := some (36, true) },
  { dst := some 48, op := .load 23 (.tmp 4), type := 23, pos := "law.go:18", after := #[{ on := 36, ground := .guard }], guard := some (36, true) },
  { dst := some 49, op := .call { callee := .value (.func 15), args := #[.tmp 47, .tmp 48], argTypes := #[23, 23] }, type := 4, pos := "law.go:18", after := #[{ on := 40, ground := .data }, { on := 41, ground := .data }, { on := 39, ground := .chain }, { on := 36, ground := .guard }], guard := some (36, true) },
  { dst := some 50, op := .binOp .eql 4 (.tmp 46) (.tmp 49) 4, type := 4, pos := "law.go:18", after := #[{ on := 39, ground := .data }, { on := 42, ground := .data }, { on := 36, ground := .guard }], guard := some (36, true) },
  { dst := some 51, op := .pick (.tmp 43) (.tmp 50) (.const (.bool false)), type := 4, pos := "law.go:18", after := #[{ on := 36, ground := .data }, { on := 43, ground := .data }], guard := none },
  { dst := some 52, op := .move (.tmp 51), type := 4, pos := "law.go:18", after := #[{ on := 44, ground := .data }, { on := 42, ground := .chain }], guard := none },
  { dst := some 53, op := .call { callee := .value (.func 16), args := #[], argTypes := #[] }, type := 4, pos := "law.go:18", after := #[{ on := 45, ground := .chain }, { on := 45, ground := .guard }], guard := some (45, true) },
  { dst := some 54, op := .pick (.tmp 52) (.tmp 53) (.const (.bool false)), type := 4, pos := "law.go:18", after := #[{ on := 45, ground := .data }, { on := 46, ground := .data }], guard := none },
  { dst := some 6, op := .assign (.tmp 54), type := 4, pos := "law.go:18", after := #[{ on := 47, ground := .data }, { on := 46, ground := .chain }, { on := 0, ground := .phase }, { on := 1, ground := .phase }, { on := 2, ground := .phase }, { on := 3, ground := .phase }, { on := 4, ground := .phase }, { on := 5, ground := .phase }, { on := 6, ground := .phase }, { on := 7, ground := .phase }, { on := 8, ground := .phase }, { on := 9, ground := .phase }, { on := 10, ground := .phase }, { on := 11, ground := .phase }, { on := 12, ground := .phase }, { on := 13, ground := .phase }, { on := 14, ground := .phase }, { on := 15, ground := .phase }, { on := 16, ground := .phase }, { on := 17, ground := .phase }, { on := 18, ground := .phase }, { on := 19, ground := .phase }, { on := 20, ground := .phase }, { on := 21, ground := .phase }, { on := 22, ground := .phase }, { on := 23, ground := .phase }, { on := 24, ground := .phase }, { on := 25, ground := .phase }, { on := 26, ground := .phase }, { on := 27, ground := .phase }, { on := 28, ground := .phase }, { on := 29, ground := .phase }, { on := 30, ground := .phase }, { on := 31, ground := .phase }, { on := 32, ground := .phase }, { on := 33, ground := .phase }, { on := 34, ground := .phase }, { on := 35, ground := .phase }, { on := 36, ground := .phase }, { on := 37, ground := .phase }, { on := 38, ground := .phase }, { on := 39, ground := .phase }, { on := 40, ground := .phase }, { on := 41, ground := .phase }, { on := 42, ground := .phase }, { on := 43, ground := .phase }, { on := 44, ground := .phase }, { on := 45, ground := .phase }, { on := 46, ground := .phase }, { on := 47, ground := .phase }], guard := none }]
theorem ldsay1_plain : Region.noSelect ldsay1 = true := by kernel_rfl

set_option maxHeartbeats 40000000 in
set_option maxRecDepth 100000 in
theorem Says32_core (a b : La) (x y g v m : Int) (s : ByteArray) (d : Bool) (w : World)
    (GY : Hid (∀ w', Below w.heap.size w w' → Calls Tryd.prog 6 #[.int .i64 x] w' fun e w'' => e = .returned (.int .i64 g) ∧ Below w'.heap.size w' w''))
    (AI : Hid (∀ w', Below w.heap.size w w' → Calls Tryd.prog 8 #[.int .i64 x, .int .i64 y] w' fun e w'' => e = .returned (.int .i64 v) ∧ Below w'.heap.size w' w''))
    (MO : Hid (∀ w', Below w.heap.size w w' → Calls Tryd.prog 10 #[lv a] w' fun e w'' => e = .returned (.int .i64 m) ∧ Below w'.heap.size w' w''))
    (NA : Hid (∀ w', Below w.heap.size w w' → Calls Tryd.prog 12 #[.int .i64 y] w' fun e w'' => e = .returned (.string s) ∧ Below w'.heap.size w' w''))
    (WO : Hid (∀ w', Below w.heap.size w w' → Calls Tryd.prog 14 #[lv a, lv b] w' fun e w'' => e = .returned (.bool d) ∧ Below w'.heap.size w' w''))
    (GY' : Hid (∀ w', Below w.heap.size w w' → Calls Tryd.prog 7 #[.int .i64 x] w' fun e w'' => e = .returned (.int .i64 g) ∧ Below w'.heap.size w' w''))
    (AI' : Hid (∀ w', Below w.heap.size w w' → Calls Tryd.prog 9 #[.int .i64 x, .int .i64 y] w' fun e w'' => e = .returned (.int .i64 v) ∧ Below w'.heap.size w' w''))
    (MO' : Hid (∀ w', Below w.heap.size w w' → Calls Tryd.prog 11 #[lv a] w' fun e w'' => e = .returned (.int .i64 m) ∧ Below w'.heap.size w' w''))
    (NA' : Hid (∀ w', Below w.heap.size w w' → Calls Tryd.prog 13 #[.int .i64 y] w' fun e w'' => e = .returned (.string s) ∧ Below w'.heap.size w' w''))
    (WO' : Hid (∀ w', Below w.heap.size w w' → Calls Tryd.prog 15 #[lv a, lv b] w' fun e w'' => e = .returned (.bool d) ∧ Below w'.heap.size w' w''))
    (AW : Hid (∀ w', Below w.heap.size w w' → Calls Tryd.prog 16 #[] w' fun e w'' => e = .returned (.bool true) ∧ Below w'.heap.size w' w''))
    : Calls Tryd.prog 3 #[lv a, lv b, .agg #[.int .i64 x, .int .i64 y]] w fun e w' => e = .returned (.bool true) ∧ Below w.heap.size w w' := by
  have hS1 := (((Sp.none w).more [.int .i64 a.u, .bool a.am, .int .i64 a.al, .int .i64 a.sp, .bool a.fo, .bool a.no] 23).more [.int .i64 b.u, .bool b.am, .int .i64 b.al, .int .i64 b.sp, .bool b.fo, .bool b.no] 23).more [.int .i64 x, .int .i64 y] 24
  simp only [heap1] at hS1
  have HS1 := Lib.hid hS1
  clear hS1
  go_enter Tryd.func3, Tryd.ntmps3
  go_upto_region 1 with fail
  obtain ⟨w1, hX, hS⟩ := (HS1.out).named
  rw [← hX]
  clear hX HS1
  have HS2 := Lib.hid hS
  clear hS
  obtain ⟨bs1, hbs⟩ : ∃ bs : List (Nat × List (Option Value)), bs = [(w.heap.size, [some (.int .i64 a.u), some (.bool a.am), some (.int .i64 a.al), some (.int .i64 a.sp), some (.bool a.fo), some (.bool a.no)]), (w.heap.size + 1, [some (.int .i64 b.u), some (.bool b.am), some (.int .i64 b.al), some (.int .i64 b.sp), some (.bool b.fo), some (.bool b.no)]), (w.heap.size + 1 + 1, [some (.int .i64 x), some (.int .i64 y)])] := ⟨_, rfl⟩
  have hT := (HS2.out).cast hbs
  have c0_0 : ∀ w', Sp w bs1 w' → w'.cell? ⟨w.heap.size, 0, none⟩ = some (.int .i64 a.u) := by rw [hbs]; exact fun w' h => h.at 0 rfl 0 rfl
  have c0_1 : ∀ w', Sp w bs1 w' → w'.cell? ⟨w.heap.size, 1, none⟩ = some (.bool a.am) := by rw [hbs]; exact fun w' h => h.at 0 rfl 1 rfl
  have c0_2 : ∀ w', Sp w bs1 w' → w'.cell? ⟨w.heap.size, 2, none⟩ = some (.int .i64 a.al) := by rw [hbs]; exact fun w' h => h.at 0 rfl 2 rfl
  have c0_3 : ∀ w', Sp w bs1 w' → w'.cell? ⟨w.heap.size, 3, none⟩ = some (.int .i64 a.sp) := by rw [hbs]; exact fun w' h => h.at 0 rfl 3 rfl
  have c0_4 : ∀ w', Sp w bs1 w' → w'.cell? ⟨w.heap.size, 4, none⟩ = some (.bool a.fo) := by rw [hbs]; exact fun w' h => h.at 0 rfl 4 rfl
  have c0_5 : ∀ w', Sp w bs1 w' → w'.cell? ⟨w.heap.size, 5, none⟩ = some (.bool a.no) := by rw [hbs]; exact fun w' h => h.at 0 rfl 5 rfl
  have c1_0 : ∀ w', Sp w bs1 w' → w'.cell? ⟨w.heap.size + 1, 0, none⟩ = some (.int .i64 b.u) := by rw [hbs]; exact fun w' h => h.at 1 rfl 0 rfl
  have c1_1 : ∀ w', Sp w bs1 w' → w'.cell? ⟨w.heap.size + 1, 1, none⟩ = some (.bool b.am) := by rw [hbs]; exact fun w' h => h.at 1 rfl 1 rfl
  have c1_2 : ∀ w', Sp w bs1 w' → w'.cell? ⟨w.heap.size + 1, 2, none⟩ = some (.int .i64 b.al) := by rw [hbs]; exact fun w' h => h.at 1 rfl 2 rfl
  have c1_3 : ∀ w', Sp w bs1 w' → w'.cell? ⟨w.heap.size + 1, 3, none⟩ = some (.int .i64 b.sp) := by rw [hbs]; exact fun w' h => h.at 1 rfl 3 rfl
  have c1_4 : ∀ w', Sp w bs1 w' → w'.cell? ⟨w.heap.size + 1, 4, none⟩ = some (.bool b.fo) := by rw [hbs]; exact fun w' h => h.at 1 rfl 4 rfl
  have c1_5 : ∀ w', Sp w bs1 w' → w'.cell? ⟨w.heap.size + 1, 5, none⟩ = some (.bool b.no) := by rw [hbs]; exact fun w' h => h.at 1 rfl 5 rfl
  have c2_0 : ∀ w', Sp w bs1 w' → w'.cell? ⟨w.heap.size + 1 + 1, 0, none⟩ = some (.int .i64 x) := by rw [hbs]; exact fun w' h => h.at 2 rfl 0 rfl
  have c2_1 : ∀ w', Sp w bs1 w' → w'.cell? ⟨w.heap.size + 1 + 1, 1, none⟩ = some (.int .i64 y) := by rw [hbs]; exact fun w' h => h.at 2 rfl 1 rfl
  have nx : ∀ w', Sp w bs1 w' → Sp w [(w.heap.size, [some (.int .i64 a.u), some (.bool a.am), some (.int .i64 a.al), some (.int .i64 a.sp), some (.bool a.fo), some (.bool a.no)]), (w.heap.size + 1, [some (.int .i64 b.u), some (.bool b.am), some (.int .i64 b.al), some (.int .i64 b.sp), some (.bool b.fo), some (.bool b.no)]), (w.heap.size + 1 + 1, [some (.int .i64 x), some (.int .i64 y)])] w' := by rw [hbs]; exact fun w' h => h
  have kS : ∀ w1 w2, Sp w bs1 w1 → Below w1.heap.size w1 w2 → Sp w bs1 w2 := fun _ _ h hb => h.keep hb
  clear hbs HS2
  try simp only [List.append_eq, List.cons_append, List.nil_append]
  change (Code.region 1 ldsay1 true).wp Tryd.prog _ _ _
  refine wp_region_noPanic ?_
  refine wp_region_held_drew (S := (Sp w bs1)) (by kernel_rfl) (hT.drew) (fun hHeld => ?_)
  refine wpAnyH_take (i := 0) (oi := ({ dst := some 7, op := .indexAddr 24 (.tmp 5) (.const (.int .i64 0)), type := 0, pos := "law.go:18", after := #[], guard := none } : Oper)) (v := ?vs1_0) rfl ldsay1_plain (by as_aux_lemma => kernel_rfl) (by as_aux_lemma => kernel_rfl) (fun _ _ _ h => h) (Or.inl ⟨by rfl, ?ys1_0⟩) (by assumption) ?rs1_0
  case ys1_0 => (intro w hSw; (try dsimp only at hSw); go_simp; try with_reducible rfl)
  try simp only [Act.put, List.setIfInBounds_toArray, List.set_cons_zero, List.set_cons_succ]
  refine wpAnyH_take (i := 1) (oi := ({ dst := some 8, op := .load 3 (.tmp 7), type := 3, pos := "law.go:18", after := #[{ on := 0, ground := .data }], guard := none } : Oper)) (v := ?vs1_1) rfl ldsay1_plain (by as_aux_lemma => kernel_rfl) (by as_aux_lemma => kernel_rfl) (fun _ _ _ h => h) (Or.inl ⟨by rfl, ?ys1_1⟩) (by assumption) ?rs1_1
  case ys1_1 => (intro w hSw; (try dsimp only at hSw); go_simp; try with_reducible rfl)
  try simp only [Act.put, List.setIfInBounds_toArray, List.set_cons_zero, List.set_cons_succ]
  refine wpAnyH_take (i := 3) (oi := ({ dst := some 10, op := .indexAddr 24 (.tmp 5) (.const (.int .i64 0)), type := 0, pos := "law.go:18", after := #[], guard := none } : Oper)) (v := ?vs1_3) rfl ldsay1_plain (by as_aux_lemma => kernel_rfl) (by as_aux_lemma => kernel_rfl) (fun _ _ _ h => h) (Or.inl ⟨by rfl, ?ys1_3⟩) (by assumption) ?rs1_3
  case ys1_3 => (intro w hSw; (try dsimp only at hSw); go_simp; try with_reducible rfl)
  try simp only [Act.put, List.setIfInBounds_toArray, List.set_cons_zero, List.set_cons_succ]
  refine wpAnyH_take (i := 4) (oi := ({ dst := some 11, op := .load 3 (.tmp 10), type := 3, pos := "law.go:18", after := #[{ on := 3, ground := .data }], guard := none } : Oper)) (v := ?vs1_4) rfl ldsay1_plain (by as_aux_lemma => kernel_rfl) (by as_aux_lemma => kernel_rfl) (fun _ _ _ h => h) (Or.inl ⟨by rfl, ?ys1_4⟩) (by assumption) ?rs1_4
  case ys1_4 => (intro w hSw; (try dsimp only at hSw); go_simp; try with_reducible rfl)
  try simp only [Act.put, List.setIfInBounds_toArray, List.set_cons_zero, List.set_cons_succ]
  refine wpAnyH_ready (rs := [2]) (by as_aux_lemma => kernel_rfl) (by simp) ?_
  refine AllReadyH.cons (o := ({ dst := some 9, op := .call { callee := .value (.func 6), args := #[.tmp 8], argTypes := #[3] }, type := 3, pos := "law.go:18", after := #[{ on := 1, ground := .data }], guard := none } : Oper)) rfl (fun KK hK => ?_) AllReadyH.nil
  rw [if_pos (by rfl)]
  go_simp
  go_at_call 6; refine (GY.out _ (Sp.below (by assumption))).mono ?_; rintro e w2 ⟨rfl, hb2⟩
  go_wp2_with fail
  refine hK.out _ _ ?_ (fun hHeld2 => ?_)
  · exact kS _ _ (by assumption) hb2
  clear hK KK hb2
  try simp only [Act.put, List.setIfInBounds_toArray, List.set_cons_zero, List.set_cons_succ]
  refine wpAnyH_ready (rs := [5]) (by as_aux_lemma => kernel_rfl) (by simp) ?_
  refine AllReadyH.cons (o := ({ dst := some 12, op := .call { callee := .value (.func 7), args := #[.tmp 11], argTypes := #[3] }, type := 3, pos := "law.go:18", after := #[{ on := 4, ground := .data }, { on := 2, ground := .chain }], guard := none } : Oper)) rfl (fun KK hK => ?_) AllReadyH.nil
  rw [if_pos (by rfl)]
  go_simp
  go_at_call 7; refine (GY'.out _ (Sp.below (by assumption))).mono ?_; rintro e w3 ⟨rfl, hb3⟩
  go_wp2_with fail
  refine hK.out _ _ ?_ (fun hHeld3 => ?_)
  · exact kS _ _ (by assumption) hb3
  clear hK KK hb3 hHeld2
  try simp only [Act.put, List.setIfInBounds_toArray, List.set_cons_zero, List.set_cons_succ]
  refine wpAnyH_take (i := 6) (oi := ({ dst := some 13, op := .binOp .eql 3 (.tmp 9) (.tmp 12) 3, type := 4, pos := "law.go:18", after := #[{ on := 2, ground := .data }, { on := 5, ground := .data }], guard := none } : Oper)) (v := ?vs1_6) rfl ldsay1_plain (by as_aux_lemma => kernel_rfl) (by as_aux_lemma => kernel_rfl) (fun _ _ _ h => h) (Or.inl ⟨by rfl, ?ys1_6⟩) (by assumption) ?rs1_6
  case ys1_6 => (intro w hSw; (try dsimp only at hSw); go_simp; try with_reducible rfl)
  try simp only [Act.put, List.setIfInBounds_toArray, List.set_cons_zero, List.set_cons_succ]
  refine wpAnyH_take (i := 7) (oi := ({ dst := some 14, op := .move (.tmp 13), type := 4, pos := "law.go:18", after := #[{ on := 6, ground := .data }, { on := 5, ground := .chain }], guard := none } : Oper)) (v := ?vs1_7) rfl ldsay1_plain (by as_aux_lemma => kernel_rfl) (by as_aux_lemma => kernel_rfl) (fun _ _ _ h => h) (Or.inl ⟨by rfl, ?ys1_7⟩) (by assumption) ?rs1_7
  case ys1_7 => (intro w hSw; (try dsimp only at hSw); go_simp; try with_reducible rfl)
  try simp only [Act.put, List.setIfInBounds_toArray, List.set_cons_zero, List.set_cons_succ]
  refine wpAnyH_take (i := 8) (oi := ({ dst := some 15, op := .indexAddr 24 (.tmp 5) (.const (.int .i64 0)), type := 0, pos := "law.go:18", after := #[{ on := 7, ground := .guard }], guard := some (7, true) } : Oper)) (v := ?vs1_8) rfl ldsay1_plain (by as_aux_lemma => kernel_rfl) (by as_aux_lemma => kernel_rfl) (fun _ _ _ h => h) (Or.inl ⟨by rfl, ?ys1_8⟩) (by assumption) ?rs1_8
  case ys1_8 => (intro w hSw; (try dsimp only at hSw); go_simp; try with_reducible rfl)
  try simp only [Act.put, List.setIfInBounds_toArray, List.set_cons_zero, List.set_cons_succ]
  refine wpAnyH_take (i := 9) (oi := ({ dst := some 16, op := .load 3 (.tmp 15), type := 3, pos := "law.go:18", after := #[{ on := 8, ground := .data }, { on := 7, ground := .guard }], guard := some (7, true) } : Oper)) (v := ?vs1_9) rfl ldsay1_plain (by as_aux_lemma => kernel_rfl) (by as_aux_lemma => kernel_rfl) (fun _ _ _ h => h) (Or.inl ⟨by rfl, ?ys1_9⟩) (by assumption) ?rs1_9
  case ys1_9 => (intro w hSw; (try dsimp only at hSw); go_simp; try with_reducible rfl)
  try simp only [Act.put, List.setIfInBounds_toArray, List.set_cons_zero, List.set_cons_succ]
  refine wpAnyH_take (i := 10) (oi := ({ dst := some 17, op := .indexAddr 24 (.tmp 5) (.const (.int .i64 1)), type := 0, pos := "law.go:18", after := #[{ on := 7, ground := .guard }], guard := some (7, true) } : Oper)) (v := ?vs1_10) rfl ldsay1_plain (by as_aux_lemma => kernel_rfl) (by as_aux_lemma => kernel_rfl) (fun _ _ _ h => h) (Or.inl ⟨by rfl, ?ys1_10⟩) (by assumption) ?rs1_10
  case ys1_10 => (intro w hSw; (try dsimp only at hSw); go_simp; try with_reducible rfl)
  try simp only [Act.put, List.setIfInBounds_toArray, List.set_cons_zero, List.set_cons_succ]
  refine wpAnyH_take (i := 11) (oi := ({ dst := some 18, op := .load 3 (.tmp 17), type := 3, pos := "law.go:18", after := #[{ on := 10, ground := .data }, { on := 7, ground := .guard }], guard := some (7, true) } : Oper)) (v := ?vs1_11) rfl ldsay1_plain (by as_aux_lemma => kernel_rfl) (by as_aux_lemma => kernel_rfl) (fun _ _ _ h => h) (Or.inl ⟨by rfl, ?ys1_11⟩) (by assumption) ?rs1_11
  case ys1_11 => (intro w hSw; (try dsimp only at hSw); go_simp; try with_reducible rfl)
  try simp only [Act.put, List.setIfInBounds_toArray, List.set_cons_zero, List.set_cons_succ]
  refine wpAnyH_take (i := 13) (oi := ({ dst := some 20, op := .indexAddr 24 (.tmp 5) (.const (.int .i64 0)), type := 0, pos := "law.go:18", after := #[{ on := 7, ground := .guard }], guard := some (7, true) } : Oper)) (v := ?vs1_13) rfl ldsay1_plain (by as_aux_lemma => kernel_rfl) (by as_aux_lemma => kernel_rfl) (fun _ _ _ h => h) (Or.inl ⟨by rfl, ?ys1_13⟩) (by assumption) ?rs1_13
  case ys1_13 => (intro w hSw; (try dsimp only at hSw); go_simp; try with_reducible rfl)
  try simp only [Act.put, List.setIfInBounds_toArray, List.set_cons_zero, List.set_cons_succ]
  refine wpAnyH_take (i := 14) (oi := ({ dst := some 21, op := .load 3 (.tmp 20), type := 3, pos := "law.go:18", after := #[{ on := 13, ground := .data }, { on := 7, ground := .guard }], guard := some (7, true) } : Oper)) (v := ?vs1_14) rfl ldsay1_plain (by as_aux_lemma => kernel_rfl) (by as_aux_lemma => kernel_rfl) (fun _ _ _ h => h) (Or.inl ⟨by rfl, ?ys1_14⟩) (by assumption) ?rs1_14
  case ys1_14 => (intro w hSw; (try dsimp only at hSw); go_simp; try with_reducible rfl)
  try simp only [Act.put, List.setIfInBounds_toArray, List.set_cons_zero, List.set_cons_succ]
  refine wpAnyH_take (i := 15) (oi := ({ dst := some 22, op := .indexAddr 24 (.tmp 5) (.const (.int .i64 1)), type := 0, pos := "law.go:18", after := #[{ on := 7, ground := .guard }], guard := some (7, true) } : Oper)) (v := ?vs1_15) rfl ldsay1_plain (by as_aux_lemma => kernel_rfl) (by as_aux_lemma => kernel_rfl) (fun _ _ _ h => h) (Or.inl ⟨by rfl, ?ys1_15⟩) (by assumption) ?rs1_15
  case ys1_15 => (intro w hSw; (try dsimp only at hSw); go_simp; try with_reducible rfl)
  try simp only [Act.put, List.setIfInBounds_toArray, List.set_cons_zero, List.set_cons_succ]
  refine wpAnyH_take (i := 16) (oi := ({ dst := some 23, op := .load 3 (.tmp 22), type := 3, pos := "law.go:18", after := #[{ on := 15, ground := .data }, { on := 7, ground := .guard }], guard := some (7, true) } : Oper)) (v := ?vs1_16) rfl ldsay1_plain (by as_aux_lemma => kernel_rfl) (by as_aux_lemma => kernel_rfl) (fun _ _ _ h => h) (Or.inl ⟨by rfl, ?ys1_16⟩) (by assumption) ?rs1_16
  case ys1_16 => (intro w hSw; (try dsimp only at hSw); go_simp; try with_reducible rfl)
  try simp only [Act.put, List.setIfInBounds_toArray, List.set_cons_zero, List.set_cons_succ]
  refine wpAnyH_ready (rs := [12]) (by as_aux_lemma => kernel_rfl) (by simp) ?_
  refine AllReadyH.cons (o := ({ dst := some 19, op := .call { callee := .value (.func 8), args := #[.tmp 16, .tmp 18], argTypes := #[3, 3] }, type := 3, pos := "law.go:18", after := #[{ on := 9, ground := .data }, { on := 11, ground := .data }, { on := 7, ground := .chain }, { on := 7, ground := .guard }], guard := some (7, true) } : Oper)) rfl (fun KK hK => ?_) AllReadyH.nil
  rw [if_pos (by rfl)]
  go_simp
  go_at_call 8; refine (AI.out _ (Sp.below (by assumption))).mono ?_; rintro e w4 ⟨rfl, hb4⟩
  go_wp2_with fail
  refine hK.out _ _ ?_ (fun hHeld4 => ?_)
  · exact kS _ _ (by assumption) hb4
  clear hK KK hb4 hHeld3
  try simp only [Act.put, List.setIfInBounds_toArray, List.set_cons_zero, List.set_cons_succ]
  refine wpAnyH_ready (rs := [17]) (by as_aux_lemma => kernel_rfl) (by simp) ?_
  refine AllReadyH.cons (o := ({ dst := some 24, op := .call { callee := .value (.func 9), args := #[.tmp 21, .tmp 23], argTypes := #[3, 3] }, type := 3, pos := "law.go:18", after := #[{ on := 14, ground := .data }, { on := 16, ground := .data }, { on := 12, ground := .chain }, { on := 7, ground := .guard }], guard := some (7, true) } : Oper)) rfl (fun KK hK => ?_) AllReadyH.nil
  rw [if_pos (by rfl)]
  go_simp
  go_at_call 9; refine (AI'.out _ (Sp.below (by assumption))).mono ?_; rintro e w5 ⟨rfl, hb5⟩
  go_wp2_with fail
  refine hK.out _ _ ?_ (fun hHeld5 => ?_)
  · exact kS _ _ (by assumption) hb5
  clear hK KK hb5 hHeld4
  try simp only [Act.put, List.setIfInBounds_toArray, List.set_cons_zero, List.set_cons_succ]
  refine wpAnyH_take (i := 18) (oi := ({ dst := some 25, op := .binOp .eql 3 (.tmp 19) (.tmp 24) 3, type := 4, pos := "law.go:18", after := #[{ on := 12, ground := .data }, { on := 17, ground := .data }, { on := 7, ground := .guard }], guard := some (7, true) } : Oper)) (v := ?vs1_18) rfl ldsay1_plain (by as_aux_lemma => kernel_rfl) (by as_aux_lemma => kernel_rfl) (fun _ _ _ h => h) (Or.inl ⟨by rfl, ?ys1_18⟩) (by assumption) ?rs1_18
  case ys1_18 => (intro w hSw; (try dsimp only at hSw); go_simp; try with_reducible rfl)
  try simp only [Act.put, List.setIfInBounds_toArray, List.set_cons_zero, List.set_cons_succ]
  refine wpAnyH_take (i := 19) (oi := ({ dst := some 26, op := .pick (.tmp 14) (.tmp 25) (.const (.bool false)), type := 4, pos := "law.go:18", after := #[{ on := 7, ground := .data }, { on := 18, ground := .data }], guard := none } : Oper)) (v := ?vs1_19) rfl ldsay1_plain (by as_aux_lemma => kernel_rfl) (by as_aux_lemma => kernel_rfl) (fun _ _ _ h => h) (Or.inl ⟨by rfl, ?ys1_19⟩) (by assumption) ?rs1_19
  case ys1_19 => (intro w hSw; (try dsimp only at hSw); go_simp; try with_reducible rfl)
  try simp only [Act.put, List.setIfInBounds_toArray, List.set_cons_zero, List.set_cons_succ]
  refine wpAnyH_take (i := 20) (oi := ({ dst := some 27, op := .move (.tmp 26), type := 4, pos := "law.go:18", after := #[{ on := 19, ground := .data }, { on := 17, ground := .chain }], guard := none } : Oper)) (v := ?vs1_20) rfl ldsay1_plain (by as_aux_lemma => kernel_rfl) (by as_aux_lemma => kernel_rfl) (fun _ _ _ h => h) (Or.inl ⟨by rfl, ?ys1_20⟩) (by assumption) ?rs1_20
  case ys1_20 => (intro w hSw; (try dsimp only at hSw); go_simp; try with_reducible rfl)
  try simp only [Act.put, List.setIfInBounds_toArray, List.set_cons_zero, List.set_cons_succ]
  refine wpAnyH_take (i := 21) (oi := ({ dst := some 28, op := .load 23 (.tmp 3), type := 23, pos := "law.go:18", after := #[{ on := 20, ground := .guard }], guard := some (20, true) } : Oper)) (v := ?vs1_21) rfl ldsay1_plain (by as_aux_lemma => kernel_rfl) (by as_aux_lemma => kernel_rfl) (fun _ _ _ h => h) (Or.inl ⟨by rfl, ?ys1_21⟩) (by assumption) ?rs1_21
  case ys1_21 => (intro w hSw; (try dsimp only at hSw); go_simp; try with_reducible rfl)
  try simp only [Act.put, List.setIfInBounds_toArray, List.set_cons_zero, List.set_cons_succ]
  refine wpAnyH_take (i := 23) (oi := ({ dst := some 30, op := .load 23 (.tmp 3), type := 23, pos := "law.go:18", after := #[{ on := 20, ground := .guard }], guard := some (20, true) } : Oper)) (v := ?vs1_23) rfl ldsay1_plain (by as_aux_lemma => kernel_rfl) (by as_aux_lemma => kernel_rfl) (fun _ _ _ h => h) (Or.inl ⟨by rfl, ?ys1_23⟩) (by assumption) ?rs1_23
  case ys1_23 => (intro w hSw; (try dsimp only at hSw); go_simp; try with_reducible rfl)
  try simp only [Act.put, List.setIfInBounds_toArray, List.set_cons_zero, List.set_cons_succ]
  refine wpAnyH_ready (rs := [22]) (by as_aux_lemma => kernel_rfl) (by simp) ?_
  refine AllReadyH.cons (o := ({ dst := some 29, op := .call { callee := .value (.func 10), args := #[.tmp 28], argTypes := #[23] }, type := 3, pos := "law.go:18", after := #[{ on := 21, ground := .data }, { on := 20, ground := .chain }, { on := 20, ground := .guard }], guard := some (20, true) } : Oper)) rfl (fun KK hK => ?_) AllReadyH.nil
  rw [if_pos (by rfl)]
  go_simp
  go_at_call 10; refine (MO.out _ (Sp.below (by assumption))).mono ?_; rintro e w6 ⟨rfl, hb6⟩
  go_wp2_with fail
  refine hK.out _ _ ?_ (fun hHeld6 => ?_)
  · exact kS _ _ (by assumption) hb6
  clear hK KK hb6 hHeld5
  try simp only [Act.put, List.setIfInBounds_toArray, List.set_cons_zero, List.set_cons_succ]
  refine wpAnyH_ready (rs := [24]) (by as_aux_lemma => kernel_rfl) (by simp) ?_
  refine AllReadyH.cons (o := ({ dst := some 31, op := .call { callee := .value (.func 11), args := #[.tmp 30], argTypes := #[23] }, type := 3, pos := "law.go:18", after := #[{ on := 23, ground := .data }, { on := 22, ground := .chain }, { on := 20, ground := .guard }], guard := some (20, true) } : Oper)) rfl (fun KK hK => ?_) AllReadyH.nil
  rw [if_pos (by rfl)]
  go_simp
  go_at_call 11; refine (MO'.out _ (Sp.below (by assumption))).mono ?_; rintro e w7 ⟨rfl, hb7⟩
  go_wp2_with fail
  refine hK.out _ _ ?_ (fun hHeld7 => ?_)
  · exact kS _ _ (by assumption) hb7
  clear hK KK hb7 hHeld6
  try simp only [Act.put, List.setIfInBounds_toArray, List.set_cons_zero, List.set_cons_succ]
  refine wpAnyH_take (i := 25) (oi := ({ dst := some 32, op := .binOp .eql 3 (.tmp 29) (.tmp 31) 3, type := 4, pos := "law.go:18", after := #[{ on := 22, ground := .data }, { on := 24, ground := .data }, { on := 20, ground := .guard }], guard := some (20, true) } : Oper)) (v := ?vs1_25) rfl ldsay1_plain (by as_aux_lemma => kernel_rfl) (by as_aux_lemma => kernel_rfl) (fun _ _ _ h => h) (Or.inl ⟨by rfl, ?ys1_25⟩) (by assumption) ?rs1_25
  case ys1_25 => (intro w hSw; (try dsimp only at hSw); go_simp; try with_reducible rfl)
  try simp only [Act.put, List.setIfInBounds_toArray, List.set_cons_zero, List.set_cons_succ]
  refine wpAnyH_take (i := 26) (oi := ({ dst := some 33, op := .pick (.tmp 27) (.tmp 32) (.const (.bool false)), type := 4, pos := "law.go:18", after := #[{ on := 20, ground := .data }, { on := 25, ground := .data }], guard := none } : Oper)) (v := ?vs1_26) rfl ldsay1_plain (by as_aux_lemma => kernel_rfl) (by as_aux_lemma => kernel_rfl) (fun _ _ _ h => h) (Or.inl ⟨by rfl, ?ys1_26⟩) (by assumption) ?rs1_26
  case ys1_26 => (intro w hSw; (try dsimp only at hSw); go_simp; try with_reducible rfl)
  try simp only [Act.put, List.setIfInBounds_toArray, List.set_cons_zero, List.set_cons_succ]
  refine wpAnyH_take (i := 27) (oi := ({ dst := some 34, op := .move (.tmp 33), type := 4, pos := "law.go:18", after := #[{ on := 26, ground := .data }, { on := 24, ground := .chain }], guard := none } : Oper)) (v := ?vs1_27) rfl ldsay1_plain (by as_aux_lemma => kernel_rfl) (by as_aux_lemma => kernel_rfl) (fun _ _ _ h => h) (Or.inl ⟨by rfl, ?ys1_27⟩) (by assumption) ?rs1_27
  case ys1_27 => (intro w hSw; (try dsimp only at hSw); go_simp; try with_reducible rfl)
  try simp only [Act.put, List.setIfInBounds_toArray, List.set_cons_zero, List.set_cons_succ]
  refine wpAnyH_take (i := 28) (oi := ({ dst := some 35, op := .indexAddr 24 (.tmp 5) (.const (.int .i64 1)), type := 0, pos := "law.go:18", after := #[{ on := 27, ground := .guard }], guard := some (27, true) } : Oper)) (v := ?vs1_28) rfl ldsay1_plain (by as_aux_lemma => kernel_rfl) (by as_aux_lemma => kernel_rfl) (fun _ _ _ h => h) (Or.inl ⟨by rfl, ?ys1_28⟩) (by assumption) ?rs1_28
  case ys1_28 => (intro w hSw; (try dsimp only at hSw); go_simp; try with_reducible rfl)
  try simp only [Act.put, List.setIfInBounds_toArray, List.set_cons_zero, List.set_cons_succ]
  refine wpAnyH_take (i := 29) (oi := ({ dst := some 36, op := .load 3 (.tmp 35), type := 3, pos := "law.go:18", after := #[{ on := 28, ground := .data }, { on := 27, ground := .guard }], guard := some (27, true) } : Oper)) (v := ?vs1_29) rfl ldsay1_plain (by as_aux_lemma => kernel_rfl) (by as_aux_lemma => kernel_rfl) (fun _ _ _ h => h) (Or.inl ⟨by rfl, ?ys1_29⟩) (by assumption) ?rs1_29
  case ys1_29 => (intro w hSw; (try dsimp only at hSw); go_simp; try with_reducible rfl)
  try simp only [Act.put, List.setIfInBounds_toArray, List.set_cons_zero, List.set_cons_succ]
  refine wpAnyH_take (i := 31) (oi := ({ dst := some 38, op := .indexAddr 24 (.tmp 5) (.const (.int .i64 1)), type := 0, pos := "law.go:18", after := #[{ on := 27, ground := .guard }], guard := some (27, true) } : Oper)) (v := ?vs1_31) rfl ldsay1_plain (by as_aux_lemma => kernel_rfl) (by as_aux_lemma => kernel_rfl) (fun _ _ _ h => h) (Or.inl ⟨by rfl, ?ys1_31⟩) (by assumption) ?rs1_31
  case ys1_31 => (intro w hSw; (try dsimp only at hSw); go_simp; try with_reducible rfl)
  try simp only [Act.put, List.setIfInBounds_toArray, List.set_cons_zero, List.set_cons_succ]
  refine wpAnyH_take (i := 32) (oi := ({ dst := some 39, op := .load 3 (.tmp 38), type := 3, pos := "law.go:18", after := #[{ on := 31, ground := .data }, { on := 27, ground := .guard }], guard := some (27, true) } : Oper)) (v := ?vs1_32) rfl ldsay1_plain (by as_aux_lemma => kernel_rfl) (by as_aux_lemma => kernel_rfl) (fun _ _ _ h => h) (Or.inl ⟨by rfl, ?ys1_32⟩) (by assumption) ?rs1_32
  case ys1_32 => (intro w hSw; (try dsimp only at hSw); go_simp; try with_reducible rfl)
  try simp only [Act.put, List.setIfInBounds_toArray, List.set_cons_zero, List.set_cons_succ]
  refine wpAnyH_ready (rs := [30]) (by as_aux_lemma => kernel_rfl) (by simp) ?_
  refine AllReadyH.cons (o := ({ dst := some 37, op := .call { callee := .value (.func 12), args := #[.tmp 36], argTypes := #[3] }, type := 9, pos := "law.go:18", after := #[{ on := 29, ground := .data }, { on := 27, ground := .chain }, { on := 27, ground := .guard }], guard := some (27, true) } : Oper)) rfl (fun KK hK => ?_) AllReadyH.nil
  rw [if_pos (by rfl)]
  go_simp
  go_at_call 12; refine (NA.out _ (Sp.below (by assumption))).mono ?_; rintro e w8 ⟨rfl, hb8⟩
  go_wp2_with fail
  refine hK.out _ _ ?_ (fun hHeld8 => ?_)
  · exact kS _ _ (by assumption) hb8
  clear hK KK hb8 hHeld7
  try simp only [Act.put, List.setIfInBounds_toArray, List.set_cons_zero, List.set_cons_succ]
  refine wpAnyH_ready (rs := [33]) (by as_aux_lemma => kernel_rfl) (by simp) ?_
  refine AllReadyH.cons (o := ({ dst := some 40, op := .call { callee := .value (.func 13), args := #[.tmp 39], argTypes := #[3] }, type := 9, pos := "law.go:18", after := #[{ on := 32, ground := .data }, { on := 30, ground := .chain }, { on := 27, ground := .guard }], guard := some (27, true) } : Oper)) rfl (fun KK hK => ?_) AllReadyH.nil
  rw [if_pos (by rfl)]
  go_simp
  go_at_call 13; refine (NA'.out _ (Sp.below (by assumption))).mono ?_; rintro e w9 ⟨rfl, hb9⟩
  go_wp2_with fail
  refine hK.out _ _ ?_ (fun hHeld9 => ?_)
  · exact kS _ _ (by assumption) hb9
  clear hK KK hb9 hHeld8
  try simp only [Act.put, List.setIfInBounds_toArray, List.set_cons_zero, List.set_cons_succ]
  refine wpAnyH_take (i := 34) (oi := ({ dst := some 41, op := .binOp .eql 9 (.tmp 37) (.tmp 40) 9, type := 4, pos := "law.go:18", after := #[{ on := 30, ground := .data }, { on := 33, ground := .data }, { on := 27, ground := .guard }], guard := some (27, true) } : Oper)) (v := ?vs1_34) rfl ldsay1_plain (by as_aux_lemma => kernel_rfl) (by as_aux_lemma => kernel_rfl) (fun _ _ _ h => h) (Or.inl ⟨by rfl, ?ys1_34⟩) (by assumption) ?rs1_34
  case ys1_34 => (intro w hSw; (try dsimp only at hSw); go_simp; try with_reducible rfl)
  try simp only [Act.put, List.setIfInBounds_toArray, List.set_cons_zero, List.set_cons_succ]
  refine wpAnyH_take (i := 35) (oi := ({ dst := some 42, op := .pick (.tmp 34) (.tmp 41) (.const (.bool false)), type := 4, pos := "law.go:18", after := #[{ on := 27, ground := .data }, { on := 34, ground := .data }], guard := none } : Oper)) (v := ?vs1_35) rfl ldsay1_plain (by as_aux_lemma => kernel_rfl) (by as_aux_lemma => kernel_rfl) (fun _ _ _ h => h) (Or.inl ⟨by rfl, ?ys1_35⟩) (by assumption) ?rs1_35
  case ys1_35 => (intro w hSw; (try dsimp only at hSw); go_simp; try with_reducible rfl)
  try simp only [Act.put, List.setIfInBounds_toArray, List.set_cons_zero, List.set_cons_succ]
  refine wpAnyH_take (i := 36) (oi := ({ dst := some 43, op := .move (.tmp 42), type := 4, pos := "law.go:18", after := #[{ on := 35, ground := .data }, { on := 33, ground := .chain }], guard := none } : Oper)) (v := ?vs1_36) rfl ldsay1_plain (by as_aux_lemma => kernel_rfl) (by as_aux_lemma => kernel_rfl) (fun _ _ _ h => h) (Or.inl ⟨by rfl, ?ys1_36⟩) (by assumption) ?rs1_36
  case ys1_36 => (intro w hSw; (try dsimp only at hSw); go_simp; try with_reducible rfl)
  try simp only [Act.put, List.setIfInBounds_toArray, List.set_cons_zero, List.set_cons_succ]
  refine wpAnyH_take (i := 37) (oi := ({ dst := some 44, op := .load 23 (.tmp 3), type := 23, pos := "law.go:18", after := #[{ on := 36, ground := .guard }], guard := some (36, true) } : Oper)) (v := ?vs1_37) rfl ldsay1_plain (by as_aux_lemma => kernel_rfl) (by as_aux_lemma => kernel_rfl) (fun _ _ _ h => h) (Or.inl ⟨by rfl, ?ys1_37⟩) (by assumption) ?rs1_37
  case ys1_37 => (intro w hSw; (try dsimp only at hSw); go_simp; try with_reducible rfl)
  try simp only [Act.put, List.setIfInBounds_toArray, List.set_cons_zero, List.set_cons_succ]
  refine wpAnyH_take (i := 38) (oi := ({ dst := some 45, op := .load 23 (.tmp 4), type := 23, pos := "law.go:18", after := #[{ on := 36, ground := .guard }], guard := some (36, true) } : Oper)) (v := ?vs1_38) rfl ldsay1_plain (by as_aux_lemma => kernel_rfl) (by as_aux_lemma => kernel_rfl) (fun _ _ _ h => h) (Or.inl ⟨by rfl, ?ys1_38⟩) (by assumption) ?rs1_38
  case ys1_38 => (intro w hSw; (try dsimp only at hSw); go_simp; try with_reducible rfl)
  try simp only [Act.put, List.setIfInBounds_toArray, List.set_cons_zero, List.set_cons_succ]
  refine wpAnyH_take (i := 40) (oi := ({ dst := some 47, op := .load 23 (.tmp 3), type := 23, pos := "law.go:18", after := #[{ on := 36, ground := .guard }], guard := some (36, true) } : Oper)) (v := ?vs1_40) rfl ldsay1_plain (by as_aux_lemma => kernel_rfl) (by as_aux_lemma => kernel_rfl) (fun _ _ _ h => h) (Or.inl ⟨by rfl, ?ys1_40⟩) (by assumption) ?rs1_40
  case ys1_40 => (intro w hSw; (try dsimp only at hSw); go_simp; try with_reducible rfl)
  try simp only [Act.put, List.setIfInBounds_toArray, List.set_cons_zero, List.set_cons_succ]
  refine wpAnyH_take (i := 41) (oi := ({ dst := some 48, op := .load 23 (.tmp 4), type := 23, pos := "law.go:18", after := #[{ on := 36, ground := .guard }], guard := some (36, true) } : Oper)) (v := ?vs1_41) rfl ldsay1_plain (by as_aux_lemma => kernel_rfl) (by as_aux_lemma => kernel_rfl) (fun _ _ _ h => h) (Or.inl ⟨by rfl, ?ys1_41⟩) (by assumption) ?rs1_41
  case ys1_41 => (intro w hSw; (try dsimp only at hSw); go_simp; try with_reducible rfl)
  try simp only [Act.put, List.setIfInBounds_toArray, List.set_cons_zero, List.set_cons_succ]
  refine wpAnyH_ready (rs := [39]) (by as_aux_lemma => kernel_rfl) (by simp) ?_
  refine AllReadyH.cons (o := ({ dst := some 46, op := .call { callee := .value (.func 14), args := #[.tmp 44, .tmp 45], argTypes := #[23, 23] }, type := 4, pos := "law.go:18", after := #[{ on := 37, ground := .data }, { on := 38, ground := .data }, { on := 36, ground := .chain }, { on := 36, ground := .guard }], guard := some (36, true) } : Oper)) rfl (fun KK hK => ?_) AllReadyH.nil
  rw [if_pos (by rfl)]
  go_simp
  go_at_call 14; refine (WO.out _ (Sp.below (by assumption))).mono ?_; rintro e w10 ⟨rfl, hb10⟩
  go_wp2_with fail
  refine hK.out _ _ ?_ (fun hHeld10 => ?_)
  · exact kS _ _ (by assumption) hb10
  clear hK KK hb10 hHeld9
  try simp only [Act.put, List.setIfInBounds_toArray, List.set_cons_zero, List.set_cons_succ]
  refine wpAnyH_ready (rs := [42]) (by as_aux_lemma => kernel_rfl) (by simp) ?_
  refine AllReadyH.cons (o := ({ dst := some 49, op := .call { callee := .value (.func 15), args := #[.tmp 47, .tmp 48], argTypes := #[23, 23] }, type := 4, pos := "law.go:18", after := #[{ on := 40, ground := .data }, { on := 41, ground := .data }, { on := 39, ground := .chain }, { on := 36, ground := .guard }], guard := some (36, true) } : Oper)) rfl (fun KK hK => ?_) AllReadyH.nil
  rw [if_pos (by rfl)]
  go_simp
  go_at_call 15; refine (WO'.out _ (Sp.below (by assumption))).mono ?_; rintro e w11 ⟨rfl, hb11⟩
  go_wp2_with fail
  refine hK.out _ _ ?_ (fun hHeld11 => ?_)
  · exact kS _ _ (by assumption) hb11
  clear hK KK hb11 hHeld10
  try simp only [Act.put, List.setIfInBounds_toArray, List.set_cons_zero, List.set_cons_succ]
  refine wpAnyH_take (i := 43) (oi := ({ dst := some 50, op := .binOp .eql 4 (.tmp 46) (.tmp 49) 4, type := 4, pos := "law.go:18", after := #[{ on := 39, ground := .data }, { on := 42, ground := .data }, { on := 36, ground := .guard }], guard := some (36, true) } : Oper)) (v := ?vs1_43) rfl ldsay1_plain (by as_aux_lemma => kernel_rfl) (by as_aux_lemma => kernel_rfl) (fun _ _ _ h => h) (Or.inl ⟨by rfl, ?ys1_43⟩) (by assumption) ?rs1_43
  case ys1_43 => (intro w hSw; (try dsimp only at hSw); go_simp; try with_reducible rfl)
  try simp only [Act.put, List.setIfInBounds_toArray, List.set_cons_zero, List.set_cons_succ]
  refine wpAnyH_take (i := 44) (oi := ({ dst := some 51, op := .pick (.tmp 43) (.tmp 50) (.const (.bool false)), type := 4, pos := "law.go:18", after := #[{ on := 36, ground := .data }, { on := 43, ground := .data }], guard := none } : Oper)) (v := ?vs1_44) rfl ldsay1_plain (by as_aux_lemma => kernel_rfl) (by as_aux_lemma => kernel_rfl) (fun _ _ _ h => h) (Or.inl ⟨by rfl, ?ys1_44⟩) (by assumption) ?rs1_44
  case ys1_44 => (intro w hSw; (try dsimp only at hSw); go_simp; try with_reducible rfl)
  try simp only [Act.put, List.setIfInBounds_toArray, List.set_cons_zero, List.set_cons_succ]
  refine wpAnyH_take (i := 45) (oi := ({ dst := some 52, op := .move (.tmp 51), type := 4, pos := "law.go:18", after := #[{ on := 44, ground := .data }, { on := 42, ground := .chain }], guard := none } : Oper)) (v := ?vs1_45) rfl ldsay1_plain (by as_aux_lemma => kernel_rfl) (by as_aux_lemma => kernel_rfl) (fun _ _ _ h => h) (Or.inl ⟨by rfl, ?ys1_45⟩) (by assumption) ?rs1_45
  case ys1_45 => (intro w hSw; (try dsimp only at hSw); go_simp; try with_reducible rfl)
  try simp only [Act.put, List.setIfInBounds_toArray, List.set_cons_zero, List.set_cons_succ]
  refine wpAnyH_ready (rs := [46]) (by as_aux_lemma => kernel_rfl) (by simp) ?_
  refine AllReadyH.cons (o := ({ dst := some 53, op := .call { callee := .value (.func 16), args := #[], argTypes := #[] }, type := 4, pos := "law.go:18", after := #[{ on := 45, ground := .chain }, { on := 45, ground := .guard }], guard := some (45, true) } : Oper)) rfl (fun KK hK => ?_) AllReadyH.nil
  rw [if_pos (by rfl)]
  go_simp
  go_at_call 16; refine (AW.out _ (Sp.below (by assumption))).mono ?_; rintro e w12 ⟨rfl, hb12⟩
  go_wp2_with fail
  refine hK.out _ _ ?_ (fun hHeld12 => ?_)
  · exact kS _ _ (by assumption) hb12
  clear hK KK hb12 hHeld11
  try simp only [Act.put, List.setIfInBounds_toArray, List.set_cons_zero, List.set_cons_succ]
  refine wpAnyH_take (i := 47) (oi := ({ dst := some 54, op := .pick (.tmp 52) (.tmp 53) (.const (.bool false)), type := 4, pos := "law.go:18", after := #[{ on := 45, ground := .data }, { on := 46, ground := .data }], guard := none } : Oper)) (v := ?vs1_47) rfl ldsay1_plain (by as_aux_lemma => kernel_rfl) (by as_aux_lemma => kernel_rfl) (fun _ _ _ h => h) (Or.inl ⟨by rfl, ?ys1_47⟩) (by assumption) ?rs1_47
  case ys1_47 => (intro w hSw; (try dsimp only at hSw); go_simp; try with_reducible rfl)
  try simp only [Act.put, List.setIfInBounds_toArray, List.set_cons_zero, List.set_cons_succ]
  refine wpAnyH_take (i := 48) (oi := ({ dst := some 6, op := .assign (.tmp 54), type := 4, pos := "law.go:18", after := #[{ on := 47, ground := .data }, { on := 46, ground := .chain }, { on := 0, ground := .phase }, { on := 1, ground := .phase }, { on := 2, ground := .phase }, { on := 3, ground := .phase }, { on := 4, ground := .phase }, { on := 5, ground := .phase }, { on := 6, ground := .phase }, { on := 7, ground := .phase }, { on := 8, ground := .phase }, { on := 9, ground := .phase }, { on := 10, ground := .phase }, { on := 11, ground := .phase }, { on := 12, ground := .phase }, { on := 13, ground := .phase }, { on := 14, ground := .phase }, { on := 15, ground := .phase }, { on := 16, ground := .phase }, { on := 17, ground := .phase }, { on := 18, ground := .phase }, { on := 19, ground := .phase }, { on := 20, ground := .phase }, { on := 21, ground := .phase }, { on := 22, ground := .phase }, { on := 23, ground := .phase }, { on := 24, ground := .phase }, { on := 25, ground := .phase }, { on := 26, ground := .phase }, { on := 27, ground := .phase }, { on := 28, ground := .phase }, { on := 29, ground := .phase }, { on := 30, ground := .phase }, { on := 31, ground := .phase }, { on := 32, ground := .phase }, { on := 33, ground := .phase }, { on := 34, ground := .phase }, { on := 35, ground := .phase }, { on := 36, ground := .phase }, { on := 37, ground := .phase }, { on := 38, ground := .phase }, { on := 39, ground := .phase }, { on := 40, ground := .phase }, { on := 41, ground := .phase }, { on := 42, ground := .phase }, { on := 43, ground := .phase }, { on := 44, ground := .phase }, { on := 45, ground := .phase }, { on := 46, ground := .phase }, { on := 47, ground := .phase }], guard := none } : Oper)) (v := ?vs1_48) rfl ldsay1_plain (by as_aux_lemma => kernel_rfl) (by as_aux_lemma => kernel_rfl) (fun _ _ _ h => h) (Or.inl ⟨by rfl, ?ys1_48⟩) (by assumption) ?rs1_48
  case ys1_48 => (intro w hSw; (try dsimp only at hSw); go_simp; try with_reducible rfl)
  try simp only [Act.put, List.setIfInBounds_toArray, List.set_cons_zero, List.set_cons_succ]
  refine wpAnyH_done (by as_aux_lemma => kernel_rfl) ?_ _
  refine NoPanic.normal ?_
  have N1 := nx _ hHeld12
  have HS3 := Lib.hid N1
  clear c0_0 c0_1 c0_2 c0_3 c0_4 c0_5 c1_0 c1_1 c1_2 c1_3 c1_4 c1_5 c2_0 c2_1 nx kS hT N1
  have BH := Lib.hid HS3.out.below
  go_wp2_with fail
  exact bodyPost_ret (v := .bool true) (by simp [results, Tryd.results3, go_sem, *]) rfl ⟨rfl, BH.out⟩
theorem Says32_all (a b : La) (x y : Int) (w : World) (N : NamesAt w) : Calls Tryd.prog 3 #[lv a, lv b, .agg #[.int .i64 x, .int .i64 y]] w fun e w' => e = .returned (.bool true) ∧ Below w.heap.size w w' :=
  Says32_core a b x y _ _ _ _ _ w (Lib.hid fun w' _ => Gyros_any x w') (Lib.hid fun w' _ => Air_any x y w') (Lib.hid fun w' _ => Mode_any a w') (Lib.hid fun w' B => Name_any y w' (Lib.hid (N.keep B))) (Lib.hid fun w' _ => Worse_any a b w')
    (Lib.hid fun w' _ => Ref.Gyros_any x w') (Lib.hid fun w' _ => Ref.Air_any x y w') (Lib.hid fun w' _ => Ref.Mode_any a w') (Lib.hid fun w' _ => Ref.Name_any y w') (Lib.hid fun w' _ => Ref.Worse_any a b w') (Lib.hid fun w' B => awake_any w' (N.keep B))

end Go.Proofs.YtmenicgoabmcmaaDoor
