/- The law's own examples. -/
import Derived.Test.YtldbkompebefmaaDoorLtC
import Derived.Test.YtldbkompebefmaaDoorLtE
import Derived.Lib.MinMax
import Derived.Deep.RegionWith
import Derived.Deep.CutBlock
import Derived.Deep.CutRange
import Derived.BigRegion
namespace Go.Proofs.YtldbkompebefmaaDoor
open Go.RowKit Ld Lat Obs

namespace Law33
open Lat
theorem now_first : nowL (List.replicate 22 false) 3 4 ⟨⟨0, 0, 0, 0, false⟩, ⟨0, 0, 0, 0, false⟩, ⟨0, 0, 0, 0, false⟩, ⟨0, 0, 0, 0, false⟩⟩ ⟨⟨0, 0, 0, 0, true⟩, ⟨0, 0, 0, 0, false⟩, ⟨0, 0, 0, 0, false⟩, ⟨0, 0, 0, 0, false⟩⟩ = ⟨3, false, 0, 1, false, true⟩ := la_ext (by decide +kernel) (by decide +kernel) (by decide +kernel) (by decide +kernel) (by decide +kernel) (by decide +kernel)
theorem us_first : us 1 2 3 = 4 := by decide +kernel
theorem jn_first : jn ⟨4, false, 1, 0, false, false⟩ ⟨5, true, 0, 2, false, false⟩ = ⟨4, true, 1, 2, false, false⟩ := la_ext (by decide +kernel) (by decide +kernel) (by decide +kernel) (by decide +kernel) (by decide +kernel) (by decide +kernel)
set_option maxHeartbeats 16000000 in
set_option maxRecDepth 100000 in
theorem awake_core  (w : World)
    (NO : Hid (∀ w', Below w.heap.size w w' → Calls Tryd.prog 6 #[.agg #[.bool false, .bool false, .bool false, .bool false, .bool false, .bool false, .bool false, .bool false, .bool false, .bool false, .bool false, .bool false, .bool false, .bool false, .bool false, .bool false, .bool false, .bool false, .bool false, .bool false, .bool false, .bool false], .int .i64 3, .int .i64 4, .agg #[.int .i64 0, .int .i64 0, .int .i64 0, .int .i64 0, .bool false, .int .i64 0, .int .i64 0, .int .i64 0, .int .i64 0, .bool false, .int .i64 0, .int .i64 0, .int .i64 0, .int .i64 0, .bool false, .int .i64 0, .int .i64 0, .int .i64 0, .int .i64 0, .bool false], .agg #[.int .i64 0, .int .i64 0, .int .i64 0, .int .i64 0, .bool true, .int .i64 0, .int .i64 0, .int .i64 0, .int .i64 0, .bool false, .int .i64 0, .int .i64 0, .int .i64 0, .int .i64 0, .bool false, .int .i64 0, .int .i64 0, .int .i64 0, .int .i64 0, .bool false]] w' fun e w'' => e = .returned (.agg #[.int .i64 3, .bool false, .int .i64 0, .int .i64 1, .bool false, .bool true]) ∧ Below w'.heap.size w' w''))
    (JO : Hid (∀ w', Below w.heap.size w w' → Calls Tryd.prog 8 #[.agg #[.int .i64 4, .bool false, .int .i64 1, .int .i64 0, .bool false, .bool false], .agg #[.int .i64 5, .bool true, .int .i64 0, .int .i64 2, .bool false, .bool false]] w' fun e w'' => e = .returned (.agg #[.int .i64 4, .bool true, .int .i64 1, .int .i64 2, .bool false, .bool false]) ∧ Below w'.heap.size w' w''))
    (NE : Hid (∀ w', Below w.heap.size w w' → Calls Tryd.prog 10 #[] w' fun e w'' => e = .returned (.agg #[.int .i64 6, .bool false, .int .i64 0, .int .i64 0, .bool false, .bool false]) ∧ Below w'.heap.size w' w''))
    (US : Hid (∀ w', Below w.heap.size w w' → Calls Tryd.prog 12 #[.int .i64 1, .int .i64 2, .int .i64 3] w' fun e w'' => e = .returned (.int .i64 4) ∧ Below w'.heap.size w' w''))
    (S0 : Hid (∀ w, (Op.equalIn 10000 23 (.agg #[.int .i64 4, .bool true, .int .i64 1, .int .i64 2, .bool false, .bool false]) (.agg #[.int .i64 4, .bool true, .int .i64 1, .int .i64 2, .bool false, .bool false])).run Tryd.prog w = .ok true w))
    (S1 : Hid (∀ w, (Op.equalIn 10000 23 (.agg #[.int .i64 6, .bool false, .int .i64 0, .int .i64 0, .bool false, .bool false]) (.agg #[.int .i64 6, .bool false, .int .i64 0, .int .i64 0, .bool false, .bool false])).run Tryd.prog w = .ok true w))
    (S2 : Hid (∀ w, (Op.equalIn 10000 23 (.agg #[.int .i64 3, .bool false, .int .i64 0, .int .i64 1, .bool false, .bool true]) (.agg #[.int .i64 3, .bool false, .int .i64 0, .int .i64 1, .bool false, .bool true])).run Tryd.prog w = .ok true w))
    : Calls Tryd.prog 14 #[] w fun e w' => e = .returned (.bool true) ∧ Below w.heap.size w w' := by
  have hS1 := ((Sp.none w).more [.int .i64 4, .bool false, .int .i64 1, .int .i64 0, .bool false, .bool false] 23).more [.int .i64 5, .bool true, .int .i64 0, .int .i64 2, .bool false, .bool false] 23
  simp only [heap1] at hS1
  have HS1 := Lib.hid hS1
  clear hS1
  have s0 := S0.out
  have s1 := S1.out
  have s2 := S2.out
  go_enter Tryd.func14, Tryd.ntmps14
  go_upto_region 3 with fail
  obtain ⟨w1, hX, hS⟩ := (HS1.out).named
  rw [← hX]
  clear hX HS1
  have HS2 := Lib.hid hS
  clear hS
  go_wp2_with fail
  refine (NO.out _ HS2.out.below).mono ?_; rintro e w2 ⟨rfl, hb2⟩
  have hS3 := (HS2.out).keep hb2
  have HS3 := Lib.hid hS3
  clear hS3 HS2
  clear hb2
  clear NO
  go_upto_region 4 with fail
  have hS4 := (HS3.out).more [.int .i64 3, .bool false, .int .i64 0, .int .i64 1, .bool false, .bool true] 23
  have HS4 := Lib.hid hS4
  clear hS4 HS3
  obtain ⟨w3, hX, hS⟩ := (HS4.out).named
  rw [← hX]
  clear hX HS4
  have HS5 := Lib.hid hS
  clear hS
  have k0_0 := (HS5.out).at 0 rfl 0 (v := .int .i64 4) rfl
  have k0_1 := (HS5.out).at 0 rfl 1 (v := .bool false) rfl
  have k0_2 := (HS5.out).at 0 rfl 2 (v := .int .i64 1) rfl
  have k0_3 := (HS5.out).at 0 rfl 3 (v := .int .i64 0) rfl
  have k0_4 := (HS5.out).at 0 rfl 4 (v := .bool false) rfl
  have k0_5 := (HS5.out).at 0 rfl 5 (v := .bool false) rfl
  have k1_0 := (HS5.out).at 1 rfl 0 (v := .int .i64 5) rfl
  have k1_1 := (HS5.out).at 1 rfl 1 (v := .bool true) rfl
  have k1_2 := (HS5.out).at 1 rfl 2 (v := .int .i64 0) rfl
  have k1_3 := (HS5.out).at 1 rfl 3 (v := .int .i64 2) rfl
  have k1_4 := (HS5.out).at 1 rfl 4 (v := .bool false) rfl
  have k1_5 := (HS5.out).at 1 rfl 5 (v := .bool false) rfl
  have k2_0 := (HS5.out).at 2 rfl 0 (v := .int .i64 3) rfl
  have k2_1 := (HS5.out).at 2 rfl 1 (v := .bool false) rfl
  have k2_2 := (HS5.out).at 2 rfl 2 (v := .int .i64 0) rfl
  have k2_3 := (HS5.out).at 2 rfl 3 (v := .int .i64 1) rfl
  have k2_4 := (HS5.out).at 2 rfl 4 (v := .bool false) rfl
  have k2_5 := (HS5.out).at 2 rfl 5 (v := .bool true) rfl
  go_wp2_with fail
  refine (JO.out _ HS5.out.below).mono ?_; rintro e w4 ⟨rfl, hb4⟩
  have hS6 := (HS5.out).keep hb4
  have HS6 := Lib.hid hS6
  clear hS6 HS5
  clear hb4
  clear JO k0_0 k0_1 k0_2 k0_3 k0_4 k0_5 k1_0 k1_1 k1_2 k1_3 k1_4 k1_5 k2_0 k2_1 k2_2 k2_3 k2_4 k2_5
  have k0_0 := (HS6.out).at 0 rfl 0 (v := .int .i64 4) rfl
  have k0_1 := (HS6.out).at 0 rfl 1 (v := .bool false) rfl
  have k0_2 := (HS6.out).at 0 rfl 2 (v := .int .i64 1) rfl
  have k0_3 := (HS6.out).at 0 rfl 3 (v := .int .i64 0) rfl
  have k0_4 := (HS6.out).at 0 rfl 4 (v := .bool false) rfl
  have k0_5 := (HS6.out).at 0 rfl 5 (v := .bool false) rfl
  have k1_0 := (HS6.out).at 1 rfl 0 (v := .int .i64 5) rfl
  have k1_1 := (HS6.out).at 1 rfl 1 (v := .bool true) rfl
  have k1_2 := (HS6.out).at 1 rfl 2 (v := .int .i64 0) rfl
  have k1_3 := (HS6.out).at 1 rfl 3 (v := .int .i64 2) rfl
  have k1_4 := (HS6.out).at 1 rfl 4 (v := .bool false) rfl
  have k1_5 := (HS6.out).at 1 rfl 5 (v := .bool false) rfl
  have k2_0 := (HS6.out).at 2 rfl 0 (v := .int .i64 3) rfl
  have k2_1 := (HS6.out).at 2 rfl 1 (v := .bool false) rfl
  have k2_2 := (HS6.out).at 2 rfl 2 (v := .int .i64 0) rfl
  have k2_3 := (HS6.out).at 2 rfl 3 (v := .int .i64 1) rfl
  have k2_4 := (HS6.out).at 2 rfl 4 (v := .bool false) rfl
  have k2_5 := (HS6.out).at 2 rfl 5 (v := .bool true) rfl
  go_wp2_with fail
  refine (NE.out _ HS6.out.below).mono ?_; rintro e w5 ⟨rfl, hb5⟩
  have hS7 := (HS6.out).keep hb5
  have HS7 := Lib.hid hS7
  clear hS7 HS6
  clear hb5
  clear NE k0_0 k0_1 k0_2 k0_3 k0_4 k0_5 k1_0 k1_1 k1_2 k1_3 k1_4 k1_5 k2_0 k2_1 k2_2 k2_3 k2_4 k2_5
  have k0_0 := (HS7.out).at 0 rfl 0 (v := .int .i64 4) rfl
  have k0_1 := (HS7.out).at 0 rfl 1 (v := .bool false) rfl
  have k0_2 := (HS7.out).at 0 rfl 2 (v := .int .i64 1) rfl
  have k0_3 := (HS7.out).at 0 rfl 3 (v := .int .i64 0) rfl
  have k0_4 := (HS7.out).at 0 rfl 4 (v := .bool false) rfl
  have k0_5 := (HS7.out).at 0 rfl 5 (v := .bool false) rfl
  have k1_0 := (HS7.out).at 1 rfl 0 (v := .int .i64 5) rfl
  have k1_1 := (HS7.out).at 1 rfl 1 (v := .bool true) rfl
  have k1_2 := (HS7.out).at 1 rfl 2 (v := .int .i64 0) rfl
  have k1_3 := (HS7.out).at 1 rfl 3 (v := .int .i64 2) rfl
  have k1_4 := (HS7.out).at 1 rfl 4 (v := .bool false) rfl
  have k1_5 := (HS7.out).at 1 rfl 5 (v := .bool false) rfl
  have k2_0 := (HS7.out).at 2 rfl 0 (v := .int .i64 3) rfl
  have k2_1 := (HS7.out).at 2 rfl 1 (v := .bool false) rfl
  have k2_2 := (HS7.out).at 2 rfl 2 (v := .int .i64 0) rfl
  have k2_3 := (HS7.out).at 2 rfl 3 (v := .int .i64 1) rfl
  have k2_4 := (HS7.out).at 2 rfl 4 (v := .bool false) rfl
  have k2_5 := (HS7.out).at 2 rfl 5 (v := .bool true) rfl
  go_wp2_with fail
  refine (US.out _ HS7.out.below).mono ?_; rintro e w6 ⟨rfl, hb6⟩
  have hS8 := (HS7.out).keep hb6
  have HS8 := Lib.hid hS8
  clear hS8 HS7
  clear hb6
  clear US k0_0 k0_1 k0_2 k0_3 k0_4 k0_5 k1_0 k1_1 k1_2 k1_3 k1_4 k1_5 k2_0 k2_1 k2_2 k2_3 k2_4 k2_5
  have k0_0 := (HS8.out).at 0 rfl 0 (v := .int .i64 4) rfl
  have k0_1 := (HS8.out).at 0 rfl 1 (v := .bool false) rfl
  have k0_2 := (HS8.out).at 0 rfl 2 (v := .int .i64 1) rfl
  have k0_3 := (HS8.out).at 0 rfl 3 (v := .int .i64 0) rfl
  have k0_4 := (HS8.out).at 0 rfl 4 (v := .bool false) rfl
  have k0_5 := (HS8.out).at 0 rfl 5 (v := .bool false) rfl
  have k1_0 := (HS8.out).at 1 rfl 0 (v := .int .i64 5) rfl
  have k1_1 := (HS8.out).at 1 rfl 1 (v := .bool true) rfl
  have k1_2 := (HS8.out).at 1 rfl 2 (v := .int .i64 0) rfl
  have k1_3 := (HS8.out).at 1 rfl 3 (v := .int .i64 2) rfl
  have k1_4 := (HS8.out).at 1 rfl 4 (v := .bool false) rfl
  have k1_5 := (HS8.out).at 1 rfl 5 (v := .bool false) rfl
  have k2_0 := (HS8.out).at 2 rfl 0 (v := .int .i64 3) rfl
  have k2_1 := (HS8.out).at 2 rfl 1 (v := .bool false) rfl
  have k2_2 := (HS8.out).at 2 rfl 2 (v := .int .i64 0) rfl
  have k2_3 := (HS8.out).at 2 rfl 3 (v := .int .i64 1) rfl
  have k2_4 := (HS8.out).at 2 rfl 4 (v := .bool false) rfl
  have k2_5 := (HS8.out).at 2 rfl 5 (v := .bool true) rfl
  have BH := Lib.hid HS8.out.below
  go_wp2_with fail
  exact bodyPost_ret (v := .bool true) (by simp [results, Tryd.results14, go_sem, *]) rfl ⟨rfl, BH.out⟩
theorem awake_any (w : World) (n : PairsAt w) : Calls Tryd.prog 14 #[] w fun e w' => e = .returned (.bool true) ∧ Below w.heap.size w w' := by
  refine awake_core w (Lib.hid fun w' B => ?_) (Lib.hid fun w' _ => ?_) (Lib.hid fun w' _ => New_any w') (Lib.hid fun w' _ => ?_) (Lib.hid fun w => la_same ⟨4, true, 1, 2, false, false⟩ w) (Lib.hid fun w => la_same ⟨6, false, 0, 0, false, false⟩ w) (Lib.hid fun w => la_same ⟨3, false, 0, 1, false, true⟩ w)
  · have h := Now_any (List.replicate 22 false) (by decide) 3 4 ⟨⟨0, 0, 0, 0, false⟩, ⟨0, 0, 0, 0, false⟩, ⟨0, 0, 0, 0, false⟩, ⟨0, 0, 0, 0, false⟩⟩ ⟨⟨0, 0, 0, 0, true⟩, ⟨0, 0, 0, 0, false⟩, ⟨0, 0, 0, 0, false⟩, ⟨0, 0, 0, 0, false⟩⟩ w' (n.keep B)
    rw [now_first] at h
    exact h
  · have h := Join_any ⟨4, false, 1, 0, false, false⟩ ⟨5, true, 0, 2, false, false⟩ w'
    rw [jn_first] at h
    exact h
  · have h := Usable_any 1 2 3 w'
    rwa [us_first] at h

end Law33
end Go.Proofs.YtldbkompebefmaaDoor
