/- The law's awake. -/
import Derived.Test.YtaooigldchojcaaDoorHypFacts
import Derived.Test.YtaooigldchojcaaDoorHypLanB
import Derived.Test.YtaooigldchojcaaDoorHypLanD
namespace Go.Proofs.YtaooigldchojcaaDoor
open Go.RowKit

namespace Law23
theorem zero_bank : bk zeros15 rf2 = #[.int .i64 0, .int .i64 0, .int .i64 0, .int .i64 0, .int .i64 0, .int .i64 0, .int .i64 0, .int .i64 0, .int .i64 0, .int .i64 0, .int .i64 0, .int .i64 0, .int .i64 0, .int .i64 0, .int .i64 0, .bool false, .bool false, .bool false, .bool false, .bool false, .bool false, .bool false, .bool false, .bool false, .bool false, .bool false, .bool false, .bool false, .bool false, .bool false] := rfl
theorem zero_one : (#[.int .i64 0, .int .i64 0, .int .i64 0, .int .i64 0, .int .i64 0, .int .i64 0, .int .i64 0, .int .i64 0, .int .i64 0, .int .i64 0, .int .i64 0, .int .i64 0, .int .i64 0, .int .i64 0, .int .i64 0, .bool false, .bool false, .bool false, .bool false, .bool false, .bool false, .bool false, .bool false, .bool false, .bool false, .bool false, .bool false, .bool false, .bool false, .bool false] : Array Value).all (·.oneCell') = true := by rw [← zero_bank]; exact bk_one (zeros_bk _ (listB_len _))
structure Arrs (w : World) (b1 b2 b5 b6 : Nat) (a1 a2 a5 a6 : Array Value) : Prop where
  r1 : w.rangeAt b1 0 a1.toList
  r2 : w.rangeAt b2 0 a2.toList
  r5 : w.rangeAt b5 0 a5.toList
  r6 : w.rangeAt b6 0 a6.toList
theorem Arrs.keep {w w' : World} {b1 b2 b5 b6 : Nat} {a1 a2 a5 a6 : Array Value} (h : Arrs w b1 b2 b5 b6 a1 a2 a5 a6) (hb : Below w.heap.size w w') : Arrs w' b1 b2 b5 b6 a1 a2 a5 a6 := ⟨range_keep h.r1 hb, range_keep h.r2 hb, range_keep h.r5 hb, range_keep h.r6 hb⟩

set_option maxHeartbeats 8000000 in
set_option maxRecDepth 100000 in
theorem awake_any (w : World) (n : PairsAt w) :
    Calls Tryd.prog 18 #[] w fun e w' => e = .returned (.bool true) ∧ Below w.heap.size w w' := by
  have E1 : Hid (∀ w, PairsAt w → Calls Tryd.prog 12 #[.agg (bl (Hyp.aliveL rf1 0))] w fun e w' => e = .returned (.int .i64 2) ∧ Below w.heap.size w w') := Lib.hid fun w n => by
    have h := Lan23.Excluded_any (Hyp.aliveL rf1 0) (Hyp.aliveL_len _ _) w n
    rwa [factE1] at h
  have M1 : Hid (∀ w, PairsAt w → Calls Tryd.prog 14 #[.agg (bl (Hyp.aliveL rf1 0))] w fun e w' => e = .returned (.bool false) ∧ Below w.heap.size w w') := Lib.hid fun w n => by
    have h := Lan23.Ambiguous_any (Hyp.aliveL rf1 0) (Hyp.aliveL_len _ _) w n
    rwa [factM1] at h
  have Y1 : Hid (∀ w, PairsAt w → Calls Tryd.prog 10 #[.agg (bl (Hyp.aliveL rf1 0))] w fun e w' => e = .returned (.bool true) ∧ Below w.heap.size w w') := Lib.hid fun w n => by
    have h := Lan23.Any_any (Hyp.aliveL rf1 0) (Hyp.aliveL_len _ _) w n
    rwa [factY1] at h
  have E2 : Hid (∀ w, PairsAt w → Calls Tryd.prog 12 #[.agg (bl (Hyp.aliveL rf2 0))] w fun e w' => e = .returned (.int .i64 0) ∧ Below w.heap.size w w') := Lib.hid fun w n => by
    have h := Lan23.Excluded_any (Hyp.aliveL rf2 0) (Hyp.aliveL_len _ _) w n
    rwa [factE2] at h
  have L2 : Hid (∀ w, PairsAt w → Calls Tryd.prog 16 #[.agg (bl (Hyp.aliveL rf2 0)), .int .i64 3] w fun e w' => e = .returned (.int .i64 6) ∧ Below w.heap.size w w') := Lib.hid fun w n => by
    have h := Lan23.Blamed_any (Hyp.aliveL rf2 0) (Hyp.aliveL_len _ _) 3 w n
    rwa [factL2] at h
  have E5 : Hid (∀ w, PairsAt w → Calls Tryd.prog 12 #[.agg (bl (Hyp.aliveL rf5 0))] w fun e w' => e = .returned (.int .i64 32) ∧ Below w.heap.size w w') := Lib.hid fun w n => by
    have h := Lan23.Excluded_any (Hyp.aliveL rf5 0) (Hyp.aliveL_len _ _) w n
    rwa [factE5] at h
  have M5 : Hid (∀ w, PairsAt w → Calls Tryd.prog 14 #[.agg (bl (Hyp.aliveL rf5 0))] w fun e w' => e = .returned (.bool true) ∧ Below w.heap.size w w') := Lib.hid fun w n => by
    have h := Lan23.Ambiguous_any (Hyp.aliveL rf5 0) (Hyp.aliveL_len _ _) w n
    rwa [factM5] at h
  have Y6 : Hid (∀ w, PairsAt w → Calls Tryd.prog 10 #[.agg (bl (Hyp.aliveL rf6 0))] w fun e w' => e = .returned (.bool false) ∧ Below w.heap.size w w') := Lib.hid fun w n => by
    have h := Lan23.Any_any (Hyp.aliveL rf6 0) (Hyp.aliveL_len _ _) w n
    rwa [factY6] at h
  have E6 : Hid (∀ w, PairsAt w → Calls Tryd.prog 12 #[.agg (bl (Hyp.aliveL rf6 0))] w fun e w' => e = .returned (.int .i64 0) ∧ Below w.heap.size w w') := Lib.hid fun w n => by
    have h := Lan23.Excluded_any (Hyp.aliveL rf6 0) (Hyp.aliveL_len _ _) w n
    rwa [factE6] at h
  have AL1 : Hid (∀ w, PairsAt w → Calls Tryd.prog 8 #[.agg (bk zeros15 rf1), .int .i64 0] w fun e w' => e = .returned (.agg (bl (Hyp.aliveL rf1 0))) ∧ Below w.heap.size w w') := Lib.hid fun w n => Lan23.Alive_any zeros15 rf1 (zeros_bk _ (listB_len _)) 0 w n
  have Z1 : Hid ((Tryd.prog.info? 26).map (·.size) = some (bl (Hyp.aliveL rf1 0)).size ∧ (bl (Hyp.aliveL rf1 0)).size = 22 ∧ (bl (Hyp.aliveL rf1 0)).all (·.oneCell') = true) := Lib.hid ⟨info22 (Hyp.aliveL_len _ _), by rw [bl_size, Hyp.aliveL_len], bl_one _⟩
  have AL2 : Hid (∀ w, PairsAt w → Calls Tryd.prog 8 #[.agg (bk zeros15 rf2), .int .i64 0] w fun e w' => e = .returned (.agg (bl (Hyp.aliveL rf2 0))) ∧ Below w.heap.size w w') := Lib.hid fun w n => Lan23.Alive_any zeros15 rf2 (zeros_bk _ (listB_len _)) 0 w n
  have Z2 : Hid ((Tryd.prog.info? 26).map (·.size) = some (bl (Hyp.aliveL rf2 0)).size ∧ (bl (Hyp.aliveL rf2 0)).size = 22 ∧ (bl (Hyp.aliveL rf2 0)).all (·.oneCell') = true) := Lib.hid ⟨info22 (Hyp.aliveL_len _ _), by rw [bl_size, Hyp.aliveL_len], bl_one _⟩
  have AL5 : Hid (∀ w, PairsAt w → Calls Tryd.prog 8 #[.agg (bk zeros15 rf5), .int .i64 0] w fun e w' => e = .returned (.agg (bl (Hyp.aliveL rf5 0))) ∧ Below w.heap.size w w') := Lib.hid fun w n => Lan23.Alive_any zeros15 rf5 (zeros_bk _ (listB_len _)) 0 w n
  have Z5 : Hid ((Tryd.prog.info? 26).map (·.size) = some (bl (Hyp.aliveL rf5 0)).size ∧ (bl (Hyp.aliveL rf5 0)).size = 22 ∧ (bl (Hyp.aliveL rf5 0)).all (·.oneCell') = true) := Lib.hid ⟨info22 (Hyp.aliveL_len _ _), by rw [bl_size, Hyp.aliveL_len], bl_one _⟩
  have AL6 : Hid (∀ w, PairsAt w → Calls Tryd.prog 8 #[.agg (bk zeros15 rf6), .int .i64 0] w fun e w' => e = .returned (.agg (bl (Hyp.aliveL rf6 0))) ∧ Below w.heap.size w w') := Lib.hid fun w n => Lan23.Alive_any zeros15 rf6 (zeros_bk _ (listB_len _)) 0 w n
  have Z6 : Hid ((Tryd.prog.info? 26).map (·.size) = some (bl (Hyp.aliveL rf6 0)).size ∧ (bl (Hyp.aliveL rf6 0)).size = 22 ∧ (bl (Hyp.aliveL rf6 0)).all (·.oneCell') = true) := Lib.hid ⟨info22 (Hyp.aliveL_len _ _), by rw [bl_size, Hyp.aliveL_len], bl_one _⟩
  have G1 : Hid (∀ w, PairsAt w → Calls Tryd.prog 40 #[.int .i64 1] w fun e w' => e = .returned (.agg (bk zeros15 rf1)) ∧ Below w.heap.size w w') := Lib.hid fun w n => blaming_any 1 w n
  have G6 : Hid (∀ w, PairsAt w → Calls Tryd.prog 40 #[.int .i64 6] w fun e w' => e = .returned (.agg (bk zeros15 rf6)) ∧ Below w.heap.size w w') := Lib.hid fun w n => blaming_any 6 w n
  have K5 : Hid ((Tryd.prog.info? 25).map (·.size) = some (bk zeros15 rf5).size ∧ rowB (fun p => decide (p < 13)) = (bk zeros15 rf5).toList.map some) := Lib.hid ⟨info30 (zeros_bk _ (listB_len _)), rowB_bk _⟩
  rw [zero_bank] at AL2
  generalize bk zeros15 rf1 = k1 at *
  generalize bk zeros15 rf5 = k5 at *
  generalize bk zeros15 rf6 = k6 at *
  generalize bl (Hyp.aliveL rf1 0) = a1 at *
  generalize bl (Hyp.aliveL rf2 0) = a2 at *
  generalize bl (Hyp.aliveL rf5 0) = a5 at *
  generalize bl (Hyp.aliveL rf6 0) = a6 at *
  have B0 := Lib.hid (Below.refl w.heap.size w)
  have N0 := Lib.hid n
  go_enter Tryd.func18, Tryd.ntmps18
  go_wp2_with fail
  refine (G1.out w n).mono ?_
  rintro e w1 ⟨rfl, hb⟩
  have B1 := Lib.hid (belowT B0.out hb)
  have N1 := Lib.hid (N0.out.keep hb)
  clear hb
  go_wp2_with fail
  refine (AL1.out w1 N1.out).mono ?_
  rintro e w2 ⟨rfl, hb⟩
  have B2 := Lib.hid (belowT B1.out hb)
  have N2 := Lib.hid (N1.out.keep hb)
  clear hb
  obtain ⟨hs, hz, h1⟩ := Z1.out
  go_wp2_with (refine list_store_new rfl 26 _ _ rfl _ a1 rfl rfl hs (by rw [hz]; rfl) h1 ?_)
  clear hs hz h1
  obtain ⟨w3, hw3⟩ : ∃ w3, w3 = w2.alloc (.cells a1 26) := ⟨_, rfl⟩
  have R1 : Hid (w3.rangeAt w2.heap.size 0 a1.toList) := Lib.hid (by rw [hw3]; exact range_new _ _ _)
  have B3 : Hid (Below w.heap.size w w3) := Lib.hid (by rw [hw3]; exact belowT B2.out (below1 _ _))
  have N3 : Hid (PairsAt w3) := Lib.hid (by rw [hw3]; exact N2.out.keep (below1 _ _))
  rw [← hw3]
  clear hw3
  refine (AL2.out w3 N3.out).mono ?_
  rintro e w4 ⟨rfl, hb⟩
  have B4 := Lib.hid (belowT B3.out hb)
  have N4 := Lib.hid (N3.out.keep hb)
  have R14 := Lib.hid (range_keep R1.out hb)
  clear hb
  obtain ⟨hs, hz, h1⟩ := Z2.out
  go_upto_region 3 with (refine list_store_new rfl 26 _ _ rfl _ a2 rfl rfl hs (by rw [hz]; rfl) h1 ?_)
  clear hs hz h1
  obtain ⟨w5, hw5⟩ : ∃ w5, w5 = w4.alloc (.cells a2 26) := ⟨_, rfl⟩
  have R2 : Hid (w5.rangeAt w4.heap.size 0 a2.toList) := Lib.hid (by rw [hw5]; exact range_new _ _ _)
  have R15 : Hid (w5.rangeAt w2.heap.size 0 a1.toList) := Lib.hid (by rw [hw5]; exact range_keep R14.out (below1 _ _))
  have B5 : Hid (Below w.heap.size w w5) := Lib.hid (by rw [hw5]; exact belowT B4.out (below1 _ _))
  have N5 : Hid (PairsAt w5) := Lib.hid (by rw [hw5]; exact N4.out.keep (below1 _ _))
  rw [← hw5]
  clear hw5 R1 R14 B3 B4 N3 N4
  have hs30 : (Tryd.prog.info? 25).map (·.size) = some (#[.int .i64 0, .int .i64 0, .int .i64 0, .int .i64 0, .int .i64 0, .int .i64 0, .int .i64 0, .int .i64 0, .int .i64 0, .int .i64 0, .int .i64 0, .int .i64 0, .int .i64 0, .int .i64 0, .int .i64 0, .bool false, .bool false, .bool false, .bool false, .bool false, .bool false, .bool false, .bool false, .bool false, .bool false, .bool false, .bool false, .bool false, .bool false, .bool false] : Array Value).size := size30
  have ho30 : (#[.int .i64 0, .int .i64 0, .int .i64 0, .int .i64 0, .int .i64 0, .int .i64 0, .int .i64 0, .int .i64 0, .int .i64 0, .int .i64 0, .int .i64 0, .int .i64 0, .int .i64 0, .int .i64 0, .int .i64 0, .bool false, .bool false, .bool false, .bool false, .bool false, .bool false, .bool false, .bool false, .bool false, .bool false, .bool false, .bool false, .bool false, .bool false, .bool false] : Array Value).all (·.oneCell') = true := zero_one
  go_wp2_with (refine list_store_new rfl 25 _ _ rfl _ #[.int .i64 0, .int .i64 0, .int .i64 0, .int .i64 0, .int .i64 0, .int .i64 0, .int .i64 0, .int .i64 0, .int .i64 0, .int .i64 0, .int .i64 0, .int .i64 0, .int .i64 0, .int .i64 0, .int .i64 0, .bool false, .bool false, .bool false, .bool false, .bool false, .bool false, .bool false, .bool false, .bool false, .bool false, .bool false, .bool false, .bool false, .bool false, .bool false] rfl rfl hs30 rfl ho30 ?_)
  clear hs30 ho30
  have S5 := (Sp.none w5).more [.int .i64 0, .int .i64 0, .int .i64 0, .int .i64 0, .int .i64 0, .int .i64 0, .int .i64 0, .int .i64 0, .int .i64 0, .int .i64 0, .int .i64 0, .int .i64 0, .int .i64 0, .int .i64 0, .int .i64 0, .bool false, .bool false, .bool false, .bool false, .bool false, .bool false, .bool false, .bool false, .bool false, .bool false, .bool false, .bool false, .bool false, .bool false, .bool false] 25
  have HS5 : Hid (Sp w5 [(w5.heap.size, rowB fun p => decide (p < 0))] (w5.alloc (.cells #[.int .i64 0, .int .i64 0, .int .i64 0, .int .i64 0, .int .i64 0, .int .i64 0, .int .i64 0, .int .i64 0, .int .i64 0, .int .i64 0, .int .i64 0, .int .i64 0, .int .i64 0, .int .i64 0, .int .i64 0, .bool false, .bool false, .bool false, .bool false, .bool false, .bool false, .bool false, .bool false, .bool false, .bool false, .bool false, .bool false, .bool false, .bool false, .bool false] 25))) := Lib.hid (S5.cast (by
    have e : rowB (fun p => decide (p < 0)) = rowB fun _ => false := rowB_cong fun p _ => by simp
    rw [e, rowB_zero]; rfl))
  clear S5
  go_loopw [12] (fun u wr => ∃ j : Nat, j ≤ 13 ∧ u = .int .i64 j ∧ Sp w5 [(w5.heap.size, rowB fun p => decide (p < j))] wr) (fun u _ => 13 - (intOf u).toNat)
  case atStart => exact ⟨0, by omega, rfl, HS5.out⟩
  case round =>
    clear HS5
    obtain ⟨j, hj, rfl, hS⟩ := hrel
    rename World => wr
    have HS := Lib.hid hS
    clear hS
    by_cases h13 : (j : Int) < 13
    · obtain ⟨z0, k0, f0⟩ := HS.out.there 0 rfl (15 + j) (rowB_get _ j (by omega))
      have hS3 := HS.out.put 0 rfl (15 + j) (.bool true)
      have HS3 : Hid (Sp w5 [(w5.heap.size, rowB fun p => decide (p < j + 1))] (wr.setCell ⟨w5.heap.size, 15 + j, none⟩ (.bool true))) := Lib.hid (by
        simp only [List.set_cons_zero] at hS3
        rw [rowB_set _ j (by omega)] at hS3
        rw [rowB_cong (f := fun p => decide (p < j + 1)) (g := fun p => if p = j then true else decide (p < j)) fun p _ => by
          by_cases e : p = j
          · subst e; simp
          · rw [if_neg e]; exact decide_eq_decide.2 ⟨fun _ => by omega, fun _ => by omega⟩]
        exact hS3)
      have hj15 : (j : Int) < 15 := by omega
      clear hS3 HS
      go_wp2
      go_roundw
      case rel => exact ⟨j + 1, by omega, rfl, HS3.out⟩
      case measure => simp [intOf]; omega
    · obtain rfl : j = 13 := by omega
      have hb5 := HS.out.below
      have RK : wr.rangeAt w5.heap.size 0 k5.toList := fun i v hv => by
        rw [Nat.zero_add]
        exact HS.out.at 0 rfl i (by rw [K5.out.2, List.getElem?_map, hv]; rfl)
      have hik := K5.out.1
      have B6 := Lib.hid (belowT B5.out hb5)
      have N6 := Lib.hid (N5.out.keep hb5)
      have R16 := Lib.hid (range_keep R15.out hb5)
      have R26 := Lib.hid (range_keep R2.out hb5)
      clear hb5 HS
      go_wp2_with (refine list_load_any rfl 25 _ rfl _ 0 rfl k5 _ RK Tryd.underlying25 rfl hik ?_)
      clear RK hik
      refine (AL5.out wr N6.out).mono ?_
      rintro e w7 ⟨rfl, hb⟩
      have B7 := Lib.hid (belowT B6.out hb)
      have N7 := Lib.hid (N6.out.keep hb)
      have R17 := Lib.hid (range_keep R16.out hb)
      have R27 := Lib.hid (range_keep R26.out hb)
      clear hb R16 R26 R15 R2
      obtain ⟨hs, hz, h1⟩ := Z5.out
      go_wp2_with (refine list_store_new rfl 26 _ _ rfl _ a5 rfl rfl hs (by rw [hz]; rfl) h1 ?_)
      clear hs hz h1
      obtain ⟨w8, hw8⟩ : ∃ w8, w8 = w7.alloc (.cells a5 26) := ⟨_, rfl⟩
      have R58 : Hid (w8.rangeAt w7.heap.size 0 a5.toList) := Lib.hid (by rw [hw8]; exact range_new _ _ _)
      have R18 : Hid (w8.rangeAt w2.heap.size 0 a1.toList) := Lib.hid (by rw [hw8]; exact range_keep R17.out (below1 _ _))
      have R28 : Hid (w8.rangeAt w4.heap.size 0 a2.toList) := Lib.hid (by rw [hw8]; exact range_keep R27.out (below1 _ _))
      have B8 : Hid (Below w.heap.size w w8) := Lib.hid (by rw [hw8]; exact belowT B7.out (below1 _ _))
      have N8 : Hid (PairsAt w8) := Lib.hid (by rw [hw8]; exact N7.out.keep (below1 _ _))
      rw [← hw8]
      clear hw8 R17 R27 B7 N7
      refine (G6.out w8 N8.out).mono ?_
      rintro e w9 ⟨rfl, hb⟩
      have B9 := Lib.hid (belowT B8.out hb)
      have N9 := Lib.hid (N8.out.keep hb)
      have R19 := Lib.hid (range_keep R18.out hb)
      have R29 := Lib.hid (range_keep R28.out hb)
      have R59 := Lib.hid (range_keep R58.out hb)
      clear hb
      go_wp2_with fail
      refine (AL6.out w9 N9.out).mono ?_
      rintro e w10 ⟨rfl, hb⟩
      have B10 := Lib.hid (belowT B9.out hb)
      have N10 := Lib.hid (N9.out.keep hb)
      have F11 : Hid (Arrs (w10.alloc (.cells a6 26)) w2.heap.size w4.heap.size w7.heap.size w10.heap.size a1 a2 a5 a6) := Lib.hid
        ⟨range_keep (range_keep R19.out hb) (below1 _ _), range_keep (range_keep R29.out hb) (below1 _ _), range_keep (range_keep R59.out hb) (below1 _ _), range_new _ _ _⟩
      clear hb R19 R29 R59 R18 R28 R58 B9 N9 B8 N8
      obtain ⟨hs, hz, h1⟩ := Z6.out
      have i1 := Z1.out.1
      have i2 := Z2.out.1
      have i5 := Z5.out.1
      have r1 := F11.out.r1
      go_wp2_with (first | (refine list_store_new rfl 26 _ _ rfl _ a6 rfl rfl hs (by rw [hz]; rfl) h1 ?_) | (refine list_load_any rfl 26 _ rfl _ 0 rfl a1 _ r1 Tryd.underlying26 rfl i1 ?_))
      clear hz h1 r1
      have i6 := hs
      clear hs
      obtain ⟨w11, hw11⟩ : ∃ w11, w11 = w10.alloc (.cells a6 26) := ⟨_, rfl⟩
      rw [← hw11] at F11 ⊢
      have B11 : Hid (Below w.heap.size w w11) := Lib.hid (by rw [hw11]; exact belowT B10.out (below1 _ _))
      have N11 : Hid (PairsAt w11) := Lib.hid (by rw [hw11]; exact N10.out.keep (below1 _ _))
      clear hw11 B10 N10
      refine (E1.out w11 N11.out).mono ?_
      rintro e w12 ⟨rfl, hb⟩
      have B12 := Lib.hid (belowT B11.out hb)
      have N12 := Lib.hid (N11.out.keep hb)
      have F12 := Lib.hid (F11.out.keep hb)
      clear hb B11 N11 F11
      have r := F12.out.r1
      go_wp2_with (refine list_load_any rfl 26 _ rfl _ 0 rfl a1 _ r Tryd.underlying26 rfl i1 ?_)
      clear r
      refine (M1.out w12 N12.out).mono ?_
      rintro e w13 ⟨rfl, hb⟩
      have B13 := Lib.hid (belowT B12.out hb)
      have N13 := Lib.hid (N12.out.keep hb)
      have F13 := Lib.hid (F12.out.keep hb)
      clear hb B12 N12 F12
      have r := F13.out.r1
      go_wp2_with (refine list_load_any rfl 26 _ rfl _ 0 rfl a1 _ r Tryd.underlying26 rfl i1 ?_)
      clear r
      refine (Y1.out w13 N13.out).mono ?_
      rintro e w14 ⟨rfl, hb⟩
      have B14 := Lib.hid (belowT B13.out hb)
      have N14 := Lib.hid (N13.out.keep hb)
      have F14 := Lib.hid (F13.out.keep hb)
      clear hb B13 N13 F13
      have r := F14.out.r2
      go_wp2_with (refine list_load_any rfl 26 _ rfl _ 0 rfl a2 _ r Tryd.underlying26 rfl i2 ?_)
      clear r
      refine (E2.out w14 N14.out).mono ?_
      rintro e w15 ⟨rfl, hb⟩
      have B15 := Lib.hid (belowT B14.out hb)
      have N15 := Lib.hid (N14.out.keep hb)
      have F15 := Lib.hid (F14.out.keep hb)
      clear hb B14 N14 F14
      have r := F15.out.r2
      go_wp2_with (refine list_load_any rfl 26 _ rfl _ 0 rfl a2 _ r Tryd.underlying26 rfl i2 ?_)
      clear r
      refine (L2.out w15 N15.out).mono ?_
      rintro e w16 ⟨rfl, hb⟩
      have B16 := Lib.hid (belowT B15.out hb)
      have N16 := Lib.hid (N15.out.keep hb)
      have F16 := Lib.hid (F15.out.keep hb)
      clear hb B15 N15 F15
      have r := F16.out.r5
      go_wp2_with (refine list_load_any rfl 26 _ rfl _ 0 rfl a5 _ r Tryd.underlying26 rfl i5 ?_)
      clear r
      refine (E5.out w16 N16.out).mono ?_
      rintro e w17 ⟨rfl, hb⟩
      have B17 := Lib.hid (belowT B16.out hb)
      have N17 := Lib.hid (N16.out.keep hb)
      have F17 := Lib.hid (F16.out.keep hb)
      clear hb B16 N16 F16
      have r := F17.out.r5
      go_wp2_with (refine list_load_any rfl 26 _ rfl _ 0 rfl a5 _ r Tryd.underlying26 rfl i5 ?_)
      clear r
      refine (M5.out w17 N17.out).mono ?_
      rintro e w18 ⟨rfl, hb⟩
      have B18 := Lib.hid (belowT B17.out hb)
      have N18 := Lib.hid (N17.out.keep hb)
      have F18 := Lib.hid (F17.out.keep hb)
      clear hb B17 N17 F17
      have r := F18.out.r6
      go_wp2_with (refine list_load_any rfl 26 _ rfl _ 0 rfl a6 _ r Tryd.underlying26 rfl i6 ?_)
      clear r
      refine (Y6.out w18 N18.out).mono ?_
      rintro e w19 ⟨rfl, hb⟩
      have B19 := Lib.hid (belowT B18.out hb)
      have N19 := Lib.hid (N18.out.keep hb)
      have F19 := Lib.hid (F18.out.keep hb)
      clear hb B18 N18 F18
      have r := F19.out.r6
      go_wp2_with (refine list_load_any rfl 26 _ rfl _ 0 rfl a6 _ r Tryd.underlying26 rfl i6 ?_)
      clear r
      refine (E6.out w19 N19.out).mono ?_
      rintro e w20 ⟨rfl, hb⟩
      have B20 := Lib.hid (belowT B19.out hb)
      have N20 := Lib.hid (N19.out.keep hb)
      have F20 := Lib.hid (F19.out.keep hb)
      clear hb B19 N19 F19
      go_wp2
      go_ret
      exact ⟨rfl, B20.out⟩
end Law23
end Go.Proofs.YtaooigldchojcaaDoor
