
/- The document's own within, Any, Excluded, Ambiguous, Blamed, Tell for layer 23. -/
import Derived.Test.YtldbkompebefmaaDoorLtRefD
import Derived.Test.YtldbkompebefmaaDoorLtHyp
namespace Go.Proofs.YtldbkompebefmaaDoor
open Go.RowKit

namespace Ref23
set_option maxHeartbeats 2000000 in
set_option maxRecDepth 100000 in
theorem Any_any (al : List Bool) (hl : al.length = 22) (w : World) :
    Calls Tryd.prog 28 #[.agg (bl al)] w fun e w' => e = .returned (.bool (Hyp.any al)) ∧ Below w.heap.size w w' := by
  have HA := ArrB.new w al 24
  have HW := Lib.hid (below1 w (.cells (bl al) 24))
  have hi := info22 hl
  have HI := Lib.hid (index22 al hl)
  unfold ArrB at HA
  have H1 : Hid (∀ j, j < 22 → al.getD j false = true → Hyp.any al = true) := Lib.hid fun j h g => (Hyp.any_iff al).2 ⟨j, h, g⟩
  have H2 : Hid ((∀ j, j < 22 → al.getD j false = false) → Hyp.any al = false) := Lib.hid fun h => by
    cases e : Hyp.any al
    · rfl
    · obtain ⟨n, h1, h2⟩ := (Hyp.any_iff al).1 e
      rw [h n h1] at h2; cases h2
  generalize bl al = arr at *
  generalize Hyp.any al = r at *
  go_enter Tryd.func28, Tryd.ntmps28
  go_wp2_with (refine list_load_any rfl 24 _ rfl _ 0 rfl arr _ HA Tryd.underlying24 rfl hi ?_)
  clear HA hi
  go_loop [6] (fun i => ∃ j : Nat, j ≤ 22 ∧ i = .int .i64 j ∧ ∀ m, m < j → al.getD m false = false) (fun i => 22 - (intOf i).toNat)
  case atStart => exact ⟨0, by omega, rfl, fun m h => by omega⟩
  case round =>
    obtain ⟨j, hj, rfl, hp⟩ := hrel
    have HP := Lib.hid hp
    clear hp
    by_cases hlt : (j : Int) < 22
    · have hix := HI.out j (by omega)
      have HJ : Hid (j < 22) := Lib.hid (by omega)
      cases hq : al.getD j false
      · rw [hq] at hix
        have HQ := Lib.hid hq
        clear hq
        go_wp2
        go_round
        case rel => exact ⟨j + 1, by omega, rfl, fun m h => by
          by_cases e : m = j
          · subst e; exact HQ.out
          · exact HP.out m (by omega)⟩
        case measure => simp [intOf]; omega
      · rw [hq] at hix
        have HR := Lib.hid (H1.out j HJ.out hq)
        clear hq
        go_wp2
        go_ret
        rw [HR.out]
        exact ⟨rfl, HW.out⟩
    · obtain rfl : j = 22 := by omega
      have HR := Lib.hid (H2.out HP.out)
      go_wp2
      go_ret
      rw [HR.out]
      exact ⟨rfl, HW.out⟩

set_option maxHeartbeats 4000000 in
set_option maxRecDepth 100000 in
theorem Excluded_any (al : List Bool) (hl : al.length = 22) (w : World) :
    Calls Tryd.prog 25 #[.agg (bl al)] w fun e w' => e = .returned (.int .i64 (Hyp.exc al : Int)) ∧ Below w.heap.size w w' := by
  have HA := ArrB.new w al 24
  have HK : Hid (ArrB (w.alloc (.cells (bl al) 24)) w.heap.size al) := Lib.hid HA
  have HU : Hid (∀ w', ArrB w' w.heap.size al → w'.rangeAt w.heap.size 0 (bl al).toList) := Lib.hid fun _ h => h
  have HW := Lib.hid (below1 w (.cells (bl al) 24))
  have HAN := Lib.hid (Any_any al hl)
  have hi := info22 hl
  have HI := Lib.hid hypoCell_at
  clear HA
  have HARR : Hid (∀ w, Calls Tryd.prog 39 #[] w fun e w' => e = .returned (.agg hypoCells) ∧ Below w.heap.size w w') := Lib.hid Ref11.Hypos_any
  have HX : Hid (Hyp.exc al = if Hyp.any al then Hyp.com (Hyp.livN al 22) 63 else 0) := Lib.hid rfl
  generalize bl al = arr at *
  generalize Hyp.exc al = r at *
  generalize Hyp.any al = q at *
  generalize hypoCells = harr at *
  go_enter Tryd.func25, Tryd.ntmps25
  go_wp2_with fail
  refine (HARR.out _).mono ?_
  rintro e w1 ⟨rfl, hb1⟩
  have HK1 := Lib.hid (HK.out.keep hb1)
  have HB1 := Lib.hid (belowT HW.out hb1)
  clear hb1 HK HW
  go_wp2
  go_loop [3, 7] (fun v i => ∃ k : Nat, k ≤ 22 ∧ i = .int .i64 k ∧ v = .int .i64 (Hyp.com (Hyp.livN al k) 63 : Int)) (fun _ i => 22 - (intOf i).toNat)
  case atStart => exact ⟨0, by omega, rfl, rfl⟩
  case round =>
    obtain ⟨k, hk, rfl, rfl⟩ := hrel
    by_cases h22 : (k : Int) < 22
    · have hix := HI.out k (by omega)
      have hc := HK1.out.at k (by omega)
      rw [Hyp.num_set k (by omega)] at hix
      cases hq : al.getD k false
      · rw [hq] at hc
        have HF := Lib.hid (Hyp.livN_same hq)
        clear hq
        go_wp2
        go_round
        case rel => exact ⟨k + 1, by omega, rfl, by rw [HF.out]⟩
        case measure => simp [intOf]; omega
      · rw [hq] at hc
        have HF := Lib.hid (Hyp.livN_one hq)
        have ha := Hyp.and_nat (Hyp.com (Hyp.livN al k) 63) (Hyp.setN k) (Hyp.com_lt _ _ (by decide)) (Hyp.setN_lt k)
        have HCA := Lib.hid (Hyp.com_app (Hyp.livN al k) (Hyp.setN k) 63)
        clear hq
        generalize Hyp.com (Hyp.livN al k) 63 = y at *
        generalize Hyp.setN k = z at *
        go_wp2
        go_round
        case rel => exact ⟨k + 1, by omega, rfl, by rw [HF.out, HCA.out]⟩
        case measure => simp [intOf]; omega
    · obtain rfl : k = 22 := by omega
      have HA1 := HU.out _ HK1.out
      generalize Hyp.com (Hyp.livN al 22) 63 = y at *
      go_wp2_with (refine list_load_any rfl 24 _ rfl _ 0 rfl arr _ HA1 Tryd.underlying24 rfl hi ?_)
      refine (HAN.out w1).mono ?_
      rintro e w2 ⟨rfl, hb2⟩
      have HB2 := Lib.hid (belowT HB1.out hb2)
      clear hb2 HA1 hi
      cases q
      · have HR : Hid (r = 0) := Lib.hid (by have := HX.out; simpa using this)
        go_wp2
        go_ret
        rw [HR.out]
        exact ⟨rfl, HB2.out⟩
      · have HR : Hid (r = y) := Lib.hid (by have := HX.out; simpa using this)
        go_wp2
        go_ret
        rw [HR.out]
        exact ⟨rfl, HB2.out⟩

set_option maxHeartbeats 4000000 in
set_option maxRecDepth 100000 in
theorem Ambiguous_any (al : List Bool) (hl : al.length = 22) (w : World) :
    Calls Tryd.prog 26 #[.agg (bl al)] w fun e w' => e = .returned (.bool (Hyp.amb al)) ∧ Below w.heap.size w w' := by
  have HA := ArrB.new w al 24
  have HV := Lib.hid (fun w => Any_any al hl w)
  have HE := Lib.hid (fun w => Excluded_any al hl w)
  have HW := Lib.hid (below1 w (.cells (bl al) 24))
  have hi := info22 hl
  have HKA : Hid (ArrB (w.alloc (.cells (bl al) 24)) w.heap.size al) := Lib.hid HA
  have HU : Hid (∀ w', ArrB w' w.heap.size al → w'.rangeAt w.heap.size 0 (bl al).toList) := Lib.hid fun _ h => h
  unfold ArrB at HA
  have HP := Lib.hid (fun h => Hyp.plc_ok (al := al) h)
  have HAMB : Hid (Hyp.amb al = (Hyp.any al && !al.getD (Hyp.plc al) false)) := Lib.hid rfl
  generalize bl al = arr at *
  generalize Hyp.amb al = r at *
  go_enter Tryd.func26, Tryd.ntmps26
  go_wp2_with (refine list_load_any rfl 24 _ rfl _ 0 rfl arr _ HA Tryd.underlying24 rfl hi ?_)
  refine (HE.out _).mono ?_
  rintro e w1 ⟨rfl, hb1⟩
  have HB1 := Lib.hid (belowT HW.out hb1)
  have HK1 := Lib.hid (HKA.out.keep hb1)
  clear hb1 HA
  go_wp2_with fail
  refine (Ref11.Place_any (Hyp.exc al : Int) w1).mono ?_
  rintro e w2 ⟨rfl, hb2⟩
  have HB2 := Lib.hid (belowT HB1.out hb2)
  have HK2 := Lib.hid (HK1.out.keep hb2)
  have HA2 := HU.out _ HK2.out
  clear hb2
  cases ha : Hyp.any al
  · have HR : Hid (r = false) := Lib.hid (by rw [HAMB.out, ha]; rfl)
    rw [ha] at HV
    generalize placeI (Hyp.exc al : Int) hypoNums 0 = pz at *
    clear ha
    go_wp2_with (refine list_load_any rfl 24 _ rfl _ 0 rfl arr _ HA2 Tryd.underlying24 rfl hi ?_)
    refine (HV.out _).mono ?_
    rintro e w3 ⟨rfl, hb3⟩
    have HB3 := Lib.hid (belowT HB2.out hb3)
    clear hb3 HA2 hi
    go_wp2
    go_ret
    rw [HR.out]
    exact ⟨rfl, HB3.out⟩
  · obtain ⟨p1, p2, _⟩ := HP.out ha
    rw [ha] at HAMB HV
    rw [p2]
    clear ha HP p2
    generalize Hyp.plc al = k at *
    have hk : (k : Int) < 22 := by omega
    have hkn : decide ((k : Int) < 0) = false := decide_eq_false (by omega)
    have H22 : Hid (k < al.length) := Lib.hid (by rw [hl]; exact p1)
    clear p1
    go_wp2_with (refine list_load_any rfl 24 _ rfl _ 0 rfl arr _ HA2 Tryd.underlying24 rfl hi ?_)
    refine (HV.out _).mono ?_
    rintro e w3 ⟨rfl, hb3⟩
    have HB3 := Lib.hid (belowT HB2.out hb3)
    have hc := (HK2.out.keep hb3).at k H22.out
    clear hb3 HA2 hi
    generalize al.getD k false = z at *
    cases z
    · go_wp2
      go_ret
      rw [HAMB.out]
      exact ⟨rfl, HB3.out⟩
    · go_wp2
      go_ret
      rw [HAMB.out]
      exact ⟨rfl, HB3.out⟩

end Ref23
end Go.Proofs.YtldbkompebefmaaDoor
