
/- The landed hypo's Excluded, Ambiguous, Blamed. -/
import Derived.Test.YtldbkompebefmaaDoorLtLanE
namespace Go.Proofs.YtldbkompebefmaaDoor
open Go.RowKit

namespace Lan23
set_option maxHeartbeats 4000000 in
set_option maxRecDepth 100000 in
theorem Excluded_any (al : List Bool) (hl : al.length = 22) (w : World) (n : PairsAt w) :
    Calls Tryd.prog 21 #[.agg (bl al)] w fun e w' => e = .returned (.int .i64 (Hyp.exc al : Int)) ∧ Below w.heap.size w w' := by
  have HA := ArrB.new w al 24
  have HV := Lib.hid (living_any al hl (w.alloc (.cells (bl al) 24)) (n.keep (below1 _ _)))
  have HW := Lib.hid (below1 w (.cells (bl al) 24))
  have hi := info22 hl
  unfold ArrB at HA
  have hx : Hyp.exc al = if 0 < (Hyp.livN al 22).length then Hyp.com (Hyp.livN al 22) 63 else 0 := by
    unfold Hyp.exc Hyp.any
    by_cases h : 0 < (Hyp.livN al 22).length
    · rw [if_pos h, if_pos (by simpa using h)]
    · rw [if_neg h, if_neg (by simpa using h)]
  have hlt : ∀ h ∈ Hyp.livN al 22, h < 64 := fun h m => Hyp.liv_lt m
  have hle := Hyp.livN_len al 22
  have HAT : Hid (∀ j, (Hyp.livI al 22).getD j 0 = (((Hyp.livN al 22).getD j 0 : Nat) : Int)) := Lib.hid fun j => Hyp.livI_at
  have hlen := Hyp.livI_len al 22
  obtain ⟨r, hr⟩ : ∃ r, r = Hyp.exc al := ⟨_, rfl⟩
  rw [← hr] at hx ⊢
  have HX := Lib.hid hx
  have HLT := Lib.hid hlt
  clear hr hx hlt
  generalize bl al = arr at *
  generalize Hyp.livI al 22 = l at *
  generalize Hyp.livN al 22 = ns at *
  have HLEN := Lib.hid hlen
  clear hlen
  go_enter Tryd.func21, Tryd.ntmps21
  go_wp2_with (refine list_load_any rfl 24 _ rfl _ 0 rfl arr _ HA Tryd.underlying24 rfl hi ?_)
  refine HV.out.mono ?_
  rintro e w1 ⟨v, rfl, hS⟩
  obtain ⟨ba, cap, rfl, L, hcap, hmx⟩ := hS.lies
  have HB := Lib.hid (belowT HW.out hS.below)
  have HL := Lib.hid L
  rw [HLEN.out] at hcap ⊢
  clear hS L HV HW HA hi
  by_cases h0 : ns.length = 0
  · have hq : ((ns.length : Int) == 0) = true := by rw [h0]; rfl
    have HR : Hid (r = 0) := Lib.hid (by have := HX.out; rw [if_neg (by omega)] at this; exact this)
    clear h0
    go_wp2
    go_ret
    rw [HR.out]
    exact ⟨rfl, HB.out⟩
  · have hq : ((ns.length : Int) == 0) = false := by simpa using h0
    have hpos : (0 : Int) < ns.length := by omega
    have HR : Hid (r = Hyp.com ns 63) := Lib.hid (by have := HX.out; rw [if_pos (by omega)] at this; exact this)
    obtain ⟨g, rfl, hc⟩ := HL.out (by rw [HLEN.out]; omega)
    have c0 := hc 0 (by rw [HLEN.out]; omega)
    rw [HAT.out] at c0
    have HC : Hid (∀ j, j < ns.length → w1.cell? ⟨g, j, none⟩ = some (.int .i64 ((ns.getD j 0 : Nat) : Int))) := Lib.hid fun j hj => by rw [hc j (by rw [HLEN.out]; exact hj), HAT.out]
    obtain ⟨s0, hs0⟩ : ∃ s0, s0 = ns.getD 0 0 := ⟨_, rfl⟩
    rw [← hs0] at c0
    have HS0 : Hid (s0 < 64 ∧ Hyp.com ns s0 = Hyp.com ns 63) := Lib.hid (by
      cases ns with
      | nil => exact absurd rfl h0
      | cons a t =>
        have : s0 = a := hs0
        subst this
        exact ⟨HLT.out _ (List.mem_cons_self ..), Hyp.com_head _ t (HLT.out _ (List.mem_cons_self ..))⟩)
    clear hs0 h0 hc HX HL HLEN HAT
    go_wp2_with fail
    go_loop [4, 17] (fun s i => ∃ j : Nat, j ≤ ns.length ∧ i = .int .i64 j ∧ s = .int .i64 ((Hyp.com (ns.take j) s0 : Nat) : Int)) (fun _ i => 22 - (intOf i).toNat)
    case atStart => exact ⟨0, by omega, rfl, rfl⟩
    case round =>
      obtain ⟨j, hj, rfl, rfl⟩ := hrel
      by_cases hlt : (j : Int) < ns.length
      · have hjn : j < ns.length := by omega
        have c1 := HC.out j hjn
        have hm : ns.getD j 0 ∈ ns := by rw [List.getD_eq_getElem?_getD, List.getElem?_eq_getElem hjn]; exact List.getElem_mem hjn
        have ha := Hyp.and_nat (Hyp.com (ns.take j) s0) (ns.getD j 0) (Hyp.com_lt _ _ HS0.out.1) (HLT.out _ hm)
        have HT : Hid (Hyp.com (ns.take (j + 1)) s0 = Hyp.com (ns.take j) s0 &&& ns.getD j 0) := Lib.hid (by rw [Hyp.take_one hjn, Hyp.com_app])
        clear hm hjn
        generalize ns.getD j 0 = z at *
        generalize Hyp.com (ns.take j) s0 = y at *
        generalize y &&& z = u at *
        go_wp2
        go_round
        case rel => exact ⟨j + 1, by omega, rfl, by rw [HT.out]⟩
        case measure => simp [intOf]; omega
      · obtain rfl : j = ns.length := by omega
        rw [List.take_length]
        have HF : Hid (Hyp.com ns s0 = r) := Lib.hid (by rw [HR.out]; exact HS0.out.2)
        go_wp2
        go_ret
        rw [HF.out]
        exact ⟨rfl, HB.out⟩

set_option maxHeartbeats 4000000 in
set_option maxRecDepth 100000 in
theorem Ambiguous_any (al : List Bool) (hl : al.length = 22) (w : World) (n : PairsAt w) :
    Calls Tryd.prog 22 #[.agg (bl al)] w fun e w' => e = .returned (.bool (Hyp.amb al)) ∧ Below w.heap.size w w' := by
  have HA := ArrB.new w al 24
  have HN : Hid (PairsAt (w.alloc (.cells (bl al) 24))) := Lib.hid (n.keep (below1 _ _))
  have HV := Lib.hid (fun w n => Any_any al hl w n)
  have HE := Lib.hid (fun w n => Excluded_any al hl w n)
  have HW := Lib.hid (below1 w (.cells (bl al) 24))
  have hi := info22 hl
  have HKA : Hid (ArrB (w.alloc (.cells (bl al) 24)) w.heap.size al) := Lib.hid HA
  have HU : Hid (∀ w', ArrB w' w.heap.size al → w'.rangeAt w.heap.size 0 (bl al).toList) := Lib.hid fun _ h => h
  unfold ArrB at HA
  have HP := Lib.hid (fun h => Hyp.plc_ok (al := al) h)
  generalize bl al = arr at *
  have HAMB : Hid (Hyp.amb al = (Hyp.any al && !al.getD (Hyp.plc al) false)) := Lib.hid rfl
  generalize Hyp.amb al = r at *
  go_enter Tryd.func22, Tryd.ntmps22
  go_wp2_with (refine list_load_any rfl 24 _ rfl _ 0 rfl arr _ HA Tryd.underlying24 rfl hi ?_)
  refine (HV.out _ HN.out).mono ?_
  rintro e w1 ⟨rfl, hb1⟩
  have HA1 := HU.out _ (HKA.out.keep hb1)
  have HB1 := Lib.hid (belowT HW.out hb1)
  have HN1 := Lib.hid (HN.out.keep hb1)
  have HK1 := Lib.hid (HKA.out.keep hb1)
  clear hb1 HA
  cases ha : Hyp.any al
  · have HR : Hid (r = false) := Lib.hid (by rw [HAMB.out, ha]; rfl)
    go_wp2
    go_ret
    rw [HR.out]
    exact ⟨rfl, HB1.out⟩
  · obtain ⟨p1, p2, _⟩ := HP.out ha
    rw [ha] at HAMB
    clear ha HP
    go_wp2_with (refine list_load_any rfl 24 _ rfl _ 0 rfl arr _ HA1 Tryd.underlying24 rfl hi ?_)
    refine (HE.out _ HN1.out).mono ?_
    rintro e w2 ⟨rfl, hb2⟩
    have HB2 := Lib.hid (belowT HB1.out hb2)
    have HN2 := Lib.hid (HN1.out.keep hb2)
    have HK2 := Lib.hid (HK1.out.keep hb2)
    clear hb2 HA1
    go_wp2_with fail
    refine (Lan11.Place_any (Hyp.exc al : Int) w2 HN2.out).mono ?_
    rintro e w3 ⟨rfl, hb3⟩
    rw [p2]
    have HB3 := Lib.hid (belowT HB2.out hb3)
    have hc := (HK2.out.keep hb3).at (Hyp.plc al) (by omega)
    clear hb3 p2
    generalize Hyp.plc al = k at *
    generalize al.getD k false = z at *
    have hk : (k : Int) < 22 := by omega
    clear p1
    cases z
    · go_wp2
      go_ret
      rw [HAMB.out]
      exact ⟨rfl, HB3.out⟩
    · go_wp2
      go_ret
      rw [HAMB.out]
      exact ⟨rfl, HB3.out⟩

end Lan23
end Go.Proofs.YtldbkompebefmaaDoor
