/- HypoTrue. -/
import Derived.Test.YtaooigldchojcaaDoorHypAwake
import Derived.Test.YtaooigldchojcaaDoorHypBank
namespace Go.Proofs.YtaooigldchojcaaDoor
open Go.RowKit

/-- what has refuted, but for the pairs that hold the m-th -/
def trF (rf : List Bool) (m j p : Nat) : Bool := rf.getD p false && !(decide (p < j) && Sub.within (Hyp.setN m) (Hyp.setN (7 + p)))
theorem trF_off (rf : List Bool) (m j : Nat) (h : Sub.within (Hyp.setN m) (Hyp.setN (7 + j)) = true) (p : Nat) : (if p = j then false else trF rf m j p) = trF rf m (j + 1) p := by
  unfold trF
  by_cases e : p = j
  · subst e; rw [if_pos rfl, h, decide_eq_true (by omega)]; simp
  · rw [if_neg e, show decide (p < j) = decide (p < j + 1) from decide_eq_decide.2 ⟨fun _ => by omega, fun _ => by omega⟩]
theorem trF_same (rf : List Bool) (m j : Nat) (h : Sub.within (Hyp.setN m) (Hyp.setN (7 + j)) = false) (p : Nat) : trF rf m j p = trF rf m (j + 1) p := by
  unfold trF
  by_cases e : p = j
  · subst e; rw [h]; simp
  · rw [show decide (p < j) = decide (p < j + 1) from decide_eq_decide.2 ⟨fun _ => by omega, fun _ => by omega⟩]
theorem and_within (x : Int) (m : Nat) (hm : m < 64) : Sub.within (Sub.low (bits .and .i64 x (m : Int))) m = true := by
  rw [Hyp.within_test]
  intro i hi h
  rw [Sub.low_bit _ i hi] at h
  have hr : bits .and .i64 x (m : Int) = ((BitVec.ofInt 64 x &&& BitVec.ofInt 64 (m : Int)).toNat : Int) := by
    show IntKind.i64.wrap ((BitVec.ofInt 64 x &&& BitVec.ofInt 64 (m : Int)).toNat : Int) = _
    have hx : (BitVec.ofInt 64 (m : Int)).toNat = m := by rw [BitVec.toNat_ofInt]; omega
    have hle : (BitVec.ofInt 64 x &&& BitVec.ofInt 64 (m : Int)).toNat ≤ m := by rw [BitVec.toNat_and, hx]; exact Nat.and_le_right
    rw [IntKind.wrap_i64]; omega
  rw [hr] at h
  have h2 : (BitVec.ofInt 64 (((BitVec.ofInt 64 x &&& BitVec.ofInt 64 (m : Int)).toNat : Nat) : Int)) = BitVec.ofInt 64 x &&& BitVec.ofInt 64 (m : Int) := by
    rw [BitVec.ofInt_natCast, BitVec.ofNat_toNat, BitVec.setWidth_eq]
  rw [h2, BitVec.getLsbD_and, Bool.and_eq_true] at h
  have h3 := h.2
  have hx : (BitVec.ofInt 64 (m : Int)).toNat = m := by rw [BitVec.toNat_ofInt]; omega
  have h4 : (BitVec.ofInt 64 (m : Int)).toNat.testBit i = true := h3
  rwa [hx] at h4
theorem true_alive (rf : List Bool) (x : Int) (m : Nat) (hm : m < 22) : (Hyp.aliveL (listB (trF rf m 15)) (bits .and .i64 x (Hyp.setN m : Int))).getD m false = true := by
  rw [Hyp.aliveL_at _ _ m hm]
  unfold Hyp.aliveB
  rw [and_within x _ (Hyp.setN_lt m), Bool.true_and, List.all_eq_true]
  intro p hp
  have hp := List.mem_range.1 hp
  rw [listB_at _ p hp]
  unfold trF
  rw [decide_eq_true hp]
  cases rf.getD p false <;> cases Sub.within (Hyp.setN m) (Hyp.setN (7 + p)) <;> rfl

namespace Law23
set_option maxHeartbeats 8000000 in
set_option maxRecDepth 100000 in
theorem True_all (cs : List Value) (rf : List Bool) (K : Bk cs rf) (a x : Int) (w : World) (n : PairsAt w) :
    Calls Tryd.prog 5 #[.agg (bk cs rf), .int .i64 a, .int .i64 x] w fun e w' => e = .returned (.bool true) ∧ Below w.heap.size w w' := by
  obtain ⟨m, hm, em, em'⟩ := umodn a 22 (by decide) (by decide)
  have HM : Hid (m < 22) := Lib.hid (by omega)
  have hix := fun w => hypoCell_at m HM.out w
  rw [Hyp.num_set m HM.out] at hix
  have HTA := Lib.hid (true_alive rf x m HM.out)
  have HL15 : Hid (Bk cs (listB (trF rf m 15))) := Lib.hid (bk_listB K _)
  have ROW : Hid (rowC cs (trF rf m 15) = (bk cs (listB (trF rf m 15))).toList.map some) := Lib.hid (rowC_bk _ _)
  have S0 : Hid (Sp w [(w.heap.size, rowC cs (trF rf m 0))] (w.alloc (.cells (bk cs rf) 25))) := Lib.hid (by
    have h := (Sp.none w).more (cs ++ rf.map fun b => Value.bool b) 25
    have e : rowC cs (trF rf m 0) = (bk cs rf).toList.map some := by rw [rowC_rf K]; exact rowC_cong fun p _ => by unfold trF; simp
    rw [e]
    exact h)
  have HLAW : Hid (∀ w, PairsAt w → Calls Tryd.prog 8 #[.agg (bk cs (listB (trF rf m 15))), .int .i64 (bits .and .i64 x (Hyp.setN m : Int))] w fun e w' => e = .returned (.agg (bl (Hyp.aliveL (listB (trF rf m 15)) (bits .and .i64 x (Hyp.setN m : Int))))) ∧ Below w.heap.size w w') := Lib.hid fun w n => Lan23.Alive_any cs _ HL15.out _ w n
  have hAn : (Hyp.aliveL (listB (trF rf m 15)) (bits .and .i64 x (Hyp.setN m : Int))).length = 22 := Hyp.aliveL_len _ _
  obtain ⟨z, hz⟩ : ∃ z, z = Hyp.setN m := ⟨_, rfl⟩
  have HZ := Lib.hid hz
  obtain ⟨y, hy⟩ : ∃ y, bits .and .i64 x (z : Int) = y := ⟨_, rfl⟩
  rw [← hz] at hix HTA HLAW hAn
  rw [hy] at HTA HLAW hAn
  have HZ64 : Hid (z < 64) := Lib.hid (by rw [hz]; exact Hyp.setN_lt m)
  clear hz
  obtain ⟨al, hal⟩ : ∃ al, al = Hyp.aliveL (listB (trF rf m 15)) y := ⟨_, rfl⟩
  rw [← hal] at HTA HLAW hAn
  clear hal
  have HANY : Hid (Hyp.any al = true) := Lib.hid ((Hyp.any_iff al).2 ⟨m, HM.out, HTA.out⟩)
  have HEX : Hid (Sub.within (Hyp.exc al) z = true) := Lib.hid (by rw [HZ.out]; exact Hyp.exc_within HM.out HTA.out)
  have hand := Sub.andNot_bits (Hyp.exc al) (Hyp.exc_lt al) (z : Int)
  rw [Sub.low_of z HZ64.out, HEX.out] at hand
  have L2 := Lib.hid (fun w n => Lan23.Any_any al hAn w n)
  rw [HANY.out] at L2
  have L3 := Lib.hid (fun w n => Lan23.Excluded_any al hAn w n)
  have AW := Lib.hid awake_any
  have HAL : Hid (al.length = 22) := Lib.hid hAn
  have HPI := Lib.hid pair_at
  have HHY := Lib.hid (Lan11.Hypos_any (w.alloc (.cells (bk cs rf) 25)) (n.keep (below1 _ _)))
  have N0 := Lib.hid (n.keep (below1 w (.cells (bk cs rf) 25)))
  have KC : Hid (cs.length = 15) := Lib.hid K.c
  generalize hypoCells = harr at *
  generalize bk cs rf = barr at *
  clear hAn
  go_enter Tryd.func5, Tryd.ntmps5
  go_wp2_with fail
  refine HHY.out.mono ?_
  rintro e w1 ⟨rfl, hb1⟩
  have N1 := Lib.hid (N0.out.keep hb1)
  have S1 := Lib.hid (S0.out.keep hb1)
  clear hb1 S0 N0 HHY
  go_wp2_with fail
  refine (Own9.Pairs_any w1 N1.out).mono ?_
  rintro e w2 ⟨rfl, hb2⟩
  have S2 := Lib.hid (S1.out.keep hb2)
  clear hb2 S1 N1 em em' hix
  generalize pairCells = parr at *
  go_wp2
  go_loopw [22] (fun u wr => ∃ j : Nat, j ≤ 15 ∧ u = .int .i64 j ∧ Sp w [(w.heap.size, rowC cs (trF rf m j))] wr) (fun u _ => 15 - (intOf u).toNat)
  case atStart => exact ⟨0, by omega, rfl, S2.out⟩
  case round =>
    clear S2
    obtain ⟨j, hj, rfl, hS⟩ := hrel
    rename World => wr
    have HS := Lib.hid hS
    clear hS
    by_cases h15 : (j : Int) < 15
    · have H15 : Hid (j < 15) := Lib.hid (by omega)
      have hixp := HPI.out j H15.out
      obtain ⟨p, q, hp, hq, h0, h1, hv⟩ := pr_small j H15.out
      rw [h0, h1] at hixp
      have a0 : IntKind.u64.wrap (p : Int) = p := by rw [IntKind.wrap_u64]; omega
      have a1 : min p 64 = p := by omega
      have a2 := pow_low p hp
      have b0 : IntKind.u64.wrap (q : Int) = q := by rw [IntKind.wrap_u64]; omega
      have b1 : min q 64 = q := by omega
      have b2 := pow_low q hq
      rw [Hyp.num_set (7 + j) (by have := H15.out; omega)] at hv
      have han := Sub.andNot_bits z HZ64.out (Hyp.setN (7 + j) : Int)
      rw [Hyp.low_set, HZ.out] at han
      rw [← HZ.out] at han
      obtain ⟨v, hvv⟩ : ∃ v : Int, v = (Hyp.setN (7 + j) : Int) := ⟨_, rfl⟩
      rw [← hvv] at hv han
      have hv' := hv.symm
      have hS2 := HS.out.more [.int .i64 (p : Int), .int .i64 (q : Int)] 27
      have T1 := Lib.hid (trF_off rf m j)
      have T2 := Lib.hid (trF_same rf m j)
      rw [← HZ.out] at T1 T2
      obtain ⟨z0, k0, f0⟩ := hS2.there 0 rfl (15 + j) (rowC_get KC.out _ j H15.out)
      have hS3 := (hS2.put 0 rfl (15 + j) (.bool false)).take 1
      have HS3 : Hid (Sp w [(w.heap.size, rowC cs fun p => if p = j then false else trF rf m j p)] ((wr.alloc (.cells #[.int .i64 (p : Int), .int .i64 (q : Int)] 27)).setCell ⟨w.heap.size, 15 + j, none⟩ (.bool false))) := Lib.hid (by
        simp only [List.cons_append, List.nil_append, List.set_cons_zero, List.take_succ_cons, List.take_zero] at hS3
        rw [rowC_set KC.out] at hS3
        exact hS3)
      have HS4 := Lib.hid (hS2.take 1)
      clear hS2 hS3 hv h0 h1 HS hvv
      cases hw : Sub.within z (Hyp.setN (7 + j))
      · rw [hw] at han
        have HF := Lib.hid (rowC_cong (cs := cs) fun p _ => T2.out hw p)
        clear hw k0 f0 T1 T2
        go_wp2
        go_roundw
        case rel => exact ⟨j + 1, by omega, rfl, by
          rw [← HF.out]
          have h := HS4.out
          simp only [List.cons_append, List.nil_append, List.take_succ_cons, List.take_zero] at h
          exact h⟩
        case measure => simp [intOf]; omega
      · rw [hw] at han
        have HF := Lib.hid (rowC_cong (cs := cs) fun p _ => T1.out hw p)
        clear hw T1 T2
        go_wp2
        go_roundw
        case rel => exact ⟨j + 1, by omega, rfl, by rw [← HF.out]; exact HS3.out⟩
        case measure => simp [intOf]; omega
    · obtain rfl : j = 15 := by omega
      have hi30 := info30 HL15.out
      have hi22 := info22 HAL.out
      have hs := size22
      have hz22 : (bl al).size = 22 := by rw [bl_size]; exact HAL.out
      have h1 := bl_one al
      have HB := Lib.hid HS.out.below
      have HN := Lib.hid (n.keep HS.out.below)
      have hL : wr.rangeAt w.heap.size 0 (bk cs (listB (trF rf m 15))).toList := fun i v hv => by
        rw [Nat.zero_add]
        exact HS.out.at 0 rfl i (by rw [ROW.out, List.getElem?_map, hv]; rfl)
      generalize bk cs (listB (trF rf m 15)) = barr2 at *
      clear HS
      go_wp2_with (refine list_load_any rfl 25 _ rfl _ 0 rfl barr2 _ hL Tryd.underlying25 rfl hi30 ?_)
      clear hL
      refine (HLAW.out wr HN.out).mono ?_
      rintro e w3 ⟨rfl, hb3⟩
      have HB3 := Lib.hid (belowT HB.out hb3)
      have HN3 := Lib.hid (HN.out.keep hb3)
      clear hb3
      have HCELL := Lib.hid ((ArrB.new w3 al 26).at m (by rw [HAL.out]; exact HM.out))
      have HRNG := Lib.hid (range_new w3 (bl al) 26)
      rw [HTA.out] at HCELL
      generalize bl al = arr at *
      go_upto_region 11 with (refine list_store_new rfl 26 _ _ rfl _ arr rfl rfl hi22 (by rw [hz22]; rfl) h1 ?_)
      obtain ⟨w4, hw4⟩ : ∃ w4, w4 = w3.alloc (.cells arr 26) := ⟨_, rfl⟩
      rw [← hw4] at HCELL HRNG ⊢
      have HB4 : Hid (Below w.heap.size w w4) := Lib.hid (by rw [hw4]; exact belowT HB3.out (below1 _ _))
      have HN4 : Hid (PairsAt w4) := Lib.hid (by rw [hw4]; exact HN3.out.keep (below1 _ _))
      have hc := HCELL.out
      have hL := HRNG.out
      clear hw4 HB3 HN3 hz22 h1 hs hi30
      go_wp2_with (refine list_load_any rfl 26 _ rfl _ 0 rfl arr _ hL Tryd.underlying26 rfl hi22 ?_)
      refine (L3.out w4 HN4.out).mono ?_
      rintro e w5 ⟨rfl, hb5⟩
      have HB5 := Lib.hid (belowT HB4.out hb5)
      have HN5 := Lib.hid (HN4.out.keep hb5)
      replace hL := range_keep hL hb5
      clear hb5 hc
      go_wp2_with (refine list_load_any rfl 26 _ rfl _ 0 rfl arr _ hL Tryd.underlying26 rfl hi22 ?_)
      refine (L2.out w5 HN5.out).mono ?_
      rintro e w6 ⟨rfl, hb6⟩
      have HB6 := Lib.hid (belowT HB5.out hb6)
      have HN6 := Lib.hid (HN5.out.keep hb6)
      clear hb6 hL
      go_wp2_with fail
      refine (AW.out w6 HN6.out).mono ?_
      rintro e w7 ⟨rfl, hb7⟩
      have HB7 := Lib.hid (belowT HB6.out hb7)
      clear hb7
      go_wp2
      go_ret
      exact ⟨rfl, HB7.out⟩
end Law23
end Go.Proofs.YtaooigldchojcaaDoor
