/- The landed hypo's Alive (a map filled, deleted from, gone through in whatever order), and Steps. -/
import Derived.Test.YtaooigldchojcaaDoorHypMap
import Derived.Test.YtaooigldchojcaaDoorHypLanA
namespace Go.Proofs.YtaooigldchojcaaDoor
open Go.RowKit Go.Maps

namespace Lan23
set_option maxHeartbeats 8000000 in
set_option maxRecDepth 100000 in
theorem Alive_any (cs : List Value) (rf : List Bool) (K : Bk cs rf) (x : Int) (w : World) (n : PairsAt w) :
    Calls Tryd.prog 8 #[.agg (bk cs rf), .int .i64 x] w fun e w' => e = .returned (.agg (bl (Hyp.aliveL rf x))) ∧ Below w.heap.size w w' := by
  have hmm := @run_makeMap Tryd.prog
  have hbk : ∀ W, Sp w [(w.heap.size, (cs ++ rf.map fun b => Value.bool b).map some), (w.heap.size + 1, rowF fun _ => false)] W → ∀ p, p < 15 → W.cell? ⟨w.heap.size, 15 + p, none⟩ = some (.bool (rf.getD p false)) := fun W h p hp =>
    h.at 0 rfl (15 + p) (by
      rw [List.getElem?_map, List.getElem?_append_right (by rw [K.c]; omega), K.c, Nat.add_sub_cancel_left, List.getElem?_map, List.getD_eq_getElem?_getD, List.getElem?_eq_getElem (by rw [K.r]; exact hp)]
      rfl)
  have hS0 : Sp w [(w.heap.size, (cs ++ rf.map fun b => Value.bool b).map some), (w.heap.size + 1, rowF fun _ => false)] ((w.alloc (.cells (bk cs rf) 25)).alloc (.cells #[.bool false, .bool false, .bool false, .bool false, .bool false, .bool false, .bool false, .bool false, .bool false, .bool false, .bool false, .bool false, .bool false, .bool false, .bool false, .bool false, .bool false, .bool false, .bool false, .bool false, .bool false, .bool false] 26)) := by
    have h := ((Sp.none w).more (cs ++ rf.map fun b => Value.bool b) 25).more [.bool false, .bool false, .bool false, .bool false, .bool false, .bool false, .bool false, .bool false, .bool false, .bool false, .bool false, .bool false, .bool false, .bool false, .bool false, .bool false, .bool false, .bool false, .bool false, .bool false, .bool false, .bool false] 26
    simp only [heap1] at h
    exact h
  have HK := Lib.hid hbk
  obtain ⟨brow, hbrow⟩ : ∃ l, l = (cs ++ rf.map fun b => Value.bool b).map some := ⟨_, rfl⟩
  rw [← hbrow] at hS0 HK
  clear hbrow hbk
  obtain ⟨mb, hmb⟩ : ∃ m, m = w.heap.size + 2 := ⟨_, rfl⟩
  have hown0 := World.ownsMap_made (H := Unit) ((w.alloc (.cells (bk cs rf) 25)).alloc (.cells #[.bool false, .bool false, .bool false, .bool false, .bool false, .bool false, .bool false, .bool false, .bool false, .bool false, .bool false, .bool false, .bool false, .bool false, .bool false, .bool false, .bool false, .bool false, .bool false, .bool false, .bool false, .bool false] 26)) Tryd.prog 3 (plainElem Tryd.prog 3)
  have hS1 := hS0.keep (below1 _ (.map #[] 0))
  have hAL : Hid (rowF (Hyp.aliveB rf x 15) = (bl (Hyp.aliveL rf x)).toList.map some ∧ (bl (Hyp.aliveL rf x)).size = 22 ∧ (bl (Hyp.aliveL rf x)).all (·.oneCell') = true) := Lib.hid ⟨rowF_alive rf x, by rw [bl_size, Hyp.aliveL_len], bl_one _⟩
  generalize bl (Hyp.aliveL rf x) = arr2 at *
  generalize bk cs rf = barr at *
  obtain ⟨W3, hW3⟩ : ∃ W3, W3 = ((w.alloc (.cells barr 25)).alloc (.cells #[.bool false, .bool false, .bool false, .bool false, .bool false, .bool false, .bool false, .bool false, .bool false, .bool false, .bool false, .bool false, .bool false, .bool false, .bool false, .bool false, .bool false, .bool false, .bool false, .bool false, .bool false, .bool false] 26)).alloc (.map #[] 0) := ⟨_, rfl⟩
  rw [← hW3] at hown0 hS1
  simp only [heap1] at hown0
  have HS1 := Lib.hid hS1
  have HO1 : Hid (W3.ownsMap Tryd.prog 3 (plainElem (H := Unit) Tryd.prog 3) mb 0 (.map [])) := Lib.hid (by rw [hmb]; exact hown0)
  have HN3 : Hid (PairsAt W3) := Lib.hid (n.keep hS1.below)
  have HI := Lib.hid hypoCell_at
  have HY := Lib.hid (Lan11.Hypos_any W3 HN3.out)
  clear hS0 hS1 hown0
  generalize hypoCells = harr at *
  go_enter Tryd.func8, Tryd.ntmps8
  go_wp2_with fail
  rw [← hW3, show w.heap.size + 1 + 1 = mb by omega]
  have HMB := Lib.hid hmb
  clear hW3 hmb hmm
  refine HY.out.mono ?_
  rintro e w4 ⟨rfl, hb4⟩
  have HS4 := Lib.hid (HS1.out.keep hb4)
  have HO4 := Lib.hid (HO1.out.kept (Below.grows hb4) (by simp))
  have HN4 := Lib.hid (HN3.out.keep hb4)
  clear hb4 HY HS1 HO1 HN3
  go_wp2
  go_loopw [17] (fun i wr => ∃ k : Nat, k ≤ 22 ∧ i = .int .i64 k ∧ w4.grownBy wr (some mb) ∧ ∃ D : DataW Unit, wr.ownsMap Tryd.prog 3 (plainElem Tryd.prog 3) mb k D ∧ Rep D (fun n => decide (n < k) && Sub.within (Sub.low x) (Hyp.setN n))) (fun i _ => 22 - (intOf i).toNat)
  case atStart => exact ⟨0, by omega, rfl, World.grownBy.refl _ _, .map [], HO4.out, Rep.empty.cast fun n _ => by simp⟩
  case round =>
    obtain ⟨k, hk, rfl, hg, D, hown, hR⟩ := hrel
    rename World => wr
    by_cases h22 : (k : Int) < 22
    · have hix := HI.out k (by omega)
      have hlow := Hyp.low_num k (by omega)
      have HWI := Lib.hid (Lan11.Within_any x (hypoNums.getD k 0) wr)
      rw [hlow] at HWI
      have HG := Lib.hid hg
      have HR := Lib.hid hR
      have H22 : Hid (k < 22) := Lib.hid (by omega)
      have hwf : (Lit.int .i64 (hypoNums.getD k 0)).wf = true := by rw [Hyp.num_set k H22.out]; exact wf_nat _ ⟨by omega, by have := Hyp.setN_lt k; omega⟩
      have hwk : (Lit.int .i64 (k : Int)).wf = true := wf_nat _ ⟨by omega, by omega⟩
      have hD := hown.isMap
      have HP := Lib.hid (HR.out.put hD k H22.out)
      have HD := Lib.hid hD
      clear hlow hg hR hD
      obtain ⟨z, hz⟩ : ∃ z, z = hypoNums.getD k 0 := ⟨_, rfl⟩
      rw [← hz] at hix HWI hwf
      have HZ := Lib.hid hz
      clear hz
      obtain ⟨b, hb⟩ : ∃ b, b = Sub.within (Sub.low x) (Hyp.setN k) := ⟨_, rfl⟩
      rw [← hb] at HWI
      have HB := Lib.hid hb
      clear hb
      cases b
      · go_wp2_with fail
        refine HWI.out.mono ?_
        rintro e w5 ⟨rfl, rfl⟩
        have HW := Lib.hid hown
        clear hown
        go_wp2
        go_roundw
        case rel =>
          refine ⟨k + 1, by omega, rfl, HG.out, D, HW.out.mono (by omega), HR.out.cast fun n hn => ?_⟩
          by_cases e : n = k
          · subst e; rw [← HB.out]; simp
          · rw [show decide (n < k) = decide (n < k + 1) from decide_eq_decide.2 ⟨fun _ => by omega, fun _ => by omega⟩]
        case measure => simp [intOf]; omega
      · have hlt : k < maxLen := by unfold maxLen; omega
        go_wp2_with fail
        refine HWI.out.mono ?_
        rintro e w5 ⟨rfl, rfl⟩
        go_wp2_with (at_mapUpdate; refine wpList_mapUpdate_own _ rfl _ _ _ 50 rfl 3 3 law3 Tryd.underlying50 _ mb _ _ rfl hown hlt _ _ _ rfl rfl (keyOf_int_mk Tryd.underlying3 hwf) _ [] (plainElem_int Tryd.underlying3 hwk) ?_; intro w6 hown6 hgrow6; go_frame)
        have HO6 := Lib.hid hown6
        have HG6 := Lib.hid (HG.out.andThen hgrow6 (fun j hj => Or.inr hj))
        clear hown6 hgrow6 hown
        go_wp2
        go_roundw
        case rel =>
          refine ⟨k + 1, by omega, rfl, HG6.out, _, HO6.out, ?_⟩
          rw [HZ.out]
          refine HP.out.cast fun n hn => ?_
          by_cases e : n = k
          · subst e; rw [← HB.out]; simp
          · rw [show decide (n < k) = decide (n < k + 1) from decide_eq_decide.2 ⟨fun _ => by omega, fun _ => by omega⟩]
            simp [e]
        case measure => simp [intOf]; omega
    · obtain rfl : k = 22 := by omega
      have HSr := Lib.hid (HS4.out.grown hg (fun j hj => by have := HMB.out; injection hj with hj; omega) (by
        intro p hp
        have := HMB.out
        simp only [List.mem_cons, List.not_mem_nil, or_false] at hp
        rcases hp with rfl | rfl
        · intro e; injection e with e; omega
        · intro e; injection e with e; omega))
      have HNr := Lib.hid (n.keep HSr.out.below)
      have HOr := Lib.hid hown
      have HRr := Lib.hid (hR.cast (T := Hyp.aliveB rf x 0) fun n hn => by rw [Hyp.aliveB_zero, decide_eq_true hn]; rfl)
      clear hg hown hR HS4 HO4 HN4 HI
      go_wp2_with fail
      refine (pairs_any wr HNr.out).mono ?_
      rintro e w5 ⟨g, rfl, hgl, hb5, hc5⟩
      have HC5 := Lib.hid hc5
      have HGN : Hid (g ≠ mb ∧ mb < w5.heap.size) := Lib.hid ⟨by have := HOr.out.lt; omega, by have := HOr.out.lt; have := hb5.size; omega⟩
      have HS5 := Lib.hid (HSr.out.keep hb5)
      have HO5 := Lib.hid (HOr.out.kept (Below.grows hb5) (by simp))
      clear hgl hb5 hc5 HSr HNr HOr
      go_wp2
      go_loopw [30] (fun i wp => ∃ p : Nat, p ≤ 15 ∧ i = .int .i64 p ∧ w5.grownBy wp (some mb) ∧ ∃ D : DataW Unit, wp.ownsMap Tryd.prog 3 (plainElem Tryd.prog 3) mb 22 D ∧ Rep D (Hyp.aliveB rf x p)) (fun i _ => 15 - (intOf i).toNat)
      case atStart => exact ⟨0, by omega, rfl, World.grownBy.refl _ _, D, HO5.out, HRr.out⟩
      case round =>
        clear HRr HO5
        obtain ⟨p, hp, rfl, hg, D', hown, hR⟩ := hrel
        rename World => wp
        have HSp := Lib.hid (HS5.out.grown hg (fun j hj => by have := HMB.out; injection hj with hj; omega) (by
          intro p hp
          have := HMB.out
          simp only [List.mem_cons, List.not_mem_nil, or_false] at hp
          rcases hp with rfl | rfl
          · intro e; injection e with e; omega
          · intro e; injection e with e; omega))
        have HG := Lib.hid hg
        have HO := Lib.hid hown
        have HR := Lib.hid hR
        clear hg hown hR
        by_cases h15 : (p : Int) < 15
        · have H15 : Hid (p < 15) := Lib.hid (by omega)
          have c0 := HG.out.cell (HC5.out p H15.out) (fun e => HGN.out.1 (by injection e))
          have c1 := HK.out wp HSp.out p H15.out
          have hsucc := Lib.hid (Hyp.aliveB_succ rf x p)
          cases hq : rf.getD p false
          · rw [hq] at c1 hsucc
            clear hq
            generalize Hyp.setN (7 + p) = z at *
            go_wp2
            go_roundw
            case rel => exact ⟨p + 1, by omega, rfl, HG.out, D', HO.out, HR.out.cast fun n _ => by rw [hsucc.out]; simp⟩
            case measure => simp [intOf]; omega
          · rw [hq] at c1 hsucc
            have HPM : Hid (∀ n, n < 22 → (partI (Hyp.setN (7 + p) : Int)).contains (hypoNums.getD n 0) = Sub.within (Hyp.setN n) (Hyp.setN (7 + p))) := Lib.hid fun n hn => by
              have := part_mem n p hn H15.out
              rwa [Hyp.num_set (7 + p) (by have := H15.out; omega)] at this
            have HPA := Lib.hid (Lan11.Part_any (Hyp.setN (7 + p) : Int) wp)
            have HRG := Lib.hid (part_rng (Hyp.setN (7 + p) : Int))
            have hlen : (partI (Hyp.setN (7 + p) : Int)).length ≤ 64 := below64_len _ 64
            clear hq
            generalize partI (Hyp.setN (7 + p) : Int) = l at *
            obtain ⟨z, hz⟩ : ∃ z, z = Hyp.setN (7 + p) := ⟨_, rfl⟩
            rw [← hz] at c0 HPA
            clear hz
            go_wp2_with fail
            refine HPA.out.mono ?_
            rintro e w6 ⟨v, rfl, hv⟩
            obtain ⟨ba, cap, rfl, L⟩ := hv.lies2
            have HL := Lib.hid L
            have HO6 := Lib.hid (HO.out.kept (Below.grows hv.below) (by simp))
            have HG6 := Lib.hid (HG.out.andThen (Below.grows hv.below) (fun j hj => by cases hj))
            have HMW : Hid (mb < wp.heap.size) := Lib.hid HO.out.lt
            clear hv L HPA HO HG c0 c1
            go_wp2
            go_loopw [43] (fun i wi => ∃ j : Nat, j ≤ l.length ∧ i = .int .i64 j ∧ w6.grownBy wi (some mb) ∧ ∃ D : DataW Unit, wi.ownsMap Tryd.prog 3 (plainElem Tryd.prog 3) mb 22 D ∧ Rep D (fun n => Hyp.aliveB rf x p n && !((l.take j).contains (hypoNums.getD n 0)))) (fun i _ => 64 - (intOf i).toNat)
            case atStart => exact ⟨0, by omega, rfl, World.grownBy.refl _ _, D', HO6.out, HR.out.cast fun n _ => by simp⟩
            case round =>
              obtain ⟨j, hj, rfl, hg7, D7, hown7, hR7⟩ := hrel
              rename World => wi
              by_cases hlj : (j : Int) < l.length
              · have hjn : j < l.length := by omega
                obtain ⟨g1, rfl, hB, hc⟩ := HL.out (by omega)
                have c1 := hg7.cell (hc j hjn) (fun e => by have := HMW.out; injection e with e; have e : g1 = mb := e; omega)
                have hwf : (Lit.int .i64 (l.getD j 0)).wf = true := wf_nat _ (HRG.out _ (by rw [List.getD_eq_getElem?_getD, List.getElem?_eq_getElem hjn]; exact List.getElem_mem hjn))
                have HT : Hid (l.take (j + 1) = l.take j ++ [l.getD j 0]) := Lib.hid (by rw [List.take_add_one, List.getElem?_eq_getElem hjn, List.getD_eq_getElem?_getD, List.getElem?_eq_getElem hjn]; rfl)
                have HDEL := Lib.hid (hR7.del (l.getD j 0))
                have HG7 := Lib.hid hg7
                clear hc hB hjn hg7 hR7
                generalize l.getD j 0 = y at *
                go_wp2_with (at_delete; refine wpList_delete_own _ rfl _ _ 50 3 rfl 3 law3 Tryd.underlying50 _ mb 22 _ rfl hown7 _ _ rfl (keyOf_int_mk Tryd.underlying3 hwf) ?_; intro w8 hown8 hturn8; go_frame)
                have HO8 := Lib.hid hown8
                have HG8 := Lib.hid (HG7.out.andThen hturn8.grown (fun j hj => Or.inr hj))
                clear hown7 hown8 hturn8
                go_wp2
                go_roundw
                case rel =>
                  refine ⟨j + 1, by omega, rfl, HG8.out, _, HO8.out, HDEL.out.cast fun n hn => ?_⟩
                  rw [HT.out, List.contains_append]
                  simp [Bool.and_assoc]
                case measure => simp [intOf]; omega
              · obtain rfl : j = l.length := by omega
                rw [List.take_length] at hR7
                have HG7 := Lib.hid (HG6.out.andThen hg7 (fun j hj => Or.inr hj))
                have HO7 := Lib.hid hown7
                have HR7 := Lib.hid hR7
                clear hg7 hown7 hR7
                go_wp2
                go_roundw
                case rel =>
                  refine ⟨p + 1, by omega, rfl, HG7.out, D7, HO7.out, HR7.out.cast fun n hn => ?_⟩
                  rw [hsucc.out, HPM.out n hn]; simp
                case measure => simp [intOf]; omega
        · obtain rfl : p = 15 := by omega
          have hs := size22
          have e1 : (wp.alloc (.cells #[.bool false, .bool false, .bool false, .bool false, .bool false, .bool false, .bool false, .bool false, .bool false, .bool false, .bool false, .bool false, .bool false, .bool false, .bool false, .bool false, .bool false, .bool false, .bool false, .bool false, .bool false, .bool false] 26)).heap.size = wp.heap.size + 1 := by simp
          have hSA := HSp.out.more [.bool false, .bool false, .bool false, .bool false, .bool false, .bool false, .bool false, .bool false, .bool false, .bool false, .bool false, .bool false, .bool false, .bool false, .bool false, .bool false, .bool false, .bool false, .bool false, .bool false, .bool false, .bool false] 26
          have HSA : Hid (Sp w [(w.heap.size, brow), (w.heap.size + 1, rowF fun _ => false), (wp.heap.size, rowF fun _ => false)] (wp.alloc (.cells #[.bool false, .bool false, .bool false, .bool false, .bool false, .bool false, .bool false, .bool false, .bool false, .bool false, .bool false, .bool false, .bool false, .bool false, .bool false, .bool false, .bool false, .bool false, .bool false, .bool false, .bool false, .bool false] 26))) := Lib.hid hSA
          have hown := HO.out
          have HMW : Hid (mb < wp.heap.size ∧ w.heap.size + 2 = mb) := Lib.hid ⟨hown.lt, HMB.out.symm⟩
          obtain ⟨hAL1, hz, h1⟩ := hAL.out
          have HAL := Lib.hid hAL1
          have HZ1 := Lib.hid (And.intro hz h1)
          have HS15 := Lib.hid hs
          clear hSA HG HC5 HGN hAL1 hz h1 hs HSp HS5
          go_wp2_with (at_range; refine wpList_range_own _ rfl _ 50 rfl 3 3 law3 Tryd.underlying50 _ mb 22 D' rfl (hown.alloc _) ?_; intro w0 hrg0 hg0 hs0)
          try go_frame
          rw [e1] at hrg0 hs0
          try rw [e1]
          have HS0 := Lib.hid (HSA.out.grown hg0 (fun j hj => by cases hj) (fun p _ e => by cases e))
          have HRG0 := Lib.hid hrg0
          clear hg0 hs0 hrg0 hown e1 HSA
          go_loopw [14] (fun _ wr => ∃ (left : Lit → Bool) (cnt : Nat), wr.ranges Tryd.prog 3 (plainElem Tryd.prog 3) mb (wp.heap.size + 1) 22 D' left cnt ∧ Sp w [(w.heap.size, brow), (w.heap.size + 1, rowF fun _ => false), (wp.heap.size, rowF fun n => Hyp.aliveB rf x 15 n && !left (key n))] wr) (fun _ wr => wr.rangeLeft mb (wp.heap.size + 1))
          case atStart =>
            refine ⟨_, _, HRG0.out, ?_⟩
            have e : (rowF fun n => Hyp.aliveB rf x 15 n && !Maps.has D' (key n)) = rowF fun _ => false := rowF_cong fun n hn => by
              cases e : Hyp.aliveB rf x 15 n
              · rfl
              · rw [HR.out.snd n hn e]; rfl
            rw [e]
            exact HS0.out
          case round =>
            clear HS0 HRG0
            obtain ⟨left, cnt, hrg, hSr⟩ := hrel
            rename World => wr
            have HSr := Lib.hid hSr
            clear hSr
            go_wp2_with (at_next; refine wpList_next_ranges_ii _ rfl _ rfl 3 3 .i64 .i64 law3 Tryd.underlying3 Tryd.underlying3 mb (wp.heap.size + 1) 22 _ _ _ rfl hrg ?_ ?_)
            · intro _ hl0
              have HF : Hid (Sp w [(w.heap.size, brow), (w.heap.size + 1, rowF fun _ => false), (wp.heap.size, arr2.toList.map some)] wr) := Lib.hid (HSr.out.cast (by
                have e : (rowF fun n => Hyp.aliveB rf x 15 n && !left (key n)) = rowF (Hyp.aliveB rf x 15) := rowF_cong fun n hn => by rw [hl0]; simp
                rw [e, HAL.out]))
              obtain ⟨hz, h1⟩ := HZ1.out
              have hs := HS15.out
              have hL : wr.rangeAt wp.heap.size 0 arr2.toList := fun i v hv => by
                rw [Nat.zero_add]
                exact HF.out.at 2 rfl i (by rw [List.getElem?_map, hv]; rfl)
              have hth : wr.there (w.heap.size + 1) 0 arr2.size := fun i hi => by
                rw [Nat.zero_add]
                rw [hz] at hi
                obtain ⟨z, hz', hf⟩ := HF.out.there 1 rfl i (rowF_get _ i hi)
                exact ⟨by rw [hz']; rfl, hf⟩
              have hR := World.rangeAt_setCells_same wr (w.heap.size + 1) 0 arr2.toList (by rw [Array.length_toList]; exact hth)
              have hB := Lib.hid (below_setCells (Nat.le_succ w.heap.size) arr2.toList 0 _ HF.out.below)
              rw [← hz] at hs
              clear hl0 hrg HSr HAL HF
              go_upto_region 23 with fail
              refine wp_region_lit ?_
              refine list_load_row rfl 26 _ rfl wp.heap.size rfl arr2 _ hL Tryd.underlying26 rfl hs ?_
              refine wpList_store_mid rfl 26 _ _ rfl (w.heap.size + 1) 0 arr2 rfl rfl hth hs h1 ?_
              clear hL hth
              go_wp2
              exact bodyPost_ret (results_row rfl rfl hR Tryd.underlying26 rfl hs) rfl ⟨rfl, hB.out⟩
            · intro y c w1 cnt1 hwx hwc hlx hat hrg1 hlt hg1 hs1 hen
              obtain ⟨n0, hn0, hy, hSn⟩ := HR.out.fst y (has_true_of_atKey hat)
              have hc : c = (n0 : Int) := by
                have h2 := HR.out.trd n0 hn0 hSn .nil
                have h3 := hat .nil
                subst hy
                rw [h2] at h3
                injection h3 with h3
                injection h3 with _ h3
                exact h3.symm
              subst hc
              have HS1 := Lib.hid (HSr.out.grown hg1 (fun j hj => by have := HMW.out; injection hj with hj; omega) (by
                intro p hp
                have := HMW.out
                simp only [List.mem_cons, List.not_mem_nil, or_false] at hp
                rcases hp with rfl | rfl | rfl
                · intro e; injection e with e; omega
                · intro e; injection e with e; omega
                · intro e; injection e with e; omega))
              obtain ⟨z0, k0, f0⟩ := HS1.out.there 2 rfl n0 (rowF_get _ n0 hn0)
              have HP := Lib.hid (HS1.out.put 2 rfl n0 (.bool true))
              have HRG1 := Lib.hid (hrg1.kept (grown_setCell w1 wp.heap.size n0 (.bool true)) (fun e => by have := HMW.out; injection e with e; omega) (fun e => by injection e with e; omega))
              have hlt2 : (n0 : Int) < 22 := by omega
              have HL := Lib.hid hlt
              have HOLD := Lib.hid hrg
              have HSN := Lib.hid hSn
              have HY := Lib.hid hy
              have HN0 := Lib.hid hn0
              clear hrg1 hlt hg1 hs1 hat hlx hwx hwc hSn hy hrg hn0 HSr HS1
              go_wp2
              go_roundw
              case rel =>
                refine ⟨_, cnt1, HRG1.out, ?_⟩
                have e : (rowF fun n => Hyp.aliveB rf x 15 n && !left (key n)).set n0 (some (.bool true)) = rowF fun n => Hyp.aliveB rf x 15 n && !(left (key n) && !(key n).sameKey (.int .i64 y)) := by
                  rw [rowF_set]
                  refine rowF_cong fun n hn => ?_
                  by_cases e : n = n0
                  · subst e
                    rw [if_pos rfl, HSN.out, HY.out, WideAt.sameKey_self (a := key n) trivial]; simp
                  · rw [if_neg e, HY.out, sameKey_ne (key_ne hn HN0.out e)]; simp
                have h := HP.out
                simp only [List.set_cons_succ, List.set_cons_zero] at h
                rw [e] at h
                exact h
              case measure => rw [HRG1.out.left_eq, HOLD.out.left_eq]; exact HL.out

set_option maxHeartbeats 2000000 in
set_option maxRecDepth 100000 in
theorem Steps_any (cs : List Value) (rf : List Bool) (K : Bk cs rf) (x : Int) (w : World) (n : PairsAt w) :
    Calls Tryd.prog 29 #[.agg (bk cs rf), .int .i64 x] w fun e w' => e = .returned (.int .i64 ((Hyp.livN (Hyp.aliveL rf x) 22).length : Int)) ∧ Below w.heap.size w w' := by
  have HA := BankAt.new w cs rf 25
  have HN : Hid (PairsAt (w.alloc (.cells (bk cs rf) 25))) := Lib.hid (n.keep (below1 _ _))
  have HW := Lib.hid (below1 w (.cells (bk cs rf) 25))
  have HV := Lib.hid (fun w n => Alive_any cs rf K x w n)
  have HL := Lib.hid (fun w n => living_any (Hyp.aliveL rf x) (Hyp.aliveL_len rf x) w n)
  have hi := info30 K
  unfold BankAt at HA
  rw [← Hyp.livI_len]
  generalize bl (Hyp.aliveL rf x) = arr at *
  generalize Hyp.livI (Hyp.aliveL rf x) 22 = l at *
  generalize bk cs rf = barr at *
  go_enter Tryd.func29, Tryd.ntmps29
  go_wp2_with (refine list_load_any rfl 25 _ rfl _ 0 rfl barr _ HA Tryd.underlying25 rfl hi ?_)
  refine (HV.out _ HN.out).mono ?_
  rintro e w1 ⟨rfl, hb1⟩
  have HB1 := Lib.hid (belowT HW.out hb1)
  have HN1 := Lib.hid (HN.out.keep hb1)
  clear hb1 HA hi
  go_wp2_with fail
  refine (HL.out w1 HN1.out).mono ?_
  rintro e w2 ⟨v, rfl, hS⟩
  obtain ⟨ba, cap, rfl, L, _, _⟩ := hS.lies
  have HB := Lib.hid (belowT HB1.out hS.below)
  clear hS L
  go_wp2
  go_ret
  exact ⟨rfl, HB.out⟩
end Lan23
end Go.Proofs.YtaooigldchojcaaDoor
