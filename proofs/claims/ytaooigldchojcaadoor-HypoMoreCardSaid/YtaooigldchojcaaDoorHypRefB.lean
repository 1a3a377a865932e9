/- The document's own Alive, Steps for layer 23. -/
import Derived.Test.YtaooigldchojcaaDoorHypRefA
import Derived.Test.YtaooigldchojcaaDoorHypMap
namespace Go.Proofs.YtaooigldchojcaaDoor
open Go.RowKit

/-- rows of the walk: those before n are done; n has seen p tests -/
def alF (rf : List Bool) (x : Int) (n m : Nat) : Bool := if m < n then Hyp.aliveB rf x 15 m else false
def alG (rf : List Bool) (x : Int) (n p m : Nat) : Bool := if m = n then Hyp.aliveB rf x p n else alF rf x n m
theorem alG_end (rf : List Bool) (x : Int) (n : Nat) : rowF (alG rf x n 15) = rowF (alF rf x (n + 1)) := rowF_cong fun m _ => by
  unfold alG alF
  by_cases e : m = n
  · subst e; rw [if_pos rfl, if_pos (by omega)]
  · rw [if_neg e]
    by_cases h : m < n
    · rw [if_pos h, if_pos (by omega)]
    · rw [if_neg h, if_neg (by omega)]
theorem alG_begin (rf : List Bool) (x : Int) (n : Nat) (b : Bool) (hb : b = Hyp.aliveB rf x 0 n) : (rowF (alF rf x n)).set n (some (.bool b)) = rowF (alG rf x n 0) := by
  rw [rowF_set]
  refine rowF_cong fun m _ => ?_
  unfold alG
  by_cases e : m = n
  · rw [if_pos e, if_pos e, hb]
  · rw [if_neg e, if_neg e]
theorem alG_same (rf : List Bool) (x : Int) (n p : Nat) (h : Hyp.aliveB rf x (p + 1) n = Hyp.aliveB rf x p n) : rowF (alG rf x n (p + 1)) = rowF (alG rf x n p) := rowF_cong fun m _ => by unfold alG; rw [h]
theorem alG_off (rf : List Bool) (x : Int) (n p : Nat) (h : Hyp.aliveB rf x (p + 1) n = false) : (rowF (alG rf x n p)).set n (some (.bool false)) = rowF (alG rf x n (p + 1)) := by
  rw [rowF_set]
  refine rowF_cong fun m _ => ?_
  unfold alG
  by_cases e : m = n
  · rw [if_pos e, if_pos e, h]
  · rw [if_neg e, if_neg e, if_neg e]
theorem hypoRow_at (n : Nat) (h : n < 22) : (hypoCells.toList.map some)[n]? = some (some (.int .i64 (Hyp.setN n : Int))) := by
  have g : ∀ n : Fin 22, hypoNums[n.val]? = some (Hyp.setN n.val : Int) := by decide +kernel
  show ((hypoNums.map fun z => Value.int .i64 z).map some)[n]? = _
  rw [List.getElem?_map, List.getElem?_map, g ⟨n, h⟩]; rfl

namespace Ref23
set_option maxHeartbeats 8000000 in
set_option maxRecDepth 100000 in
theorem Alive_any (cs : List Value) (rf : List Bool) (K : Bk cs rf) (x : Int) (w : World) :
    Calls Tryd.prog 9 #[.agg (bk cs rf), .int .i64 x] w fun e w' => e = .returned (.agg (bl (Hyp.aliveL rf x))) ∧ Below w.heap.size w w' := by
  have hS0 : Sp w [(w.heap.size, (cs ++ rf.map fun b => Value.bool b).map some), (w.heap.size + 1, rowF fun _ => false), (w.heap.size + 2, rowF (alF rf x 0))] (((w.alloc (.cells (bk cs rf) 25)).alloc (.cells #[.bool false, .bool false, .bool false, .bool false, .bool false, .bool false, .bool false, .bool false, .bool false, .bool false, .bool false, .bool false, .bool false, .bool false, .bool false, .bool false, .bool false, .bool false, .bool false, .bool false, .bool false, .bool false] 26)).alloc (.cells #[.bool false, .bool false, .bool false, .bool false, .bool false, .bool false, .bool false, .bool false, .bool false, .bool false, .bool false, .bool false, .bool false, .bool false, .bool false, .bool false, .bool false, .bool false, .bool false, .bool false, .bool false, .bool false] 26)) := by
    have h := (((Sp.none w).more (cs ++ rf.map fun b => Value.bool b) 25).more [.bool false, .bool false, .bool false, .bool false, .bool false, .bool false, .bool false, .bool false, .bool false, .bool false, .bool false, .bool false, .bool false, .bool false, .bool false, .bool false, .bool false, .bool false, .bool false, .bool false, .bool false, .bool false] 26).more [.bool false, .bool false, .bool false, .bool false, .bool false, .bool false, .bool false, .bool false, .bool false, .bool false, .bool false, .bool false, .bool false, .bool false, .bool false, .bool false, .bool false, .bool false, .bool false, .bool false, .bool false, .bool false] 26
    simp only [heap1] at h
    have e : rowF (alF rf x 0) = rowF fun _ => false := rowF_cong fun m _ => by unfold alF; rw [if_neg (by omega)]
    rw [e]
    exact h
  have hbk : ∀ W bs, Sp w ((w.heap.size, (cs ++ rf.map fun b => Value.bool b).map some) :: bs) W → W.rangeAt w.heap.size 15 (bl rf).toList := fun W bs h j v hv => by
    have hj : j < 15 := by
      have := (List.getElem?_eq_some_iff.1 hv).1
      rw [bl_list, List.length_map, K.r] at this
      exact this
    refine h.at 0 rfl (15 + j) ?_
    rw [List.getElem?_map, List.getElem?_append_right (by rw [K.c]; omega), K.c, Nat.add_sub_cancel_left]
    rw [bl_list] at hv
    rw [hv]; rfl
  have HK := Lib.hid hbk
  have hi15 := info15 K.r
  have HI15 := Lib.hid (index15 rf K.r)
  obtain ⟨brow, hbrow⟩ : ∃ l, l = (cs ++ rf.map fun b => Value.bool b).map some := ⟨_, rfl⟩
  rw [← hbrow] at hS0 HK
  clear hbrow hbk
  have hAL : Hid (rowF (Hyp.aliveB rf x 15) = (bl (Hyp.aliveL rf x)).toList.map some ∧ (bl (Hyp.aliveL rf x)).size = 22 ∧ (bl (Hyp.aliveL rf x)).all (·.oneCell') = true) := Lib.hid ⟨rowF_alive rf x, by rw [bl_size, Hyp.aliveL_len], bl_one _⟩
  have HHR : Hid (∀ n, n < 22 → (hypoCells.toList.map some)[n]? = some (some (.int .i64 (Hyp.setN n : Int)))) := Lib.hid hypoRow_at
  have HH : Hid (hypoCells.size = 22 ∧ hypoCells.all (·.oneCell') = true) := Lib.hid ⟨hypoCells_size, hypoCells_one⟩
  have HI := Lib.hid hypoCell_at
  have HY : Hid (∀ w, Calls Tryd.prog 34 #[] w fun e w' => e = .returned (.agg hypoCells) ∧ Below w.heap.size w w') := Lib.hid Ref11.Hypos_any
  generalize bl (Hyp.aliveL rf x) = arr2 at *
  generalize bk cs rf = barr at *
  generalize bl rf = rarr at *
  generalize hypoCells = harr at *
  have HS0 := Lib.hid hS0
  clear hS0
  obtain ⟨hz, h1⟩ := HH.out
  have hs := info_hypos
  rw [← hz] at hs
  go_enter Tryd.func9, Tryd.ntmps9
  go_wp2_with fail
  refine (HY.out _).mono ?_
  rintro e w4 ⟨rfl, hb4⟩
  have hS4 := HS0.out.keep hb4
  have hS5 := hS4.more harr.toList 38
  have HS5 : Hid (Sp w [(w.heap.size, brow), (w.heap.size + 1, rowF fun _ => false), (w.heap.size + 2, rowF (alF rf x 0)), (w4.heap.size, harr.toList.map some)] (w4.alloc (.cells harr 38))) := Lib.hid hS5
  have hr5 := range_new w4 harr 38
  clear hS4 hS5 hb4 HS0 HY
  go_wp2_with (first | (refine list_store_new rfl 38 _ _ rfl _ harr rfl rfl hs (by rw [hz]; rfl) h1 ?_) | (refine list_load_any rfl 38 _ rfl _ 0 rfl harr _ hr5 Tryd.underlying38 rfl hs ?_))
  clear hr5 hs hz h1
  go_loopw [13] (fun i wr => ∃ n : Nat, n ≤ 22 ∧ i = .int .i64 n ∧ Sp w [(w.heap.size, brow), (w.heap.size + 1, rowF fun _ => false), (w.heap.size + 2, rowF (alF rf x n)), (w4.heap.size, harr.toList.map some)] wr) (fun i _ => 22 - (intOf i).toNat)
  case atStart => exact ⟨0, by omega, rfl, HS5.out⟩
  case round =>
    clear HS5
    obtain ⟨n, hn, rfl, hS⟩ := hrel
    rename World => wr
    have HS := Lib.hid hS
    clear hS
    by_cases h22 : (n : Int) < 22
    · have HN : Hid (n < 22) := Lib.hid (by omega)
      have hix := HI.out n HN.out
      rw [Hyp.num_set n HN.out] at hix
      have e63 := Sub.and63 x
      have HW := Lib.hid (within_any (Sub.low x) (Sub.low_lt x) (Hyp.setN n : Int) wr)
      rw [Hyp.low_set, ← Hyp.aliveB_zero rf] at HW
      obtain ⟨b, hb⟩ : ∃ b, b = Hyp.aliveB rf x 0 n := ⟨_, rfl⟩
      rw [← hb] at HW
      obtain ⟨z0, k0, f0⟩ := HS.out.there 2 rfl n (rowF_get _ n HN.out)
      have hS1 := HS.out.put 2 rfl n (.bool b)
      simp only [List.set_cons_succ, List.set_cons_zero] at hS1
      rw [alG_begin rf x n b hb] at hS1
      have HS1 := Lib.hid hS1
      have hr15 := HK.out _ _ hS1
      have HB := Lib.hid hb
      have HWN := Lib.hid (fun p (h : p < 15) w => within_any (Hyp.setN n) (Hyp.setN_lt n) (Hyp.setN (7 + p) : Int) w)
      clear hS1 hb HS
      obtain ⟨z, hz⟩ : ∃ z, z = Hyp.setN n := ⟨_, rfl⟩
      rw [← hz] at hix HW HWN
      have HZ := Lib.hid hz
      clear hz
      generalize Sub.low x = lx at *
      go_wp2_with fail
      refine HW.out.mono ?_
      rintro e w5 ⟨rfl, rfl⟩
      clear HW
      go_wp2_with (refine list_load_any rfl 23 _ rfl _ 15 rfl rarr _ hr15 Tryd.underlying23 rfl hi15 ?_)
      clear hr15 k0 f0
      go_loopw [25] (fun i wp => ∃ p : Nat, p ≤ 15 ∧ i = .int .i64 p ∧ Sp w [(w.heap.size, brow), (w.heap.size + 1, rowF fun _ => false), (w.heap.size + 2, rowF (alG rf x n p)), (w4.heap.size, harr.toList.map some)] wp) (fun i _ => 15 - (intOf i).toNat)
      case atStart => exact ⟨0, by omega, rfl, HS1.out⟩
      case round =>
        clear HS1 HI
        obtain ⟨p, hp, rfl, hS⟩ := hrel
        rename World => wp
        have HS := Lib.hid hS
        clear hS
        by_cases h15 : (p : Int) < 15
        · have HP15 : Hid (p < 15) := Lib.hid (by omega)
          have hip := HI15.out p HP15.out
          have hsucc := Lib.hid (Hyp.aliveB_succ rf x p n)
          cases hq : rf.getD p false
          · rw [hq] at hip hsucc
            clear hq
            go_wp2
            go_roundw
            case rel => exact ⟨p + 1, by omega, rfl, by rw [alG_same rf x n p (by rw [hsucc.out]; simp)]; exact HS.out⟩
            case measure => simp [intOf]; omega
          · rw [hq] at hip hsucc
            clear hq
            have c7 := HS.out.at 3 rfl (7 + p) (HHR.out (7 + p) (by have := HP15.out; omega))
            obtain ⟨m, hm⟩ : ∃ m : Nat, m = 7 + p := ⟨_, rfl⟩
            have ew : IntKind.i64.wrap (7 + (p : Int)) = (m : Int) := by rw [IntKind.wrap_i64]; omega
            have hm22 : (m : Int) < 22 := by omega
            have hw := HWN.out p HP15.out wp
            rw [Hyp.low_set] at hw
            rw [← hm] at c7 hw hsucc
            rw [← HZ.out] at hsucc
            have HW := Lib.hid hw
            have HM := Lib.hid hm
            clear hm hw
            generalize Hyp.setN m = y at *
            obtain ⟨z0, k0, f0⟩ := HS.out.there 2 rfl n (rowF_get _ n HN.out)
            have hS1 := HS.out.put 2 rfl n (.bool false)
            simp only [List.set_cons_succ, List.set_cons_zero] at hS1
            have HS1 := Lib.hid hS1
            clear hS1
            generalize Sub.within z y = q at *
            cases q
            · clear k0 f0
              go_wp2_with fail
              refine HW.out.mono ?_
              rintro e w6 ⟨rfl, rfl⟩
              go_wp2
              go_roundw
              case rel => exact ⟨p + 1, by omega, rfl, by rw [alG_same rf x n p (by rw [hsucc.out]; simp)]; exact HS.out⟩
              case measure => simp [intOf]; omega
            · go_wp2_with fail
              refine HW.out.mono ?_
              rintro e w6 ⟨rfl, rfl⟩
              go_wp2
              go_roundw
              case rel => exact ⟨p + 1, by omega, rfl, by rw [← alG_off rf x n p (by rw [hsucc.out]; simp)]; exact HS1.out⟩
              case measure => simp [intOf]; omega
        · obtain rfl : p = 15 := by omega
          go_wp2
          go_roundw
          case rel => exact ⟨n + 1, by omega, rfl, by rw [← alG_end]; exact HS.out⟩
          case measure => simp [intOf]; omega
    · obtain rfl : n = 22 := by omega
      obtain ⟨hAL1, hz, h1⟩ := hAL.out
      have hs := size22
      have HF : Hid (Sp w [(w.heap.size, brow), (w.heap.size + 1, rowF fun _ => false), (w.heap.size + 2, arr2.toList.map some), (w4.heap.size, harr.toList.map some)] wr) := Lib.hid (HS.out.cast (by
        have e : rowF (alF rf x 22) = rowF (Hyp.aliveB rf x 15) := rowF_cong fun m hm => by unfold alF; rw [if_pos hm]
        rw [e, hAL1]))
      have hL : wr.rangeAt (w.heap.size + 2) 0 arr2.toList := fun i v hv => by
        rw [Nat.zero_add]
        exact HF.out.at 2 rfl i (by rw [List.getElem?_map, hv]; rfl)
      have hth : wr.there (w.heap.size + 1) 0 arr2.size := fun i hi => by
        rw [Nat.zero_add]
        rw [hz] at hi
        obtain ⟨z, hz', hf⟩ := HF.out.there 1 rfl i (rowF_get _ i hi)
        exact ⟨by rw [hz']; rfl, hf⟩
      have hR := World.rangeAt_setCells_same wr (w.heap.size + 1) 0 arr2.toList (by rw [Array.length_toList]; exact hth)
      have hB := Lib.hid (below_setCells (Nat.le_succ w.heap.size) arr2.toList 0 _ HF.out.below)
      rw [← hz] at hs
      clear HS hAL HF hAL1 HI HI15 HHR HH hi15
      go_upto_region 14 with fail
      refine wp_region_lit ?_
      refine list_load_row rfl 26 _ rfl (w.heap.size + 2) rfl arr2 _ hL Tryd.underlying26 rfl hs ?_
      refine wpList_store_mid rfl 26 _ _ rfl (w.heap.size + 1) 0 arr2 rfl rfl hth hs h1 ?_
      clear hL hth
      go_wp2
      exact bodyPost_ret (results_row rfl rfl hR Tryd.underlying26 rfl hs) rfl ⟨rfl, hB.out⟩

set_option maxHeartbeats 2000000 in
set_option maxRecDepth 100000 in
theorem Steps_any (cs : List Value) (rf : List Bool) (K : Bk cs rf) (x : Int) (w : World) :
    Calls Tryd.prog 30 #[.agg (bk cs rf), .int .i64 x] w fun e w' => e = .returned (.int .i64 ((Hyp.livN (Hyp.aliveL rf x) 22).length : Int)) ∧ Below w.heap.size w w' := by
  have HA := BankAt.new w cs rf 25
  have HW := Lib.hid (below1 w (.cells (bk cs rf) 25))
  have HV := Lib.hid (fun w => Alive_any cs rf K x w)
  have hi := info30 K
  have HI := Lib.hid (index22 (Hyp.aliveL rf x) (Hyp.aliveL_len rf x))
  unfold BankAt at HA
  generalize Hyp.aliveL rf x = al at *
  generalize bl al = arr at *
  generalize bk cs rf = barr at *
  go_enter Tryd.func30, Tryd.ntmps30
  go_wp2_with (refine list_load_any rfl 25 _ rfl _ 0 rfl barr _ HA Tryd.underlying25 rfl hi ?_)
  refine (HV.out _).mono ?_
  rintro e w1 ⟨rfl, hb1⟩
  have HB1 := Lib.hid (belowT HW.out hb1)
  clear hb1 HA hi
  go_wp2
  go_loop [5, 11] (fun v i => ∃ k : Nat, k ≤ 22 ∧ i = .int .i64 k ∧ v = .int .i64 ((Hyp.livN al k).length : Int)) (fun _ i => 22 - (intOf i).toNat)
  case atStart => exact ⟨0, by omega, rfl, rfl⟩
  case round =>
    obtain ⟨k, hk, rfl, rfl⟩ := hrel
    by_cases h22 : (k : Int) < 22
    · have hix := HI.out k (by omega)
      have hle := Hyp.livN_len al k
      cases hq : al.getD k false
      · rw [hq] at hix
        have HF := Lib.hid (Hyp.livN_same hq)
        clear hq hle
        go_wp2
        go_round
        case rel => exact ⟨k + 1, by omega, rfl, by rw [HF.out]⟩
        case measure => simp [intOf]; omega
      · rw [hq] at hix
        have HF := Lib.hid (Hyp.livN_one hq)
        have HL : Hid ((Hyp.livN al (k + 1)).length = (Hyp.livN al k).length + 1) := Lib.hid (by rw [HF.out, List.length_append]; rfl)
        clear hq HF
        generalize (Hyp.livN al k).length = y at *
        have ew : IntKind.i64.wrap ((y : Int) + 1) = ((y + 1 : Nat) : Int) := by rw [IntKind.wrap_i64]; omega
        go_wp2
        go_round
        case rel => exact ⟨k + 1, by omega, rfl, by rw [HL.out]; first | rfl | simp⟩
        case measure => simp [intOf]; omega
    · obtain rfl : k = 22 := by omega
      go_wp2
      go_ret
      exact ⟨rfl, HB1.out⟩
end Ref23
end Go.Proofs.YtaooigldchojcaaDoor
