
/- The document's own Hypos, Place. -/
import Derived.Test.YtldbkompebefmaaDoorLtRefC
namespace Go.Proofs.YtldbkompebefmaaDoor
open Go.RowKit

theorem pr_small (j : Nat) (h : j < 15) : ∃ a b : Nat, a < 6 ∧ b < 6 ∧ pr0 j = (a : Int) ∧ pr1 j = (b : Int) ∧ hypoNums.getD (7 + j) 0 = bits .or .i64 ((2 : Int) ^ a) ((2 : Int) ^ b) := by
  have g : ∀ j : Fin 15, (pr0 j.val).toNat < 6 ∧ (pr1 j.val).toNat < 6 ∧ pr0 j.val = ((pr0 j.val).toNat : Int) ∧ pr1 j.val = ((pr1 j.val).toNat : Int) ∧ hypoNums.getD (7 + j.val) 0 = bits .or .i64 ((2 : Int) ^ (pr0 j.val).toNat) ((2 : Int) ^ (pr1 j.val).toNat) := by decide +kernel
  obtain ⟨h1, h2, h3, h4, h5⟩ := g ⟨j, h⟩
  exact ⟨_, _, h1, h2, h3, h4, h5⟩
theorem hypo_pow (k : Nat) (h : k < 6) : hypoNums.getD (1 + k) 0 = (2 : Int) ^ k := by
  have g : ∀ k : Fin 6, hypoNums.getD (1 + k.val) 0 = (2 : Int) ^ k.val := by decide +kernel
  exact g ⟨k, h⟩

namespace Ref11
set_option maxHeartbeats 8000000 in
set_option maxRecDepth 100000 in
theorem Hypos_any (w : World) :
    Calls Tryd.prog 39 #[] w fun e w' => e = .returned (.agg hypoCells) ∧ Below w.heap.size w w' := by
  obtain ⟨arr2, hA⟩ : ∃ a, a = hypoCells := ⟨_, rfl⟩
  have FA : Hid (arr2.size = 22 ∧ arr2.all (·.oneCell') = true ∧ hrow (7 + 15) = arr2.toList.map some) := Lib.hid (by
    rw [hA]
    exact ⟨hypoCells_size, hypoCells_one, by rw [hypoCells_row]; unfold hrow; rw [List.map_map]; rfl⟩)
  rw [← hA]
  clear hA
  have hS0 := ((Sp.none w).more [.int .i64 0, .int .i64 0, .int .i64 0, .int .i64 0, .int .i64 0, .int .i64 0, .int .i64 0, .int .i64 0, .int .i64 0, .int .i64 0, .int .i64 0, .int .i64 0, .int .i64 0, .int .i64 0, .int .i64 0, .int .i64 0, .int .i64 0, .int .i64 0, .int .i64 0, .int .i64 0, .int .i64 0, .int .i64 0] 60).more [.int .i64 0, .int .i64 0, .int .i64 0, .int .i64 0, .int .i64 0, .int .i64 0, .int .i64 0, .int .i64 0, .int .i64 0, .int .i64 0, .int .i64 0, .int .i64 0, .int .i64 0, .int .i64 0, .int .i64 0, .int .i64 0, .int .i64 0, .int .i64 0, .int .i64 0, .int .i64 0, .int .i64 0, .int .i64 0] 60
  simp only [heap1] at hS0
  have HS0 : Hid (Sp w [(w.heap.size, hrow 0), (w.heap.size + 1, hrow 1)] _) := Lib.hid (hS0.cast (by rw [hrow_zero, hrow_first]; rfl))
  clear hS0
  go_enter Tryd.func39, Tryd.ntmps39
  go_wp2
  go_loopw [5] (fun i wr => ∃ k : Nat, k ≤ 6 ∧ i = .int .i64 k ∧ Sp w [(w.heap.size, hrow 0), (w.heap.size + 1, hrow (1 + k))] wr) (fun i _ => 6 - (intOf i).toNat)
  case atStart => exact ⟨0, by omega, rfl, HS0.out⟩
  case round =>
    clear HS0
    obtain ⟨k, hk, rfl, hS⟩ := hrel
    rename World => wr
    have HS := Lib.hid hS
    clear hS
    by_cases h6 : (k : Int) < 6
    · obtain ⟨x, hx⟩ := hrow_there (1 + k) (by omega)
      obtain ⟨z, hz, hf⟩ := HS.out.there 1 rfl (1 + k) hx
      have hS' := HS.out.put 1 rfl (1 + k) (.int .i64 ((2 : Int) ^ k))
      rw [← hypo_pow k (by omega), hrow_set _ (by omega)] at hS'
      rw [hypo_pow k (by omega)] at hS'
      have HS' := Lib.hid hS'
      have e0 : IntKind.u64.wrap (k : Int) = k := by rw [IntKind.wrap_u64]; omega
      have e1 : min k 64 = k := by omega
      have e2 := pow_low k (by omega)
      obtain ⟨m, hm⟩ : ∃ m : Nat, m = 1 + k := ⟨_, rfl⟩
      have ew : IntKind.i64.wrap (1 + (k : Int)) = (m : Int) := by rw [IntKind.wrap_i64]; omega
      have hm22 : (m : Int) < 22 := by omega
      rw [← hm] at hz hf HS'
      have HM := Lib.hid hm
      clear hS' hx hm HS
      go_wp2
      go_roundw
      case rel => exact ⟨k + 1, by omega, rfl, by rw [show 1 + (k + 1) = m + 1 by have := HM.out; omega]; exact HS'.out⟩
      case measure => simp [intOf]; omega
    · obtain rfl : k = 6 := by omega
      go_wp2_with fail
      refine (Ref09.Pairs_any wr).mono ?_
      rintro e w1 ⟨rfl, hb1⟩
      have HS1 := Lib.hid (HS.out.keep hb1)
      have HI := Lib.hid pair_at
      clear hb1 HS
      generalize pairCells = arr at *
      go_wp2
      go_loopw [16] (fun i wr => ∃ j : Nat, j ≤ 15 ∧ i = .int .i64 j ∧ Sp w [(w.heap.size, hrow 0), (w.heap.size + 1, hrow (7 + j))] wr) (fun i _ => 15 - (intOf i).toNat)
      case atStart => exact ⟨0, by omega, rfl, HS1.out⟩
      case round =>
        clear HS1
        obtain ⟨j, hj, rfl, hS⟩ := hrel
        rename World => wj
        have HS := Lib.hid hS
        clear hS
        by_cases h15 : (j : Int) < 15
        · have hix := HI.out j (by omega)
          obtain ⟨a, b, ha, hb, h0, h1, hv⟩ := pr_small j (by omega)
          rw [h0, h1] at hix
          obtain ⟨m, hm⟩ : ∃ m : Nat, m = 7 + j := ⟨_, rfl⟩
          have ew : IntKind.i64.wrap (7 + (j : Int)) = (m : Int) := by rw [IntKind.wrap_i64]; omega
          have hm22 : (m : Int) < 22 := by omega
          rw [← hm] at hv
          have hr := hrow_set m (by omega)
          rw [hv] at hr
          have a0 : IntKind.u64.wrap (a : Int) = a := by rw [IntKind.wrap_u64]; omega
          have a1 : min a 64 = a := by omega
          have a2 := pow_low a ha
          have b0 : IntKind.u64.wrap (b : Int) = b := by rw [IntKind.wrap_u64]; omega
          have b1 : min b 64 = b := by omega
          have b2 := pow_low b hb
          obtain ⟨v, hvv⟩ : ∃ v, v = bits .or .i64 ((2 : Int) ^ a) ((2 : Int) ^ b) := ⟨_, rfl⟩
          rw [← hvv] at hr
          have hvv' := hvv.symm
          obtain ⟨x, hx⟩ := hrow_there m (by omega)
          have hS2 := HS.out.more [.int .i64 (a : Int), .int .i64 (b : Int)] 64
          rw [← hm] at hS2
          obtain ⟨z, hz, hf⟩ := hS2.there 1 rfl m hx
          have hS3 := (hS2.put 1 rfl m (.int .i64 v)).take 2
          have HS3 : Hid (Sp w [(w.heap.size, hrow 0), (w.heap.size + 1, hrow (m + 1))] ((wj.alloc (.cells #[.int .i64 (a : Int), .int .i64 (b : Int)] 64)).setCell ⟨w.heap.size + 1, m, none⟩ (.int .i64 v))) := Lib.hid (by
            simp only [List.cons_append, List.nil_append, List.set_cons_succ, List.set_cons_zero, List.take_succ_cons, List.take_zero] at hS3
            rw [hr] at hS3
            exact hS3)
          have hz' := hz
          have HM := Lib.hid hm
          clear hS2 hS3 hx hr hm HS hv h0 h1 hvv HI
          go_wp2
          go_roundw
          case rel => exact ⟨j + 1, by omega, rfl, by rw [show 7 + (j + 1) = m + 1 by have := HM.out; omega]; exact HS3.out⟩
          case measure => simp [intOf]; omega
        · obtain rfl : j = 15 := by omega
          have hs := info_hypos
          obtain ⟨hz, h1, hrow22⟩ := FA.out
          have hL : wj.rangeAt (w.heap.size + 1) 0 arr2.toList := fun i v hv => by
            rw [Nat.zero_add]
            exact HS.out.at 1 rfl i (by rw [hrow22, List.getElem?_map, hv]; rfl)
          have hth : wj.there w.heap.size 0 arr2.size := fun i hi => by
            rw [Nat.zero_add]
            rw [hz] at hi
            have hi0 : i < (hrow 0).length := by unfold hrow; rw [List.length_map, hl_len 0 (by omega)]; exact hi
            obtain ⟨z, hz', hf⟩ := HS.out.there 0 rfl i (List.getElem?_eq_getElem hi0)
            exact ⟨by rw [hz']; rfl, hf⟩
          have hR := World.rangeAt_setCells_same wj w.heap.size 0 arr2.toList (by rw [Array.length_toList]; exact hth)
          have hB := Lib.hid (below_setCells (Nat.le_refl w.heap.size) arr2.toList 0 _ HS.out.below)
          rw [← hz] at hs
          clear HS hrow22 HI FA
          go_upto_region 12 with fail
          refine wp_region_lit ?_
          refine list_load_row rfl 60 _ rfl (w.heap.size + 1) rfl arr2 _ hL Tryd.underlying60 rfl hs ?_
          refine wpList_store_mid rfl 60 _ _ rfl w.heap.size 0 arr2 rfl rfl hth hs h1 ?_
          clear hL hth
          go_wp2
          exact bodyPost_ret (results_row rfl rfl hR Tryd.underlying60 rfl hs) rfl ⟨rfl, hB.out⟩

set_option maxHeartbeats 2000000 in
theorem Place_any (x : Int) (w : World) :
    Calls Tryd.prog 40 #[.int .i64 x] w fun e w' => e = .returned (.int .i64 (placeI x hypoNums 0)) ∧ Below w.heap.size w w' := by
  obtain ⟨r, hr⟩ : ∃ r, r = placeI x hypoNums 0 := ⟨_, rfl⟩
  rw [← hr]
  have HR := Lib.hid hr
  clear hr
  have HI := Lib.hid hypoCell_at
  have HY := Lib.hid (Hypos_any w)
  have hlen : hypoNums.length = 22 := by decide +kernel
  generalize hypoCells = arr at *
  generalize hypoNums = l at *
  go_enter Tryd.func40, Tryd.ntmps40
  go_wp2_with fail
  refine HY.out.mono ?_
  rintro e w1 ⟨rfl, hb⟩
  have HB := Lib.hid hb
  clear hb HY
  go_wp2
  go_loop [6] (fun i => ∃ j : Nat, j ≤ 22 ∧ i = .int .i64 j ∧ placeI x (l.drop j) j = r) (fun i => 22 - (intOf i).toNat)
  case atStart => exact ⟨0, by omega, rfl, HR.out.symm⟩
  case round =>
    obtain ⟨j, hj, rfl, hp⟩ := hrel
    clear HR
    by_cases hlt : (j : Int) < 22
    · have hix := HI.out j (by omega)
      rw [Ref11.placeI_step _ _ _ (by omega)] at hp
      generalize l.getD j 0 = z at *
      by_cases hz : z = x
      · rw [if_pos hz] at hp
        have hq : (z == x) = true := by simpa using hz
        have HP := Lib.hid hp
        clear hz hp
        go_wp2
        go_ret
        rw [← HP.out]
        exact ⟨rfl, HB.out⟩
      · rw [if_neg hz] at hp
        have hq : (z == x) = false := by simpa using hz
        have HP := Lib.hid hp
        clear hp hz
        go_wp2
        go_round
        case rel => exact ⟨j + 1, by omega, rfl, HP.out⟩
        case measure => simp [intOf]; omega
    · obtain rfl : j = 22 := by omega
      rw [List.drop_of_length_le (by omega)] at hp
      have HP : Hid (r = -1) := Lib.hid (by rw [← hp]; rfl)
      clear hp
      go_wp2
      go_ret
      rw [HP.out]
      exact ⟨rfl, HB.out⟩
end Ref11
end Go.Proofs.YtldbkompebefmaaDoor
