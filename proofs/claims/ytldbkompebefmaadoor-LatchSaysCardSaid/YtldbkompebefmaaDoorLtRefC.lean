
/- The document's own pairs, Hypos, Place. -/
import Derived.Test.YtldbkompebefmaaDoorLtLanD
import Derived.Test.YtldbkompebefmaaDoorLtBls
namespace Go.Proofs.YtldbkompebefmaaDoor
open Go.RowKit

/-- the pairs' numbers, n pairs written -/
def pl (n : Nat) : List Int := pairNums.take (2 * n) ++ List.replicate (30 - 2 * n) 0
def prow (n : Nat) : List (Option Value) := (pl n).map fun z => some (.int .i64 z)
def pst (i : Nat) : Nat := [0, 5, 9, 12, 14, 15, 15].getD i 0
theorem pl_len (n : Nat) (h : n ≤ 15) : (pl n).length = 30 := by
  have g : ∀ n : Fin 16, (pl n.val).length = 30 := by decide +kernel
  exact g ⟨n, by omega⟩
theorem prow_set (i j : Nat) (hi : i < j) (hj : j < 6) : ((prow (pst i + (j - i - 1))).set (2 * (pst i + (j - i - 1))) (some (.int .i64 (i : Int)))).set (2 * (pst i + (j - i - 1)) + 1) (some (.int .i64 (j : Int))) = prow (pst i + (j - i - 1) + 1) := by
  have g : ∀ i j : Fin 6, i.val < j.val → ((pl (pst i.val + (j.val - i.val - 1))).set (2 * (pst i.val + (j.val - i.val - 1))) (i.val : Int)).set (2 * (pst i.val + (j.val - i.val - 1)) + 1) (j.val : Int) = pl (pst i.val + (j.val - i.val - 1) + 1) := by decide +kernel
  unfold prow
  rw [← g ⟨i, by omega⟩ ⟨j, hj⟩ hi, List.map_set, List.map_set]
theorem pst_lt (i j : Nat) (hi : i < j) (hj : j < 6) : pst i + (j - i - 1) < 15 := by
  have g : ∀ i j : Fin 6, i.val < j.val → pst i.val + (j.val - i.val - 1) < 15 := by decide +kernel
  exact g ⟨i, by omega⟩ ⟨j, hj⟩ hi
theorem pst_end (i : Nat) (h : i < 6) : pst i + (6 - i - 1) = pst (i + 1) := by
  have g : ∀ i : Fin 6, pst i.val + (6 - i.val - 1) = pst (i.val + 1) := by decide +kernel
  exact g ⟨i, h⟩
theorem prow_get (n k : Nat) (hn : n ≤ 15) (hk : k < 30) : ∃ x, (prow n)[k]? = some x := by
  have : k < (prow n).length := by unfold prow; rw [List.length_map, pl_len n hn]; exact hk
  exact ⟨_, List.getElem?_eq_getElem this⟩
theorem prow_zero : prow 0 = ([.int .i64 0, .int .i64 0, .int .i64 0, .int .i64 0, .int .i64 0, .int .i64 0, .int .i64 0, .int .i64 0, .int .i64 0, .int .i64 0, .int .i64 0, .int .i64 0, .int .i64 0, .int .i64 0, .int .i64 0, .int .i64 0, .int .i64 0, .int .i64 0, .int .i64 0, .int .i64 0, .int .i64 0, .int .i64 0, .int .i64 0, .int .i64 0, .int .i64 0, .int .i64 0, .int .i64 0, .int .i64 0, .int .i64 0, .int .i64 0] : List Value).map some := rfl
theorem prow_all : prow 15 = pairCells.toList.map some := rfl

namespace Ref09
set_option maxHeartbeats 8000000 in
set_option maxRecDepth 100000 in
theorem Pairs_any (w : World) :
    Calls Tryd.prog 45 #[] w fun e w' => e = .returned (.agg pairCells) ∧ Below w.heap.size w w' := by
  have hS0 := ((Sp.none w).more [.int .i64 0, .int .i64 0, .int .i64 0, .int .i64 0, .int .i64 0, .int .i64 0, .int .i64 0, .int .i64 0, .int .i64 0, .int .i64 0, .int .i64 0, .int .i64 0, .int .i64 0, .int .i64 0, .int .i64 0, .int .i64 0, .int .i64 0, .int .i64 0, .int .i64 0, .int .i64 0, .int .i64 0, .int .i64 0, .int .i64 0, .int .i64 0, .int .i64 0, .int .i64 0, .int .i64 0, .int .i64 0, .int .i64 0, .int .i64 0] 65).more [.int .i64 0, .int .i64 0, .int .i64 0, .int .i64 0, .int .i64 0, .int .i64 0, .int .i64 0, .int .i64 0, .int .i64 0, .int .i64 0, .int .i64 0, .int .i64 0, .int .i64 0, .int .i64 0, .int .i64 0, .int .i64 0, .int .i64 0, .int .i64 0, .int .i64 0, .int .i64 0, .int .i64 0, .int .i64 0, .int .i64 0, .int .i64 0, .int .i64 0, .int .i64 0, .int .i64 0, .int .i64 0, .int .i64 0, .int .i64 0] 65
  simp only [heap1] at hS0
  have HS0 : Hid (Sp w [(w.heap.size, prow 0), (w.heap.size + 1, prow 0)] _) := Lib.hid (hS0.cast (by rw [prow_zero]; rfl))
  clear hS0
  obtain ⟨arr2, hA⟩ : ∃ a, a = pairCells := ⟨_, rfl⟩
  have FA : Hid (arr2.size = 30 ∧ arr2.all (·.oneCell') = true ∧ prow 15 = arr2.toList.map some) := Lib.hid (by
    rw [hA]
    exact ⟨pairCells_size, pairCells_one, prow_all⟩)
  rw [← hA]
  clear hA
  go_enter Tryd.func45, Tryd.ntmps45
  go_wp2
  go_loopw [2, 5] (fun v i wr => ∃ k : Nat, k ≤ 6 ∧ i = .int .i64 k ∧ v = .int .i64 (pst k : Int) ∧ Sp w [(w.heap.size, prow 0), (w.heap.size + 1, prow (pst k))] wr) (fun _ i _ => 6 - (intOf i).toNat)
  case atStart => exact ⟨0, by omega, rfl, rfl, HS0.out⟩
  case round =>
    clear HS0
    obtain ⟨i, hi, rfl, rfl, hS⟩ := hrel
    rename World => wr
    have HS := Lib.hid hS
    clear hS
    by_cases h6 : (i : Int) < 6
    · have HI : Hid (i < 6) := Lib.hid (by omega)
      go_wp2
      go_loopw [2, 4] (fun v u wj => ∃ j : Nat, i < j ∧ j ≤ 6 ∧ u = .int .i64 j ∧ v = .int .i64 ((pst i + (j - i - 1) : Nat) : Int) ∧ Sp w [(w.heap.size, prow 0), (w.heap.size + 1, prow (pst i + (j - i - 1)))] wj) (fun _ u _ => 6 - (intOf u).toNat)
      case atStart => exact ⟨i + 1, by omega, by omega, by simp, by simp, by simpa using HS.out⟩
      case round =>
        clear HS
        obtain ⟨j, hij, hj, rfl, rfl, hS⟩ := hrel
        rename World => wj
        have HS := Lib.hid hS
        clear hS
        by_cases hj6 : (j : Int) < 6
        · have hset := prow_set i j hij (by omega)
          have hlt := pst_lt i j hij (by omega)
          have HNX : Hid (pst i + (j + 1 - i - 1) = pst i + (j - i - 1) + 1) := Lib.hid (by omega)
          generalize pst i + (j - i - 1) = m at *
          obtain ⟨x0, hx0⟩ := prow_get m (2 * m) (by omega) (by omega)
          obtain ⟨x1, hx1⟩ := prow_get m (2 * m + 1) (by omega) (by omega)
          obtain ⟨z0, k0, f0⟩ := HS.out.there 1 rfl (2 * m) hx0
          obtain ⟨z1, k1, f1⟩ := HS.out.there 1 rfl (2 * m + 1) hx1
          have HP := Lib.hid ((HS.out.put 1 rfl (2 * m) (.int .i64 (i : Int))).put 1 rfl (2 * m + 1) (.int .i64 (j : Int)))
          have HSET := Lib.hid hset
          have hm : (m : Int) < 15 := by omega
          clear hset hx0 hx1 HS hlt
          rw [show 2 * m = m * 2 by omega] at k0 f0 k1 f1 HP
          go_wp2
          go_roundw
          case rel => exact ⟨j + 1, by omega, by omega, rfl, by rw [HNX.out]; rfl, by
            rw [HNX.out, ← HSET.out]
            have h := HP.out
            simp only [List.set_cons_succ, List.set_cons_zero] at h
            rw [show 2 * m = m * 2 by omega]
            exact h⟩
          case measure => simp [intOf]; omega
        · obtain rfl : j = 6 := by omega
          have HE := Lib.hid (pst_end i HI.out)
          go_wp2
          go_roundw
          case rel => exact ⟨i + 1, by omega, rfl, by rw [← HE.out], by rw [← HE.out]; exact HS.out⟩
          case measure => simp [intOf]; omega
    · obtain rfl : i = 6 := by omega
      have hs := info_pairs
      obtain ⟨hz, h1, hrow⟩ := FA.out
      have hL : wr.rangeAt (w.heap.size + 1) 0 arr2.toList := fun i v hv => by
        rw [Nat.zero_add]
        exact HS.out.at 1 rfl i (by rw [show pst 6 = 15 from rfl, hrow, List.getElem?_map, hv]; rfl)
      have hth : wr.there w.heap.size 0 arr2.size := fun i hi => by
        rw [Nat.zero_add]
        rw [hz] at hi
        obtain ⟨x, hx⟩ := prow_get 0 i (by omega) hi
        obtain ⟨z, hz', hf⟩ := HS.out.there 0 rfl i hx
        exact ⟨by rw [hz']; rfl, hf⟩
      have hR := World.rangeAt_setCells_same wr w.heap.size 0 arr2.toList (by rw [Array.length_toList]; exact hth)
      have hB := Lib.hid (below_setCells (Nat.le_refl w.heap.size) arr2.toList 0 _ HS.out.below)
      rw [← hz] at hs
      clear HS hrow FA
      go_upto_region 12 with fail
      refine wp_region_lit ?_
      refine list_load_row rfl 65 _ rfl (w.heap.size + 1) rfl arr2 _ hL Tryd.underlying65 rfl hs ?_
      refine wpList_store_mid rfl 65 _ _ rfl w.heap.size 0 arr2 rfl rfl hth hs h1 ?_
      clear hL hth
      go_wp2
      exact bodyPost_ret (results_row rfl rfl hR Tryd.underlying65 rfl hs) rfl ⟨rfl, hB.out⟩
end Ref09
end Go.Proofs.YtldbkompebefmaaDoor
