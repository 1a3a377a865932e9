/- The law's blaming: a bank in which all pairs without a gyro have refuted. -/
import Derived.Test.YtaooigldchojcaaDoorHypMap
import Derived.Test.YtaooigldchojcaaDoorHsLanD
namespace Go.Proofs.YtaooigldchojcaaDoor
open Go.RowKit

def zeros15 : List Value := List.replicate 15 (.int .i64 0)
theorem zeros_bk (rf : List Bool) (h : rf.length = 15) : Bk zeros15 rf := ⟨rfl, h, rfl⟩
/-- a bank's row, by its places -/
def rowB (f : Nat → Bool) : List (Option Value) := zeros15.map some ++ (List.range 15).map fun p => some (.bool (f p))
theorem rowB_len (f : Nat → Bool) : (rowB f).length = 30 := by unfold rowB zeros15; simp
theorem rowB_get (f : Nat → Bool) (p : Nat) (h : p < 15) : (rowB f)[15 + p]? = some (some (.bool (f p))) := by
  unfold rowB
  rw [List.getElem?_append_right (by simp [zeros15]), show 15 + p - (zeros15.map some).length = p by simp [zeros15], List.getElem?_map, List.getElem?_range h]; rfl
theorem rowB_cong {f g : Nat → Bool} (h : ∀ p, p < 15 → f p = g p) : rowB f = rowB g := by
  unfold rowB
  congr 1
  exact List.map_congr_left fun p hp => by rw [h p (List.mem_range.1 hp)]
theorem rowB_set (f : Nat → Bool) (k : Nat) (_hk : k < 15) (b : Bool) : (rowB f).set (15 + k) (some (.bool b)) = rowB (fun p => if p = k then b else f p) := by
  unfold rowB
  rw [List.set_append_right (s := zeros15.map some) (15 + k) _ (by simp [zeros15])]
  congr 1
  rw [show 15 + k - (zeros15.map some).length = k by simp [zeros15]]
  apply List.ext_getElem?
  intro j
  by_cases hj : j < 15
  · by_cases e : j = k
    · subst e
      rw [List.getElem?_set_self (by simp; exact hj), List.getElem?_map, List.getElem?_range hj]; simp
    · rw [List.getElem?_set_ne (Ne.symm e), List.getElem?_map, List.getElem?_map, List.getElem?_range hj]; simp [e]
  · rw [List.getElem?_eq_none (by simp; omega), List.getElem?_eq_none (by simp; omega)]
def listB (f : Nat → Bool) : List Bool := (List.range 15).map f
theorem listB_len (f : Nat → Bool) : (listB f).length = 15 := by unfold listB; rw [List.length_map, List.length_range]
theorem rowB_bk (f : Nat → Bool) : rowB f = (bk zeros15 (listB f)).toList.map some := by
  unfold rowB bk listB
  rw [List.map_append, List.map_map, List.map_map]; rfl
theorem rowB_zero : rowB (fun _ => false) = ([.int .i64 0, .int .i64 0, .int .i64 0, .int .i64 0, .int .i64 0, .int .i64 0, .int .i64 0, .int .i64 0, .int .i64 0, .int .i64 0, .int .i64 0, .int .i64 0, .int .i64 0, .int .i64 0, .int .i64 0, .bool false, .bool false, .bool false, .bool false, .bool false, .bool false, .bool false, .bool false, .bool false, .bool false, .bool false, .bool false, .bool false, .bool false, .bool false] : List Value).map some := rfl
/-- who is blamed -/
def blame (i : Int) (p : Nat) : Bool := decide (pr0 p ≠ i) && decide (pr1 p ≠ i)
def blF (i : Int) (n p : Nat) : Bool := if p < n then blame i p else false
theorem blF_step (i : Int) (n : Nat) (hn : n < 15) : (rowB (blF i n)).set (15 + n) (some (.bool (blame i n))) = rowB (blF i (n + 1)) := by
  rw [rowB_set _ n hn]
  refine rowB_cong fun p _ => ?_
  unfold blF
  by_cases e : p = n
  · subst e; rw [if_pos rfl, if_pos (by omega)]
  · rw [if_neg e]
    by_cases h : p < n
    · rw [if_pos h, if_pos (by omega)]
    · rw [if_neg h, if_neg (by omega)]

namespace Law23
set_option maxHeartbeats 8000000 in
set_option maxRecDepth 100000 in
theorem blaming_any (i : Int) (w : World) (n : PairsAt w) :
    Calls Tryd.prog 40 #[.int .i64 i] w fun e w' => e = .returned (.agg (bk zeros15 (listB (blame i)))) ∧ Below w.heap.size w w' := by
  have hS0 := ((Sp.none w).more [.int .i64 0, .int .i64 0, .int .i64 0, .int .i64 0, .int .i64 0, .int .i64 0, .int .i64 0, .int .i64 0, .int .i64 0, .int .i64 0, .int .i64 0, .int .i64 0, .int .i64 0, .int .i64 0, .int .i64 0, .bool false, .bool false, .bool false, .bool false, .bool false, .bool false, .bool false, .bool false, .bool false, .bool false, .bool false, .bool false, .bool false, .bool false, .bool false] 25).more [.int .i64 0, .int .i64 0, .int .i64 0, .int .i64 0, .int .i64 0, .int .i64 0, .int .i64 0, .int .i64 0, .int .i64 0, .int .i64 0, .int .i64 0, .int .i64 0, .int .i64 0, .int .i64 0, .int .i64 0, .bool false, .bool false, .bool false, .bool false, .bool false, .bool false, .bool false, .bool false, .bool false, .bool false, .bool false, .bool false, .bool false, .bool false, .bool false] 25
  simp only [heap1] at hS0
  have HS0 : Hid (Sp w [(w.heap.size, rowB fun _ => false), (w.heap.size + 1, rowB (blF i 0))] _) := Lib.hid (hS0.cast (by
    have e : rowB (blF i 0) = rowB fun _ => false := rowB_cong fun p _ => by unfold blF; rw [if_neg (by omega)]
    rw [e, rowB_zero]; rfl))
  have HN0 := Lib.hid (n.keep HS0.out.below)
  clear hS0
  have FA : Hid ((bk zeros15 (listB (blame i))).size = 30 ∧ (bk zeros15 (listB (blame i))).all (·.oneCell') = true ∧ rowB (blF i 15) = (bk zeros15 (listB (blame i))).toList.map some) := Lib.hid
    ⟨bk_size (zeros_bk _ (listB_len _)), bk_one (zeros_bk _ (listB_len _)), by rw [← rowB_bk]; exact rowB_cong fun p hp => by unfold blF; rw [if_pos hp]⟩
  have HI := Lib.hid pair_at
  have HPA := Lib.hid (Own9.Pairs_any _ HN0.out)
  generalize bk zeros15 (listB (blame i)) = arr2 at *
  generalize pairCells = arr at *
  go_enter Tryd.func40, Tryd.ntmps40
  go_wp2_with fail
  refine HPA.out.mono ?_
  rintro e w1 ⟨rfl, hb1⟩
  have HS1 := Lib.hid (HS0.out.keep hb1)
  clear hb1 HS0 HN0 HPA
  go_wp2
  go_loopw [7] (fun u wr => ∃ j : Nat, j ≤ 15 ∧ u = .int .i64 j ∧ Sp w [(w.heap.size, rowB fun _ => false), (w.heap.size + 1, rowB (blF i j))] wr) (fun u _ => 15 - (intOf u).toNat)
  case atStart => exact ⟨0, by omega, rfl, HS1.out⟩
  case round =>
    clear HS1
    obtain ⟨j, hj, rfl, hS⟩ := hrel
    rename World => wr
    have HS := Lib.hid hS
    clear hS
    by_cases h15 : (j : Int) < 15
    · have hix := HI.out j (by omega)
      have HBL : Hid (blame i j = (decide (pr0 j ≠ i) && decide (pr1 j ≠ i))) := Lib.hid rfl
      have hstep := blF_step i j (by omega)
      generalize pr0 j = a at *
      generalize pr1 j = b at *
      have hS2 := HS.out.more [.int .i64 a, .int .i64 b] 27
      obtain ⟨z0, k0, f0⟩ := hS2.there 1 rfl (15 + j) (rowB_get (blF i j) j (by omega))
      have hS3 := (hS2.put 1 rfl (15 + j) (.bool (blame i j))).take 2
      have HS3 : Hid (Sp w [(w.heap.size, rowB fun _ => false), (w.heap.size + 1, rowB (blF i (j + 1)))] ((wr.alloc (.cells #[.int .i64 a, .int .i64 b] 27)).setCell ⟨w.heap.size + 1, 15 + j, none⟩ (.bool (blame i j)))) := Lib.hid (by
        simp only [List.cons_append, List.nil_append, List.set_cons_succ, List.set_cons_zero, List.take_succ_cons, List.take_zero] at hS3
        rw [hstep] at hS3
        exact hS3)
      clear hS2 hS3 hstep HS HI
      by_cases ha : a = i
      · have hq : (a != i) = false := by rw [ha]; simp
        rw [show blame i j = false by rw [HBL.out, decide_eq_false (by simpa using ha)]; rfl] at HS3
        clear ha
        go_wp2
        go_roundw
        case rel => exact ⟨j + 1, by omega, rfl, HS3.out⟩
        case measure => simp [intOf]; omega
      · have hq : (a != i) = true := by simpa using ha
        by_cases hb : b = i
        · have hq2 : (b != i) = false := by rw [hb]; simp
          rw [show blame i j = false by rw [HBL.out, decide_eq_false (p := b ≠ i) (by simpa using hb)]; simp] at HS3
          clear ha hb
          go_wp2
          go_roundw
          case rel => exact ⟨j + 1, by omega, rfl, HS3.out⟩
          case measure => simp [intOf]; omega
        · have hq2 : (b != i) = true := by simpa using hb
          rw [show blame i j = true by rw [HBL.out, decide_eq_true (p := b ≠ i) hb, decide_eq_true (p := a ≠ i) ha]; rfl] at HS3
          clear ha hb
          go_wp2
          go_roundw
          case rel => exact ⟨j + 1, by omega, rfl, HS3.out⟩
          case measure => simp [intOf]; omega
    · obtain rfl : j = 15 := by omega
      have hs := size30
      obtain ⟨hz, h1, hrow⟩ := FA.out
      have hL : wr.rangeAt (w.heap.size + 1) 0 arr2.toList := fun i v hv => by
        rw [Nat.zero_add]
        exact HS.out.at 1 rfl i (by rw [hrow, List.getElem?_map, hv]; rfl)
      have hth : wr.there w.heap.size 0 arr2.size := fun i hi => by
        rw [Nat.zero_add]
        rw [hz] at hi
        have hi0 : i < (rowB fun _ => false).length := by rw [rowB_len]; exact hi
        obtain ⟨z, hz', hf⟩ := HS.out.there 0 rfl i (List.getElem?_eq_getElem hi0)
        exact ⟨by rw [hz']; rfl, hf⟩
      have hR := World.rangeAt_setCells_same wr w.heap.size 0 arr2.toList (by rw [Array.length_toList]; exact hth)
      have hB := Lib.hid (below_setCells (Nat.le_refl w.heap.size) arr2.toList 0 _ HS.out.below)
      rw [← hz] at hs
      clear HS hrow HI FA
      go_upto_region 7 with fail
      refine wp_region_lit ?_
      refine list_load_row rfl 25 _ rfl (w.heap.size + 1) rfl arr2 _ hL Tryd.underlying25 rfl hs ?_
      refine wpList_store_mid rfl 25 _ _ rfl w.heap.size 0 arr2 rfl rfl hth hs h1 ?_
      clear hL hth
      go_wp2
      exact bodyPost_ret (results_row rfl rfl hR Tryd.underlying25 rfl hs) rfl ⟨rfl, hB.out⟩
end Law23
end Go.Proofs.YtaooigldchojcaaDoor
