/- HypoFewer. -/
import Derived.Test.YtaooigldchojcaaDoorHypAwake
import Derived.Test.YtaooigldchojcaaDoorHypFew
import Derived.Test.YtaooigldchojcaaDoorHypOpen
import Derived.Deep.Cut
import Derived.Deep.CutBlock
import Derived.Deep.CutRange
import Derived.Deep.RegionHeld3
namespace Go.Proofs.YtaooigldchojcaaDoor
open Go.RowKit

/-- The operations of a drawn region, as the translation has them. -/
def few9 : Array Oper := #[
  { dst := some 32, op := .load 25 (.tmp 3), type := 25, pos := "law.go:47", after := #[], guard := none },
  { dst := some 33, op := .move (.tmp 2), type := 3, pos := "law.go:47", after := #[], guard := none },
  { dst := some 34, op := .call { callee := .value (.func 8), args := #[.tmp 32, .tmp 33], argTypes := #[25, 3] }, type := 26, pos := "law.go:47", after := #[{ on := 0, ground := .data }, { on := 1, ground := .data }], guard := none },
  { dst := some 35, op := .load 25 (.tmp 7), type := 25, pos := "law.go:47", after := #[], guard := none },
  { dst := some 36, op := .move (.tmp 2), type := 3, pos := "law.go:47", after := #[], guard := none },
  { dst := some 37, op := .call { callee := .value (.func 8), args := #[.tmp 35, .tmp 36], argTypes := #[25, 3] }, type := 26, pos := "law.go:47", after := #[{ on := 3, ground := .data }, { on := 4, ground := .data }, { on := 2, ground := .chain }], guard := none },
  { dst := some 10, op := .alloc 26, type := 0, pos := "law.go:47", after := #[], guard := none },
  { dst := some 11, op := .alloc 26, type := 0, pos := "law.go:47", after := #[], guard := none },
  { dst := none, op := .store 26 (.tmp 10) (.tmp 34), type := 0, pos := "law.go:47", after := #[{ on := 6, ground := .data }, { on := 2, ground := .data }, { on := 5, ground := .chain }, { on := 0, ground := .phase }, { on := 1, ground := .phase }, { on := 2, ground := .phase }, { on := 3, ground := .textOnly Go.Departure.lateStores }, { on := 4, ground := .textOnly Go.Departure.lateStores }, { on := 5, ground := .textOnly Go.Departure.lateStoresUnsure }, { on := 6, ground := .phase }, { on := 7, ground := .phase }], guard := none },
  { dst := none, op := .store 26 (.tmp 11) (.tmp 37), type := 0, pos := "law.go:47", after := #[{ on := 7, ground := .data }, { on := 5, ground := .data }, { on := 8, ground := .chain }, { on := 0, ground := .phase }, { on := 1, ground := .phase }, { on := 2, ground := .phase }, { on := 3, ground := .phase }, { on := 4, ground := .phase }, { on := 5, ground := .phase }, { on := 6, ground := .phase }, { on := 7, ground := .phase }, { on := 8, ground := .phase }], guard := none }]
theorem few9_plain : Region.noSelect few9 = true := by kernel_rfl

/-- The operations of a drawn region, as the translation has them. -/
def few26 : Array Oper := #[
  { dst := some 77, op := .load 26 (.tmp 11), type := 26, pos := "law.go:64", after := #[], guard := none },
  { dst := some 78, op := .call { callee := .value (.func 12), args := #[.tmp 77], argTypes := #[26] }, type := 3, pos := "law.go:64", after := #[{ on := 0, ground := .data }], guard := none },
  { dst := some 79, op := .move (.tmp 14), type := 3, pos := "law.go:64", after := #[], guard := none },
  { dst := some 80, op := .call { callee := .value (.func 19), args := #[.tmp 78, .tmp 79], argTypes := #[3, 3] }, type := 4, pos := "law.go:64", after := #[{ on := 1, ground := .data }, { on := 2, ground := .data }, { on := 1, ground := .chain }], guard := none },
  { dst := some 81, op := .load 26 (.tmp 11), type := 26, pos := "law.go:64", after := #[], guard := none },
  { dst := some 82, op := .move (.tmp 14), type := 3, pos := "law.go:64", after := #[], guard := none },
  { dst := some 83, op := .call { callee := .value (.func 16), args := #[.tmp 81, .tmp 82], argTypes := #[26, 3] }, type := 3, pos := "law.go:64", after := #[{ on := 4, ground := .data }, { on := 5, ground := .data }, { on := 3, ground := .chain }], guard := none },
  { dst := some 84, op := .move (.tmp 12), type := 3, pos := "law.go:64", after := #[], guard := none },
  { dst := some 85, op := .binOp .eql 3 (.tmp 83) (.tmp 84) 3, type := 4, pos := "law.go:64", after := #[{ on := 6, ground := .data }, { on := 7, ground := .data }], guard := none },
  { dst := some 86, op := .binOp .neq 4 (.tmp 80) (.tmp 85) 4, type := 4, pos := "law.go:64", after := #[{ on := 3, ground := .data }, { on := 8, ground := .data }], guard := none }]
theorem few26_plain : Region.noSelect few26 = true := by kernel_rfl

/-- The operations of a drawn region, as the translation has them. -/
def few29 : Array Oper := #[
  { dst := some 88, op := .load 26 (.tmp 10), type := 26, pos := "law.go:68", after := #[], guard := none },
  { dst := some 89, op := .call { callee := .value (.func 12), args := #[.tmp 88], argTypes := #[26] }, type := 3, pos := "law.go:68", after := #[{ on := 0, ground := .data }], guard := none },
  { dst := some 90, op := .load 26 (.tmp 11), type := 26, pos := "law.go:68", after := #[], guard := none },
  { dst := some 91, op := .call { callee := .value (.func 12), args := #[.tmp 90], argTypes := #[26] }, type := 3, pos := "law.go:68", after := #[{ on := 2, ground := .data }, { on := 1, ground := .chain }], guard := none },
  { dst := some 92, op := .binOp .andNot 3 (.tmp 89) (.tmp 91) 3, type := 3, pos := "law.go:68", after := #[{ on := 1, ground := .data }, { on := 3, ground := .data }], guard := none },
  { dst := some 93, op := .binOp .eql 3 (.tmp 92) (.const (.int .i64 0)) 3, type := 4, pos := "law.go:68", after := #[{ on := 4, ground := .data }], guard := none },
  { dst := some 94, op := .move (.tmp 93), type := 4, pos := "law.go:68", after := #[{ on := 5, ground := .data }, { on := 3, ground := .chain }], guard := none },
  { dst := some 95, op := .move (.tmp 2), type := 3, pos := "law.go:68", after := #[{ on := 6, ground := .guard }], guard := some (6, true) },
  { dst := some 96, op := .binOp .and 3 (.tmp 95) (.const (.int .i64 63)) 3, type := 3, pos := "law.go:68", after := #[{ on := 7, ground := .data }, { on := 6, ground := .guard }], guard := some (6, true) },
  { dst := some 97, op := .load 26 (.tmp 11), type := 26, pos := "law.go:68", after := #[{ on := 6, ground := .guard }], guard := some (6, true) },
  { dst := some 98, op := .call { callee := .value (.func 12), args := #[.tmp 97], argTypes := #[26] }, type := 3, pos := "law.go:68", after := #[{ on := 9, ground := .data }, { on := 6, ground := .chain }, { on := 6, ground := .guard }], guard := some (6, true) },
  { dst := some 99, op := .binOp .andNot 3 (.tmp 96) (.tmp 98) 3, type := 3, pos := "law.go:68", after := #[{ on := 8, ground := .data }, { on := 10, ground := .data }, { on := 6, ground := .guard }], guard := some (6, true) },
  { dst := some 100, op := .binOp .eql 3 (.tmp 99) (.const (.int .i64 0)) 3, type := 4, pos := "law.go:68", after := #[{ on := 11, ground := .data }, { on := 6, ground := .guard }], guard := some (6, true) },
  { dst := some 101, op := .pick (.tmp 94) (.tmp 100) (.const (.bool false)), type := 4, pos := "law.go:68", after := #[{ on := 6, ground := .data }, { on := 12, ground := .data }], guard := none },
  { dst := some 102, op := .move (.tmp 101), type := 4, pos := "law.go:68", after := #[{ on := 13, ground := .data }, { on := 10, ground := .chain }], guard := none },
  { dst := some 103, op := .call { callee := .value (.func 18), args := #[], argTypes := #[] }, type := 4, pos := "law.go:68", after := #[{ on := 14, ground := .chain }, { on := 14, ground := .guard }], guard := some (14, true) },
  { dst := some 104, op := .pick (.tmp 102) (.tmp 103) (.const (.bool false)), type := 4, pos := "law.go:68", after := #[{ on := 14, ground := .data }, { on := 15, ground := .data }], guard := none },
  { dst := some 6, op := .assign (.tmp 104), type := 4, pos := "law.go:68", after := #[{ on := 16, ground := .data }, { on := 15, ground := .chain }, { on := 0, ground := .phase }, { on := 1, ground := .phase }, { on := 2, ground := .phase }, { on := 3, ground := .phase }, { on := 4, ground := .phase }, { on := 5, ground := .phase }, { on := 6, ground := .phase }, { on := 7, ground := .phase }, { on := 8, ground := .phase }, { on := 9, ground := .phase }, { on := 10, ground := .phase }, { on := 11, ground := .phase }, { on := 12, ground := .phase }, { on := 13, ground := .phase }, { on := 14, ground := .phase }, { on := 15, ground := .phase }, { on := 16, ground := .phase }], guard := none }]
theorem few29_plain : Region.noSelect few29 = true := by kernel_rfl


namespace Law23
theorem has_flat (x i : Int) (w : World) : Calls Tryd.prog 19 #[.int .i64 x, .int .i64 i] w fun e w' => e = .returned (.bool (hasI x i)) ∧ Below w.heap.size w w' :=
  (Lan11.Has_any x i w).mono fun _ _ h => ⟨h.1, h.2 ▸ Below.refl _ _⟩
theorem fewer_long (barr : Array Value) (ba : Option Addr) (cap len : Nat) (kn : Int) (w : World) (n : PairsAt w) (h : (30 : Int) < len) :
    Calls Tryd.prog 4 #[.agg barr, .slice ba len cap, .int .i64 kn] w fun e w' => e = .returned (.bool true) ∧ Below w.heap.size w w' := by
  have hd : decide ((30 : Int) < len) = true := decide_eq_true h
  have AW := Lib.hid (awake_any _ (n.keep (below1 w (.cells barr 25))))
  go_enter Tryd.func4, Tryd.ntmps4
  go_wp2_with fail
  refine AW.out.mono ?_; rintro e w1 ⟨rfl, hb1⟩
  go_wp2_with fail
  go_ret
  exact ⟨rfl, belowT (below1 w _) hb1⟩

set_option maxHeartbeats 16000000 in
set_option maxRecDepth 100000 in
theorem fewer_core {w : World} {ba : Option Addr} {cap : Nat} {l : List Int} (C : CameI w ba cap l) (h30 : l.length ≤ 30) (cs : List Value) (rf : List Bool) (K : Bk cs rf) (kn : Int) (n : PairsAt w) :
    Calls Tryd.prog 4 #[.agg (bk cs rf), .slice ba l.length cap, .int .i64 kn] w fun e w' => e = .returned (.bool true) ∧ Below w.heap.size w w' := by
  have hd : decide ((30 : Int) < (l.length : Int)) = false := decide_eq_false (by omega)
  have CH := Lib.hid C
  have KH := Lib.hid K
  have KC : Hid (cs.length = 15) := Lib.hid K.c
  have AW := Lib.hid awake_any
  have hi := info30 K
  have hz := bk_size K
  have h1 := bk_one K
  have HROW : Hid ((bk cs rf).toList.map some = rowC cs (fun p => rf.getD p false)) := Lib.hid (rowC_rf K)
  have L1 := Lib.hid (fun w n => Lan23.Alive_any cs rf K kn w n)
  obtain ⟨W1, hW1⟩ : ∃ W1, W1 = w.alloc (.cells (bk cs rf) 25) := ⟨_, rfl⟩
  have S1 : Sp w [(w.heap.size, (bk cs rf).toList.map some)] W1 := by rw [hW1]; exact (Sp.none w).more (cs ++ rf.map fun b => Value.bool b) 25
  have S2 : Sp w [(w.heap.size, (bk cs rf).toList.map some), (W1.heap.size, (bk cs rf).toList.map some)] (W1.alloc (.cells (bk cs rf) 25)) := S1.more (cs ++ rf.map fun b => Value.bool b) 25
  have HS2 := Lib.hid S2
  have hL : W1.rangeAt w.heap.size 0 (bk cs rf).toList := fun i v hv => by
    rw [Nat.zero_add]
    exact S1.at 0 rfl i (by rw [List.getElem?_map, hv]; rfl)
  have IB := Lib.hid hi
  have NW := Lib.hid n
  clear C K S1 S2 n
  generalize bk cs rf = barr at *
  go_enter Tryd.func4, Tryd.ntmps4
  go_upto_region 3 with fail
  rw [← hW1]
  clear hW1 hd
  go_wp2_with (first | (refine list_load_any rfl 25 _ rfl _ 0 rfl barr _ hL Tryd.underlying25 rfl hi ?_) | (refine list_store_new rfl 25 _ _ rfl _ barr rfl rfl hi (by rw [hz]; rfl) h1 ?_))
  clear hL hi hz h1
  go_loopw [22] (fun u wr => ∃ j : Nat, j ≤ l.length ∧ u = .int .i64 j ∧ ∃ f : Nat → Bool, Sp w [(w.heap.size, barr.toList.map some), (W1.heap.size, rowC cs f)] wr ∧ ∀ p, p < 15 → rf.getD p false = true → f p = true) (fun u _ => 30 - (intOf u).toNat)
  case atStart => exact ⟨0, by omega, rfl, fun p => rf.getD p false, by rw [← HROW.out]; exact HS2.out, fun _ _ h => h⟩
  case round =>
    clear HS2
    obtain ⟨j, hj, rfl, f, hS, hf⟩ := hrel
    rename World => wr
    have HS := Lib.hid hS
    have HF := Lib.hid hf
    clear hS hf
    by_cases hlt : (j : Int) < l.length
    · obtain ⟨b, o, rfl, hc⟩ := CH.out.lies (by omega)
      have c0 := keepc HS.out.below (hc j (by omega))
      generalize l.getD j 0 = z at *
      obtain ⟨q, hq, em, _⟩ := umodn z 15 (by decide) (by decide)
      obtain ⟨z0, k0, f0⟩ := HS.out.there 1 rfl (15 + q) (rowC_get KC.out f q (by omega))
      have hS3 := HS.out.put 1 rfl (15 + q) (.bool true)
      have HS3 : Hid (Sp w [(w.heap.size, barr.toList.map some), (W1.heap.size, rowC cs fun p => if p = q then true else f p)] (wr.setCell ⟨W1.heap.size, 15 + q, none⟩ (.bool true))) := Lib.hid (by
        simp only [List.set_cons_succ, List.set_cons_zero] at hS3
        rw [rowC_set KC.out] at hS3
        exact hS3)
      clear hS3 hc HS
      go_wp2
      go_roundw
      case rel => exact ⟨j + 1, by omega, rfl, _, HS3.out, fun p h1 h2 => by
        show (if p = q then true else f p) = true
        by_cases e : p = q
        · rw [if_pos e]
        · rw [if_neg e]; exact HF.out p h1 h2⟩
      case measure => simp [intOf]; omega
    · obtain rfl : j = l.length := by omega
      have L2 := Lib.hid (fun w n => Lan23.Alive_any cs (listB f) (bk_listB KH.out f) kn w n)
      have ID := Lib.hid (info30 (bk_listB KH.out f))
      have I1 : Hid ((Tryd.prog.info? 26).map (·.size) = some (bl (Hyp.aliveL rf kn)).size ∧ (bl (Hyp.aliveL rf kn)).all (·.oneCell') = true) := Lib.hid ⟨info22 (Hyp.aliveL_len _ _), bl_one _⟩
      have I2 : Hid ((Tryd.prog.info? 26).map (·.size) = some (bl (Hyp.aliveL (listB f) kn)).size ∧ (bl (Hyp.aliveL (listB f) kn)).all (·.oneCell') = true) := Lib.hid ⟨info22 (Hyp.aliveL_len _ _), bl_one _⟩
      have HSUB : Hid (∀ n, n < 22 → (Hyp.aliveL (listB f) kn).getD n false = true → (Hyp.aliveL rf kn).getD n false = true) := Lib.hid fun n hn h => Hyp.alive_fewer HF.out n hn h
      have HKN : Hid (Hyp.any (Hyp.aliveL (listB f) kn) = true → Sub.within (Sub.low kn) (Hyp.exc (Hyp.aliveL (listB f) kn)) = true) := Lib.hid fun h => Hyp.known_in h
      have hxl : (Hyp.aliveL rf kn).length = 22 := Hyp.aliveL_len _ _
      have hyl : (Hyp.aliveL (listB f) kn).length = 22 := Hyp.aliveL_len _ _
      obtain ⟨W0, hW0⟩ : ∃ W0, W0 = wr := ⟨_, rfl⟩
      have RB : ∀ w', Below W0.heap.size W0 w' → w'.rangeAt w.heap.size 0 barr.toList := fun w' h i v hv => by
        rw [Nat.zero_add]
        exact (HS.out.keep (hW0 ▸ h)).at 0 rfl i (by rw [List.getElem?_map, hv]; rfl)
      have RD : ∀ w', Below W0.heap.size W0 w' → w'.rangeAt W1.heap.size 0 (bk cs (listB f)).toList := fun w' h i v hv => by
        rw [Nat.zero_add]
        exact (HS.out.keep (hW0 ▸ h)).at 1 rfl i (by rw [rowC_bk, List.getElem?_map, hv]; rfl)
      have HB0 : Hid (Below w.heap.size w W0) := Lib.hid (hW0 ▸ HS.out.below)
      have PN : Hid (∀ w', Below W0.heap.size W0 w' → PairsAt w') := Lib.hid fun w' h => NW.out.keep (belowT HB0.out h)
      clear HS HF
      generalize bk cs (listB f) = darr at *
      obtain ⟨xs, hxs⟩ : ∃ xs, xs = Hyp.aliveL rf kn := ⟨_, rfl⟩
      obtain ⟨ys, hys⟩ : ∃ ys, ys = Hyp.aliveL (listB f) kn := ⟨_, rfl⟩
      rw [← hxs] at L1 I1 HSUB hxl
      rw [← hys] at L2 I2 HSUB HKN hyl
      clear hxs hys
      obtain ⟨a1, ha1⟩ : ∃ a1, a1 = bl xs := ⟨_, rfl⟩
      obtain ⟨a2, ha2⟩ : ∃ a2, a2 = bl ys := ⟨_, rfl⟩
      rw [← ha1] at L1 I1
      rw [← ha2] at L2 I2
      have HA1 := Lib.hid ha1
      have HA2 := Lib.hid ha2
      have HXL := Lib.hid hxl
      have HYL := Lib.hid hyl
      clear ha1 ha2 hxl hyl
      go_upto_region 9 with fail
      rw [← hW0]
      clear hW0
      go_cut [10, 11] from 10 to 38 (fun u v wx => ∃ gx gy, u = .pointer (some ⟨gx, 0, none⟩) ∧ v = .pointer (some ⟨gy, 0, none⟩) ∧ Rg wx gx a1 ∧ Rg wx gy a2 ∧ Below W0.heap.size W0 wx)
      case first =>
        clear HSUB HKN AW HA1 HA2
        change (Code.region 9 few9 true).wp Tryd.prog _ _ _
        refine wp_region_noPanic ?_
        refine wp_region_held_drew (S := fun w' => Below W0.heap.size W0 w') (by kernel_rfl) ((Below.refl _ _).drew) (fun hHeld => ?_)
        obtain ⟨w20, hX⟩ : ∃ x, x = W0.drew := ⟨_, rfl⟩
        have hb : Below W0.heap.size W0 w20 := hX ▸ (Below.refl _ _).drew
        rw [← hX] at hHeld ⊢
        have HB := hHeld; clear hHeld
        clear hb hX
        refine wpAnyH_take (i := 0) (oi := ({ dst := some 32, op := .load 25 (.tmp 3), type := 25, pos := "law.go:47", after := #[], guard := none } : Oper)) rfl few9_plain (by as_aux_lemma => kernel_rfl) (by as_aux_lemma => kernel_rfl) (fun _ _ _ h => h) (yields_load (by rfl) 25 _ rfl _ _ rfl _ _ RB Tryd.underlying25 rfl IB.out) HB ?_
        try simp only [Act.put, List.setIfInBounds_toArray, List.set_cons_zero, List.set_cons_succ]
        refine wpAnyH_take (i := 1) (oi := ({ dst := some 33, op := .move (.tmp 2), type := 3, pos := "law.go:47", after := #[], guard := none } : Oper)) (v := ?vt3_2_) rfl few9_plain (by as_aux_lemma => kernel_rfl) (by as_aux_lemma => kernel_rfl) (fun _ _ _ h => h) (Or.inl ⟨by rfl, ?yt3_2_⟩) HB ?rt3_2_
        case yt3_2_ => (intro w hSw; (try dsimp only at hSw); go_simp; try with_reducible rfl)
        try simp only [Act.put, List.setIfInBounds_toArray, List.set_cons_zero, List.set_cons_succ]
        refine wpAnyH_take (i := 3) (oi := ({ dst := some 35, op := .load 25 (.tmp 7), type := 25, pos := "law.go:47", after := #[], guard := none } : Oper)) rfl few9_plain (by as_aux_lemma => kernel_rfl) (by as_aux_lemma => kernel_rfl) (fun _ _ _ h => h) (yields_load (by rfl) 25 _ rfl _ _ rfl _ _ RD Tryd.underlying25 rfl ID.out) HB ?_
        try simp only [Act.put, List.setIfInBounds_toArray, List.set_cons_zero, List.set_cons_succ]
        refine wpAnyH_take (i := 4) (oi := ({ dst := some 36, op := .move (.tmp 2), type := 3, pos := "law.go:47", after := #[], guard := none } : Oper)) (v := ?vt3_4_) rfl few9_plain (by as_aux_lemma => kernel_rfl) (by as_aux_lemma => kernel_rfl) (fun _ _ _ h => h) (Or.inl ⟨by rfl, ?yt3_4_⟩) HB ?rt3_4_
        case yt3_4_ => (intro w hSw; (try dsimp only at hSw); go_simp; try with_reducible rfl)
        try simp only [Act.put, List.setIfInBounds_toArray, List.set_cons_zero, List.set_cons_succ]
        refine wpAnyH_ready (rs := [2, 6, 7]) (by as_aux_lemma => kernel_rfl) (by simp) ?_
        refine AllReadyH.cons (o := ({ dst := some 34, op := .call { callee := .value (.func 8), args := #[.tmp 32, .tmp 33], argTypes := #[25, 3] }, type := 26, pos := "law.go:47", after := #[{ on := 0, ground := .data }, { on := 1, ground := .data }], guard := none } : Oper)) rfl (fun KK hK => ?_) (AllReadyH.cons (o := ({ dst := some 10, op := .alloc 26, type := 0, pos := "law.go:47", after := #[], guard := none } : Oper)) rfl (fun KK hK => ?_) (AllReadyH.cons (o := ({ dst := some 11, op := .alloc 26, type := 0, pos := "law.go:47", after := #[], guard := none } : Oper)) rfl (fun KK hK => ?_) AllReadyH.nil))
        · skip
          rw [if_pos (by rfl)]
          go_simp
          go_at_call 8; refine (L1.out w20 (PN.out _ HB)).mono ?_; rintro e w21 ⟨rfl, hb⟩
          go_wp2_with fail
          refine hK.out _ _ ?_ (fun hHeld => ?_)
          · exact belowT HB hb
          replace HB := hHeld; clear hHeld hK KK
          clear hb
          try simp only [Act.put, List.setIfInBounds_toArray, List.set_cons_zero, List.set_cons_succ]
          refine wpAnyH_ready (rs := [5, 6, 7]) (by as_aux_lemma => kernel_rfl) (by simp) ?_
          refine AllReadyH.cons (o := ({ dst := some 37, op := .call { callee := .value (.func 8), args := #[.tmp 35, .tmp 36], argTypes := #[25, 3] }, type := 26, pos := "law.go:47", after := #[{ on := 3, ground := .data }, { on := 4, ground := .data }, { on := 2, ground := .chain }], guard := none } : Oper)) rfl (fun KK hK => ?_) (AllReadyH.cons (o := ({ dst := some 10, op := .alloc 26, type := 0, pos := "law.go:47", after := #[], guard := none } : Oper)) rfl (fun KK hK => ?_) (AllReadyH.cons (o := ({ dst := some 11, op := .alloc 26, type := 0, pos := "law.go:47", after := #[], guard := none } : Oper)) rfl (fun KK hK => ?_) AllReadyH.nil))
          · skip
            rw [if_pos (by rfl)]
            go_simp
            go_at_call 8; refine (L2.out w21 (PN.out _ HB)).mono ?_; rintro e w22 ⟨rfl, hb⟩
            go_wp2_with fail
            refine hK.out _ _ ?_ (fun hHeld => ?_)
            · exact belowT HB hb
            replace HB := hHeld; clear hHeld hK KK
            clear hb
            try simp only [Act.put, List.setIfInBounds_toArray, List.set_cons_zero, List.set_cons_succ]
            refine wpAnyH_ready (rs := [6, 7]) (by as_aux_lemma => kernel_rfl) (by simp) ?_
            refine AllReadyH.cons (o := ({ dst := some 10, op := .alloc 26, type := 0, pos := "law.go:47", after := #[], guard := none } : Oper)) rfl (fun KK hK => ?_) (AllReadyH.cons (o := ({ dst := some 11, op := .alloc 26, type := 0, pos := "law.go:47", after := #[], guard := none } : Oper)) rfl (fun KK hK => ?_) AllReadyH.nil)
            · skip
              rw [if_pos (by rfl)]
              go_simp
              have hb := below1 w22 (.cells #[.bool false, .bool false, .bool false, .bool false, .bool false, .bool false, .bool false, .bool false, .bool false, .bool false, .bool false, .bool false, .bool false, .bool false, .bool false, .bool false, .bool false, .bool false, .bool false, .bool false, .bool false, .bool false] 26)
              have Tx := Th.new w22 [.bool false, .bool false, .bool false, .bool false, .bool false, .bool false, .bool false, .bool false, .bool false, .bool false, .bool false, .bool false, .bool false, .bool false, .bool false, .bool false, .bool false, .bool false, .bool false, .bool false, .bool false, .bool false] rfl 26
              have hgx := HB.size
              first | (have hne : w22.heap.size ≠ gy := Nat.ne_of_gt Ty.lt) | skip
              obtain ⟨gx, hG⟩ : ∃ g, g = w22.heap.size := ⟨_, rfl⟩
              rw [← hG] at Tx hgx ⊢
              try rw [← hG] at hne
              clear hG
              obtain ⟨w23, hX⟩ : ∃ x, x = w22.alloc (.cells #[.bool false, .bool false, .bool false, .bool false, .bool false, .bool false, .bool false, .bool false, .bool false, .bool false, .bool false, .bool false, .bool false, .bool false, .bool false, .bool false, .bool false, .bool false, .bool false, .bool false, .bool false, .bool false] 26) := ⟨_, rfl⟩
              have hX' : (w22.alloc (.cells [.bool false, .bool false, .bool false, .bool false, .bool false, .bool false, .bool false, .bool false, .bool false, .bool false, .bool false, .bool false, .bool false, .bool false, .bool false, .bool false, .bool false, .bool false, .bool false, .bool false, .bool false, .bool false].toArray 26)) = w23 := hX.symm
              rw [hX'] at Tx
              rw [← hX] at hb ⊢
              clear hX hX'
              refine hK.out _ _ ?_ (fun hHeld => ?_)
              · exact belowT HB hb
              replace HB := hHeld; clear hHeld hK KK
              clear hb
              try simp only [Act.put, List.setIfInBounds_toArray, List.set_cons_zero, List.set_cons_succ]
              refine wpAnyH_ready (rs := [7]) (by as_aux_lemma => kernel_rfl) (by simp) ?_
              refine AllReadyH.cons (o := ({ dst := some 11, op := .alloc 26, type := 0, pos := "law.go:47", after := #[], guard := none } : Oper)) rfl (fun KK hK => ?_) AllReadyH.nil
              rw [if_pos (by rfl)]
              go_simp
              have hb := below1 w23 (.cells #[.bool false, .bool false, .bool false, .bool false, .bool false, .bool false, .bool false, .bool false, .bool false, .bool false, .bool false, .bool false, .bool false, .bool false, .bool false, .bool false, .bool false, .bool false, .bool false, .bool false, .bool false, .bool false] 26)
              have Ty := Th.new w23 [.bool false, .bool false, .bool false, .bool false, .bool false, .bool false, .bool false, .bool false, .bool false, .bool false, .bool false, .bool false, .bool false, .bool false, .bool false, .bool false, .bool false, .bool false, .bool false, .bool false, .bool false, .bool false] rfl 26
              have hgy := HB.size
              first | (have hne : gx ≠ w23.heap.size := Nat.ne_of_lt Tx.lt) | skip
              obtain ⟨gy, hG⟩ : ∃ g, g = w23.heap.size := ⟨_, rfl⟩
              rw [← hG] at Ty hgy ⊢
              try rw [← hG] at hne
              clear hG
              obtain ⟨w24, hX⟩ : ∃ x, x = w23.alloc (.cells #[.bool false, .bool false, .bool false, .bool false, .bool false, .bool false, .bool false, .bool false, .bool false, .bool false, .bool false, .bool false, .bool false, .bool false, .bool false, .bool false, .bool false, .bool false, .bool false, .bool false, .bool false, .bool false] 26) := ⟨_, rfl⟩
              have hX' : (w23.alloc (.cells [.bool false, .bool false, .bool false, .bool false, .bool false, .bool false, .bool false, .bool false, .bool false, .bool false, .bool false, .bool false, .bool false, .bool false, .bool false, .bool false, .bool false, .bool false, .bool false, .bool false, .bool false, .bool false].toArray 26)) = w24 := hX.symm
              rw [hX'] at Ty
              rw [← hX] at hb ⊢
              clear hX hX'
              refine hK.out _ _ ?_ (fun hHeld => ?_)
              · exact belowT HB hb
              replace HB := hHeld; clear hHeld hK KK
              replace Tx := Tx.keep hb
              clear hb
              try simp only [Act.put, List.setIfInBounds_toArray, List.set_cons_zero, List.set_cons_succ]
              refine wpAnyH_ready (rs := [8]) (by as_aux_lemma => kernel_rfl) (by simp) ?_
              refine AllReadyH.cons (o := ({ dst := none, op := .store 26 (.tmp 10) (.tmp 34), type := 0, pos := "law.go:47", after := #[{ on := 6, ground := .data }, { on := 2, ground := .data }, { on := 5, ground := .chain }, { on := 0, ground := .phase }, { on := 1, ground := .phase }, { on := 2, ground := .phase }, { on := 3, ground := .textOnly Go.Departure.lateStores }, { on := 4, ground := .textOnly Go.Departure.lateStores }, { on := 5, ground := .textOnly Go.Departure.lateStoresUnsure }, { on := 6, ground := .phase }, { on := 7, ground := .phase }], guard := none } : Oper)) rfl (fun KK hK => ?_) AllReadyH.nil
              rw [if_pos (by rfl)]
              refine oper_put rfl rfl rfl Tx hgx HB I1.out.1 I1.out.2 (fun w25 R1 kT kR HN => ?_)
              replace Ty := kT _ Ty
              clear Tx kT kR
              refine hK.out _ _ ?_ (fun hHeld => ?_)
              · exact HN
              replace HB := hHeld; clear hHeld hK KK HN
              try simp only [Act.put]
              refine wpAnyH_ready (rs := [9]) (by as_aux_lemma => kernel_rfl) (by simp) ?_
              refine AllReadyH.cons (o := ({ dst := none, op := .store 26 (.tmp 11) (.tmp 37), type := 0, pos := "law.go:47", after := #[{ on := 7, ground := .data }, { on := 5, ground := .data }, { on := 8, ground := .chain }, { on := 0, ground := .phase }, { on := 1, ground := .phase }, { on := 2, ground := .phase }, { on := 3, ground := .phase }, { on := 4, ground := .phase }, { on := 5, ground := .phase }, { on := 6, ground := .phase }, { on := 7, ground := .phase }, { on := 8, ground := .phase }], guard := none } : Oper)) rfl (fun KK hK => ?_) AllReadyH.nil
              rw [if_pos (by rfl)]
              refine oper_put rfl rfl rfl Ty hgy HB I2.out.1 I2.out.2 (fun w26 R2 kT kR HN => ?_)
              replace R1 := kR _ _ hne R1
              clear Ty kT kR
              refine hK.out _ _ ?_ (fun hHeld => ?_)
              · exact HN
              replace HB := hHeld; clear hHeld hK KK HN
              try simp only [Act.put]
              refine wpAnyH_done (by as_aux_lemma => kernel_rfl) ?_ _
              refine NoPanic.normal ?_
              go_wp2_with fail
              go_meet
              exact ⟨gx, gy, rfl, rfl, R1, R2, HB⟩
            · skip
              rw [if_pos (by rfl)]
              go_simp
              have hb := below1 w22 (.cells #[.bool false, .bool false, .bool false, .bool false, .bool false, .bool false, .bool false, .bool false, .bool false, .bool false, .bool false, .bool false, .bool false, .bool false, .bool false, .bool false, .bool false, .bool false, .bool false, .bool false, .bool false, .bool false] 26)
              have Ty := Th.new w22 [.bool false, .bool false, .bool false, .bool false, .bool false, .bool false, .bool false, .bool false, .bool false, .bool false, .bool false, .bool false, .bool false, .bool false, .bool false, .bool false, .bool false, .bool false, .bool false, .bool false, .bool false, .bool false] rfl 26
              have hgy := HB.size
              first | (have hne : gx ≠ w22.heap.size := Nat.ne_of_lt Tx.lt) | skip
              obtain ⟨gy, hG⟩ : ∃ g, g = w22.heap.size := ⟨_, rfl⟩
              rw [← hG] at Ty hgy ⊢
              try rw [← hG] at hne
              clear hG
              obtain ⟨w23, hX⟩ : ∃ x, x = w22.alloc (.cells #[.bool false, .bool false, .bool false, .bool false, .bool false, .bool false, .bool false, .bool false, .bool false, .bool false, .bool false, .bool false, .bool false, .bool false, .bool false, .bool false, .bool false, .bool false, .bool false, .bool false, .bool false, .bool false] 26) := ⟨_, rfl⟩
              have hX' : (w22.alloc (.cells [.bool false, .bool false, .bool false, .bool false, .bool false, .bool false, .bool false, .bool false, .bool false, .bool false, .bool false, .bool false, .bool false, .bool false, .bool false, .bool false, .bool false, .bool false, .bool false, .bool false, .bool false, .bool false].toArray 26)) = w23 := hX.symm
              rw [hX'] at Ty
              rw [← hX] at hb ⊢
              clear hX hX'
              refine hK.out _ _ ?_ (fun hHeld => ?_)
              · exact belowT HB hb
              replace HB := hHeld; clear hHeld hK KK
              clear hb
              try simp only [Act.put, List.setIfInBounds_toArray, List.set_cons_zero, List.set_cons_succ]
              refine wpAnyH_ready (rs := [6]) (by as_aux_lemma => kernel_rfl) (by simp) ?_
              refine AllReadyH.cons (o := ({ dst := some 10, op := .alloc 26, type := 0, pos := "law.go:47", after := #[], guard := none } : Oper)) rfl (fun KK hK => ?_) AllReadyH.nil
              rw [if_pos (by rfl)]
              go_simp
              have hb := below1 w23 (.cells #[.bool false, .bool false, .bool false, .bool false, .bool false, .bool false, .bool false, .bool false, .bool false, .bool false, .bool false, .bool false, .bool false, .bool false, .bool false, .bool false, .bool false, .bool false, .bool false, .bool false, .bool false, .bool false] 26)
              have Tx := Th.new w23 [.bool false, .bool false, .bool false, .bool false, .bool false, .bool false, .bool false, .bool false, .bool false, .bool false, .bool false, .bool false, .bool false, .bool false, .bool false, .bool false, .bool false, .bool false, .bool false, .bool false, .bool false, .bool false] rfl 26
              have hgx := HB.size
              first | (have hne : w23.heap.size ≠ gy := Nat.ne_of_gt Ty.lt) | skip
              obtain ⟨gx, hG⟩ : ∃ g, g = w23.heap.size := ⟨_, rfl⟩
              rw [← hG] at Tx hgx ⊢
              try rw [← hG] at hne
              clear hG
              obtain ⟨w24, hX⟩ : ∃ x, x = w23.alloc (.cells #[.bool false, .bool false, .bool false, .bool false, .bool false, .bool false, .bool false, .bool false, .bool false, .bool false, .bool false, .bool false, .bool false, .bool false, .bool false, .bool false, .bool false, .bool false, .bool false, .bool false, .bool false, .bool false] 26) := ⟨_, rfl⟩
              have hX' : (w23.alloc (.cells [.bool false, .bool false, .bool false, .bool false, .bool false, .bool false, .bool false, .bool false, .bool false, .bool false, .bool false, .bool false, .bool false, .bool false, .bool false, .bool false, .bool false, .bool false, .bool false, .bool false, .bool false, .bool false].toArray 26)) = w24 := hX.symm
              rw [hX'] at Tx
              rw [← hX] at hb ⊢
              clear hX hX'
              refine hK.out _ _ ?_ (fun hHeld => ?_)
              · exact belowT HB hb
              replace HB := hHeld; clear hHeld hK KK
              replace Ty := Ty.keep hb
              clear hb
              try simp only [Act.put, List.setIfInBounds_toArray, List.set_cons_zero, List.set_cons_succ]
              refine wpAnyH_ready (rs := [8]) (by as_aux_lemma => kernel_rfl) (by simp) ?_
              refine AllReadyH.cons (o := ({ dst := none, op := .store 26 (.tmp 10) (.tmp 34), type := 0, pos := "law.go:47", after := #[{ on := 6, ground := .data }, { on := 2, ground := .data }, { on := 5, ground := .chain }, { on := 0, ground := .phase }, { on := 1, ground := .phase }, { on := 2, ground := .phase }, { on := 3, ground := .textOnly Go.Departure.lateStores }, { on := 4, ground := .textOnly Go.Departure.lateStores }, { on := 5, ground := .textOnly Go.Departure.lateStoresUnsure }, { on := 6, ground := .phase }, { on := 7, ground := .phase }], guard := none } : Oper)) rfl (fun KK hK => ?_) AllReadyH.nil
              rw [if_pos (by rfl)]
              refine oper_put rfl rfl rfl Tx hgx HB I1.out.1 I1.out.2 (fun w25 R1 kT kR HN => ?_)
              replace Ty := kT _ Ty
              clear Tx kT kR
              refine hK.out _ _ ?_ (fun hHeld => ?_)
              · exact HN
              replace HB := hHeld; clear hHeld hK KK HN
              try simp only [Act.put]
              refine wpAnyH_ready (rs := [9]) (by as_aux_lemma => kernel_rfl) (by simp) ?_
              refine AllReadyH.cons (o := ({ dst := none, op := .store 26 (.tmp 11) (.tmp 37), type := 0, pos := "law.go:47", after := #[{ on := 7, ground := .data }, { on := 5, ground := .data }, { on := 8, ground := .chain }, { on := 0, ground := .phase }, { on := 1, ground := .phase }, { on := 2, ground := .phase }, { on := 3, ground := .phase }, { on := 4, ground := .phase }, { on := 5, ground := .phase }, { on := 6, ground := .phase }, { on := 7, ground := .phase }, { on := 8, ground := .phase }], guard := none } : Oper)) rfl (fun KK hK => ?_) AllReadyH.nil
              rw [if_pos (by rfl)]
              refine oper_put rfl rfl rfl Ty hgy HB I2.out.1 I2.out.2 (fun w26 R2 kT kR HN => ?_)
              replace R1 := kR _ _ hne R1
              clear Ty kT kR
              refine hK.out _ _ ?_ (fun hHeld => ?_)
              · exact HN
              replace HB := hHeld; clear hHeld hK KK HN
              try simp only [Act.put]
              refine wpAnyH_done (by as_aux_lemma => kernel_rfl) ?_ _
              refine NoPanic.normal ?_
              go_wp2_with fail
              go_meet
              exact ⟨gx, gy, rfl, rfl, R1, R2, HB⟩
          · skip
            rw [if_pos (by rfl)]
            go_simp
            have hb := below1 w21 (.cells #[.bool false, .bool false, .bool false, .bool false, .bool false, .bool false, .bool false, .bool false, .bool false, .bool false, .bool false, .bool false, .bool false, .bool false, .bool false, .bool false, .bool false, .bool false, .bool false, .bool false, .bool false, .bool false] 26)
            have Tx := Th.new w21 [.bool false, .bool false, .bool false, .bool false, .bool false, .bool false, .bool false, .bool false, .bool false, .bool false, .bool false, .bool false, .bool false, .bool false, .bool false, .bool false, .bool false, .bool false, .bool false, .bool false, .bool false, .bool false] rfl 26
            have hgx := HB.size
            first | (have hne : w21.heap.size ≠ gy := Nat.ne_of_gt Ty.lt) | skip
            obtain ⟨gx, hG⟩ : ∃ g, g = w21.heap.size := ⟨_, rfl⟩
            rw [← hG] at Tx hgx ⊢
            try rw [← hG] at hne
            clear hG
            obtain ⟨w22, hX⟩ : ∃ x, x = w21.alloc (.cells #[.bool false, .bool false, .bool false, .bool false, .bool false, .bool false, .bool false, .bool false, .bool false, .bool false, .bool false, .bool false, .bool false, .bool false, .bool false, .bool false, .bool false, .bool false, .bool false, .bool false, .bool false, .bool false] 26) := ⟨_, rfl⟩
            have hX' : (w21.alloc (.cells [.bool false, .bool false, .bool false, .bool false, .bool false, .bool false, .bool false, .bool false, .bool false, .bool false, .bool false, .bool false, .bool false, .bool false, .bool false, .bool false, .bool false, .bool false, .bool false, .bool false, .bool false, .bool false].toArray 26)) = w22 := hX.symm
            rw [hX'] at Tx
            rw [← hX] at hb ⊢
            clear hX hX'
            refine hK.out _ _ ?_ (fun hHeld => ?_)
            · exact belowT HB hb
            replace HB := hHeld; clear hHeld hK KK
            clear hb
            try simp only [Act.put, List.setIfInBounds_toArray, List.set_cons_zero, List.set_cons_succ]
            refine wpAnyH_ready (rs := [5, 7]) (by as_aux_lemma => kernel_rfl) (by simp) ?_
            refine AllReadyH.cons (o := ({ dst := some 37, op := .call { callee := .value (.func 8), args := #[.tmp 35, .tmp 36], argTypes := #[25, 3] }, type := 26, pos := "law.go:47", after := #[{ on := 3, ground := .data }, { on := 4, ground := .data }, { on := 2, ground := .chain }], guard := none } : Oper)) rfl (fun KK hK => ?_) (AllReadyH.cons (o := ({ dst := some 11, op := .alloc 26, type := 0, pos := "law.go:47", after := #[], guard := none } : Oper)) rfl (fun KK hK => ?_) AllReadyH.nil)
            · skip
              rw [if_pos (by rfl)]
              go_simp
              go_at_call 8; refine (L2.out w22 (PN.out _ HB)).mono ?_; rintro e w23 ⟨rfl, hb⟩
              go_wp2_with fail
              refine hK.out _ _ ?_ (fun hHeld => ?_)
              · exact belowT HB hb
              replace HB := hHeld; clear hHeld hK KK
              replace Tx := Tx.keep hb
              clear hb
              try simp only [Act.put, List.setIfInBounds_toArray, List.set_cons_zero, List.set_cons_succ]
              refine wpAnyH_ready (rs := [7]) (by as_aux_lemma => kernel_rfl) (by simp) ?_
              refine AllReadyH.cons (o := ({ dst := some 11, op := .alloc 26, type := 0, pos := "law.go:47", after := #[], guard := none } : Oper)) rfl (fun KK hK => ?_) AllReadyH.nil
              rw [if_pos (by rfl)]
              go_simp
              have hb := below1 w23 (.cells #[.bool false, .bool false, .bool false, .bool false, .bool false, .bool false, .bool false, .bool false, .bool false, .bool false, .bool false, .bool false, .bool false, .bool false, .bool false, .bool false, .bool false, .bool false, .bool false, .bool false, .bool false, .bool false] 26)
              have Ty := Th.new w23 [.bool false, .bool false, .bool false, .bool false, .bool false, .bool false, .bool false, .bool false, .bool false, .bool false, .bool false, .bool false, .bool false, .bool false, .bool false, .bool false, .bool false, .bool false, .bool false, .bool false, .bool false, .bool false] rfl 26
              have hgy := HB.size
              first | (have hne : gx ≠ w23.heap.size := Nat.ne_of_lt Tx.lt) | skip
              obtain ⟨gy, hG⟩ : ∃ g, g = w23.heap.size := ⟨_, rfl⟩
              rw [← hG] at Ty hgy ⊢
              try rw [← hG] at hne
              clear hG
              obtain ⟨w24, hX⟩ : ∃ x, x = w23.alloc (.cells #[.bool false, .bool false, .bool false, .bool false, .bool false, .bool false, .bool false, .bool false, .bool false, .bool false, .bool false, .bool false, .bool false, .bool false, .bool false, .bool false, .bool false, .bool false, .bool false, .bool false, .bool false, .bool false] 26) := ⟨_, rfl⟩
              have hX' : (w23.alloc (.cells [.bool false, .bool false, .bool false, .bool false, .bool false, .bool false, .bool false, .bool false, .bool false, .bool false, .bool false, .bool false, .bool false, .bool false, .bool false, .bool false, .bool false, .bool false, .bool false, .bool false, .bool false, .bool false].toArray 26)) = w24 := hX.symm
              rw [hX'] at Ty
              rw [← hX] at hb ⊢
              clear hX hX'
              refine hK.out _ _ ?_ (fun hHeld => ?_)
              · exact belowT HB hb
              replace HB := hHeld; clear hHeld hK KK
              replace Tx := Tx.keep hb
              clear hb
              try simp only [Act.put, List.setIfInBounds_toArray, List.set_cons_zero, List.set_cons_succ]
              refine wpAnyH_ready (rs := [8]) (by as_aux_lemma => kernel_rfl) (by simp) ?_
              refine AllReadyH.cons (o := ({ dst := none, op := .store 26 (.tmp 10) (.tmp 34), type := 0, pos := "law.go:47", after := #[{ on := 6, ground := .data }, { on := 2, ground := .data }, { on := 5, ground := .chain }, { on := 0, ground := .phase }, { on := 1, ground := .phase }, { on := 2, ground := .phase }, { on := 3, ground := .textOnly Go.Departure.lateStores }, { on := 4, ground := .textOnly Go.Departure.lateStores }, { on := 5, ground := .textOnly Go.Departure.lateStoresUnsure }, { on := 6, ground := .phase }, { on := 7, ground := .phase }], guard := none } : Oper)) rfl (fun KK hK => ?_) AllReadyH.nil
              rw [if_pos (by rfl)]
              refine oper_put rfl rfl rfl Tx hgx HB I1.out.1 I1.out.2 (fun w25 R1 kT kR HN => ?_)
              replace Ty := kT _ Ty
              clear Tx kT kR
              refine hK.out _ _ ?_ (fun hHeld => ?_)
              · exact HN
              replace HB := hHeld; clear hHeld hK KK HN
              try simp only [Act.put]
              refine wpAnyH_ready (rs := [9]) (by as_aux_lemma => kernel_rfl) (by simp) ?_
              refine AllReadyH.cons (o := ({ dst := none, op := .store 26 (.tmp 11) (.tmp 37), type := 0, pos := "law.go:47", after := #[{ on := 7, ground := .data }, { on := 5, ground := .data }, { on := 8, ground := .chain }, { on := 0, ground := .phase }, { on := 1, ground := .phase }, { on := 2, ground := .phase }, { on := 3, ground := .phase }, { on := 4, ground := .phase }, { on := 5, ground := .phase }, { on := 6, ground := .phase }, { on := 7, ground := .phase }, { on := 8, ground := .phase }], guard := none } : Oper)) rfl (fun KK hK => ?_) AllReadyH.nil
              rw [if_pos (by rfl)]
              refine oper_put rfl rfl rfl Ty hgy HB I2.out.1 I2.out.2 (fun w26 R2 kT kR HN => ?_)
              replace R1 := kR _ _ hne R1
              clear Ty kT kR
              refine hK.out _ _ ?_ (fun hHeld => ?_)
              · exact HN
              replace HB := hHeld; clear hHeld hK KK HN
              try simp only [Act.put]
              refine wpAnyH_done (by as_aux_lemma => kernel_rfl) ?_ _
              refine NoPanic.normal ?_
              go_wp2_with fail
              go_meet
              exact ⟨gx, gy, rfl, rfl, R1, R2, HB⟩
            · skip
              rw [if_pos (by rfl)]
              go_simp
              have hb := below1 w22 (.cells #[.bool false, .bool false, .bool false, .bool false, .bool false, .bool false, .bool false, .bool false, .bool false, .bool false, .bool false, .bool false, .bool false, .bool false, .bool false, .bool false, .bool false, .bool false, .bool false, .bool false, .bool false, .bool false] 26)
              have Ty := Th.new w22 [.bool false, .bool false, .bool false, .bool false, .bool false, .bool false, .bool false, .bool false, .bool false, .bool false, .bool false, .bool false, .bool false, .bool false, .bool false, .bool false, .bool false, .bool false, .bool false, .bool false, .bool false, .bool false] rfl 26
              have hgy := HB.size
              first | (have hne : gx ≠ w22.heap.size := Nat.ne_of_lt Tx.lt) | skip
              obtain ⟨gy, hG⟩ : ∃ g, g = w22.heap.size := ⟨_, rfl⟩
              rw [← hG] at Ty hgy ⊢
              try rw [← hG] at hne
              clear hG
              obtain ⟨w23, hX⟩ : ∃ x, x = w22.alloc (.cells #[.bool false, .bool false, .bool false, .bool false, .bool false, .bool false, .bool false, .bool false, .bool false, .bool false, .bool false, .bool false, .bool false, .bool false, .bool false, .bool false, .bool false, .bool false, .bool false, .bool false, .bool false, .bool false] 26) := ⟨_, rfl⟩
              have hX' : (w22.alloc (.cells [.bool false, .bool false, .bool false, .bool false, .bool false, .bool false, .bool false, .bool false, .bool false, .bool false, .bool false, .bool false, .bool false, .bool false, .bool false, .bool false, .bool false, .bool false, .bool false, .bool false, .bool false, .bool false].toArray 26)) = w23 := hX.symm
              rw [hX'] at Ty
              rw [← hX] at hb ⊢
              clear hX hX'
              refine hK.out _ _ ?_ (fun hHeld => ?_)
              · exact belowT HB hb
              replace HB := hHeld; clear hHeld hK KK
              replace Tx := Tx.keep hb
              clear hb
              try simp only [Act.put, List.setIfInBounds_toArray, List.set_cons_zero, List.set_cons_succ]
              refine wpAnyH_ready (rs := [5]) (by as_aux_lemma => kernel_rfl) (by simp) ?_
              refine AllReadyH.cons (o := ({ dst := some 37, op := .call { callee := .value (.func 8), args := #[.tmp 35, .tmp 36], argTypes := #[25, 3] }, type := 26, pos := "law.go:47", after := #[{ on := 3, ground := .data }, { on := 4, ground := .data }, { on := 2, ground := .chain }], guard := none } : Oper)) rfl (fun KK hK => ?_) AllReadyH.nil
              rw [if_pos (by rfl)]
              go_simp
              go_at_call 8; refine (L2.out w23 (PN.out _ HB)).mono ?_; rintro e w24 ⟨rfl, hb⟩
              go_wp2_with fail
              refine hK.out _ _ ?_ (fun hHeld => ?_)
              · exact belowT HB hb
              replace HB := hHeld; clear hHeld hK KK
              replace Tx := Tx.keep hb
              replace Ty := Ty.keep hb
              clear hb
              try simp only [Act.put, List.setIfInBounds_toArray, List.set_cons_zero, List.set_cons_succ]
              refine wpAnyH_ready (rs := [8]) (by as_aux_lemma => kernel_rfl) (by simp) ?_
              refine AllReadyH.cons (o := ({ dst := none, op := .store 26 (.tmp 10) (.tmp 34), type := 0, pos := "law.go:47", after := #[{ on := 6, ground := .data }, { on := 2, ground := .data }, { on := 5, ground := .chain }, { on := 0, ground := .phase }, { on := 1, ground := .phase }, { on := 2, ground := .phase }, { on := 3, ground := .textOnly Go.Departure.lateStores }, { on := 4, ground := .textOnly Go.Departure.lateStores }, { on := 5, ground := .textOnly Go.Departure.lateStoresUnsure }, { on := 6, ground := .phase }, { on := 7, ground := .phase }], guard := none } : Oper)) rfl (fun KK hK => ?_) AllReadyH.nil
              rw [if_pos (by rfl)]
              refine oper_put rfl rfl rfl Tx hgx HB I1.out.1 I1.out.2 (fun w25 R1 kT kR HN => ?_)
              replace Ty := kT _ Ty
              clear Tx kT kR
              refine hK.out _ _ ?_ (fun hHeld => ?_)
              · exact HN
              replace HB := hHeld; clear hHeld hK KK HN
              try simp only [Act.put]
              refine wpAnyH_ready (rs := [9]) (by as_aux_lemma => kernel_rfl) (by simp) ?_
              refine AllReadyH.cons (o := ({ dst := none, op := .store 26 (.tmp 11) (.tmp 37), type := 0, pos := "law.go:47", after := #[{ on := 7, ground := .data }, { on := 5, ground := .data }, { on := 8, ground := .chain }, { on := 0, ground := .phase }, { on := 1, ground := .phase }, { on := 2, ground := .phase }, { on := 3, ground := .phase }, { on := 4, ground := .phase }, { on := 5, ground := .phase }, { on := 6, ground := .phase }, { on := 7, ground := .phase }, { on := 8, ground := .phase }], guard := none } : Oper)) rfl (fun KK hK => ?_) AllReadyH.nil
              rw [if_pos (by rfl)]
              refine oper_put rfl rfl rfl Ty hgy HB I2.out.1 I2.out.2 (fun w26 R2 kT kR HN => ?_)
              replace R1 := kR _ _ hne R1
              clear Ty kT kR
              refine hK.out _ _ ?_ (fun hHeld => ?_)
              · exact HN
              replace HB := hHeld; clear hHeld hK KK HN
              try simp only [Act.put]
              refine wpAnyH_done (by as_aux_lemma => kernel_rfl) ?_ _
              refine NoPanic.normal ?_
              go_wp2_with fail
              go_meet
              exact ⟨gx, gy, rfl, rfl, R1, R2, HB⟩
          · skip
            rw [if_pos (by rfl)]
            go_simp
            have hb := below1 w21 (.cells #[.bool false, .bool false, .bool false, .bool false, .bool false, .bool false, .bool false, .bool false, .bool false, .bool false, .bool false, .bool false, .bool false, .bool false, .bool false, .bool false, .bool false, .bool false, .bool false, .bool false, .bool false, .bool false] 26)
            have Ty := Th.new w21 [.bool false, .bool false, .bool false, .bool false, .bool false, .bool false, .bool false, .bool false, .bool false, .bool false, .bool false, .bool false, .bool false, .bool false, .bool false, .bool false, .bool false, .bool false, .bool false, .bool false, .bool false, .bool false] rfl 26
            have hgy := HB.size
            first | (have hne : gx ≠ w21.heap.size := Nat.ne_of_lt Tx.lt) | skip
            obtain ⟨gy, hG⟩ : ∃ g, g = w21.heap.size := ⟨_, rfl⟩
            rw [← hG] at Ty hgy ⊢
            try rw [← hG] at hne
            clear hG
            obtain ⟨w22, hX⟩ : ∃ x, x = w21.alloc (.cells #[.bool false, .bool false, .bool false, .bool false, .bool false, .bool false, .bool false, .bool false, .bool false, .bool false, .bool false, .bool false, .bool false, .bool false, .bool false, .bool false, .bool false, .bool false, .bool false, .bool false, .bool false, .bool false] 26) := ⟨_, rfl⟩
            have hX' : (w21.alloc (.cells [.bool false, .bool false, .bool false, .bool false, .bool false, .bool false, .bool false, .bool false, .bool false, .bool false, .bool false, .bool false, .bool false, .bool false, .bool false, .bool false, .bool false, .bool false, .bool false, .bool false, .bool false, .bool false].toArray 26)) = w22 := hX.symm
            rw [hX'] at Ty
            rw [← hX] at hb ⊢
            clear hX hX'
            refine hK.out _ _ ?_ (fun hHeld => ?_)
            · exact belowT HB hb
            replace HB := hHeld; clear hHeld hK KK
            clear hb
            try simp only [Act.put, List.setIfInBounds_toArray, List.set_cons_zero, List.set_cons_succ]
            refine wpAnyH_ready (rs := [5, 6]) (by as_aux_lemma => kernel_rfl) (by simp) ?_
            refine AllReadyH.cons (o := ({ dst := some 37, op := .call { callee := .value (.func 8), args := #[.tmp 35, .tmp 36], argTypes := #[25, 3] }, type := 26, pos := "law.go:47", after := #[{ on := 3, ground := .data }, { on := 4, ground := .data }, { on := 2, ground := .chain }], guard := none } : Oper)) rfl (fun KK hK => ?_) (AllReadyH.cons (o := ({ dst := some 10, op := .alloc 26, type := 0, pos := "law.go:47", after := #[], guard := none } : Oper)) rfl (fun KK hK => ?_) AllReadyH.nil)
            · skip
              rw [if_pos (by rfl)]
              go_simp
              go_at_call 8; refine (L2.out w22 (PN.out _ HB)).mono ?_; rintro e w23 ⟨rfl, hb⟩
              go_wp2_with fail
              refine hK.out _ _ ?_ (fun hHeld => ?_)
              · exact belowT HB hb
              replace HB := hHeld; clear hHeld hK KK
              replace Ty := Ty.keep hb
              clear hb
              try simp only [Act.put, List.setIfInBounds_toArray, List.set_cons_zero, List.set_cons_succ]
              refine wpAnyH_ready (rs := [6]) (by as_aux_lemma => kernel_rfl) (by simp) ?_
              refine AllReadyH.cons (o := ({ dst := some 10, op := .alloc 26, type := 0, pos := "law.go:47", after := #[], guard := none } : Oper)) rfl (fun KK hK => ?_) AllReadyH.nil
              rw [if_pos (by rfl)]
              go_simp
              have hb := below1 w23 (.cells #[.bool false, .bool false, .bool false, .bool false, .bool false, .bool false, .bool false, .bool false, .bool false, .bool false, .bool false, .bool false, .bool false, .bool false, .bool false, .bool false, .bool false, .bool false, .bool false, .bool false, .bool false, .bool false] 26)
              have Tx := Th.new w23 [.bool false, .bool false, .bool false, .bool false, .bool false, .bool false, .bool false, .bool false, .bool false, .bool false, .bool false, .bool false, .bool false, .bool false, .bool false, .bool false, .bool false, .bool false, .bool false, .bool false, .bool false, .bool false] rfl 26
              have hgx := HB.size
              first | (have hne : w23.heap.size ≠ gy := Nat.ne_of_gt Ty.lt) | skip
              obtain ⟨gx, hG⟩ : ∃ g, g = w23.heap.size := ⟨_, rfl⟩
              rw [← hG] at Tx hgx ⊢
              try rw [← hG] at hne
              clear hG
              obtain ⟨w24, hX⟩ : ∃ x, x = w23.alloc (.cells #[.bool false, .bool false, .bool false, .bool false, .bool false, .bool false, .bool false, .bool false, .bool false, .bool false, .bool false, .bool false, .bool false, .bool false, .bool false, .bool false, .bool false, .bool false, .bool false, .bool false, .bool false, .bool false] 26) := ⟨_, rfl⟩
              have hX' : (w23.alloc (.cells [.bool false, .bool false, .bool false, .bool false, .bool false, .bool false, .bool false, .bool false, .bool false, .bool false, .bool false, .bool false, .bool false, .bool false, .bool false, .bool false, .bool false, .bool false, .bool false, .bool false, .bool false, .bool false].toArray 26)) = w24 := hX.symm
              rw [hX'] at Tx
              rw [← hX] at hb ⊢
              clear hX hX'
              refine hK.out _ _ ?_ (fun hHeld => ?_)
              · exact belowT HB hb
              replace HB := hHeld; clear hHeld hK KK
              replace Ty := Ty.keep hb
              clear hb
              try simp only [Act.put, List.setIfInBounds_toArray, List.set_cons_zero, List.set_cons_succ]
              refine wpAnyH_ready (rs := [8]) (by as_aux_lemma => kernel_rfl) (by simp) ?_
              refine AllReadyH.cons (o := ({ dst := none, op := .store 26 (.tmp 10) (.tmp 34), type := 0, pos := "law.go:47", after := #[{ on := 6, ground := .data }, { on := 2, ground := .data }, { on := 5, ground := .chain }, { on := 0, ground := .phase }, { on := 1, ground := .phase }, { on := 2, ground := .phase }, { on := 3, ground := .textOnly Go.Departure.lateStores }, { on := 4, ground := .textOnly Go.Departure.lateStores }, { on := 5, ground := .textOnly Go.Departure.lateStoresUnsure }, { on := 6, ground := .phase }, { on := 7, ground := .phase }], guard := none } : Oper)) rfl (fun KK hK => ?_) AllReadyH.nil
              rw [if_pos (by rfl)]
              refine oper_put rfl rfl rfl Tx hgx HB I1.out.1 I1.out.2 (fun w25 R1 kT kR HN => ?_)
              replace Ty := kT _ Ty
              clear Tx kT kR
              refine hK.out _ _ ?_ (fun hHeld => ?_)
              · exact HN
              replace HB := hHeld; clear hHeld hK KK HN
              try simp only [Act.put]
              refine wpAnyH_ready (rs := [9]) (by as_aux_lemma => kernel_rfl) (by simp) ?_
              refine AllReadyH.cons (o := ({ dst := none, op := .store 26 (.tmp 11) (.tmp 37), type := 0, pos := "law.go:47", after := #[{ on := 7, ground := .data }, { on := 5, ground := .data }, { on := 8, ground := .chain }, { on := 0, ground := .phase }, { on := 1, ground := .phase }, { on := 2, ground := .phase }, { on := 3, ground := .phase }, { on := 4, ground := .phase }, { on := 5, ground := .phase }, { on := 6, ground := .phase }, { on := 7, ground := .phase }, { on := 8, ground := .phase }], guard := none } : Oper)) rfl (fun KK hK => ?_) AllReadyH.nil
              rw [if_pos (by rfl)]
              refine oper_put rfl rfl rfl Ty hgy HB I2.out.1 I2.out.2 (fun w26 R2 kT kR HN => ?_)
              replace R1 := kR _ _ hne R1
              clear Ty kT kR
              refine hK.out _ _ ?_ (fun hHeld => ?_)
              · exact HN
              replace HB := hHeld; clear hHeld hK KK HN
              try simp only [Act.put]
              refine wpAnyH_done (by as_aux_lemma => kernel_rfl) ?_ _
              refine NoPanic.normal ?_
              go_wp2_with fail
              go_meet
              exact ⟨gx, gy, rfl, rfl, R1, R2, HB⟩
            · skip
              rw [if_pos (by rfl)]
              go_simp
              have hb := below1 w22 (.cells #[.bool false, .bool false, .bool false, .bool false, .bool false, .bool false, .bool false, .bool false, .bool false, .bool false, .bool false, .bool false, .bool false, .bool false, .bool false, .bool false, .bool false, .bool false, .bool false, .bool false, .bool false, .bool false] 26)
              have Tx := Th.new w22 [.bool false, .bool false, .bool false, .bool false, .bool false, .bool false, .bool false, .bool false, .bool false, .bool false, .bool false, .bool false, .bool false, .bool false, .bool false, .bool false, .bool false, .bool false, .bool false, .bool false, .bool false, .bool false] rfl 26
              have hgx := HB.size
              first | (have hne : w22.heap.size ≠ gy := Nat.ne_of_gt Ty.lt) | skip
              obtain ⟨gx, hG⟩ : ∃ g, g = w22.heap.size := ⟨_, rfl⟩
              rw [← hG] at Tx hgx ⊢
              try rw [← hG] at hne
              clear hG
              obtain ⟨w23, hX⟩ : ∃ x, x = w22.alloc (.cells #[.bool false, .bool false, .bool false, .bool false, .bool false, .bool false, .bool false, .bool false, .bool false, .bool false, .bool false, .bool false, .bool false, .bool false, .bool false, .bool false, .bool false, .bool false, .bool false, .bool false, .bool false, .bool false] 26) := ⟨_, rfl⟩
              have hX' : (w22.alloc (.cells [.bool false, .bool false, .bool false, .bool false, .bool false, .bool false, .bool false, .bool false, .bool false, .bool false, .bool false, .bool false, .bool false, .bool false, .bool false, .bool false, .bool false, .bool false, .bool false, .bool false, .bool false, .bool false].toArray 26)) = w23 := hX.symm
              rw [hX'] at Tx
              rw [← hX] at hb ⊢
              clear hX hX'
              refine hK.out _ _ ?_ (fun hHeld => ?_)
              · exact belowT HB hb
              replace HB := hHeld; clear hHeld hK KK
              replace Ty := Ty.keep hb
              clear hb
              try simp only [Act.put, List.setIfInBounds_toArray, List.set_cons_zero, List.set_cons_succ]
              refine wpAnyH_ready (rs := [5]) (by as_aux_lemma => kernel_rfl) (by simp) ?_
              refine AllReadyH.cons (o := ({ dst := some 37, op := .call { callee := .value (.func 8), args := #[.tmp 35, .tmp 36], argTypes := #[25, 3] }, type := 26, pos := "law.go:47", after := #[{ on := 3, ground := .data }, { on := 4, ground := .data }, { on := 2, ground := .chain }], guard := none } : Oper)) rfl (fun KK hK => ?_) AllReadyH.nil
              rw [if_pos (by rfl)]
              go_simp
              go_at_call 8; refine (L2.out w23 (PN.out _ HB)).mono ?_; rintro e w24 ⟨rfl, hb⟩
              go_wp2_with fail
              refine hK.out _ _ ?_ (fun hHeld => ?_)
              · exact belowT HB hb
              replace HB := hHeld; clear hHeld hK KK
              replace Ty := Ty.keep hb
              replace Tx := Tx.keep hb
              clear hb
              try simp only [Act.put, List.setIfInBounds_toArray, List.set_cons_zero, List.set_cons_succ]
              refine wpAnyH_ready (rs := [8]) (by as_aux_lemma => kernel_rfl) (by simp) ?_
              refine AllReadyH.cons (o := ({ dst := none, op := .store 26 (.tmp 10) (.tmp 34), type := 0, pos := "law.go:47", after := #[{ on := 6, ground := .data }, { on := 2, ground := .data }, { on := 5, ground := .chain }, { on := 0, ground := .phase }, { on := 1, ground := .phase }, { on := 2, ground := .phase }, { on := 3, ground := .textOnly Go.Departure.lateStores }, { on := 4, ground := .textOnly Go.Departure.lateStores }, { on := 5, ground := .textOnly Go.Departure.lateStoresUnsure }, { on := 6, ground := .phase }, { on := 7, ground := .phase }], guard := none } : Oper)) rfl (fun KK hK => ?_) AllReadyH.nil
              rw [if_pos (by rfl)]
              refine oper_put rfl rfl rfl Tx hgx HB I1.out.1 I1.out.2 (fun w25 R1 kT kR HN => ?_)
              replace Ty := kT _ Ty
              clear Tx kT kR
              refine hK.out _ _ ?_ (fun hHeld => ?_)
              · exact HN
              replace HB := hHeld; clear hHeld hK KK HN
              try simp only [Act.put]
              refine wpAnyH_ready (rs := [9]) (by as_aux_lemma => kernel_rfl) (by simp) ?_
              refine AllReadyH.cons (o := ({ dst := none, op := .store 26 (.tmp 11) (.tmp 37), type := 0, pos := "law.go:47", after := #[{ on := 7, ground := .data }, { on := 5, ground := .data }, { on := 8, ground := .chain }, { on := 0, ground := .phase }, { on := 1, ground := .phase }, { on := 2, ground := .phase }, { on := 3, ground := .phase }, { on := 4, ground := .phase }, { on := 5, ground := .phase }, { on := 6, ground := .phase }, { on := 7, ground := .phase }, { on := 8, ground := .phase }], guard := none } : Oper)) rfl (fun KK hK => ?_) AllReadyH.nil
              rw [if_pos (by rfl)]
              refine oper_put rfl rfl rfl Ty hgy HB I2.out.1 I2.out.2 (fun w26 R2 kT kR HN => ?_)
              replace R1 := kR _ _ hne R1
              clear Ty kT kR
              refine hK.out _ _ ?_ (fun hHeld => ?_)
              · exact HN
              replace HB := hHeld; clear hHeld hK KK HN
              try simp only [Act.put]
              refine wpAnyH_done (by as_aux_lemma => kernel_rfl) ?_ _
              refine NoPanic.normal ?_
              go_wp2_with fail
              go_meet
              exact ⟨gx, gy, rfl, rfl, R1, R2, HB⟩
        · skip
          rw [if_pos (by rfl)]
          go_simp
          have hb := below1 w20 (.cells #[.bool false, .bool false, .bool false, .bool false, .bool false, .bool false, .bool false, .bool false, .bool false, .bool false, .bool false, .bool false, .bool false, .bool false, .bool false, .bool false, .bool false, .bool false, .bool false, .bool false, .bool false, .bool false] 26)
          have Tx := Th.new w20 [.bool false, .bool false, .bool false, .bool false, .bool false, .bool false, .bool false, .bool false, .bool false, .bool false, .bool false, .bool false, .bool false, .bool false, .bool false, .bool false, .bool false, .bool false, .bool false, .bool false, .bool false, .bool false] rfl 26
          have hgx := HB.size
          first | (have hne : w20.heap.size ≠ gy := Nat.ne_of_gt Ty.lt) | skip
          obtain ⟨gx, hG⟩ : ∃ g, g = w20.heap.size := ⟨_, rfl⟩
          rw [← hG] at Tx hgx ⊢
          try rw [← hG] at hne
          clear hG
          obtain ⟨w21, hX⟩ : ∃ x, x = w20.alloc (.cells #[.bool false, .bool false, .bool false, .bool false, .bool false, .bool false, .bool false, .bool false, .bool false, .bool false, .bool false, .bool false, .bool false, .bool false, .bool false, .bool false, .bool false, .bool false, .bool false, .bool false, .bool false, .bool false] 26) := ⟨_, rfl⟩
          have hX' : (w20.alloc (.cells [.bool false, .bool false, .bool false, .bool false, .bool false, .bool false, .bool false, .bool false, .bool false, .bool false, .bool false, .bool false, .bool false, .bool false, .bool false, .bool false, .bool false, .bool false, .bool false, .bool false, .bool false, .bool false].toArray 26)) = w21 := hX.symm
          rw [hX'] at Tx
          rw [← hX] at hb ⊢
          clear hX hX'
          refine hK.out _ _ ?_ (fun hHeld => ?_)
          · exact belowT HB hb
          replace HB := hHeld; clear hHeld hK KK
          clear hb
          try simp only [Act.put, List.setIfInBounds_toArray, List.set_cons_zero, List.set_cons_succ]
          refine wpAnyH_ready (rs := [2, 7]) (by as_aux_lemma => kernel_rfl) (by simp) ?_
          refine AllReadyH.cons (o := ({ dst := some 34, op := .call { callee := .value (.func 8), args := #[.tmp 32, .tmp 33], argTypes := #[25, 3] }, type := 26, pos := "law.go:47", after := #[{ on := 0, ground := .data }, { on := 1, ground := .data }], guard := none } : Oper)) rfl (fun KK hK => ?_) (AllReadyH.cons (o := ({ dst := some 11, op := .alloc 26, type := 0, pos := "law.go:47", after := #[], guard := none } : Oper)) rfl (fun KK hK => ?_) AllReadyH.nil)
          · skip
            rw [if_pos (by rfl)]
            go_simp
            go_at_call 8; refine (L1.out w21 (PN.out _ HB)).mono ?_; rintro e w22 ⟨rfl, hb⟩
            go_wp2_with fail
            refine hK.out _ _ ?_ (fun hHeld => ?_)
            · exact belowT HB hb
            replace HB := hHeld; clear hHeld hK KK
            replace Tx := Tx.keep hb
            clear hb
            try simp only [Act.put, List.setIfInBounds_toArray, List.set_cons_zero, List.set_cons_succ]
            refine wpAnyH_ready (rs := [5, 7]) (by as_aux_lemma => kernel_rfl) (by simp) ?_
            refine AllReadyH.cons (o := ({ dst := some 37, op := .call { callee := .value (.func 8), args := #[.tmp 35, .tmp 36], argTypes := #[25, 3] }, type := 26, pos := "law.go:47", after := #[{ on := 3, ground := .data }, { on := 4, ground := .data }, { on := 2, ground := .chain }], guard := none } : Oper)) rfl (fun KK hK => ?_) (AllReadyH.cons (o := ({ dst := some 11, op := .alloc 26, type := 0, pos := "law.go:47", after := #[], guard := none } : Oper)) rfl (fun KK hK => ?_) AllReadyH.nil)
            · skip
              rw [if_pos (by rfl)]
              go_simp
              go_at_call 8; refine (L2.out w22 (PN.out _ HB)).mono ?_; rintro e w23 ⟨rfl, hb⟩
              go_wp2_with fail
              refine hK.out _ _ ?_ (fun hHeld => ?_)
              · exact belowT HB hb
              replace HB := hHeld; clear hHeld hK KK
              replace Tx := Tx.keep hb
              clear hb
              try simp only [Act.put, List.setIfInBounds_toArray, List.set_cons_zero, List.set_cons_succ]
              refine wpAnyH_ready (rs := [7]) (by as_aux_lemma => kernel_rfl) (by simp) ?_
              refine AllReadyH.cons (o := ({ dst := some 11, op := .alloc 26, type := 0, pos := "law.go:47", after := #[], guard := none } : Oper)) rfl (fun KK hK => ?_) AllReadyH.nil
              rw [if_pos (by rfl)]
              go_simp
              have hb := below1 w23 (.cells #[.bool false, .bool false, .bool false, .bool false, .bool false, .bool false, .bool false, .bool false, .bool false, .bool false, .bool false, .bool false, .bool false, .bool false, .bool false, .bool false, .bool false, .bool false, .bool false, .bool false, .bool false, .bool false] 26)
              have Ty := Th.new w23 [.bool false, .bool false, .bool false, .bool false, .bool false, .bool false, .bool false, .bool false, .bool false, .bool false, .bool false, .bool false, .bool false, .bool false, .bool false, .bool false, .bool false, .bool false, .bool false, .bool false, .bool false, .bool false] rfl 26
              have hgy := HB.size
              first | (have hne : gx ≠ w23.heap.size := Nat.ne_of_lt Tx.lt) | skip
              obtain ⟨gy, hG⟩ : ∃ g, g = w23.heap.size := ⟨_, rfl⟩
              rw [← hG] at Ty hgy ⊢
              try rw [← hG] at hne
              clear hG
              obtain ⟨w24, hX⟩ : ∃ x, x = w23.alloc (.cells #[.bool false, .bool false, .bool false, .bool false, .bool false, .bool false, .bool false, .bool false, .bool false, .bool false, .bool false, .bool false, .bool false, .bool false, .bool false, .bool false, .bool false, .bool false, .bool false, .bool false, .bool false, .bool false] 26) := ⟨_, rfl⟩
              have hX' : (w23.alloc (.cells [.bool false, .bool false, .bool false, .bool false, .bool false, .bool false, .bool false, .bool false, .bool false, .bool false, .bool false, .bool false, .bool false, .bool false, .bool false, .bool false, .bool false, .bool false, .bool false, .bool false, .bool false, .bool false].toArray 26)) = w24 := hX.symm
              rw [hX'] at Ty
              rw [← hX] at hb ⊢
              clear hX hX'
              refine hK.out _ _ ?_ (fun hHeld => ?_)
              · exact belowT HB hb
              replace HB := hHeld; clear hHeld hK KK
              replace Tx := Tx.keep hb
              clear hb
              try simp only [Act.put, List.setIfInBounds_toArray, List.set_cons_zero, List.set_cons_succ]
              refine wpAnyH_ready (rs := [8]) (by as_aux_lemma => kernel_rfl) (by simp) ?_
              refine AllReadyH.cons (o := ({ dst := none, op := .store 26 (.tmp 10) (.tmp 34), type := 0, pos := "law.go:47", after := #[{ on := 6, ground := .data }, { on := 2, ground := .data }, { on := 5, ground := .chain }, { on := 0, ground := .phase }, { on := 1, ground := .phase }, { on := 2, ground := .phase }, { on := 3, ground := .textOnly Go.Departure.lateStores }, { on := 4, ground := .textOnly Go.Departure.lateStores }, { on := 5, ground := .textOnly Go.Departure.lateStoresUnsure }, { on := 6, ground := .phase }, { on := 7, ground := .phase }], guard := none } : Oper)) rfl (fun KK hK => ?_) AllReadyH.nil
              rw [if_pos (by rfl)]
              refine oper_put rfl rfl rfl Tx hgx HB I1.out.1 I1.out.2 (fun w25 R1 kT kR HN => ?_)
              replace Ty := kT _ Ty
              clear Tx kT kR
              refine hK.out _ _ ?_ (fun hHeld => ?_)
              · exact HN
              replace HB := hHeld; clear hHeld hK KK HN
              try simp only [Act.put]
              refine wpAnyH_ready (rs := [9]) (by as_aux_lemma => kernel_rfl) (by simp) ?_
              refine AllReadyH.cons (o := ({ dst := none, op := .store 26 (.tmp 11) (.tmp 37), type := 0, pos := "law.go:47", after := #[{ on := 7, ground := .data }, { on := 5, ground := .data }, { on := 8, ground := .chain }, { on := 0, ground := .phase }, { on := 1, ground := .phase }, { on := 2, ground := .phase }, { on := 3, ground := .phase }, { on := 4, ground := .phase }, { on := 5, ground := .phase }, { on := 6, ground := .phase }, { on := 7, ground := .phase }, { on := 8, ground := .phase }], guard := none } : Oper)) rfl (fun KK hK => ?_) AllReadyH.nil
              rw [if_pos (by rfl)]
              refine oper_put rfl rfl rfl Ty hgy HB I2.out.1 I2.out.2 (fun w26 R2 kT kR HN => ?_)
              replace R1 := kR _ _ hne R1
              clear Ty kT kR
              refine hK.out _ _ ?_ (fun hHeld => ?_)
              · exact HN
              replace HB := hHeld; clear hHeld hK KK HN
              try simp only [Act.put]
              refine wpAnyH_done (by as_aux_lemma => kernel_rfl) ?_ _
              refine NoPanic.normal ?_
              go_wp2_with fail
              go_meet
              exact ⟨gx, gy, rfl, rfl, R1, R2, HB⟩
            · skip
              rw [if_pos (by rfl)]
              go_simp
              have hb := below1 w22 (.cells #[.bool false, .bool false, .bool false, .bool false, .bool false, .bool false, .bool false, .bool false, .bool false, .bool false, .bool false, .bool false, .bool false, .bool false, .bool false, .bool false, .bool false, .bool false, .bool false, .bool false, .bool false, .bool false] 26)
              have Ty := Th.new w22 [.bool false, .bool false, .bool false, .bool false, .bool false, .bool false, .bool false, .bool false, .bool false, .bool false, .bool false, .bool false, .bool false, .bool false, .bool false, .bool false, .bool false, .bool false, .bool false, .bool false, .bool false, .bool false] rfl 26
              have hgy := HB.size
              first | (have hne : gx ≠ w22.heap.size := Nat.ne_of_lt Tx.lt) | skip
              obtain ⟨gy, hG⟩ : ∃ g, g = w22.heap.size := ⟨_, rfl⟩
              rw [← hG] at Ty hgy ⊢
              try rw [← hG] at hne
              clear hG
              obtain ⟨w23, hX⟩ : ∃ x, x = w22.alloc (.cells #[.bool false, .bool false, .bool false, .bool false, .bool false, .bool false, .bool false, .bool false, .bool false, .bool false, .bool false, .bool false, .bool false, .bool false, .bool false, .bool false, .bool false, .bool false, .bool false, .bool false, .bool false, .bool false] 26) := ⟨_, rfl⟩
              have hX' : (w22.alloc (.cells [.bool false, .bool false, .bool false, .bool false, .bool false, .bool false, .bool false, .bool false, .bool false, .bool false, .bool false, .bool false, .bool false, .bool false, .bool false, .bool false, .bool false, .bool false, .bool false, .bool false, .bool false, .bool false].toArray 26)) = w23 := hX.symm
              rw [hX'] at Ty
              rw [← hX] at hb ⊢
              clear hX hX'
              refine hK.out _ _ ?_ (fun hHeld => ?_)
              · exact belowT HB hb
              replace HB := hHeld; clear hHeld hK KK
              replace Tx := Tx.keep hb
              clear hb
              try simp only [Act.put, List.setIfInBounds_toArray, List.set_cons_zero, List.set_cons_succ]
              refine wpAnyH_ready (rs := [5]) (by as_aux_lemma => kernel_rfl) (by simp) ?_
              refine AllReadyH.cons (o := ({ dst := some 37, op := .call { callee := .value (.func 8), args := #[.tmp 35, .tmp 36], argTypes := #[25, 3] }, type := 26, pos := "law.go:47", after := #[{ on := 3, ground := .data }, { on := 4, ground := .data }, { on := 2, ground := .chain }], guard := none } : Oper)) rfl (fun KK hK => ?_) AllReadyH.nil
              rw [if_pos (by rfl)]
              go_simp
              go_at_call 8; refine (L2.out w23 (PN.out _ HB)).mono ?_; rintro e w24 ⟨rfl, hb⟩
              go_wp2_with fail
              refine hK.out _ _ ?_ (fun hHeld => ?_)
              · exact belowT HB hb
              replace HB := hHeld; clear hHeld hK KK
              replace Tx := Tx.keep hb
              replace Ty := Ty.keep hb
              clear hb
              try simp only [Act.put, List.setIfInBounds_toArray, List.set_cons_zero, List.set_cons_succ]
              refine wpAnyH_ready (rs := [8]) (by as_aux_lemma => kernel_rfl) (by simp) ?_
              refine AllReadyH.cons (o := ({ dst := none, op := .store 26 (.tmp 10) (.tmp 34), type := 0, pos := "law.go:47", after := #[{ on := 6, ground := .data }, { on := 2, ground := .data }, { on := 5, ground := .chain }, { on := 0, ground := .phase }, { on := 1, ground := .phase }, { on := 2, ground := .phase }, { on := 3, ground := .textOnly Go.Departure.lateStores }, { on := 4, ground := .textOnly Go.Departure.lateStores }, { on := 5, ground := .textOnly Go.Departure.lateStoresUnsure }, { on := 6, ground := .phase }, { on := 7, ground := .phase }], guard := none } : Oper)) rfl (fun KK hK => ?_) AllReadyH.nil
              rw [if_pos (by rfl)]
              refine oper_put rfl rfl rfl Tx hgx HB I1.out.1 I1.out.2 (fun w25 R1 kT kR HN => ?_)
              replace Ty := kT _ Ty
              clear Tx kT kR
              refine hK.out _ _ ?_ (fun hHeld => ?_)
              · exact HN
              replace HB := hHeld; clear hHeld hK KK HN
              try simp only [Act.put]
              refine wpAnyH_ready (rs := [9]) (by as_aux_lemma => kernel_rfl) (by simp) ?_
              refine AllReadyH.cons (o := ({ dst := none, op := .store 26 (.tmp 11) (.tmp 37), type := 0, pos := "law.go:47", after := #[{ on := 7, ground := .data }, { on := 5, ground := .data }, { on := 8, ground := .chain }, { on := 0, ground := .phase }, { on := 1, ground := .phase }, { on := 2, ground := .phase }, { on := 3, ground := .phase }, { on := 4, ground := .phase }, { on := 5, ground := .phase }, { on := 6, ground := .phase }, { on := 7, ground := .phase }, { on := 8, ground := .phase }], guard := none } : Oper)) rfl (fun KK hK => ?_) AllReadyH.nil
              rw [if_pos (by rfl)]
              refine oper_put rfl rfl rfl Ty hgy HB I2.out.1 I2.out.2 (fun w26 R2 kT kR HN => ?_)
              replace R1 := kR _ _ hne R1
              clear Ty kT kR
              refine hK.out _ _ ?_ (fun hHeld => ?_)
              · exact HN
              replace HB := hHeld; clear hHeld hK KK HN
              try simp only [Act.put]
              refine wpAnyH_done (by as_aux_lemma => kernel_rfl) ?_ _
              refine NoPanic.normal ?_
              go_wp2_with fail
              go_meet
              exact ⟨gx, gy, rfl, rfl, R1, R2, HB⟩
          · skip
            rw [if_pos (by rfl)]
            go_simp
            have hb := below1 w21 (.cells #[.bool false, .bool false, .bool false, .bool false, .bool false, .bool false, .bool false, .bool false, .bool false, .bool false, .bool false, .bool false, .bool false, .bool false, .bool false, .bool false, .bool false, .bool false, .bool false, .bool false, .bool false, .bool false] 26)
            have Ty := Th.new w21 [.bool false, .bool false, .bool false, .bool false, .bool false, .bool false, .bool false, .bool false, .bool false, .bool false, .bool false, .bool false, .bool false, .bool false, .bool false, .bool false, .bool false, .bool false, .bool false, .bool false, .bool false, .bool false] rfl 26
            have hgy := HB.size
            first | (have hne : gx ≠ w21.heap.size := Nat.ne_of_lt Tx.lt) | skip
            obtain ⟨gy, hG⟩ : ∃ g, g = w21.heap.size := ⟨_, rfl⟩
            rw [← hG] at Ty hgy ⊢
            try rw [← hG] at hne
            clear hG
            obtain ⟨w22, hX⟩ : ∃ x, x = w21.alloc (.cells #[.bool false, .bool false, .bool false, .bool false, .bool false, .bool false, .bool false, .bool false, .bool false, .bool false, .bool false, .bool false, .bool false, .bool false, .bool false, .bool false, .bool false, .bool false, .bool false, .bool false, .bool false, .bool false] 26) := ⟨_, rfl⟩
            have hX' : (w21.alloc (.cells [.bool false, .bool false, .bool false, .bool false, .bool false, .bool false, .bool false, .bool false, .bool false, .bool false, .bool false, .bool false, .bool false, .bool false, .bool false, .bool false, .bool false, .bool false, .bool false, .bool false, .bool false, .bool false].toArray 26)) = w22 := hX.symm
            rw [hX'] at Ty
            rw [← hX] at hb ⊢
            clear hX hX'
            refine hK.out _ _ ?_ (fun hHeld => ?_)
            · exact belowT HB hb
            replace HB := hHeld; clear hHeld hK KK
            replace Tx := Tx.keep hb
            clear hb
            try simp only [Act.put, List.setIfInBounds_toArray, List.set_cons_zero, List.set_cons_succ]
            refine wpAnyH_ready (rs := [2]) (by as_aux_lemma => kernel_rfl) (by simp) ?_
            refine AllReadyH.cons (o := ({ dst := some 34, op := .call { callee := .value (.func 8), args := #[.tmp 32, .tmp 33], argTypes := #[25, 3] }, type := 26, pos := "law.go:47", after := #[{ on := 0, ground := .data }, { on := 1, ground := .data }], guard := none } : Oper)) rfl (fun KK hK => ?_) AllReadyH.nil
            rw [if_pos (by rfl)]
            go_simp
            go_at_call 8; refine (L1.out w22 (PN.out _ HB)).mono ?_; rintro e w23 ⟨rfl, hb⟩
            go_wp2_with fail
            refine hK.out _ _ ?_ (fun hHeld => ?_)
            · exact belowT HB hb
            replace HB := hHeld; clear hHeld hK KK
            replace Tx := Tx.keep hb
            replace Ty := Ty.keep hb
            clear hb
            try simp only [Act.put, List.setIfInBounds_toArray, List.set_cons_zero, List.set_cons_succ]
            refine wpAnyH_ready (rs := [5]) (by as_aux_lemma => kernel_rfl) (by simp) ?_
            refine AllReadyH.cons (o := ({ dst := some 37, op := .call { callee := .value (.func 8), args := #[.tmp 35, .tmp 36], argTypes := #[25, 3] }, type := 26, pos := "law.go:47", after := #[{ on := 3, ground := .data }, { on := 4, ground := .data }, { on := 2, ground := .chain }], guard := none } : Oper)) rfl (fun KK hK => ?_) AllReadyH.nil
            rw [if_pos (by rfl)]
            go_simp
            go_at_call 8; refine (L2.out w23 (PN.out _ HB)).mono ?_; rintro e w24 ⟨rfl, hb⟩
            go_wp2_with fail
            refine hK.out _ _ ?_ (fun hHeld => ?_)
            · exact belowT HB hb
            replace HB := hHeld; clear hHeld hK KK
            replace Tx := Tx.keep hb
            replace Ty := Ty.keep hb
            clear hb
            try simp only [Act.put, List.setIfInBounds_toArray, List.set_cons_zero, List.set_cons_succ]
            refine wpAnyH_ready (rs := [8]) (by as_aux_lemma => kernel_rfl) (by simp) ?_
            refine AllReadyH.cons (o := ({ dst := none, op := .store 26 (.tmp 10) (.tmp 34), type := 0, pos := "law.go:47", after := #[{ on := 6, ground := .data }, { on := 2, ground := .data }, { on := 5, ground := .chain }, { on := 0, ground := .phase }, { on := 1, ground := .phase }, { on := 2, ground := .phase }, { on := 3, ground := .textOnly Go.Departure.lateStores }, { on := 4, ground := .textOnly Go.Departure.lateStores }, { on := 5, ground := .textOnly Go.Departure.lateStoresUnsure }, { on := 6, ground := .phase }, { on := 7, ground := .phase }], guard := none } : Oper)) rfl (fun KK hK => ?_) AllReadyH.nil
            rw [if_pos (by rfl)]
            refine oper_put rfl rfl rfl Tx hgx HB I1.out.1 I1.out.2 (fun w25 R1 kT kR HN => ?_)
            replace Ty := kT _ Ty
            clear Tx kT kR
            refine hK.out _ _ ?_ (fun hHeld => ?_)
            · exact HN
            replace HB := hHeld; clear hHeld hK KK HN
            try simp only [Act.put]
            refine wpAnyH_ready (rs := [9]) (by as_aux_lemma => kernel_rfl) (by simp) ?_
            refine AllReadyH.cons (o := ({ dst := none, op := .store 26 (.tmp 11) (.tmp 37), type := 0, pos := "law.go:47", after := #[{ on := 7, ground := .data }, { on := 5, ground := .data }, { on := 8, ground := .chain }, { on := 0, ground := .phase }, { on := 1, ground := .phase }, { on := 2, ground := .phase }, { on := 3, ground := .phase }, { on := 4, ground := .phase }, { on := 5, ground := .phase }, { on := 6, ground := .phase }, { on := 7, ground := .phase }, { on := 8, ground := .phase }], guard := none } : Oper)) rfl (fun KK hK => ?_) AllReadyH.nil
            rw [if_pos (by rfl)]
            refine oper_put rfl rfl rfl Ty hgy HB I2.out.1 I2.out.2 (fun w26 R2 kT kR HN => ?_)
            replace R1 := kR _ _ hne R1
            clear Ty kT kR
            refine hK.out _ _ ?_ (fun hHeld => ?_)
            · exact HN
            replace HB := hHeld; clear hHeld hK KK HN
            try simp only [Act.put]
            refine wpAnyH_done (by as_aux_lemma => kernel_rfl) ?_ _
            refine NoPanic.normal ?_
            go_wp2_with fail
            go_meet
            exact ⟨gx, gy, rfl, rfl, R1, R2, HB⟩
        · skip
          rw [if_pos (by rfl)]
          go_simp
          have hb := below1 w20 (.cells #[.bool false, .bool false, .bool false, .bool false, .bool false, .bool false, .bool false, .bool false, .bool false, .bool false, .bool false, .bool false, .bool false, .bool false, .bool false, .bool false, .bool false, .bool false, .bool false, .bool false, .bool false, .bool false] 26)
          have Ty := Th.new w20 [.bool false, .bool false, .bool false, .bool false, .bool false, .bool false, .bool false, .bool false, .bool false, .bool false, .bool false, .bool false, .bool false, .bool false, .bool false, .bool false, .bool false, .bool false, .bool false, .bool false, .bool false, .bool false] rfl 26
          have hgy := HB.size
          first | (have hne : gx ≠ w20.heap.size := Nat.ne_of_lt Tx.lt) | skip
          obtain ⟨gy, hG⟩ : ∃ g, g = w20.heap.size := ⟨_, rfl⟩
          rw [← hG] at Ty hgy ⊢
          try rw [← hG] at hne
          clear hG
          obtain ⟨w21, hX⟩ : ∃ x, x = w20.alloc (.cells #[.bool false, .bool false, .bool false, .bool false, .bool false, .bool false, .bool false, .bool false, .bool false, .bool false, .bool false, .bool false, .bool false, .bool false, .bool false, .bool false, .bool false, .bool false, .bool false, .bool false, .bool false, .bool false] 26) := ⟨_, rfl⟩
          have hX' : (w20.alloc (.cells [.bool false, .bool false, .bool false, .bool false, .bool false, .bool false, .bool false, .bool false, .bool false, .bool false, .bool false, .bool false, .bool false, .bool false, .bool false, .bool false, .bool false, .bool false, .bool false, .bool false, .bool false, .bool false].toArray 26)) = w21 := hX.symm
          rw [hX'] at Ty
          rw [← hX] at hb ⊢
          clear hX hX'
          refine hK.out _ _ ?_ (fun hHeld => ?_)
          · exact belowT HB hb
          replace HB := hHeld; clear hHeld hK KK
          clear hb
          try simp only [Act.put, List.setIfInBounds_toArray, List.set_cons_zero, List.set_cons_succ]
          refine wpAnyH_ready (rs := [2, 6]) (by as_aux_lemma => kernel_rfl) (by simp) ?_
          refine AllReadyH.cons (o := ({ dst := some 34, op := .call { callee := .value (.func 8), args := #[.tmp 32, .tmp 33], argTypes := #[25, 3] }, type := 26, pos := "law.go:47", after := #[{ on := 0, ground := .data }, { on := 1, ground := .data }], guard := none } : Oper)) rfl (fun KK hK => ?_) (AllReadyH.cons (o := ({ dst := some 10, op := .alloc 26, type := 0, pos := "law.go:47", after := #[], guard := none } : Oper)) rfl (fun KK hK => ?_) AllReadyH.nil)
          · skip
            rw [if_pos (by rfl)]
            go_simp
            go_at_call 8; refine (L1.out w21 (PN.out _ HB)).mono ?_; rintro e w22 ⟨rfl, hb⟩
            go_wp2_with fail
            refine hK.out _ _ ?_ (fun hHeld => ?_)
            · exact belowT HB hb
            replace HB := hHeld; clear hHeld hK KK
            replace Ty := Ty.keep hb
            clear hb
            try simp only [Act.put, List.setIfInBounds_toArray, List.set_cons_zero, List.set_cons_succ]
            refine wpAnyH_ready (rs := [5, 6]) (by as_aux_lemma => kernel_rfl) (by simp) ?_
            refine AllReadyH.cons (o := ({ dst := some 37, op := .call { callee := .value (.func 8), args := #[.tmp 35, .tmp 36], argTypes := #[25, 3] }, type := 26, pos := "law.go:47", after := #[{ on := 3, ground := .data }, { on := 4, ground := .data }, { on := 2, ground := .chain }], guard := none } : Oper)) rfl (fun KK hK => ?_) (AllReadyH.cons (o := ({ dst := some 10, op := .alloc 26, type := 0, pos := "law.go:47", after := #[], guard := none } : Oper)) rfl (fun KK hK => ?_) AllReadyH.nil)
            · skip
              rw [if_pos (by rfl)]
              go_simp
              go_at_call 8; refine (L2.out w22 (PN.out _ HB)).mono ?_; rintro e w23 ⟨rfl, hb⟩
              go_wp2_with fail
              refine hK.out _ _ ?_ (fun hHeld => ?_)
              · exact belowT HB hb
              replace HB := hHeld; clear hHeld hK KK
              replace Ty := Ty.keep hb
              clear hb
              try simp only [Act.put, List.setIfInBounds_toArray, List.set_cons_zero, List.set_cons_succ]
              refine wpAnyH_ready (rs := [6]) (by as_aux_lemma => kernel_rfl) (by simp) ?_
              refine AllReadyH.cons (o := ({ dst := some 10, op := .alloc 26, type := 0, pos := "law.go:47", after := #[], guard := none } : Oper)) rfl (fun KK hK => ?_) AllReadyH.nil
              rw [if_pos (by rfl)]
              go_simp
              have hb := below1 w23 (.cells #[.bool false, .bool false, .bool false, .bool false, .bool false, .bool false, .bool false, .bool false, .bool false, .bool false, .bool false, .bool false, .bool false, .bool false, .bool false, .bool false, .bool false, .bool false, .bool false, .bool false, .bool false, .bool false] 26)
              have Tx := Th.new w23 [.bool false, .bool false, .bool false, .bool false, .bool false, .bool false, .bool false, .bool false, .bool false, .bool false, .bool false, .bool false, .bool false, .bool false, .bool false, .bool false, .bool false, .bool false, .bool false, .bool false, .bool false, .bool false] rfl 26
              have hgx := HB.size
              first | (have hne : w23.heap.size ≠ gy := Nat.ne_of_gt Ty.lt) | skip
              obtain ⟨gx, hG⟩ : ∃ g, g = w23.heap.size := ⟨_, rfl⟩
              rw [← hG] at Tx hgx ⊢
              try rw [← hG] at hne
              clear hG
              obtain ⟨w24, hX⟩ : ∃ x, x = w23.alloc (.cells #[.bool false, .bool false, .bool false, .bool false, .bool false, .bool false, .bool false, .bool false, .bool false, .bool false, .bool false, .bool false, .bool false, .bool false, .bool false, .bool false, .bool false, .bool false, .bool false, .bool false, .bool false, .bool false] 26) := ⟨_, rfl⟩
              have hX' : (w23.alloc (.cells [.bool false, .bool false, .bool false, .bool false, .bool false, .bool false, .bool false, .bool false, .bool false, .bool false, .bool false, .bool false, .bool false, .bool false, .bool false, .bool false, .bool false, .bool false, .bool false, .bool false, .bool false, .bool false].toArray 26)) = w24 := hX.symm
              rw [hX'] at Tx
              rw [← hX] at hb ⊢
              clear hX hX'
              refine hK.out _ _ ?_ (fun hHeld => ?_)
              · exact belowT HB hb
              replace HB := hHeld; clear hHeld hK KK
              replace Ty := Ty.keep hb
              clear hb
              try simp only [Act.put, List.setIfInBounds_toArray, List.set_cons_zero, List.set_cons_succ]
              refine wpAnyH_ready (rs := [8]) (by as_aux_lemma => kernel_rfl) (by simp) ?_
              refine AllReadyH.cons (o := ({ dst := none, op := .store 26 (.tmp 10) (.tmp 34), type := 0, pos := "law.go:47", after := #[{ on := 6, ground := .data }, { on := 2, ground := .data }, { on := 5, ground := .chain }, { on := 0, ground := .phase }, { on := 1, ground := .phase }, { on := 2, ground := .phase }, { on := 3, ground := .textOnly Go.Departure.lateStores }, { on := 4, ground := .textOnly Go.Departure.lateStores }, { on := 5, ground := .textOnly Go.Departure.lateStoresUnsure }, { on := 6, ground := .phase }, { on := 7, ground := .phase }], guard := none } : Oper)) rfl (fun KK hK => ?_) AllReadyH.nil
              rw [if_pos (by rfl)]
              refine oper_put rfl rfl rfl Tx hgx HB I1.out.1 I1.out.2 (fun w25 R1 kT kR HN => ?_)
              replace Ty := kT _ Ty
              clear Tx kT kR
              refine hK.out _ _ ?_ (fun hHeld => ?_)
              · exact HN
              replace HB := hHeld; clear hHeld hK KK HN
              try simp only [Act.put]
              refine wpAnyH_ready (rs := [9]) (by as_aux_lemma => kernel_rfl) (by simp) ?_
              refine AllReadyH.cons (o := ({ dst := none, op := .store 26 (.tmp 11) (.tmp 37), type := 0, pos := "law.go:47", after := #[{ on := 7, ground := .data }, { on := 5, ground := .data }, { on := 8, ground := .chain }, { on := 0, ground := .phase }, { on := 1, ground := .phase }, { on := 2, ground := .phase }, { on := 3, ground := .phase }, { on := 4, ground := .phase }, { on := 5, ground := .phase }, { on := 6, ground := .phase }, { on := 7, ground := .phase }, { on := 8, ground := .phase }], guard := none } : Oper)) rfl (fun KK hK => ?_) AllReadyH.nil
              rw [if_pos (by rfl)]
              refine oper_put rfl rfl rfl Ty hgy HB I2.out.1 I2.out.2 (fun w26 R2 kT kR HN => ?_)
              replace R1 := kR _ _ hne R1
              clear Ty kT kR
              refine hK.out _ _ ?_ (fun hHeld => ?_)
              · exact HN
              replace HB := hHeld; clear hHeld hK KK HN
              try simp only [Act.put]
              refine wpAnyH_done (by as_aux_lemma => kernel_rfl) ?_ _
              refine NoPanic.normal ?_
              go_wp2_with fail
              go_meet
              exact ⟨gx, gy, rfl, rfl, R1, R2, HB⟩
            · skip
              rw [if_pos (by rfl)]
              go_simp
              have hb := below1 w22 (.cells #[.bool false, .bool false, .bool false, .bool false, .bool false, .bool false, .bool false, .bool false, .bool false, .bool false, .bool false, .bool false, .bool false, .bool false, .bool false, .bool false, .bool false, .bool false, .bool false, .bool false, .bool false, .bool false] 26)
              have Tx := Th.new w22 [.bool false, .bool false, .bool false, .bool false, .bool false, .bool false, .bool false, .bool false, .bool false, .bool false, .bool false, .bool false, .bool false, .bool false, .bool false, .bool false, .bool false, .bool false, .bool false, .bool false, .bool false, .bool false] rfl 26
              have hgx := HB.size
              first | (have hne : w22.heap.size ≠ gy := Nat.ne_of_gt Ty.lt) | skip
              obtain ⟨gx, hG⟩ : ∃ g, g = w22.heap.size := ⟨_, rfl⟩
              rw [← hG] at Tx hgx ⊢
              try rw [← hG] at hne
              clear hG
              obtain ⟨w23, hX⟩ : ∃ x, x = w22.alloc (.cells #[.bool false, .bool false, .bool false, .bool false, .bool false, .bool false, .bool false, .bool false, .bool false, .bool false, .bool false, .bool false, .bool false, .bool false, .bool false, .bool false, .bool false, .bool false, .bool false, .bool false, .bool false, .bool false] 26) := ⟨_, rfl⟩
              have hX' : (w22.alloc (.cells [.bool false, .bool false, .bool false, .bool false, .bool false, .bool false, .bool false, .bool false, .bool false, .bool false, .bool false, .bool false, .bool false, .bool false, .bool false, .bool false, .bool false, .bool false, .bool false, .bool false, .bool false, .bool false].toArray 26)) = w23 := hX.symm
              rw [hX'] at Tx
              rw [← hX] at hb ⊢
              clear hX hX'
              refine hK.out _ _ ?_ (fun hHeld => ?_)
              · exact belowT HB hb
              replace HB := hHeld; clear hHeld hK KK
              replace Ty := Ty.keep hb
              clear hb
              try simp only [Act.put, List.setIfInBounds_toArray, List.set_cons_zero, List.set_cons_succ]
              refine wpAnyH_ready (rs := [5]) (by as_aux_lemma => kernel_rfl) (by simp) ?_
              refine AllReadyH.cons (o := ({ dst := some 37, op := .call { callee := .value (.func 8), args := #[.tmp 35, .tmp 36], argTypes := #[25, 3] }, type := 26, pos := "law.go:47", after := #[{ on := 3, ground := .data }, { on := 4, ground := .data }, { on := 2, ground := .chain }], guard := none } : Oper)) rfl (fun KK hK => ?_) AllReadyH.nil
              rw [if_pos (by rfl)]
              go_simp
              go_at_call 8; refine (L2.out w23 (PN.out _ HB)).mono ?_; rintro e w24 ⟨rfl, hb⟩
              go_wp2_with fail
              refine hK.out _ _ ?_ (fun hHeld => ?_)
              · exact belowT HB hb
              replace HB := hHeld; clear hHeld hK KK
              replace Ty := Ty.keep hb
              replace Tx := Tx.keep hb
              clear hb
              try simp only [Act.put, List.setIfInBounds_toArray, List.set_cons_zero, List.set_cons_succ]
              refine wpAnyH_ready (rs := [8]) (by as_aux_lemma => kernel_rfl) (by simp) ?_
              refine AllReadyH.cons (o := ({ dst := none, op := .store 26 (.tmp 10) (.tmp 34), type := 0, pos := "law.go:47", after := #[{ on := 6, ground := .data }, { on := 2, ground := .data }, { on := 5, ground := .chain }, { on := 0, ground := .phase }, { on := 1, ground := .phase }, { on := 2, ground := .phase }, { on := 3, ground := .textOnly Go.Departure.lateStores }, { on := 4, ground := .textOnly Go.Departure.lateStores }, { on := 5, ground := .textOnly Go.Departure.lateStoresUnsure }, { on := 6, ground := .phase }, { on := 7, ground := .phase }], guard := none } : Oper)) rfl (fun KK hK => ?_) AllReadyH.nil
              rw [if_pos (by rfl)]
              refine oper_put rfl rfl rfl Tx hgx HB I1.out.1 I1.out.2 (fun w25 R1 kT kR HN => ?_)
              replace Ty := kT _ Ty
              clear Tx kT kR
              refine hK.out _ _ ?_ (fun hHeld => ?_)
              · exact HN
              replace HB := hHeld; clear hHeld hK KK HN
              try simp only [Act.put]
              refine wpAnyH_ready (rs := [9]) (by as_aux_lemma => kernel_rfl) (by simp) ?_
              refine AllReadyH.cons (o := ({ dst := none, op := .store 26 (.tmp 11) (.tmp 37), type := 0, pos := "law.go:47", after := #[{ on := 7, ground := .data }, { on := 5, ground := .data }, { on := 8, ground := .chain }, { on := 0, ground := .phase }, { on := 1, ground := .phase }, { on := 2, ground := .phase }, { on := 3, ground := .phase }, { on := 4, ground := .phase }, { on := 5, ground := .phase }, { on := 6, ground := .phase }, { on := 7, ground := .phase }, { on := 8, ground := .phase }], guard := none } : Oper)) rfl (fun KK hK => ?_) AllReadyH.nil
              rw [if_pos (by rfl)]
              refine oper_put rfl rfl rfl Ty hgy HB I2.out.1 I2.out.2 (fun w26 R2 kT kR HN => ?_)
              replace R1 := kR _ _ hne R1
              clear Ty kT kR
              refine hK.out _ _ ?_ (fun hHeld => ?_)
              · exact HN
              replace HB := hHeld; clear hHeld hK KK HN
              try simp only [Act.put]
              refine wpAnyH_done (by as_aux_lemma => kernel_rfl) ?_ _
              refine NoPanic.normal ?_
              go_wp2_with fail
              go_meet
              exact ⟨gx, gy, rfl, rfl, R1, R2, HB⟩
          · skip
            rw [if_pos (by rfl)]
            go_simp
            have hb := below1 w21 (.cells #[.bool false, .bool false, .bool false, .bool false, .bool false, .bool false, .bool false, .bool false, .bool false, .bool false, .bool false, .bool false, .bool false, .bool false, .bool false, .bool false, .bool false, .bool false, .bool false, .bool false, .bool false, .bool false] 26)
            have Tx := Th.new w21 [.bool false, .bool false, .bool false, .bool false, .bool false, .bool false, .bool false, .bool false, .bool false, .bool false, .bool false, .bool false, .bool false, .bool false, .bool false, .bool false, .bool false, .bool false, .bool false, .bool false, .bool false, .bool false] rfl 26
            have hgx := HB.size
            first | (have hne : w21.heap.size ≠ gy := Nat.ne_of_gt Ty.lt) | skip
            obtain ⟨gx, hG⟩ : ∃ g, g = w21.heap.size := ⟨_, rfl⟩
            rw [← hG] at Tx hgx ⊢
            try rw [← hG] at hne
            clear hG
            obtain ⟨w22, hX⟩ : ∃ x, x = w21.alloc (.cells #[.bool false, .bool false, .bool false, .bool false, .bool false, .bool false, .bool false, .bool false, .bool false, .bool false, .bool false, .bool false, .bool false, .bool false, .bool false, .bool false, .bool false, .bool false, .bool false, .bool false, .bool false, .bool false] 26) := ⟨_, rfl⟩
            have hX' : (w21.alloc (.cells [.bool false, .bool false, .bool false, .bool false, .bool false, .bool false, .bool false, .bool false, .bool false, .bool false, .bool false, .bool false, .bool false, .bool false, .bool false, .bool false, .bool false, .bool false, .bool false, .bool false, .bool false, .bool false].toArray 26)) = w22 := hX.symm
            rw [hX'] at Tx
            rw [← hX] at hb ⊢
            clear hX hX'
            refine hK.out _ _ ?_ (fun hHeld => ?_)
            · exact belowT HB hb
            replace HB := hHeld; clear hHeld hK KK
            replace Ty := Ty.keep hb
            clear hb
            try simp only [Act.put, List.setIfInBounds_toArray, List.set_cons_zero, List.set_cons_succ]
            refine wpAnyH_ready (rs := [2]) (by as_aux_lemma => kernel_rfl) (by simp) ?_
            refine AllReadyH.cons (o := ({ dst := some 34, op := .call { callee := .value (.func 8), args := #[.tmp 32, .tmp 33], argTypes := #[25, 3] }, type := 26, pos := "law.go:47", after := #[{ on := 0, ground := .data }, { on := 1, ground := .data }], guard := none } : Oper)) rfl (fun KK hK => ?_) AllReadyH.nil
            rw [if_pos (by rfl)]
            go_simp
            go_at_call 8; refine (L1.out w22 (PN.out _ HB)).mono ?_; rintro e w23 ⟨rfl, hb⟩
            go_wp2_with fail
            refine hK.out _ _ ?_ (fun hHeld => ?_)
            · exact belowT HB hb
            replace HB := hHeld; clear hHeld hK KK
            replace Ty := Ty.keep hb
            replace Tx := Tx.keep hb
            clear hb
            try simp only [Act.put, List.setIfInBounds_toArray, List.set_cons_zero, List.set_cons_succ]
            refine wpAnyH_ready (rs := [5]) (by as_aux_lemma => kernel_rfl) (by simp) ?_
            refine AllReadyH.cons (o := ({ dst := some 37, op := .call { callee := .value (.func 8), args := #[.tmp 35, .tmp 36], argTypes := #[25, 3] }, type := 26, pos := "law.go:47", after := #[{ on := 3, ground := .data }, { on := 4, ground := .data }, { on := 2, ground := .chain }], guard := none } : Oper)) rfl (fun KK hK => ?_) AllReadyH.nil
            rw [if_pos (by rfl)]
            go_simp
            go_at_call 8; refine (L2.out w23 (PN.out _ HB)).mono ?_; rintro e w24 ⟨rfl, hb⟩
            go_wp2_with fail
            refine hK.out _ _ ?_ (fun hHeld => ?_)
            · exact belowT HB hb
            replace HB := hHeld; clear hHeld hK KK
            replace Ty := Ty.keep hb
            replace Tx := Tx.keep hb
            clear hb
            try simp only [Act.put, List.setIfInBounds_toArray, List.set_cons_zero, List.set_cons_succ]
            refine wpAnyH_ready (rs := [8]) (by as_aux_lemma => kernel_rfl) (by simp) ?_
            refine AllReadyH.cons (o := ({ dst := none, op := .store 26 (.tmp 10) (.tmp 34), type := 0, pos := "law.go:47", after := #[{ on := 6, ground := .data }, { on := 2, ground := .data }, { on := 5, ground := .chain }, { on := 0, ground := .phase }, { on := 1, ground := .phase }, { on := 2, ground := .phase }, { on := 3, ground := .textOnly Go.Departure.lateStores }, { on := 4, ground := .textOnly Go.Departure.lateStores }, { on := 5, ground := .textOnly Go.Departure.lateStoresUnsure }, { on := 6, ground := .phase }, { on := 7, ground := .phase }], guard := none } : Oper)) rfl (fun KK hK => ?_) AllReadyH.nil
            rw [if_pos (by rfl)]
            refine oper_put rfl rfl rfl Tx hgx HB I1.out.1 I1.out.2 (fun w25 R1 kT kR HN => ?_)
            replace Ty := kT _ Ty
            clear Tx kT kR
            refine hK.out _ _ ?_ (fun hHeld => ?_)
            · exact HN
            replace HB := hHeld; clear hHeld hK KK HN
            try simp only [Act.put]
            refine wpAnyH_ready (rs := [9]) (by as_aux_lemma => kernel_rfl) (by simp) ?_
            refine AllReadyH.cons (o := ({ dst := none, op := .store 26 (.tmp 11) (.tmp 37), type := 0, pos := "law.go:47", after := #[{ on := 7, ground := .data }, { on := 5, ground := .data }, { on := 8, ground := .chain }, { on := 0, ground := .phase }, { on := 1, ground := .phase }, { on := 2, ground := .phase }, { on := 3, ground := .phase }, { on := 4, ground := .phase }, { on := 5, ground := .phase }, { on := 6, ground := .phase }, { on := 7, ground := .phase }, { on := 8, ground := .phase }], guard := none } : Oper)) rfl (fun KK hK => ?_) AllReadyH.nil
            rw [if_pos (by rfl)]
            refine oper_put rfl rfl rfl Ty hgy HB I2.out.1 I2.out.2 (fun w26 R2 kT kR HN => ?_)
            replace R1 := kR _ _ hne R1
            clear Ty kT kR
            refine hK.out _ _ ?_ (fun hHeld => ?_)
            · exact HN
            replace HB := hHeld; clear hHeld hK KK HN
            try simp only [Act.put]
            refine wpAnyH_done (by as_aux_lemma => kernel_rfl) ?_ _
            refine NoPanic.normal ?_
            go_wp2_with fail
            go_meet
            exact ⟨gx, gy, rfl, rfl, R1, R2, HB⟩
      case rest =>
        rename World => wx
        obtain ⟨gx, gy, rfl, rfl, r1, r2, hb⟩ := hcut
        have HB := Lib.hid (belowT HB0.out hb)
        have PX : Hid (∀ w', Below wx.heap.size wx w' → PairsAt w') := Lib.hid fun w' h => PN.out w' (belowT hb h)
        have R1 := Lib.hid r1
        have R2 := Lib.hid r2
        have C1 : Hid (∀ n, n < 22 → wx.cell? ⟨gx, n, none⟩ = some (.bool (xs.getD n false))) := Lib.hid fun n hn => by
          have h : ArrB wx gx xs := by have := R1.out; rw [HA1.out] at this; exact this
          exact h.at n (by rw [HXL.out]; exact hn)
        have C2 : Hid (∀ n, n < 22 → wx.cell? ⟨gy, n, none⟩ = some (.bool (ys.getD n false))) := Lib.hid fun n hn => by
          have h : ArrB wx gy ys := by have := R2.out; rw [HA2.out] at this; exact this
          exact h.at n (by rw [HYL.out]; exact hn)
        have LA := Lib.hid (fun w n => Lan23.Any_any ys HYL.out w n)
        have LM := Lib.hid (fun w n => Lan23.Ambiguous_any ys HYL.out w n)
        have LX := Lib.hid (fun w n => Lan23.Excluded_any xs HXL.out w n)
        have LY := Lib.hid (fun w n => Lan23.Excluded_any ys HYL.out w n)
        have LB := Lib.hid (fun (i : Int) w n => Lan23.Blamed_any ys HYL.out i w n)
        rw [← HA2.out] at LA LM LY LB
        rw [← HA1.out] at LX
        clear r1 r2 hb RB RD PN HB0 L1 L2 IB ID CH HROW KC KH HA1 HA2 HXL HYL
        go_wp2_with fail
        go_loop [12, 38] (fun v u => ∃ j : Nat, j ≤ 22 ∧ u = .int .i64 j ∧ v = .int .i64 ((Hyp.livN ys j).length : Int)) (fun _ u => 22 - (intOf u).toNat)
        case atStart => exact ⟨0, by omega, rfl, rfl⟩
        case round =>
          obtain ⟨j, hj, rfl, rfl⟩ := hrel
          by_cases h22 : (j : Int) < 22
          · have HJ : Hid (j < 22) := Lib.hid (by omega)
            have c1 := C1.out j HJ.out
            have c2 := C2.out j HJ.out
            have hle := Hyp.livN_len ys j
            cases hq : ys.getD j false
            · have HF := Lib.hid (Hyp.livN_same hq)
              rw [hq] at c2
              clear hq c1 hle
              go_wp2
              go_round
              case rel => exact ⟨j + 1, by omega, rfl, by rw [HF.out]⟩
              case measure => simp [intOf]; omega
            · have HF := Lib.hid (Hyp.livN_one hq)
              have hx := HSUB.out j HJ.out hq
              rw [hq] at c2
              rw [hx] at c1
              have HLE : Hid ((Hyp.livN ys (j + 1)).length = (Hyp.livN ys j).length + 1) := Lib.hid (by rw [HF.out, List.length_append]; rfl)
              clear hq hx HF
              generalize (Hyp.livN ys j).length = y at *
              have ew : IntKind.i64.wrap ((y : Int) + 1) = ((y + 1 : Nat) : Int) := by rw [IntKind.wrap_i64]; omega
              go_wp2
              go_round
              case rel => exact ⟨j + 1, by omega, rfl, by rw [HLE.out]; first | rfl | simp⟩
              case measure => simp [intOf]; omega
          · obtain rfl : j = 22 := by omega
            have hal := Hyp.any_len ys
            have i2 := I2.out.1
            have i1 := I1.out.1
            have PX0 := Lib.hid (PX.out wx (Below.refl _ _))
            cases hq : Hyp.any ys
            · have HEX : Hid (Hyp.exc ys = 0) := Lib.hid (by unfold Hyp.exc; rw [hq]; rfl)
              have HAM : Hid (Hyp.amb ys = false) := Lib.hid (by unfold Hyp.amb; rw [hq]; rfl)
              rw [hq] at LA hal
              rw [HEX.out] at LY
              rw [HAM.out] at LM
              have hcnt : (Hyp.livN ys 22).length = 0 := by
                have := of_decide_eq_false hal
                omega
              clear hq C1 C2 HSUB HKN LX LB HEX HAM
              rw [hcnt] at hal ⊢
              have hr := R2.out
              clear hcnt i1
              go_wp2_with (refine list_load_any rfl 26 _ rfl _ 0 rfl a2 _ hr Tryd.underlying26 rfl i2 ?_)
              refine (LA.out wx PX0.out).mono ?_
              rintro e w3 ⟨rfl, hb3⟩
              have HB3 := Lib.hid (belowT HB.out hb3)
              have P3 := Lib.hid (PX0.out.keep hb3)
              replace hr := range_keep hr hb3
              clear hb3
              go_wp2_with (refine list_load_any rfl 26 _ rfl _ 0 rfl a2 _ hr Tryd.underlying26 rfl i2 ?_)
              refine (LY.out w3 P3.out).mono ?_
              rintro e w4 ⟨rfl, hb4⟩
              have HB4 := Lib.hid (belowT HB3.out hb4)
              have P4 := Lib.hid (P3.out.keep hb4)
              replace hr := range_keep hr hb4
              clear hb4
              go_wp2_with (refine list_load_any rfl 26 _ rfl _ 0 rfl a2 _ hr Tryd.underlying26 rfl i2 ?_)
              refine (LM.out w4 P4.out).mono ?_
              rintro e w5 ⟨rfl, hb5⟩
              have HB5 := Lib.hid (belowT HB4.out hb5)
              have P5 := Lib.hid (P4.out.keep hb5)
              clear hb5 hr
              go_wp2_with fail
              refine (AW.out w5 P5.out).mono ?_
              rintro e w6 ⟨rfl, hb6⟩
              have HB6 := Lib.hid (belowT HB5.out hb6)
              clear hb6
              go_wp2
              go_ret
              exact ⟨rfl, HB6.out⟩
            · have HBLM : Hid (∀ i : Nat, i < 6 → (((Hyp.blm (Hyp.livN ys 22) (i : Int) : Nat) : Int) == ((Hyp.livN ys 22).length : Int)) = hasI (Hyp.exc ys : Int) (i : Int)) := Lib.hid fun i h => Hyp.blm_all hq i h
              have HAN := Lib.hid (Sub.andNot_bits (Hyp.exc xs) (Hyp.exc_lt xs) (Hyp.exc ys : Int))
              rw [Sub.low_of _ (Hyp.exc_lt ys), Hyp.exc_fewer HSUB.out hq] at HAN
              have HAK := Lib.hid (Sub.andNot_bits (Sub.low kn) (Sub.low_lt kn) (Hyp.exc ys : Int))
              rw [Sub.low_of _ (Hyp.exc_lt ys), HKN.out hq] at HAK
              have E63 := Lib.hid (Sub.and63 kn)
              have HPOS : Hid (0 < (Hyp.livN ys 22).length) := Lib.hid (by
                rw [hq] at hal
                have := of_decide_eq_true hal
                omega)
              rw [hq] at LA hal
              clear hq C1 C2 HSUB HKN LM
              have LBI : Hid (∀ (i : Nat) w, PairsAt w → Calls Tryd.prog 16 #[.agg a2, .int .i64 (i : Int)] w fun e w' => e = .returned (.int .i64 (Hyp.blm (Hyp.livN ys 22) (i : Int) : Int)) ∧ Below w.heap.size w w') := Lib.hid fun i w n => LB.out (i : Int) w n
              obtain ⟨bm, hbm⟩ : ∃ bm : Nat → Nat, bm = fun i : Nat => Hyp.blm (Hyp.livN ys 22) (i : Int) := ⟨_, rfl⟩
              have LBJ : Hid (∀ (i : Nat) w, PairsAt w → Calls Tryd.prog 16 #[.agg a2, .int .i64 (i : Int)] w fun e w' => e = .returned (.int .i64 (bm i : Int)) ∧ Below w.heap.size w w') := Lib.hid fun i w n => by rw [hbm]; exact LBI.out i w n
              have HBMJ : Hid (∀ i : Nat, i < 6 → ((bm i : Int) == ((Hyp.livN ys 22).length : Int)) = hasI (Hyp.exc ys : Int) (i : Int)) := Lib.hid fun i h => by rw [hbm]; exact HBLM.out i h
              clear hbm LBI HBLM LB
              generalize (Hyp.livN ys 22).length = cnt at *
              generalize (Sub.low kn : Int) = lk at *
              generalize (Hyp.exc xs : Int) = ex at *
              generalize (Hyp.exc ys : Int) = ey at *
              have hc0 : ((cnt : Int) == 0) = false := by
                have := HPOS.out
                have : ¬ ((cnt : Int) = 0) := by omega
                simpa using this
              have hpos := HPOS.out
              have hr := R2.out
              go_wp2_with (refine list_load_any rfl 26 _ rfl _ 0 rfl a2 _ hr Tryd.underlying26 rfl i2 ?_)
              refine (LA.out wx PX0.out).mono ?_
              rintro e w3 ⟨rfl, hb3⟩
              have HB3 := Lib.hid (belowT HB.out hb3)
              have P3 := Lib.hid (PX0.out.keep hb3)
              have R13 := Lib.hid (R1.out.keep hb3)
              have R23 := Lib.hid (R2.out.keep hb3)
              clear hb3 hr R1 R2 HB PX PX0
              go_wp2_with fail
              clear hal hc0 hpos
              go_loopw [74] (fun u wr => ∃ i : Nat, i ≤ 6 ∧ u = .int .i64 i ∧ Below w3.heap.size w3 wr) (fun u _ => 6 - (intOf u).toNat)
              case atStart => exact ⟨0, by omega, rfl, Below.refl _ _⟩
              case round =>
                obtain ⟨i, hi, rfl, hb⟩ := hrel
                rename World => wr
                have HBR := Lib.hid hb
                clear hb
                by_cases h6 : (i : Int) < 6
                · have hbq := HBMJ.out i (by omega)
                  have HS := Lib.hid (has_flat ey (i : Int))
                  have BI := Lib.hid (LBJ.out i)
                  generalize hasI ey (i : Int) = bq at *
                  generalize bm i = bi at *
                  obtain ⟨V0, hV0⟩ : ∃ V0, V0 = wr := ⟨_, rfl⟩
                  have RY : ∀ w', Below V0.heap.size V0 w' → w'.rangeAt gy 0 a2.toList := fun w' h => R23.out.keep (belowT HBR.out (hV0 ▸ h))
                  have PV : Hid (∀ w', Below V0.heap.size V0 w' → PairsAt w') := Lib.hid fun w' h => P3.out.keep (belowT HBR.out (hV0 ▸ h))
                  have HBV : Hid (Below w3.heap.size w3 V0) := Lib.hid (hV0 ▸ HBR.out)
                  go_upto_region 26 with fail
                  rw [← hV0]
                  clear hV0 HBR
                  change (Code.region 26 few26 true).wp Tryd.prog _ _ _
                  refine wp_region_noPanic ?_
                  refine wp_region_held_drew (S := fun w' => Below V0.heap.size V0 w') (by kernel_rfl) ((Below.refl _ _).drew) (fun hHeld => ?_)
                  refine wpAnyH_take (i := 0) (oi := ({ dst := some 77, op := .load 26 (.tmp 11), type := 26, pos := "law.go:64", after := #[], guard := none } : Oper)) rfl few26_plain (by as_aux_lemma => kernel_rfl) (by as_aux_lemma => kernel_rfl) (fun _ _ _ h => h) (yields_load (by rfl) 26 _ rfl _ _ rfl _ _ RY Tryd.underlying26 rfl i2) (by assumption) ?_
                  try simp only [Act.put, List.setIfInBounds_toArray, List.set_cons_zero, List.set_cons_succ]
                  refine wpAnyH_take (i := 2) (oi := ({ dst := some 79, op := .move (.tmp 14), type := 3, pos := "law.go:64", after := #[], guard := none } : Oper)) (v := ?vs1_2) rfl few26_plain (by as_aux_lemma => kernel_rfl) (by as_aux_lemma => kernel_rfl) (fun _ _ _ h => h) (Or.inl ⟨by rfl, ?ys1_2⟩) (by assumption) ?rs1_2
                  case ys1_2 => (intro w hSw; (try dsimp only at hSw); go_simp; try with_reducible rfl)
                  try simp only [Act.put, List.setIfInBounds_toArray, List.set_cons_zero, List.set_cons_succ]
                  refine wpAnyH_take (i := 4) (oi := ({ dst := some 81, op := .load 26 (.tmp 11), type := 26, pos := "law.go:64", after := #[], guard := none } : Oper)) rfl few26_plain (by as_aux_lemma => kernel_rfl) (by as_aux_lemma => kernel_rfl) (fun _ _ _ h => h) (yields_load (by rfl) 26 _ rfl _ _ rfl _ _ RY Tryd.underlying26 rfl i2) (by assumption) ?_
                  try simp only [Act.put, List.setIfInBounds_toArray, List.set_cons_zero, List.set_cons_succ]
                  refine wpAnyH_take (i := 5) (oi := ({ dst := some 82, op := .move (.tmp 14), type := 3, pos := "law.go:64", after := #[], guard := none } : Oper)) (v := ?vs1_5) rfl few26_plain (by as_aux_lemma => kernel_rfl) (by as_aux_lemma => kernel_rfl) (fun _ _ _ h => h) (Or.inl ⟨by rfl, ?ys1_5⟩) (by assumption) ?rs1_5
                  case ys1_5 => (intro w hSw; (try dsimp only at hSw); go_simp; try with_reducible rfl)
                  try simp only [Act.put, List.setIfInBounds_toArray, List.set_cons_zero, List.set_cons_succ]
                  refine wpAnyH_take (i := 7) (oi := ({ dst := some 84, op := .move (.tmp 12), type := 3, pos := "law.go:64", after := #[], guard := none } : Oper)) (v := ?vs1_7) rfl few26_plain (by as_aux_lemma => kernel_rfl) (by as_aux_lemma => kernel_rfl) (fun _ _ _ h => h) (Or.inl ⟨by rfl, ?ys1_7⟩) (by assumption) ?rs1_7
                  case ys1_7 => (intro w hSw; (try dsimp only at hSw); go_simp; try with_reducible rfl)
                  try simp only [Act.put, List.setIfInBounds_toArray, List.set_cons_zero, List.set_cons_succ]
                  refine wpAnyH_ready (rs := [1]) (by as_aux_lemma => kernel_rfl) (by simp) ?_
                  refine AllReadyH.cons (o := ({ dst := some 78, op := .call { callee := .value (.func 12), args := #[.tmp 77], argTypes := #[26] }, type := 3, pos := "law.go:64", after := #[{ on := 0, ground := .data }], guard := none } : Oper)) rfl (fun KK hK => ?_) AllReadyH.nil
                  rw [if_pos (by rfl)]
                  go_simp
                  go_at_call 12; refine (LY.out _ (PV.out _ (by assumption))).mono ?_; rintro e w40 ⟨rfl, hb40⟩
                  go_wp2_with fail
                  refine hK.out _ _ ?_ (fun hHeld40 => ?_)
                  · exact belowT (by assumption) hb40
                  clear hK KK hb40
                  try simp only [Act.put, List.setIfInBounds_toArray, List.set_cons_zero, List.set_cons_succ]
                  refine wpAnyH_ready (rs := [3]) (by as_aux_lemma => kernel_rfl) (by simp) ?_
                  refine AllReadyH.cons (o := ({ dst := some 80, op := .call { callee := .value (.func 19), args := #[.tmp 78, .tmp 79], argTypes := #[3, 3] }, type := 4, pos := "law.go:64", after := #[{ on := 1, ground := .data }, { on := 2, ground := .data }, { on := 1, ground := .chain }], guard := none } : Oper)) rfl (fun KK hK => ?_) AllReadyH.nil
                  rw [if_pos (by rfl)]
                  go_simp
                  go_at_call 19; refine (HS.out _).mono ?_; rintro e w41 ⟨rfl, hb41⟩
                  go_wp2_with fail
                  refine hK.out _ _ ?_ (fun hHeld41 => ?_)
                  · exact belowT (by assumption) hb41
                  clear hK KK hb41 hHeld40
                  try simp only [Act.put, List.setIfInBounds_toArray, List.set_cons_zero, List.set_cons_succ]
                  refine wpAnyH_ready (rs := [6]) (by as_aux_lemma => kernel_rfl) (by simp) ?_
                  refine AllReadyH.cons (o := ({ dst := some 83, op := .call { callee := .value (.func 16), args := #[.tmp 81, .tmp 82], argTypes := #[26, 3] }, type := 3, pos := "law.go:64", after := #[{ on := 4, ground := .data }, { on := 5, ground := .data }, { on := 3, ground := .chain }], guard := none } : Oper)) rfl (fun KK hK => ?_) AllReadyH.nil
                  rw [if_pos (by rfl)]
                  go_simp
                  go_at_call 16; refine (BI.out _ (PV.out _ (by assumption))).mono ?_; rintro e w42 ⟨rfl, hb42⟩
                  go_wp2_with fail
                  refine hK.out _ _ ?_ (fun hHeld42 => ?_)
                  · exact belowT (by assumption) hb42
                  clear hK KK hb42 hHeld41
                  try simp only [Act.put, List.setIfInBounds_toArray, List.set_cons_zero, List.set_cons_succ]
                  refine wpAnyH_take (i := 8) (oi := ({ dst := some 85, op := .binOp .eql 3 (.tmp 83) (.tmp 84) 3, type := 4, pos := "law.go:64", after := #[{ on := 6, ground := .data }, { on := 7, ground := .data }], guard := none } : Oper)) (v := ?vs1_8) rfl few26_plain (by as_aux_lemma => kernel_rfl) (by as_aux_lemma => kernel_rfl) (fun _ _ _ h => h) (Or.inl ⟨by rfl, ?ys1_8⟩) (by assumption) ?rs1_8
                  case ys1_8 => (intro w hSw; (try dsimp only at hSw); go_simp; try with_reducible rfl)
                  try simp only [Act.put, List.setIfInBounds_toArray, List.set_cons_zero, List.set_cons_succ]
                  refine wpAnyH_take (i := 9) (oi := ({ dst := some 86, op := .binOp .neq 4 (.tmp 80) (.tmp 85) 4, type := 4, pos := "law.go:64", after := #[{ on := 3, ground := .data }, { on := 8, ground := .data }], guard := none } : Oper)) (v := ?vs1_9) rfl few26_plain (by as_aux_lemma => kernel_rfl) (by as_aux_lemma => kernel_rfl) (fun _ _ _ h => h) (Or.inl ⟨by rfl, ?ys1_9⟩) (by assumption) ?rs1_9
                  case ys1_9 => (intro w hSw; (try dsimp only at hSw); go_simp; try with_reducible rfl)
                  try simp only [Act.put, List.setIfInBounds_toArray, List.set_cons_zero, List.set_cons_succ]
                  refine wpAnyH_done (by as_aux_lemma => kernel_rfl) ?_ _
                  refine NoPanic.normal ?_
                  have HBW := Lib.hid (belowT HBV.out hHeld42)
                  clear hHeld42 RY
                  go_wp2
                  go_roundw
                  case rel => exact ⟨i + 1, by omega, rfl, HBW.out⟩
                  case measure => simp [intOf]; omega
                · obtain rfl : i = 6 := by omega
                  have e63 := E63.out
                  have han := HAN.out
                  have hak := HAK.out
                  obtain ⟨V0, hV0⟩ : ∃ V0, V0 = wr := ⟨_, rfl⟩
                  have RX : ∀ w', Below V0.heap.size V0 w' → w'.rangeAt gx 0 a1.toList := fun w' h => R13.out.keep (belowT HBR.out (hV0 ▸ h))
                  have RY : ∀ w', Below V0.heap.size V0 w' → w'.rangeAt gy 0 a2.toList := fun w' h => R23.out.keep (belowT HBR.out (hV0 ▸ h))
                  have PV : Hid (∀ w', Below V0.heap.size V0 w' → PairsAt w') := Lib.hid fun w' h => P3.out.keep (belowT HBR.out (hV0 ▸ h))
                  have HBV : Hid (Below w.heap.size w V0) := Lib.hid (belowT HB3.out (hV0 ▸ HBR.out))
                  go_upto_region 29 with fail
                  rw [← hV0]
                  clear hV0 HBR
                  change (Code.region 29 few29 true).wp Tryd.prog _ _ _
                  refine wp_region_noPanic ?_
                  refine wp_region_held_drew (S := fun w' => Below V0.heap.size V0 w') (by kernel_rfl) ((Below.refl _ _).drew) (fun hHeld => ?_)
                  refine wpAnyH_take (i := 0) (oi := ({ dst := some 88, op := .load 26 (.tmp 10), type := 26, pos := "law.go:68", after := #[], guard := none } : Oper)) rfl few29_plain (by as_aux_lemma => kernel_rfl) (by as_aux_lemma => kernel_rfl) (fun _ _ _ h => h) (yields_load (by rfl) 26 _ rfl _ _ rfl _ _ RX Tryd.underlying26 rfl i1) (by assumption) ?_
                  try simp only [Act.put, List.setIfInBounds_toArray, List.set_cons_zero, List.set_cons_succ]
                  refine wpAnyH_take (i := 2) (oi := ({ dst := some 90, op := .load 26 (.tmp 11), type := 26, pos := "law.go:68", after := #[], guard := none } : Oper)) rfl few29_plain (by as_aux_lemma => kernel_rfl) (by as_aux_lemma => kernel_rfl) (fun _ _ _ h => h) (yields_load (by rfl) 26 _ rfl _ _ rfl _ _ RY Tryd.underlying26 rfl i2) (by assumption) ?_
                  try simp only [Act.put, List.setIfInBounds_toArray, List.set_cons_zero, List.set_cons_succ]
                  refine wpAnyH_ready (rs := [1]) (by as_aux_lemma => kernel_rfl) (by simp) ?_
                  refine AllReadyH.cons (o := ({ dst := some 89, op := .call { callee := .value (.func 12), args := #[.tmp 88], argTypes := #[26] }, type := 3, pos := "law.go:68", after := #[{ on := 0, ground := .data }], guard := none } : Oper)) rfl (fun KK hK => ?_) AllReadyH.nil
                  rw [if_pos (by rfl)]
                  go_simp
                  go_at_call 12; refine (LX.out _ (PV.out _ (by assumption))).mono ?_; rintro e w50 ⟨rfl, hb50⟩
                  go_wp2_with fail
                  refine hK.out _ _ ?_ (fun hHeld50 => ?_)
                  · exact belowT (by assumption) hb50
                  clear hK KK hb50
                  try simp only [Act.put, List.setIfInBounds_toArray, List.set_cons_zero, List.set_cons_succ]
                  refine wpAnyH_ready (rs := [3]) (by as_aux_lemma => kernel_rfl) (by simp) ?_
                  refine AllReadyH.cons (o := ({ dst := some 91, op := .call { callee := .value (.func 12), args := #[.tmp 90], argTypes := #[26] }, type := 3, pos := "law.go:68", after := #[{ on := 2, ground := .data }, { on := 1, ground := .chain }], guard := none } : Oper)) rfl (fun KK hK => ?_) AllReadyH.nil
                  rw [if_pos (by rfl)]
                  go_simp
                  go_at_call 12; refine (LY.out _ (PV.out _ (by assumption))).mono ?_; rintro e w51 ⟨rfl, hb51⟩
                  go_wp2_with fail
                  refine hK.out _ _ ?_ (fun hHeld51 => ?_)
                  · exact belowT (by assumption) hb51
                  clear hK KK hb51 hHeld50
                  try simp only [Act.put, List.setIfInBounds_toArray, List.set_cons_zero, List.set_cons_succ]
                  refine wpAnyH_take (i := 4) (oi := ({ dst := some 92, op := .binOp .andNot 3 (.tmp 89) (.tmp 91) 3, type := 3, pos := "law.go:68", after := #[{ on := 1, ground := .data }, { on := 3, ground := .data }], guard := none } : Oper)) (v := ?vs2_4) rfl few29_plain (by as_aux_lemma => kernel_rfl) (by as_aux_lemma => kernel_rfl) (fun _ _ _ h => h) (Or.inl ⟨by rfl, ?ys2_4⟩) (by assumption) ?rs2_4
                  case ys2_4 => (intro w hSw; (try dsimp only at hSw); go_simp; try with_reducible rfl)
                  try simp only [Act.put, List.setIfInBounds_toArray, List.set_cons_zero, List.set_cons_succ]
                  refine wpAnyH_take (i := 5) (oi := ({ dst := some 93, op := .binOp .eql 3 (.tmp 92) (.const (.int .i64 0)) 3, type := 4, pos := "law.go:68", after := #[{ on := 4, ground := .data }], guard := none } : Oper)) (v := ?vs2_5) rfl few29_plain (by as_aux_lemma => kernel_rfl) (by as_aux_lemma => kernel_rfl) (fun _ _ _ h => h) (Or.inl ⟨by rfl, ?ys2_5⟩) (by assumption) ?rs2_5
                  case ys2_5 => (intro w hSw; (try dsimp only at hSw); go_simp; try with_reducible rfl)
                  try simp only [Act.put, List.setIfInBounds_toArray, List.set_cons_zero, List.set_cons_succ]
                  refine wpAnyH_take (i := 6) (oi := ({ dst := some 94, op := .move (.tmp 93), type := 4, pos := "law.go:68", after := #[{ on := 5, ground := .data }, { on := 3, ground := .chain }], guard := none } : Oper)) (v := ?vs2_6) rfl few29_plain (by as_aux_lemma => kernel_rfl) (by as_aux_lemma => kernel_rfl) (fun _ _ _ h => h) (Or.inl ⟨by rfl, ?ys2_6⟩) (by assumption) ?rs2_6
                  case ys2_6 => (intro w hSw; (try dsimp only at hSw); go_simp; try with_reducible rfl)
                  try simp only [Act.put, List.setIfInBounds_toArray, List.set_cons_zero, List.set_cons_succ]
                  refine wpAnyH_take (i := 7) (oi := ({ dst := some 95, op := .move (.tmp 2), type := 3, pos := "law.go:68", after := #[{ on := 6, ground := .guard }], guard := some (6, true) } : Oper)) (v := ?vs2_7) rfl few29_plain (by as_aux_lemma => kernel_rfl) (by as_aux_lemma => kernel_rfl) (fun _ _ _ h => h) (Or.inl ⟨by rfl, ?ys2_7⟩) (by assumption) ?rs2_7
                  case ys2_7 => (intro w hSw; (try dsimp only at hSw); go_simp; try with_reducible rfl)
                  try simp only [Act.put, List.setIfInBounds_toArray, List.set_cons_zero, List.set_cons_succ]
                  refine wpAnyH_take (i := 8) (oi := ({ dst := some 96, op := .binOp .and 3 (.tmp 95) (.const (.int .i64 63)) 3, type := 3, pos := "law.go:68", after := #[{ on := 7, ground := .data }, { on := 6, ground := .guard }], guard := some (6, true) } : Oper)) (v := ?vs2_8) rfl few29_plain (by as_aux_lemma => kernel_rfl) (by as_aux_lemma => kernel_rfl) (fun _ _ _ h => h) (Or.inl ⟨by rfl, ?ys2_8⟩) (by assumption) ?rs2_8
                  case ys2_8 => (intro w hSw; (try dsimp only at hSw); go_simp; try with_reducible rfl)
                  try simp only [Act.put, List.setIfInBounds_toArray, List.set_cons_zero, List.set_cons_succ]
                  refine wpAnyH_take (i := 9) (oi := ({ dst := some 97, op := .load 26 (.tmp 11), type := 26, pos := "law.go:68", after := #[{ on := 6, ground := .guard }], guard := some (6, true) } : Oper)) rfl few29_plain (by as_aux_lemma => kernel_rfl) (by as_aux_lemma => kernel_rfl) (fun _ _ _ h => h) (yields_load (by rfl) 26 _ rfl _ _ rfl _ _ RY Tryd.underlying26 rfl i2) (by assumption) ?_
                  try simp only [Act.put, List.setIfInBounds_toArray, List.set_cons_zero, List.set_cons_succ]
                  refine wpAnyH_ready (rs := [10]) (by as_aux_lemma => kernel_rfl) (by simp) ?_
                  refine AllReadyH.cons (o := ({ dst := some 98, op := .call { callee := .value (.func 12), args := #[.tmp 97], argTypes := #[26] }, type := 3, pos := "law.go:68", after := #[{ on := 9, ground := .data }, { on := 6, ground := .chain }, { on := 6, ground := .guard }], guard := some (6, true) } : Oper)) rfl (fun KK hK => ?_) AllReadyH.nil
                  rw [if_pos (by rfl)]
                  go_simp
                  go_at_call 12; refine (LY.out _ (PV.out _ (by assumption))).mono ?_; rintro e w52 ⟨rfl, hb52⟩
                  go_wp2_with fail
                  refine hK.out _ _ ?_ (fun hHeld52 => ?_)
                  · exact belowT (by assumption) hb52
                  clear hK KK hb52 hHeld51
                  try simp only [Act.put, List.setIfInBounds_toArray, List.set_cons_zero, List.set_cons_succ]
                  refine wpAnyH_take (i := 11) (oi := ({ dst := some 99, op := .binOp .andNot 3 (.tmp 96) (.tmp 98) 3, type := 3, pos := "law.go:68", after := #[{ on := 8, ground := .data }, { on := 10, ground := .data }, { on := 6, ground := .guard }], guard := some (6, true) } : Oper)) (v := ?vs2_11) rfl few29_plain (by as_aux_lemma => kernel_rfl) (by as_aux_lemma => kernel_rfl) (fun _ _ _ h => h) (Or.inl ⟨by rfl, ?ys2_11⟩) (by assumption) ?rs2_11
                  case ys2_11 => (intro w hSw; (try dsimp only at hSw); go_simp; try with_reducible rfl)
                  try simp only [Act.put, List.setIfInBounds_toArray, List.set_cons_zero, List.set_cons_succ]
                  refine wpAnyH_take (i := 12) (oi := ({ dst := some 100, op := .binOp .eql 3 (.tmp 99) (.const (.int .i64 0)) 3, type := 4, pos := "law.go:68", after := #[{ on := 11, ground := .data }, { on := 6, ground := .guard }], guard := some (6, true) } : Oper)) (v := ?vs2_12) rfl few29_plain (by as_aux_lemma => kernel_rfl) (by as_aux_lemma => kernel_rfl) (fun _ _ _ h => h) (Or.inl ⟨by rfl, ?ys2_12⟩) (by assumption) ?rs2_12
                  case ys2_12 => (intro w hSw; (try dsimp only at hSw); go_simp; try with_reducible rfl)
                  try simp only [Act.put, List.setIfInBounds_toArray, List.set_cons_zero, List.set_cons_succ]
                  refine wpAnyH_take (i := 13) (oi := ({ dst := some 101, op := .pick (.tmp 94) (.tmp 100) (.const (.bool false)), type := 4, pos := "law.go:68", after := #[{ on := 6, ground := .data }, { on := 12, ground := .data }], guard := none } : Oper)) (v := ?vs2_13) rfl few29_plain (by as_aux_lemma => kernel_rfl) (by as_aux_lemma => kernel_rfl) (fun _ _ _ h => h) (Or.inl ⟨by rfl, ?ys2_13⟩) (by assumption) ?rs2_13
                  case ys2_13 => (intro w hSw; (try dsimp only at hSw); go_simp; try with_reducible rfl)
                  try simp only [Act.put, List.setIfInBounds_toArray, List.set_cons_zero, List.set_cons_succ]
                  refine wpAnyH_take (i := 14) (oi := ({ dst := some 102, op := .move (.tmp 101), type := 4, pos := "law.go:68", after := #[{ on := 13, ground := .data }, { on := 10, ground := .chain }], guard := none } : Oper)) (v := ?vs2_14) rfl few29_plain (by as_aux_lemma => kernel_rfl) (by as_aux_lemma => kernel_rfl) (fun _ _ _ h => h) (Or.inl ⟨by rfl, ?ys2_14⟩) (by assumption) ?rs2_14
                  case ys2_14 => (intro w hSw; (try dsimp only at hSw); go_simp; try with_reducible rfl)
                  try simp only [Act.put, List.setIfInBounds_toArray, List.set_cons_zero, List.set_cons_succ]
                  refine wpAnyH_ready (rs := [15]) (by as_aux_lemma => kernel_rfl) (by simp) ?_
                  refine AllReadyH.cons (o := ({ dst := some 103, op := .call { callee := .value (.func 18), args := #[], argTypes := #[] }, type := 4, pos := "law.go:68", after := #[{ on := 14, ground := .chain }, { on := 14, ground := .guard }], guard := some (14, true) } : Oper)) rfl (fun KK hK => ?_) AllReadyH.nil
                  rw [if_pos (by rfl)]
                  go_simp
                  go_at_call 18; refine (AW.out _ (PV.out _ (by assumption))).mono ?_; rintro e w53 ⟨rfl, hb53⟩
                  go_wp2_with fail
                  refine hK.out _ _ ?_ (fun hHeld53 => ?_)
                  · exact belowT (by assumption) hb53
                  clear hK KK hb53 hHeld52
                  try simp only [Act.put, List.setIfInBounds_toArray, List.set_cons_zero, List.set_cons_succ]
                  refine wpAnyH_take (i := 16) (oi := ({ dst := some 104, op := .pick (.tmp 102) (.tmp 103) (.const (.bool false)), type := 4, pos := "law.go:68", after := #[{ on := 14, ground := .data }, { on := 15, ground := .data }], guard := none } : Oper)) (v := ?vs2_16) rfl few29_plain (by as_aux_lemma => kernel_rfl) (by as_aux_lemma => kernel_rfl) (fun _ _ _ h => h) (Or.inl ⟨by rfl, ?ys2_16⟩) (by assumption) ?rs2_16
                  case ys2_16 => (intro w hSw; (try dsimp only at hSw); go_simp; try with_reducible rfl)
                  try simp only [Act.put, List.setIfInBounds_toArray, List.set_cons_zero, List.set_cons_succ]
                  refine wpAnyH_take (i := 17) (oi := ({ dst := some 6, op := .assign (.tmp 104), type := 4, pos := "law.go:68", after := #[{ on := 16, ground := .data }, { on := 15, ground := .chain }, { on := 0, ground := .phase }, { on := 1, ground := .phase }, { on := 2, ground := .phase }, { on := 3, ground := .phase }, { on := 4, ground := .phase }, { on := 5, ground := .phase }, { on := 6, ground := .phase }, { on := 7, ground := .phase }, { on := 8, ground := .phase }, { on := 9, ground := .phase }, { on := 10, ground := .phase }, { on := 11, ground := .phase }, { on := 12, ground := .phase }, { on := 13, ground := .phase }, { on := 14, ground := .phase }, { on := 15, ground := .phase }, { on := 16, ground := .phase }], guard := none } : Oper)) (v := ?vs2_17) rfl few29_plain (by as_aux_lemma => kernel_rfl) (by as_aux_lemma => kernel_rfl) (fun _ _ _ h => h) (Or.inl ⟨by rfl, ?ys2_17⟩) (by assumption) ?rs2_17
                  case ys2_17 => (intro w hSw; (try dsimp only at hSw); go_simp; try with_reducible rfl)
                  try simp only [Act.put, List.setIfInBounds_toArray, List.set_cons_zero, List.set_cons_succ]
                  refine wpAnyH_done (by as_aux_lemma => kernel_rfl) ?_ _
                  refine NoPanic.normal ?_
                  have HBW := Lib.hid (belowT HBV.out hHeld53)
                  clear hHeld53 RX RY
                  go_wp2
                  go_ret
                  exact ⟨rfl, HBW.out⟩

theorem Fewer_all {w : World} {ba : Option Addr} {cap : Nat} {l : List Int} (C : CameI w ba cap l) (cs : List Value) (rf : List Bool) (K : Bk cs rf) (kn : Int) (n : PairsAt w) :
    Calls Tryd.prog 4 #[.agg (bk cs rf), .slice ba l.length cap, .int .i64 kn] w fun e w' => e = .returned (.bool true) ∧ Below w.heap.size w w' := by
  by_cases h : (30 : Int) < l.length
  · exact fewer_long _ ba cap l.length kn w n h
  · exact fewer_core C (by omega) cs rf K kn n
end Law23
end Go.Proofs.YtaooigldchojcaaDoor
