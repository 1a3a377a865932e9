/- HypoMore. -/
import Derived.Test.YtaooigldchojcaaDoorHypAwake
import Derived.Test.YtaooigldchojcaaDoorHypRefB
import Derived.Test.YtaooigldchojcaaDoorHypInts
import Derived.Test.YtaooigldchojcaaDoorRebase
import Derived.Deep.Cut
import Derived.Deep.CutBlock
import Derived.Deep.CutRange
import Derived.Deep.RegionHeld3
namespace Go.Proofs.YtaooigldchojcaaDoor
open Go.RowKit

/-- The operations of a drawn region, as the translation has them. -/
def more1 : Array Oper := #[
  { dst := some 7, op := .load 26 (.tmp 4), type := 26, pos := "law.go:87", after := #[], guard := none },
  { dst := some 8, op := .call { callee := .value (.func 23), args := #[.tmp 7], argTypes := #[26] }, type := 34, pos := "law.go:87", after := #[{ on := 0, ground := .data }], guard := none },
  { dst := some 9, op := .load 26 (.tmp 4), type := 26, pos := "law.go:87", after := #[], guard := none },
  { dst := some 10, op := .call { callee := .value (.func 24), args := #[.tmp 9], argTypes := #[26] }, type := 34, pos := "law.go:87", after := #[{ on := 2, ground := .data }, { on := 1, ground := .chain }], guard := none },
  { dst := some 11, op := .call { callee := .value (.func 22), args := #[.tmp 8, .tmp 10], argTypes := #[34, 34] }, type := 4, pos := "law.go:87", after := #[{ on := 1, ground := .data }, { on := 3, ground := .data }, { on := 3, ground := .chain }], guard := none },
  { dst := some 12, op := .move (.tmp 11), type := 4, pos := "law.go:87", after := #[{ on := 4, ground := .data }, { on := 4, ground := .chain }], guard := none },
  { dst := some 13, op := .load 26 (.tmp 4), type := 26, pos := "law.go:87", after := #[{ on := 5, ground := .guard }], guard := some (5, true) },
  { dst := some 14, op := .call { callee := .value (.func 25), args := #[.tmp 13], argTypes := #[26] }, type := 9, pos := "law.go:87", after := #[{ on := 6, ground := .data }, { on := 5, ground := .chain }, { on := 5, ground := .guard }], guard := some (5, true) },
  { dst := some 15, op := .load 26 (.tmp 4), type := 26, pos := "law.go:87", after := #[{ on := 5, ground := .guard }], guard := some (5, true) },
  { dst := some 16, op := .call { callee := .value (.func 26), args := #[.tmp 15], argTypes := #[26] }, type := 9, pos := "law.go:87", after := #[{ on := 8, ground := .data }, { on := 7, ground := .chain }, { on := 5, ground := .guard }], guard := some (5, true) },
  { dst := some 17, op := .binOp .eql 9 (.tmp 14) (.tmp 16) 9, type := 4, pos := "law.go:87", after := #[{ on := 7, ground := .data }, { on := 9, ground := .data }, { on := 5, ground := .guard }], guard := some (5, true) },
  { dst := some 18, op := .pick (.tmp 12) (.tmp 17) (.const (.bool false)), type := 4, pos := "law.go:87", after := #[{ on := 5, ground := .data }, { on := 10, ground := .data }], guard := none },
  { dst := some 19, op := .move (.tmp 18), type := 4, pos := "law.go:87", after := #[{ on := 11, ground := .data }, { on := 9, ground := .chain }], guard := none },
  { dst := some 20, op := .indexAddr 27 (.tmp 5) (.const (.int .i64 0)), type := 0, pos := "law.go:87", after := #[{ on := 12, ground := .guard }], guard := some (12, true) },
  { dst := some 21, op := .load 3 (.tmp 20), type := 3, pos := "law.go:87", after := #[{ on := 13, ground := .data }, { on := 12, ground := .guard }], guard := some (12, true) },
  { dst := some 22, op := .indexAddr 27 (.tmp 5) (.const (.int .i64 1)), type := 0, pos := "law.go:87", after := #[{ on := 12, ground := .guard }], guard := some (12, true) },
  { dst := some 23, op := .load 3 (.tmp 22), type := 3, pos := "law.go:87", after := #[{ on := 15, ground := .data }, { on := 12, ground := .guard }], guard := some (12, true) },
  { dst := some 24, op := .call { callee := .value (.func 27), args := #[.tmp 21, .tmp 23], argTypes := #[3, 3] }, type := 34, pos := "law.go:87", after := #[{ on := 14, ground := .data }, { on := 16, ground := .data }, { on := 12, ground := .chain }, { on := 12, ground := .guard }], guard := some (12, true) },
  { dst := some 25, op := .indexAddr 27 (.tmp 5) (.const (.int .i64 0)), type := 0, pos := "law.go:87", after := #[{ on := 12, ground := .guard }], guard := some (12, true) },
  { dst := some 26, op := .load 3 (.tmp 25), type := 3, pos := "law.go:87", after := #[{ on := 18, ground := .data }, { on := 12, ground := .guard }], guard := some (12, true) },
  { dst := some 27, op := .indexAddr 27 (.tmp 5) (.const (.int .i64 1)), type := 0, pos := "law.go:87", after := #[{ on := 12, ground := .guard }], guard := some (12, true) },
  { dst := some 28, op := .load 3 (.tmp 27), type := 3, pos := "law.go:87", after := #[{ on := 20, ground := .data }, { on := 12, ground := .guard }], guard := some (12, true) },
  { dst := some 29, op := .call { callee := .value (.func 28), args := #[.tmp 26, .tmp 28], argTypes := #[3, 3] }, type := 34, pos := "law.go:87", after := #[{ on := 19, ground := .data }, { on := 21, ground := .data }, { on := 17, ground := .chain }, { on := 12, ground := .guard }], guard := some (12, true) },
  { dst := some 30, op := .call { callee := .value (.func 22), args := #[.tmp 24, .tmp 29], argTypes := #[34, 34] }, type := 4, pos := "law.go:87", after := #[{ on := 17, ground := .data }, { on := 22, ground := .data }, { on := 22, ground := .chain }, { on := 12, ground := .guard }], guard := some (12, true) },
  { dst := some 31, op := .pick (.tmp 19) (.tmp 30) (.const (.bool false)), type := 4, pos := "law.go:87", after := #[{ on := 12, ground := .data }, { on := 23, ground := .data }], guard := none },
  { dst := some 32, op := .move (.tmp 31), type := 4, pos := "law.go:87", after := #[{ on := 24, ground := .data }, { on := 23, ground := .chain }], guard := none },
  { dst := some 33, op := .load 25 (.tmp 3), type := 25, pos := "law.go:87", after := #[{ on := 25, ground := .guard }], guard := some (25, true) },
  { dst := some 34, op := .indexAddr 27 (.tmp 5) (.const (.int .i64 0)), type := 0, pos := "law.go:87", after := #[{ on := 25, ground := .guard }], guard := some (25, true) },
  { dst := some 35, op := .load 3 (.tmp 34), type := 3, pos := "law.go:87", after := #[{ on := 27, ground := .data }, { on := 25, ground := .guard }], guard := some (25, true) },
  { dst := some 36, op := .call { callee := .value (.func 29), args := #[.tmp 33, .tmp 35], argTypes := #[25, 3] }, type := 3, pos := "law.go:87", after := #[{ on := 26, ground := .data }, { on := 28, ground := .data }, { on := 25, ground := .chain }, { on := 25, ground := .guard }], guard := some (25, true) },
  { dst := some 37, op := .load 25 (.tmp 3), type := 25, pos := "law.go:87", after := #[{ on := 25, ground := .guard }], guard := some (25, true) },
  { dst := some 38, op := .indexAddr 27 (.tmp 5) (.const (.int .i64 0)), type := 0, pos := "law.go:87", after := #[{ on := 25, ground := .guard }], guard := some (25, true) },
  { dst := some 39, op := .load 3 (.tmp 38), type := 3, pos := "law.go:87", after := #[{ on := 31, ground := .data }, { on := 25, ground := .guard }], guard := some (25, true) },
  { dst := some 40, op := .call { callee := .value (.func 30), args := #[.tmp 37, .tmp 39], argTypes := #[25, 3] }, type := 3, pos := "law.go:87", after := #[{ on := 30, ground := .data }, { on := 32, ground := .data }, { on := 29, ground := .chain }, { on := 25, ground := .guard }], guard := some (25, true) },
  { dst := some 41, op := .binOp .eql 3 (.tmp 36) (.tmp 40) 3, type := 4, pos := "law.go:87", after := #[{ on := 29, ground := .data }, { on := 33, ground := .data }, { on := 25, ground := .guard }], guard := some (25, true) },
  { dst := some 42, op := .pick (.tmp 32) (.tmp 41) (.const (.bool false)), type := 4, pos := "law.go:87", after := #[{ on := 25, ground := .data }, { on := 34, ground := .data }], guard := none },
  { dst := some 43, op := .move (.tmp 42), type := 4, pos := "law.go:87", after := #[{ on := 35, ground := .data }, { on := 33, ground := .chain }], guard := none },
  { dst := some 44, op := .call { callee := .value (.func 18), args := #[], argTypes := #[] }, type := 4, pos := "law.go:87", after := #[{ on := 36, ground := .chain }, { on := 36, ground := .guard }], guard := some (36, true) },
  { dst := some 45, op := .pick (.tmp 43) (.tmp 44) (.const (.bool false)), type := 4, pos := "law.go:87", after := #[{ on := 36, ground := .data }, { on := 37, ground := .data }], guard := none },
  { dst := some 6, op := .assign (.tmp 45), type := 4, pos := "law.go:87", after := #[{ on := 38, ground := .data }, { on := 37, ground := .chain }, { on := 0, ground := .phase }, { on := 1, ground := .phase }, { on := 2, ground := .phase }, { on := 3, ground := .phase }, { on := 4, ground := .phase }, { on := 5, ground := .phase }, { on := 6, ground := .phase }, { on := 7, ground := .phase }, { on := 8, ground := .phase }, { on := 9, ground := .phase }, { on := 10, ground := .phase }, { on := 11, ground := .phase }, { on := 12, ground := .phase }, { on := 13, ground := .phase }, { on := 14, ground := .phase }, { on := 15, ground := .phase }, { on := 16, ground := .phase }, { on := 17, ground := .phase }, { on := 18, ground := .phase }, { on := 19, ground := .phase }, { on := 20, ground := .phase }, { on := 21, ground := .phase }, { on := 22, ground := .phase }, { on := 23, ground := .phase }, { on := 24, ground := .phase }, { on := 25, ground := .phase }, { on := 26, ground := .phase }, { on := 27, ground := .phase }, { on := 28, ground := .phase }, { on := 29, ground := .phase }, { on := 30, ground := .phase }, { on := 31, ground := .phase }, { on := 32, ground := .phase }, { on := 33, ground := .phase }, { on := 34, ground := .phase }, { on := 35, ground := .phase }, { on := 36, ground := .phase }, { on := 37, ground := .phase }, { on := 38, ground := .phase }], guard := none }]
theorem more1_plain : Region.noSelect more1 = true := by kernel_rfl


namespace Law23
set_option maxHeartbeats 8000000 in
set_option maxRecDepth 100000 in
theorem More_all (cs : List Value) (rf : List Bool) (K : Bk cs rf) (al : List Bool) (hl : al.length = 22) (a c : Int) (w : World) (n : PairsAt w) :
    Calls Tryd.prog 6 #[.agg (bk cs rf), .agg (bl al), .agg #[.int .i64 a, .int .i64 c]] w fun e w' => e = .returned (.bool true) ∧ Below w.heap.size w w' := by
  have L1 := Lib.hid (fun w n => lies_out (Lan23.Parts_any al hl w n))
  have R1 := Lib.hid (fun w => lies_out (Ref23.Parts_any al hl w))
  have L2 := Lib.hid (fun w n => Lan23.Text_any al hl w n)
  have R2 := Lib.hid (fun w => Ref23.Text_any al hl w)
  have L3 := Lib.hid (fun w n => lies_out (Lan23.Tell_any a c w n))
  have R3 := Lib.hid (fun w => lies_out (Ref23.Tell_any a c w))
  have L4 := Lib.hid (fun w n => Lan23.Steps_any cs rf K a w n)
  have R4 := Lib.hid (fun w => Ref23.Steps_any cs rf K a w)
  have AW := Lib.hid awake_any
  have I1 := Lib.hid (ints_any (Hyp.ints (Hyp.parts al)) (by rw [Hyp.ints_len]; have := Hyp.parts_len al; omega))
  have I2 := Lib.hid (ints_any (Hyp.ints (Hyp.tell a c 15)) (by rw [Hyp.ints_len]; have := Hyp.tell_len a c 15; omega))
  have iB := info30 K
  have iA := info22 hl
  generalize bk cs rf = barr at *
  generalize bl al = arr at *
  generalize Hyp.ints (Hyp.tell a c 15) = t2 at *
  generalize Hyp.ints (Hyp.parts al) = t1 at *
  generalize Hyp.txtOf (Hyp.parts al) = s at *
  generalize ((Hyp.livN (Hyp.aliveL rf a) 22).length : Int) = q4 at *
  obtain ⟨W0, hW0⟩ : ∃ W0, W0 = ((w.alloc (.cells barr 25)).alloc (.cells arr 26)).alloc (.cells #[.int .i64 a, .int .i64 c] 27) := ⟨_, rfl⟩
  have B0 : Below w.heap.size w W0 := hW0 ▸ below3 w _ _ _
  have PN : Hid (∀ w', Below W0.heap.size W0 w' → PairsAt w') := Lib.hid fun w' h => n.keep (belowT B0 h)
  have RB : ∀ w', Below W0.heap.size W0 w' → w'.rangeAt w.heap.size 0 barr.toList := fun w' h => range_keep (by rw [hW0]; exact range_keep (range_keep (range_new w barr _) (below1 _ _)) (below1 _ _)) h
  have RA : ∀ w', Below W0.heap.size W0 w' → w'.rangeAt (w.heap.size + 1) 0 arr.toList := fun w' h => range_keep (by
    rw [hW0]
    have := range_new (w.alloc (.cells barr 25)) arr 26
    rw [heap1] at this
    exact range_keep this (below1 _ _)) h
  have c0 : ∀ w', Below W0.heap.size W0 w' → w'.cell? ⟨w.heap.size + 2, 0, none⟩ = some (.int .i64 a) := fun w' h => keepc h (by rw [hW0]; exact (own2c w _ _ _ _ _).c0)
  have c1 : ∀ w', Below W0.heap.size W0 w' → w'.cell? ⟨w.heap.size + 2, 1, none⟩ = some (.int .i64 c) := fun w' h => keepc h (by rw [hW0]; exact (own2c w _ _ _ _ _).c1)
  go_enter Tryd.func6, Tryd.ntmps6
  go_upto_region 1 with fail
  rw [← hW0]
  clear hW0
  change (Code.region 1 more1 true).wp Tryd.prog _ _ _
  refine wp_region_noPanic ?_
  refine wp_region_held_drew (S := fun w' => Below W0.heap.size W0 w') (by kernel_rfl) ((Below.refl _ _).drew) (fun hHeld => ?_)
  refine wpAnyH_take (i := 0) (oi := ({ dst := some 7, op := .load 26 (.tmp 4), type := 26, pos := "law.go:87", after := #[], guard := none } : Oper)) rfl more1_plain (by as_aux_lemma => kernel_rfl) (by as_aux_lemma => kernel_rfl) (fun _ _ _ h => h) (yields_load (by rfl) 26 _ rfl _ _ rfl _ _ RA Tryd.underlying26 rfl iA) (by assumption) ?_
  try simp only [Act.put, List.setIfInBounds_toArray, List.set_cons_zero, List.set_cons_succ]
  refine wpAnyH_take (i := 2) (oi := ({ dst := some 9, op := .load 26 (.tmp 4), type := 26, pos := "law.go:87", after := #[], guard := none } : Oper)) rfl more1_plain (by as_aux_lemma => kernel_rfl) (by as_aux_lemma => kernel_rfl) (fun _ _ _ h => h) (yields_load (by rfl) 26 _ rfl _ _ rfl _ _ RA Tryd.underlying26 rfl iA) (by assumption) ?_
  try simp only [Act.put, List.setIfInBounds_toArray, List.set_cons_zero, List.set_cons_succ]
  refine wpAnyH_ready (rs := [1]) (by as_aux_lemma => kernel_rfl) (by simp) ?_
  refine AllReadyH.cons (o := ({ dst := some 8, op := .call { callee := .value (.func 23), args := #[.tmp 7], argTypes := #[26] }, type := 34, pos := "law.go:87", after := #[{ on := 0, ground := .data }], guard := none } : Oper)) rfl (fun KK hK => ?_) AllReadyH.nil
  rw [if_pos (by rfl)]
  go_simp
  go_at_call 23; refine (L1.out _ (PN.out _ (by assumption))).mono ?_; rintro e w1 ⟨b1, k1, rfl, D1, hb1⟩
  have E1 := Lib.hid D1
  go_wp2_with fail
  refine hK.out _ _ ?_ (fun hHeld1 => ?_)
  · exact belowT (by assumption) hb1
  refine wpAnyH_rebase (S' := fun w' => Below w1.heap.size w1 w') (fun w' h => belowT hHeld1 h) _ _ _ _ ?_
  have hHeldR1 := Below.refl w1.heap.size w1
  clear hK KK
  try simp only [Act.put, List.setIfInBounds_toArray, List.set_cons_zero, List.set_cons_succ]
  refine wpAnyH_ready (rs := [3]) (by as_aux_lemma => kernel_rfl) (by simp) ?_
  refine AllReadyH.cons (o := ({ dst := some 10, op := .call { callee := .value (.func 24), args := #[.tmp 9], argTypes := #[26] }, type := 34, pos := "law.go:87", after := #[{ on := 2, ground := .data }, { on := 1, ground := .chain }], guard := none } : Oper)) rfl (fun KK hK => ?_) AllReadyH.nil
  rw [if_pos (by rfl)]
  go_simp
  go_at_call 24; refine (R1.out _).mono ?_; rintro e w2 ⟨b2, k2, rfl, D2, hb2⟩
  have F1 := Lib.hid (E1.out.keep hb2)
  have E2 := Lib.hid D2
  go_wp2_with fail
  refine hK.out _ _ ?_ (fun hHeld2 => ?_)
  · exact belowT (by assumption) hb2
  refine wpAnyH_rebase (S' := fun w' => Below w2.heap.size w2 w') (fun w' h => belowT hHeld2 h) _ _ _ _ ?_
  have hHeldR2 := Below.refl w2.heap.size w2
  clear hK KK
  try simp only [Act.put, List.setIfInBounds_toArray, List.set_cons_zero, List.set_cons_succ]
  refine wpAnyH_ready (rs := [4]) (by as_aux_lemma => kernel_rfl) (by simp) ?_
  refine AllReadyH.cons (o := ({ dst := some 11, op := .call { callee := .value (.func 22), args := #[.tmp 8, .tmp 10], argTypes := #[34, 34] }, type := 4, pos := "law.go:87", after := #[{ on := 1, ground := .data }, { on := 3, ground := .data }, { on := 3, ground := .chain }], guard := none } : Oper)) rfl (fun KK hK => ?_) AllReadyH.nil
  rw [if_pos (by rfl)]
  go_simp
  go_at_call 22; refine (I1.out _ _ _ _ _ F1.out E2.out).mono ?_; rintro e w3 ⟨rfl, hb3⟩
  go_wp2_with fail
  refine hK.out _ _ ?_ (fun hHeld3 => ?_)
  · exact belowT (by assumption) hb3
  clear hK KK hb3
  try simp only [Act.put, List.setIfInBounds_toArray, List.set_cons_zero, List.set_cons_succ]
  refine wpAnyH_take (i := 5) (oi := ({ dst := some 12, op := .move (.tmp 11), type := 4, pos := "law.go:87", after := #[{ on := 4, ground := .data }, { on := 4, ground := .chain }], guard := none } : Oper)) (v := ?vs1_5) rfl more1_plain (by as_aux_lemma => kernel_rfl) (by as_aux_lemma => kernel_rfl) (fun _ _ _ h => h) (Or.inl ⟨by rfl, ?ys1_5⟩) (by assumption) ?rs1_5
  case ys1_5 => (intro w hSw; (try dsimp only at hSw); have hS0 := belowT hHeld2 hSw; have hS1 := belowT hHeld1 hS0; go_simp; try with_reducible rfl)
  try simp only [Act.put, List.setIfInBounds_toArray, List.set_cons_zero, List.set_cons_succ]
  refine wpAnyH_take (i := 6) (oi := ({ dst := some 13, op := .load 26 (.tmp 4), type := 26, pos := "law.go:87", after := #[{ on := 5, ground := .guard }], guard := some (5, true) } : Oper)) rfl more1_plain (by as_aux_lemma => kernel_rfl) (by as_aux_lemma => kernel_rfl) (fun _ _ _ h => h) (yields_load (by rfl) 26 _ rfl _ _ rfl _ _ (fun w' h => RA w' (belowT hHeld1 (belowT hHeld2 (h)))) Tryd.underlying26 rfl iA) (by assumption) ?_
  try simp only [Act.put, List.setIfInBounds_toArray, List.set_cons_zero, List.set_cons_succ]
  refine wpAnyH_take (i := 8) (oi := ({ dst := some 15, op := .load 26 (.tmp 4), type := 26, pos := "law.go:87", after := #[{ on := 5, ground := .guard }], guard := some (5, true) } : Oper)) rfl more1_plain (by as_aux_lemma => kernel_rfl) (by as_aux_lemma => kernel_rfl) (fun _ _ _ h => h) (yields_load (by rfl) 26 _ rfl _ _ rfl _ _ (fun w' h => RA w' (belowT hHeld1 (belowT hHeld2 (h)))) Tryd.underlying26 rfl iA) (by assumption) ?_
  try simp only [Act.put, List.setIfInBounds_toArray, List.set_cons_zero, List.set_cons_succ]
  refine wpAnyH_ready (rs := [7]) (by as_aux_lemma => kernel_rfl) (by simp) ?_
  refine AllReadyH.cons (o := ({ dst := some 14, op := .call { callee := .value (.func 25), args := #[.tmp 13], argTypes := #[26] }, type := 9, pos := "law.go:87", after := #[{ on := 6, ground := .data }, { on := 5, ground := .chain }, { on := 5, ground := .guard }], guard := some (5, true) } : Oper)) rfl (fun KK hK => ?_) AllReadyH.nil
  rw [if_pos (by rfl)]
  go_simp
  go_at_call 25; refine (L2.out _ (PN.out _ (belowT hHeld1 (belowT hHeld2 (by assumption))))).mono ?_; rintro e w4 ⟨rfl, hb4⟩
  go_wp2_with fail
  refine hK.out _ _ ?_ (fun hHeld4 => ?_)
  · exact belowT (by assumption) hb4
  clear hK KK hb4 hHeld3
  try simp only [Act.put, List.setIfInBounds_toArray, List.set_cons_zero, List.set_cons_succ]
  refine wpAnyH_ready (rs := [9]) (by as_aux_lemma => kernel_rfl) (by simp) ?_
  refine AllReadyH.cons (o := ({ dst := some 16, op := .call { callee := .value (.func 26), args := #[.tmp 15], argTypes := #[26] }, type := 9, pos := "law.go:87", after := #[{ on := 8, ground := .data }, { on := 7, ground := .chain }, { on := 5, ground := .guard }], guard := some (5, true) } : Oper)) rfl (fun KK hK => ?_) AllReadyH.nil
  rw [if_pos (by rfl)]
  go_simp
  go_at_call 26; refine (R2.out _).mono ?_; rintro e w5 ⟨rfl, hb5⟩
  go_wp2_with fail
  refine hK.out _ _ ?_ (fun hHeld5 => ?_)
  · exact belowT (by assumption) hb5
  clear hK KK hb5 hHeld4
  try simp only [Act.put, List.setIfInBounds_toArray, List.set_cons_zero, List.set_cons_succ]
  refine wpAnyH_take (i := 10) (oi := ({ dst := some 17, op := .binOp .eql 9 (.tmp 14) (.tmp 16) 9, type := 4, pos := "law.go:87", after := #[{ on := 7, ground := .data }, { on := 9, ground := .data }, { on := 5, ground := .guard }], guard := some (5, true) } : Oper)) (v := ?vs1_10) rfl more1_plain (by as_aux_lemma => kernel_rfl) (by as_aux_lemma => kernel_rfl) (fun _ _ _ h => h) (Or.inl ⟨by rfl, ?ys1_10⟩) (by assumption) ?rs1_10
  case ys1_10 => (intro w hSw; (try dsimp only at hSw); have hS0 := belowT hHeld2 hSw; have hS1 := belowT hHeld1 hS0; go_simp; try with_reducible rfl)
  try simp only [Act.put, List.setIfInBounds_toArray, List.set_cons_zero, List.set_cons_succ]
  refine wpAnyH_take (i := 11) (oi := ({ dst := some 18, op := .pick (.tmp 12) (.tmp 17) (.const (.bool false)), type := 4, pos := "law.go:87", after := #[{ on := 5, ground := .data }, { on := 10, ground := .data }], guard := none } : Oper)) (v := ?vs1_11) rfl more1_plain (by as_aux_lemma => kernel_rfl) (by as_aux_lemma => kernel_rfl) (fun _ _ _ h => h) (Or.inl ⟨by rfl, ?ys1_11⟩) (by assumption) ?rs1_11
  case ys1_11 => (intro w hSw; (try dsimp only at hSw); have hS0 := belowT hHeld2 hSw; have hS1 := belowT hHeld1 hS0; go_simp; try with_reducible rfl)
  try simp only [Act.put, List.setIfInBounds_toArray, List.set_cons_zero, List.set_cons_succ]
  refine wpAnyH_take (i := 12) (oi := ({ dst := some 19, op := .move (.tmp 18), type := 4, pos := "law.go:87", after := #[{ on := 11, ground := .data }, { on := 9, ground := .chain }], guard := none } : Oper)) (v := ?vs1_12) rfl more1_plain (by as_aux_lemma => kernel_rfl) (by as_aux_lemma => kernel_rfl) (fun _ _ _ h => h) (Or.inl ⟨by rfl, ?ys1_12⟩) (by assumption) ?rs1_12
  case ys1_12 => (intro w hSw; (try dsimp only at hSw); have hS0 := belowT hHeld2 hSw; have hS1 := belowT hHeld1 hS0; go_simp; try with_reducible rfl)
  try simp only [Act.put, List.setIfInBounds_toArray, List.set_cons_zero, List.set_cons_succ]
  refine wpAnyH_take (i := 13) (oi := ({ dst := some 20, op := .indexAddr 27 (.tmp 5) (.const (.int .i64 0)), type := 0, pos := "law.go:87", after := #[{ on := 12, ground := .guard }], guard := some (12, true) } : Oper)) (v := ?vs1_13) rfl more1_plain (by as_aux_lemma => kernel_rfl) (by as_aux_lemma => kernel_rfl) (fun _ _ _ h => h) (Or.inl ⟨by rfl, ?ys1_13⟩) (by assumption) ?rs1_13
  case ys1_13 => (intro w hSw; (try dsimp only at hSw); have hS0 := belowT hHeld2 hSw; have hS1 := belowT hHeld1 hS0; go_simp; try with_reducible rfl)
  try simp only [Act.put, List.setIfInBounds_toArray, List.set_cons_zero, List.set_cons_succ]
  refine wpAnyH_take (i := 14) (oi := ({ dst := some 21, op := .load 3 (.tmp 20), type := 3, pos := "law.go:87", after := #[{ on := 13, ground := .data }, { on := 12, ground := .guard }], guard := some (12, true) } : Oper)) (v := ?vs1_14) rfl more1_plain (by as_aux_lemma => kernel_rfl) (by as_aux_lemma => kernel_rfl) (fun _ _ _ h => h) (Or.inl ⟨by rfl, ?ys1_14⟩) (by assumption) ?rs1_14
  case ys1_14 => (intro w hSw; (try dsimp only at hSw); have hS0 := belowT hHeld2 hSw; have hS1 := belowT hHeld1 hS0; go_simp; try with_reducible rfl)
  try simp only [Act.put, List.setIfInBounds_toArray, List.set_cons_zero, List.set_cons_succ]
  refine wpAnyH_take (i := 15) (oi := ({ dst := some 22, op := .indexAddr 27 (.tmp 5) (.const (.int .i64 1)), type := 0, pos := "law.go:87", after := #[{ on := 12, ground := .guard }], guard := some (12, true) } : Oper)) (v := ?vs1_15) rfl more1_plain (by as_aux_lemma => kernel_rfl) (by as_aux_lemma => kernel_rfl) (fun _ _ _ h => h) (Or.inl ⟨by rfl, ?ys1_15⟩) (by assumption) ?rs1_15
  case ys1_15 => (intro w hSw; (try dsimp only at hSw); have hS0 := belowT hHeld2 hSw; have hS1 := belowT hHeld1 hS0; go_simp; try with_reducible rfl)
  try simp only [Act.put, List.setIfInBounds_toArray, List.set_cons_zero, List.set_cons_succ]
  refine wpAnyH_take (i := 16) (oi := ({ dst := some 23, op := .load 3 (.tmp 22), type := 3, pos := "law.go:87", after := #[{ on := 15, ground := .data }, { on := 12, ground := .guard }], guard := some (12, true) } : Oper)) (v := ?vs1_16) rfl more1_plain (by as_aux_lemma => kernel_rfl) (by as_aux_lemma => kernel_rfl) (fun _ _ _ h => h) (Or.inl ⟨by rfl, ?ys1_16⟩) (by assumption) ?rs1_16
  case ys1_16 => (intro w hSw; (try dsimp only at hSw); have hS0 := belowT hHeld2 hSw; have hS1 := belowT hHeld1 hS0; go_simp; try with_reducible rfl)
  try simp only [Act.put, List.setIfInBounds_toArray, List.set_cons_zero, List.set_cons_succ]
  refine wpAnyH_take (i := 18) (oi := ({ dst := some 25, op := .indexAddr 27 (.tmp 5) (.const (.int .i64 0)), type := 0, pos := "law.go:87", after := #[{ on := 12, ground := .guard }], guard := some (12, true) } : Oper)) (v := ?vs1_18) rfl more1_plain (by as_aux_lemma => kernel_rfl) (by as_aux_lemma => kernel_rfl) (fun _ _ _ h => h) (Or.inl ⟨by rfl, ?ys1_18⟩) (by assumption) ?rs1_18
  case ys1_18 => (intro w hSw; (try dsimp only at hSw); have hS0 := belowT hHeld2 hSw; have hS1 := belowT hHeld1 hS0; go_simp; try with_reducible rfl)
  try simp only [Act.put, List.setIfInBounds_toArray, List.set_cons_zero, List.set_cons_succ]
  refine wpAnyH_take (i := 19) (oi := ({ dst := some 26, op := .load 3 (.tmp 25), type := 3, pos := "law.go:87", after := #[{ on := 18, ground := .data }, { on := 12, ground := .guard }], guard := some (12, true) } : Oper)) (v := ?vs1_19) rfl more1_plain (by as_aux_lemma => kernel_rfl) (by as_aux_lemma => kernel_rfl) (fun _ _ _ h => h) (Or.inl ⟨by rfl, ?ys1_19⟩) (by assumption) ?rs1_19
  case ys1_19 => (intro w hSw; (try dsimp only at hSw); have hS0 := belowT hHeld2 hSw; have hS1 := belowT hHeld1 hS0; go_simp; try with_reducible rfl)
  try simp only [Act.put, List.setIfInBounds_toArray, List.set_cons_zero, List.set_cons_succ]
  refine wpAnyH_take (i := 20) (oi := ({ dst := some 27, op := .indexAddr 27 (.tmp 5) (.const (.int .i64 1)), type := 0, pos := "law.go:87", after := #[{ on := 12, ground := .guard }], guard := some (12, true) } : Oper)) (v := ?vs1_20) rfl more1_plain (by as_aux_lemma => kernel_rfl) (by as_aux_lemma => kernel_rfl) (fun _ _ _ h => h) (Or.inl ⟨by rfl, ?ys1_20⟩) (by assumption) ?rs1_20
  case ys1_20 => (intro w hSw; (try dsimp only at hSw); have hS0 := belowT hHeld2 hSw; have hS1 := belowT hHeld1 hS0; go_simp; try with_reducible rfl)
  try simp only [Act.put, List.setIfInBounds_toArray, List.set_cons_zero, List.set_cons_succ]
  refine wpAnyH_take (i := 21) (oi := ({ dst := some 28, op := .load 3 (.tmp 27), type := 3, pos := "law.go:87", after := #[{ on := 20, ground := .data }, { on := 12, ground := .guard }], guard := some (12, true) } : Oper)) (v := ?vs1_21) rfl more1_plain (by as_aux_lemma => kernel_rfl) (by as_aux_lemma => kernel_rfl) (fun _ _ _ h => h) (Or.inl ⟨by rfl, ?ys1_21⟩) (by assumption) ?rs1_21
  case ys1_21 => (intro w hSw; (try dsimp only at hSw); have hS0 := belowT hHeld2 hSw; have hS1 := belowT hHeld1 hS0; go_simp; try with_reducible rfl)
  try simp only [Act.put, List.setIfInBounds_toArray, List.set_cons_zero, List.set_cons_succ]
  refine wpAnyH_ready (rs := [17]) (by as_aux_lemma => kernel_rfl) (by simp) ?_
  refine AllReadyH.cons (o := ({ dst := some 24, op := .call { callee := .value (.func 27), args := #[.tmp 21, .tmp 23], argTypes := #[3, 3] }, type := 34, pos := "law.go:87", after := #[{ on := 14, ground := .data }, { on := 16, ground := .data }, { on := 12, ground := .chain }, { on := 12, ground := .guard }], guard := some (12, true) } : Oper)) rfl (fun KK hK => ?_) AllReadyH.nil
  rw [if_pos (by rfl)]
  go_simp
  go_at_call 27; refine (L3.out _ (PN.out _ (belowT hHeld1 (belowT hHeld2 (by assumption))))).mono ?_; rintro e w6 ⟨b6, k6, rfl, D6, hb6⟩
  have E6 := Lib.hid D6
  go_wp2_with fail
  refine hK.out _ _ ?_ (fun hHeld6 => ?_)
  · exact belowT (by assumption) hb6
  refine wpAnyH_rebase (S' := fun w' => Below w6.heap.size w6 w') (fun w' h => belowT hHeld6 h) _ _ _ _ ?_
  have hHeldR6 := Below.refl w6.heap.size w6
  clear hK KK
  try simp only [Act.put, List.setIfInBounds_toArray, List.set_cons_zero, List.set_cons_succ]
  refine wpAnyH_ready (rs := [22]) (by as_aux_lemma => kernel_rfl) (by simp) ?_
  refine AllReadyH.cons (o := ({ dst := some 29, op := .call { callee := .value (.func 28), args := #[.tmp 26, .tmp 28], argTypes := #[3, 3] }, type := 34, pos := "law.go:87", after := #[{ on := 19, ground := .data }, { on := 21, ground := .data }, { on := 17, ground := .chain }, { on := 12, ground := .guard }], guard := some (12, true) } : Oper)) rfl (fun KK hK => ?_) AllReadyH.nil
  rw [if_pos (by rfl)]
  go_simp
  go_at_call 28; refine (R3.out _).mono ?_; rintro e w7 ⟨b7, k7, rfl, D7, hb7⟩
  have F6 := Lib.hid (E6.out.keep hb7)
  have E7 := Lib.hid D7
  go_wp2_with fail
  refine hK.out _ _ ?_ (fun hHeld7 => ?_)
  · exact belowT (by assumption) hb7
  refine wpAnyH_rebase (S' := fun w' => Below w7.heap.size w7 w') (fun w' h => belowT hHeld7 h) _ _ _ _ ?_
  have hHeldR7 := Below.refl w7.heap.size w7
  clear hK KK
  try simp only [Act.put, List.setIfInBounds_toArray, List.set_cons_zero, List.set_cons_succ]
  refine wpAnyH_ready (rs := [23]) (by as_aux_lemma => kernel_rfl) (by simp) ?_
  refine AllReadyH.cons (o := ({ dst := some 30, op := .call { callee := .value (.func 22), args := #[.tmp 24, .tmp 29], argTypes := #[34, 34] }, type := 4, pos := "law.go:87", after := #[{ on := 17, ground := .data }, { on := 22, ground := .data }, { on := 22, ground := .chain }, { on := 12, ground := .guard }], guard := some (12, true) } : Oper)) rfl (fun KK hK => ?_) AllReadyH.nil
  rw [if_pos (by rfl)]
  go_simp
  go_at_call 22; refine (I2.out _ _ _ _ _ F6.out E7.out).mono ?_; rintro e w8 ⟨rfl, hb8⟩
  go_wp2_with fail
  refine hK.out _ _ ?_ (fun hHeld8 => ?_)
  · exact belowT (by assumption) hb8
  clear hK KK hb8
  try simp only [Act.put, List.setIfInBounds_toArray, List.set_cons_zero, List.set_cons_succ]
  refine wpAnyH_take (i := 24) (oi := ({ dst := some 31, op := .pick (.tmp 19) (.tmp 30) (.const (.bool false)), type := 4, pos := "law.go:87", after := #[{ on := 12, ground := .data }, { on := 23, ground := .data }], guard := none } : Oper)) (v := ?vs1_24) rfl more1_plain (by as_aux_lemma => kernel_rfl) (by as_aux_lemma => kernel_rfl) (fun _ _ _ h => h) (Or.inl ⟨by rfl, ?ys1_24⟩) (by assumption) ?rs1_24
  case ys1_24 => (intro w hSw; (try dsimp only at hSw); have hS0 := belowT hHeld7 hSw; have hS1 := belowT hHeld6 hS0; have hS2 := belowT hHeld2 hS1; have hS3 := belowT hHeld1 hS2; go_simp; try with_reducible rfl)
  try simp only [Act.put, List.setIfInBounds_toArray, List.set_cons_zero, List.set_cons_succ]
  refine wpAnyH_take (i := 25) (oi := ({ dst := some 32, op := .move (.tmp 31), type := 4, pos := "law.go:87", after := #[{ on := 24, ground := .data }, { on := 23, ground := .chain }], guard := none } : Oper)) (v := ?vs1_25) rfl more1_plain (by as_aux_lemma => kernel_rfl) (by as_aux_lemma => kernel_rfl) (fun _ _ _ h => h) (Or.inl ⟨by rfl, ?ys1_25⟩) (by assumption) ?rs1_25
  case ys1_25 => (intro w hSw; (try dsimp only at hSw); have hS0 := belowT hHeld7 hSw; have hS1 := belowT hHeld6 hS0; have hS2 := belowT hHeld2 hS1; have hS3 := belowT hHeld1 hS2; go_simp; try with_reducible rfl)
  try simp only [Act.put, List.setIfInBounds_toArray, List.set_cons_zero, List.set_cons_succ]
  refine wpAnyH_take (i := 26) (oi := ({ dst := some 33, op := .load 25 (.tmp 3), type := 25, pos := "law.go:87", after := #[{ on := 25, ground := .guard }], guard := some (25, true) } : Oper)) rfl more1_plain (by as_aux_lemma => kernel_rfl) (by as_aux_lemma => kernel_rfl) (fun _ _ _ h => h) (yields_load (by rfl) 25 _ rfl _ _ rfl _ _ (fun w' h => RB w' (belowT hHeld1 (belowT hHeld2 (belowT hHeld6 (belowT hHeld7 (h)))))) Tryd.underlying25 rfl iB) (by assumption) ?_
  try simp only [Act.put, List.setIfInBounds_toArray, List.set_cons_zero, List.set_cons_succ]
  refine wpAnyH_take (i := 27) (oi := ({ dst := some 34, op := .indexAddr 27 (.tmp 5) (.const (.int .i64 0)), type := 0, pos := "law.go:87", after := #[{ on := 25, ground := .guard }], guard := some (25, true) } : Oper)) (v := ?vs1_27) rfl more1_plain (by as_aux_lemma => kernel_rfl) (by as_aux_lemma => kernel_rfl) (fun _ _ _ h => h) (Or.inl ⟨by rfl, ?ys1_27⟩) (by assumption) ?rs1_27
  case ys1_27 => (intro w hSw; (try dsimp only at hSw); have hS0 := belowT hHeld7 hSw; have hS1 := belowT hHeld6 hS0; have hS2 := belowT hHeld2 hS1; have hS3 := belowT hHeld1 hS2; go_simp; try with_reducible rfl)
  try simp only [Act.put, List.setIfInBounds_toArray, List.set_cons_zero, List.set_cons_succ]
  refine wpAnyH_take (i := 28) (oi := ({ dst := some 35, op := .load 3 (.tmp 34), type := 3, pos := "law.go:87", after := #[{ on := 27, ground := .data }, { on := 25, ground := .guard }], guard := some (25, true) } : Oper)) (v := ?vs1_28) rfl more1_plain (by as_aux_lemma => kernel_rfl) (by as_aux_lemma => kernel_rfl) (fun _ _ _ h => h) (Or.inl ⟨by rfl, ?ys1_28⟩) (by assumption) ?rs1_28
  case ys1_28 => (intro w hSw; (try dsimp only at hSw); have hS0 := belowT hHeld7 hSw; have hS1 := belowT hHeld6 hS0; have hS2 := belowT hHeld2 hS1; have hS3 := belowT hHeld1 hS2; go_simp; try with_reducible rfl)
  try simp only [Act.put, List.setIfInBounds_toArray, List.set_cons_zero, List.set_cons_succ]
  refine wpAnyH_take (i := 30) (oi := ({ dst := some 37, op := .load 25 (.tmp 3), type := 25, pos := "law.go:87", after := #[{ on := 25, ground := .guard }], guard := some (25, true) } : Oper)) rfl more1_plain (by as_aux_lemma => kernel_rfl) (by as_aux_lemma => kernel_rfl) (fun _ _ _ h => h) (yields_load (by rfl) 25 _ rfl _ _ rfl _ _ (fun w' h => RB w' (belowT hHeld1 (belowT hHeld2 (belowT hHeld6 (belowT hHeld7 (h)))))) Tryd.underlying25 rfl iB) (by assumption) ?_
  try simp only [Act.put, List.setIfInBounds_toArray, List.set_cons_zero, List.set_cons_succ]
  refine wpAnyH_take (i := 31) (oi := ({ dst := some 38, op := .indexAddr 27 (.tmp 5) (.const (.int .i64 0)), type := 0, pos := "law.go:87", after := #[{ on := 25, ground := .guard }], guard := some (25, true) } : Oper)) (v := ?vs1_31) rfl more1_plain (by as_aux_lemma => kernel_rfl) (by as_aux_lemma => kernel_rfl) (fun _ _ _ h => h) (Or.inl ⟨by rfl, ?ys1_31⟩) (by assumption) ?rs1_31
  case ys1_31 => (intro w hSw; (try dsimp only at hSw); have hS0 := belowT hHeld7 hSw; have hS1 := belowT hHeld6 hS0; have hS2 := belowT hHeld2 hS1; have hS3 := belowT hHeld1 hS2; go_simp; try with_reducible rfl)
  try simp only [Act.put, List.setIfInBounds_toArray, List.set_cons_zero, List.set_cons_succ]
  refine wpAnyH_take (i := 32) (oi := ({ dst := some 39, op := .load 3 (.tmp 38), type := 3, pos := "law.go:87", after := #[{ on := 31, ground := .data }, { on := 25, ground := .guard }], guard := some (25, true) } : Oper)) (v := ?vs1_32) rfl more1_plain (by as_aux_lemma => kernel_rfl) (by as_aux_lemma => kernel_rfl) (fun _ _ _ h => h) (Or.inl ⟨by rfl, ?ys1_32⟩) (by assumption) ?rs1_32
  case ys1_32 => (intro w hSw; (try dsimp only at hSw); have hS0 := belowT hHeld7 hSw; have hS1 := belowT hHeld6 hS0; have hS2 := belowT hHeld2 hS1; have hS3 := belowT hHeld1 hS2; go_simp; try with_reducible rfl)
  try simp only [Act.put, List.setIfInBounds_toArray, List.set_cons_zero, List.set_cons_succ]
  refine wpAnyH_ready (rs := [29]) (by as_aux_lemma => kernel_rfl) (by simp) ?_
  refine AllReadyH.cons (o := ({ dst := some 36, op := .call { callee := .value (.func 29), args := #[.tmp 33, .tmp 35], argTypes := #[25, 3] }, type := 3, pos := "law.go:87", after := #[{ on := 26, ground := .data }, { on := 28, ground := .data }, { on := 25, ground := .chain }, { on := 25, ground := .guard }], guard := some (25, true) } : Oper)) rfl (fun KK hK => ?_) AllReadyH.nil
  rw [if_pos (by rfl)]
  go_simp
  go_at_call 29; refine (L4.out _ (PN.out _ (belowT hHeld1 (belowT hHeld2 (belowT hHeld6 (belowT hHeld7 (by assumption))))))).mono ?_; rintro e w9 ⟨rfl, hb9⟩
  go_wp2_with fail
  refine hK.out _ _ ?_ (fun hHeld9 => ?_)
  · exact belowT (by assumption) hb9
  clear hK KK hb9 hHeld8
  try simp only [Act.put, List.setIfInBounds_toArray, List.set_cons_zero, List.set_cons_succ]
  refine wpAnyH_ready (rs := [33]) (by as_aux_lemma => kernel_rfl) (by simp) ?_
  refine AllReadyH.cons (o := ({ dst := some 40, op := .call { callee := .value (.func 30), args := #[.tmp 37, .tmp 39], argTypes := #[25, 3] }, type := 3, pos := "law.go:87", after := #[{ on := 30, ground := .data }, { on := 32, ground := .data }, { on := 29, ground := .chain }, { on := 25, ground := .guard }], guard := some (25, true) } : Oper)) rfl (fun KK hK => ?_) AllReadyH.nil
  rw [if_pos (by rfl)]
  go_simp
  go_at_call 30; refine (R4.out _).mono ?_; rintro e w10 ⟨rfl, hb10⟩
  go_wp2_with fail
  refine hK.out _ _ ?_ (fun hHeld10 => ?_)
  · exact belowT (by assumption) hb10
  clear hK KK hb10 hHeld9
  try simp only [Act.put, List.setIfInBounds_toArray, List.set_cons_zero, List.set_cons_succ]
  refine wpAnyH_take (i := 34) (oi := ({ dst := some 41, op := .binOp .eql 3 (.tmp 36) (.tmp 40) 3, type := 4, pos := "law.go:87", after := #[{ on := 29, ground := .data }, { on := 33, ground := .data }, { on := 25, ground := .guard }], guard := some (25, true) } : Oper)) (v := ?vs1_34) rfl more1_plain (by as_aux_lemma => kernel_rfl) (by as_aux_lemma => kernel_rfl) (fun _ _ _ h => h) (Or.inl ⟨by rfl, ?ys1_34⟩) (by assumption) ?rs1_34
  case ys1_34 => (intro w hSw; (try dsimp only at hSw); have hS0 := belowT hHeld7 hSw; have hS1 := belowT hHeld6 hS0; have hS2 := belowT hHeld2 hS1; have hS3 := belowT hHeld1 hS2; go_simp; try with_reducible rfl)
  try simp only [Act.put, List.setIfInBounds_toArray, List.set_cons_zero, List.set_cons_succ]
  refine wpAnyH_take (i := 35) (oi := ({ dst := some 42, op := .pick (.tmp 32) (.tmp 41) (.const (.bool false)), type := 4, pos := "law.go:87", after := #[{ on := 25, ground := .data }, { on := 34, ground := .data }], guard := none } : Oper)) (v := ?vs1_35) rfl more1_plain (by as_aux_lemma => kernel_rfl) (by as_aux_lemma => kernel_rfl) (fun _ _ _ h => h) (Or.inl ⟨by rfl, ?ys1_35⟩) (by assumption) ?rs1_35
  case ys1_35 => (intro w hSw; (try dsimp only at hSw); have hS0 := belowT hHeld7 hSw; have hS1 := belowT hHeld6 hS0; have hS2 := belowT hHeld2 hS1; have hS3 := belowT hHeld1 hS2; go_simp; try with_reducible rfl)
  try simp only [Act.put, List.setIfInBounds_toArray, List.set_cons_zero, List.set_cons_succ]
  refine wpAnyH_take (i := 36) (oi := ({ dst := some 43, op := .move (.tmp 42), type := 4, pos := "law.go:87", after := #[{ on := 35, ground := .data }, { on := 33, ground := .chain }], guard := none } : Oper)) (v := ?vs1_36) rfl more1_plain (by as_aux_lemma => kernel_rfl) (by as_aux_lemma => kernel_rfl) (fun _ _ _ h => h) (Or.inl ⟨by rfl, ?ys1_36⟩) (by assumption) ?rs1_36
  case ys1_36 => (intro w hSw; (try dsimp only at hSw); have hS0 := belowT hHeld7 hSw; have hS1 := belowT hHeld6 hS0; have hS2 := belowT hHeld2 hS1; have hS3 := belowT hHeld1 hS2; go_simp; try with_reducible rfl)
  try simp only [Act.put, List.setIfInBounds_toArray, List.set_cons_zero, List.set_cons_succ]
  refine wpAnyH_ready (rs := [37]) (by as_aux_lemma => kernel_rfl) (by simp) ?_
  refine AllReadyH.cons (o := ({ dst := some 44, op := .call { callee := .value (.func 18), args := #[], argTypes := #[] }, type := 4, pos := "law.go:87", after := #[{ on := 36, ground := .chain }, { on := 36, ground := .guard }], guard := some (36, true) } : Oper)) rfl (fun KK hK => ?_) AllReadyH.nil
  rw [if_pos (by rfl)]
  go_simp
  go_at_call 18; refine (AW.out _ (PN.out _ (belowT hHeld1 (belowT hHeld2 (belowT hHeld6 (belowT hHeld7 (by assumption))))))).mono ?_; rintro e w11 ⟨rfl, hb11⟩
  go_wp2_with fail
  refine hK.out _ _ ?_ (fun hHeld11 => ?_)
  · exact belowT (by assumption) hb11
  clear hK KK hb11 hHeld10
  try simp only [Act.put, List.setIfInBounds_toArray, List.set_cons_zero, List.set_cons_succ]
  refine wpAnyH_take (i := 38) (oi := ({ dst := some 45, op := .pick (.tmp 43) (.tmp 44) (.const (.bool false)), type := 4, pos := "law.go:87", after := #[{ on := 36, ground := .data }, { on := 37, ground := .data }], guard := none } : Oper)) (v := ?vs1_38) rfl more1_plain (by as_aux_lemma => kernel_rfl) (by as_aux_lemma => kernel_rfl) (fun _ _ _ h => h) (Or.inl ⟨by rfl, ?ys1_38⟩) (by assumption) ?rs1_38
  case ys1_38 => (intro w hSw; (try dsimp only at hSw); have hS0 := belowT hHeld7 hSw; have hS1 := belowT hHeld6 hS0; have hS2 := belowT hHeld2 hS1; have hS3 := belowT hHeld1 hS2; go_simp; try with_reducible rfl)
  try simp only [Act.put, List.setIfInBounds_toArray, List.set_cons_zero, List.set_cons_succ]
  refine wpAnyH_take (i := 39) (oi := ({ dst := some 6, op := .assign (.tmp 45), type := 4, pos := "law.go:87", after := #[{ on := 38, ground := .data }, { on := 37, ground := .chain }, { on := 0, ground := .phase }, { on := 1, ground := .phase }, { on := 2, ground := .phase }, { on := 3, ground := .phase }, { on := 4, ground := .phase }, { on := 5, ground := .phase }, { on := 6, ground := .phase }, { on := 7, ground := .phase }, { on := 8, ground := .phase }, { on := 9, ground := .phase }, { on := 10, ground := .phase }, { on := 11, ground := .phase }, { on := 12, ground := .phase }, { on := 13, ground := .phase }, { on := 14, ground := .phase }, { on := 15, ground := .phase }, { on := 16, ground := .phase }, { on := 17, ground := .phase }, { on := 18, ground := .phase }, { on := 19, ground := .phase }, { on := 20, ground := .phase }, { on := 21, ground := .phase }, { on := 22, ground := .phase }, { on := 23, ground := .phase }, { on := 24, ground := .phase }, { on := 25, ground := .phase }, { on := 26, ground := .phase }, { on := 27, ground := .phase }, { on := 28, ground := .phase }, { on := 29, ground := .phase }, { on := 30, ground := .phase }, { on := 31, ground := .phase }, { on := 32, ground := .phase }, { on := 33, ground := .phase }, { on := 34, ground := .phase }, { on := 35, ground := .phase }, { on := 36, ground := .phase }, { on := 37, ground := .phase }, { on := 38, ground := .phase }], guard := none } : Oper)) (v := ?vs1_39) rfl more1_plain (by as_aux_lemma => kernel_rfl) (by as_aux_lemma => kernel_rfl) (fun _ _ _ h => h) (Or.inl ⟨by rfl, ?ys1_39⟩) (by assumption) ?rs1_39
  case ys1_39 => (intro w hSw; (try dsimp only at hSw); have hS0 := belowT hHeld7 hSw; have hS1 := belowT hHeld6 hS0; have hS2 := belowT hHeld2 hS1; have hS3 := belowT hHeld1 hS2; go_simp; try with_reducible rfl)
  try simp only [Act.put, List.setIfInBounds_toArray, List.set_cons_zero, List.set_cons_succ]
  refine wpAnyH_done (by as_aux_lemma => kernel_rfl) ?_ _
  refine NoPanic.normal ?_
  have hz := hHeld11
  go_wp2
  go_ret
  exact ⟨rfl, belowT B0 (belowT hHeld1 (belowT hHeld2 (belowT hHeld6 (belowT hHeld7 hz))))⟩
end Law23
end Go.Proofs.YtaooigldchojcaaDoor
