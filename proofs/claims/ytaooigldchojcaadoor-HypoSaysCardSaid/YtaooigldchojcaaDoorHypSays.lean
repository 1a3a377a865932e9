/- HypoSays. -/
import Derived.Test.YtaooigldchojcaaDoorHypAwake
import Derived.Test.YtaooigldchojcaaDoorHypRefB
import Derived.Test.YtaooigldchojcaaDoorHypEq
import Derived.Deep.Cut
import Derived.Deep.CutBlock
import Derived.Deep.CutRange
import Derived.Deep.RegionHeld3
namespace Go.Proofs.YtaooigldchojcaaDoor
open Go.RowKit

/-- The operations of a drawn region, as the translation has them. -/
def says1 : Array Oper := #[
  { dst := some 7, op := .load 25 (.tmp 3), type := 25, pos := "law.go:35", after := #[], guard := none },
  { dst := some 8, op := .indexAddr 27 (.tmp 5) (.const (.int .i64 0)), type := 0, pos := "law.go:35", after := #[], guard := none },
  { dst := some 9, op := .load 3 (.tmp 8), type := 3, pos := "law.go:35", after := #[{ on := 1, ground := .data }], guard := none },
  { dst := some 10, op := .call { callee := .value (.func 8), args := #[.tmp 7, .tmp 9], argTypes := #[25, 3] }, type := 26, pos := "law.go:35", after := #[{ on := 0, ground := .data }, { on := 2, ground := .data }], guard := none },
  { dst := some 11, op := .load 25 (.tmp 3), type := 25, pos := "law.go:35", after := #[], guard := none },
  { dst := some 12, op := .indexAddr 27 (.tmp 5) (.const (.int .i64 0)), type := 0, pos := "law.go:35", after := #[], guard := none },
  { dst := some 13, op := .load 3 (.tmp 12), type := 3, pos := "law.go:35", after := #[{ on := 5, ground := .data }], guard := none },
  { dst := some 14, op := .call { callee := .value (.func 9), args := #[.tmp 11, .tmp 13], argTypes := #[25, 3] }, type := 26, pos := "law.go:35", after := #[{ on := 4, ground := .data }, { on := 6, ground := .data }, { on := 3, ground := .chain }], guard := none },
  { dst := some 15, op := .binOp .eql 26 (.tmp 10) (.tmp 14) 26, type := 4, pos := "law.go:35", after := #[{ on := 3, ground := .data }, { on := 7, ground := .data }], guard := none },
  { dst := some 16, op := .move (.tmp 15), type := 4, pos := "law.go:35", after := #[{ on := 8, ground := .data }, { on := 7, ground := .chain }], guard := none },
  { dst := some 17, op := .load 26 (.tmp 4), type := 26, pos := "law.go:35", after := #[{ on := 9, ground := .guard }], guard := some (9, true) },
  { dst := some 18, op := .call { callee := .value (.func 10), args := #[.tmp 17], argTypes := #[26] }, type := 4, pos := "law.go:35", after := #[{ on := 10, ground := .data }, { on := 9, ground := .chain }, { on := 9, ground := .guard }], guard := some (9, true) },
  { dst := some 19, op := .load 26 (.tmp 4), type := 26, pos := "law.go:35", after := #[{ on := 9, ground := .guard }], guard := some (9, true) },
  { dst := some 20, op := .call { callee := .value (.func 11), args := #[.tmp 19], argTypes := #[26] }, type := 4, pos := "law.go:35", after := #[{ on := 12, ground := .data }, { on := 11, ground := .chain }, { on := 9, ground := .guard }], guard := some (9, true) },
  { dst := some 21, op := .binOp .eql 4 (.tmp 18) (.tmp 20) 4, type := 4, pos := "law.go:35", after := #[{ on := 11, ground := .data }, { on := 13, ground := .data }, { on := 9, ground := .guard }], guard := some (9, true) },
  { dst := some 22, op := .pick (.tmp 16) (.tmp 21) (.const (.bool false)), type := 4, pos := "law.go:35", after := #[{ on := 9, ground := .data }, { on := 14, ground := .data }], guard := none },
  { dst := some 23, op := .move (.tmp 22), type := 4, pos := "law.go:35", after := #[{ on := 15, ground := .data }, { on := 13, ground := .chain }], guard := none },
  { dst := some 24, op := .load 26 (.tmp 4), type := 26, pos := "law.go:35", after := #[{ on := 16, ground := .guard }], guard := some (16, true) },
  { dst := some 25, op := .call { callee := .value (.func 12), args := #[.tmp 24], argTypes := #[26] }, type := 3, pos := "law.go:35", after := #[{ on := 17, ground := .data }, { on := 16, ground := .chain }, { on := 16, ground := .guard }], guard := some (16, true) },
  { dst := some 26, op := .load 26 (.tmp 4), type := 26, pos := "law.go:35", after := #[{ on := 16, ground := .guard }], guard := some (16, true) },
  { dst := some 27, op := .call { callee := .value (.func 13), args := #[.tmp 26], argTypes := #[26] }, type := 3, pos := "law.go:35", after := #[{ on := 19, ground := .data }, { on := 18, ground := .chain }, { on := 16, ground := .guard }], guard := some (16, true) },
  { dst := some 28, op := .binOp .eql 3 (.tmp 25) (.tmp 27) 3, type := 4, pos := "law.go:35", after := #[{ on := 18, ground := .data }, { on := 20, ground := .data }, { on := 16, ground := .guard }], guard := some (16, true) },
  { dst := some 29, op := .pick (.tmp 23) (.tmp 28) (.const (.bool false)), type := 4, pos := "law.go:35", after := #[{ on := 16, ground := .data }, { on := 21, ground := .data }], guard := none },
  { dst := some 30, op := .move (.tmp 29), type := 4, pos := "law.go:35", after := #[{ on := 22, ground := .data }, { on := 20, ground := .chain }], guard := none },
  { dst := some 31, op := .load 26 (.tmp 4), type := 26, pos := "law.go:35", after := #[{ on := 23, ground := .guard }], guard := some (23, true) },
  { dst := some 32, op := .call { callee := .value (.func 14), args := #[.tmp 31], argTypes := #[26] }, type := 4, pos := "law.go:35", after := #[{ on := 24, ground := .data }, { on := 23, ground := .chain }, { on := 23, ground := .guard }], guard := some (23, true) },
  { dst := some 33, op := .load 26 (.tmp 4), type := 26, pos := "law.go:35", after := #[{ on := 23, ground := .guard }], guard := some (23, true) },
  { dst := some 34, op := .call { callee := .value (.func 15), args := #[.tmp 33], argTypes := #[26] }, type := 4, pos := "law.go:35", after := #[{ on := 26, ground := .data }, { on := 25, ground := .chain }, { on := 23, ground := .guard }], guard := some (23, true) },
  { dst := some 35, op := .binOp .eql 4 (.tmp 32) (.tmp 34) 4, type := 4, pos := "law.go:35", after := #[{ on := 25, ground := .data }, { on := 27, ground := .data }, { on := 23, ground := .guard }], guard := some (23, true) },
  { dst := some 36, op := .pick (.tmp 30) (.tmp 35) (.const (.bool false)), type := 4, pos := "law.go:35", after := #[{ on := 23, ground := .data }, { on := 28, ground := .data }], guard := none },
  { dst := some 37, op := .move (.tmp 36), type := 4, pos := "law.go:35", after := #[{ on := 29, ground := .data }, { on := 27, ground := .chain }], guard := none },
  { dst := some 38, op := .load 26 (.tmp 4), type := 26, pos := "law.go:35", after := #[{ on := 30, ground := .guard }], guard := some (30, true) },
  { dst := some 39, op := .indexAddr 27 (.tmp 5) (.const (.int .i64 1)), type := 0, pos := "law.go:35", after := #[{ on := 30, ground := .guard }], guard := some (30, true) },
  { dst := some 40, op := .load 3 (.tmp 39), type := 3, pos := "law.go:35", after := #[{ on := 32, ground := .data }, { on := 30, ground := .guard }], guard := some (30, true) },
  { dst := some 41, op := .call { callee := .value (.func 16), args := #[.tmp 38, .tmp 40], argTypes := #[26, 3] }, type := 3, pos := "law.go:35", after := #[{ on := 31, ground := .data }, { on := 33, ground := .data }, { on := 30, ground := .chain }, { on := 30, ground := .guard }], guard := some (30, true) },
  { dst := some 42, op := .load 26 (.tmp 4), type := 26, pos := "law.go:35", after := #[{ on := 30, ground := .guard }], guard := some (30, true) },
  { dst := some 43, op := .indexAddr 27 (.tmp 5) (.const (.int .i64 1)), type := 0, pos := "law.go:35", after := #[{ on := 30, ground := .guard }], guard := some (30, true) },
  { dst := some 44, op := .load 3 (.tmp 43), type := 3, pos := "law.go:35", after := #[{ on := 36, ground := .data }, { on := 30, ground := .guard }], guard := some (30, true) },
  { dst := some 45, op := .call { callee := .value (.func 17), args := #[.tmp 42, .tmp 44], argTypes := #[26, 3] }, type := 3, pos := "law.go:35", after := #[{ on := 35, ground := .data }, { on := 37, ground := .data }, { on := 34, ground := .chain }, { on := 30, ground := .guard }], guard := some (30, true) },
  { dst := some 46, op := .binOp .eql 3 (.tmp 41) (.tmp 45) 3, type := 4, pos := "law.go:35", after := #[{ on := 34, ground := .data }, { on := 38, ground := .data }, { on := 30, ground := .guard }], guard := some (30, true) },
  { dst := some 47, op := .pick (.tmp 37) (.tmp 46) (.const (.bool false)), type := 4, pos := "law.go:35", after := #[{ on := 30, ground := .data }, { on := 39, ground := .data }], guard := none },
  { dst := some 48, op := .move (.tmp 47), type := 4, pos := "law.go:35", after := #[{ on := 40, ground := .data }, { on := 38, ground := .chain }], guard := none },
  { dst := some 49, op := .call { callee := .value (.func 18), args := #[], argTypes := #[] }, type := 4, pos := "law.go:35", after := #[{ on := 41, ground := .chain }, { on := 41, ground := .guard }], guard := some (41, true) },
  { dst := some 50, op := .pick (.tmp 48) (.tmp 49) (.const (.bool false)), type := 4, pos := "law.go:35", after := #[{ on := 41, ground := .data }, { on := 42, ground := .data }], guard := none },
  { dst := some 6, op := .assign (.tmp 50), type := 4, pos := "law.go:35", after := #[{ on := 43, ground := .data }, { on := 42, ground := .chain }, { on := 0, ground := .phase }, { on := 1, ground := .phase }, { on := 2, ground := .phase }, { on := 3, ground := .phase }, { on := 4, ground := .phase }, { on := 5, ground := .phase }, { on := 6, ground := .phase }, { on := 7, ground := .phase }, { on := 8, ground := .phase }, { on := 9, ground := .phase }, { on := 10, ground := .phase }, { on := 11, ground := .phase }, { on := 12, ground := .phase }, { on := 13, ground := .phase }, { on := 14, ground := .phase }, { on := 15, ground := .phase }, { on := 16, ground := .phase }, { on := 17, ground := .phase }, { on := 18, ground := .phase }, { on := 19, ground := .phase }, { on := 20, ground := .phase }, { on := 21, ground := .phase }, { on := 22, ground := .phase }, { on := 23, ground := .phase }, { on := 24, ground := .phase }, { on := 25, ground := .phase }, { on := 26, ground := .phase }, { on := 27, ground := .phase }, { on := 28, ground := .phase }, { on := 29, ground := .phase }, { on := 30, ground := .phase }, { on := 31, ground := .phase }, { on := 32, ground := .phase }, { on := 33, ground := .phase }, { on := 34, ground := .phase }, { on := 35, ground := .phase }, { on := 36, ground := .phase }, { on := 37, ground := .phase }, { on := 38, ground := .phase }, { on := 39, ground := .phase }, { on := 40, ground := .phase }, { on := 41, ground := .phase }, { on := 42, ground := .phase }, { on := 43, ground := .phase }], guard := none }]
theorem says1_plain : Region.noSelect says1 = true := by kernel_rfl


namespace Law23
set_option maxHeartbeats 8000000 in
set_option maxRecDepth 100000 in
theorem Says_all (cs : List Value) (rf : List Bool) (K : Bk cs rf) (al : List Bool) (hl : al.length = 22) (a c : Int) (w : World) (n : PairsAt w) :
    Calls Tryd.prog 3 #[.agg (bk cs rf), .agg (bl al), .agg #[.int .i64 a, .int .i64 c]] w fun e w' => e = .returned (.bool true) ∧ Below w.heap.size w w' := by
  have L1 := Lib.hid (fun w n => Lan23.Alive_any cs rf K a w n)
  have R1 := Lib.hid (fun w => Ref23.Alive_any cs rf K a w)
  have L2 := Lib.hid (fun w n => Lan23.Any_any al hl w n)
  have R2 := Lib.hid (fun w => Ref23.Any_any al hl w)
  have L3 := Lib.hid (fun w n => Lan23.Excluded_any al hl w n)
  have R3 := Lib.hid (fun w => Ref23.Excluded_any al hl w)
  have L4 := Lib.hid (fun w n => Lan23.Ambiguous_any al hl w n)
  have R4 := Lib.hid (fun w => Ref23.Ambiguous_any al hl w)
  have L5 := Lib.hid (fun w n => Lan23.Blamed_any al hl c w n)
  have R5 := Lib.hid (fun w => Ref23.Blamed_any al hl c w)
  have AW := Lib.hid awake_any
  have same := same22 (Hyp.aliveL rf a) (Hyp.aliveL_len rf a)
  have iB := info30 K
  have iA := info22 hl
  generalize bl (Hyp.aliveL rf a) = arr2 at *
  generalize bk cs rf = barr at *
  generalize bl al = arr at *
  generalize Hyp.any al = q1 at *
  generalize (Hyp.exc al : Int) = q2 at *
  generalize Hyp.amb al = q3 at *
  generalize (Hyp.blm (Hyp.livN al 22) c : Int) = q4 at *
  obtain ⟨W0, hW0⟩ : ∃ W0, W0 = ((w.alloc (.cells barr 25)).alloc (.cells arr 26)).alloc (.cells #[.int .i64 a, .int .i64 c] 27) := ⟨_, rfl⟩
  have B0 : Below w.heap.size w W0 := hW0 ▸ below3 w _ _ _
  have PN : Hid (∀ w', Below W0.heap.size W0 w' → PairsAt w') := Lib.hid fun w' h => n.keep (belowT B0 h)
  have RB : ∀ w', Below W0.heap.size W0 w' → w'.rangeAt w.heap.size 0 barr.toList := fun w' h => range_keep (by rw [hW0]; exact range_keep (range_keep (range_new w barr _) (below1 _ _)) (below1 _ _)) h
  have RA : ∀ w', Below W0.heap.size W0 w' → w'.rangeAt (w.heap.size + 1) 0 arr.toList := fun w' h => range_keep (by
    rw [hW0]
    have := range_new (w.alloc (.cells barr 25)) arr 26
    rw [heap1] at this
    exact range_keep this (below1 _ _)) h
  have c0 : ∀ w', Below W0.heap.size W0 w' → w'.cell? ⟨w.heap.size + 2, 0, none⟩ = some (.int .i64 a) := fun w' h => keepc h (by rw [hW0]; exact (own2c w _ _ _ _ _).c0)
  have c1 : ∀ w', Below W0.heap.size W0 w' → w'.cell? ⟨w.heap.size + 2, 1, none⟩ = some (.int .i64 c) := fun w' h => keepc h (by rw [hW0]; exact (own2c w _ _ _ _ _).c1)
  go_enter Tryd.func3, Tryd.ntmps3
  go_upto_region 1 with fail
  rw [← hW0]
  clear hW0
  change (Code.region 1 says1 true).wp Tryd.prog _ _ _
  refine wp_region_noPanic ?_
  refine wp_region_held_drew (S := fun w' => Below W0.heap.size W0 w') (by kernel_rfl) ((Below.refl _ _).drew) (fun hHeld => ?_)
  refine wpAnyH_take (i := 0) (oi := ({ dst := some 7, op := .load 25 (.tmp 3), type := 25, pos := "law.go:35", after := #[], guard := none } : Oper)) rfl says1_plain (by as_aux_lemma => kernel_rfl) (by as_aux_lemma => kernel_rfl) (fun _ _ _ h => h) (yields_load (by rfl) 25 _ rfl _ _ rfl _ _ RB Tryd.underlying25 rfl iB) (by assumption) ?_
  try simp only [Act.put, List.setIfInBounds_toArray, List.set_cons_zero, List.set_cons_succ]
  refine wpAnyH_take (i := 1) (oi := ({ dst := some 8, op := .indexAddr 27 (.tmp 5) (.const (.int .i64 0)), type := 0, pos := "law.go:35", after := #[], guard := none } : Oper)) (v := ?vs1_1) rfl says1_plain (by as_aux_lemma => kernel_rfl) (by as_aux_lemma => kernel_rfl) (fun _ _ _ h => h) (Or.inl ⟨by rfl, ?ys1_1⟩) (by assumption) ?rs1_1
  case ys1_1 => (intro w hSw; (try dsimp only at hSw); go_simp; try with_reducible rfl)
  try simp only [Act.put, List.setIfInBounds_toArray, List.set_cons_zero, List.set_cons_succ]
  refine wpAnyH_take (i := 2) (oi := ({ dst := some 9, op := .load 3 (.tmp 8), type := 3, pos := "law.go:35", after := #[{ on := 1, ground := .data }], guard := none } : Oper)) (v := ?vs1_2) rfl says1_plain (by as_aux_lemma => kernel_rfl) (by as_aux_lemma => kernel_rfl) (fun _ _ _ h => h) (Or.inl ⟨by rfl, ?ys1_2⟩) (by assumption) ?rs1_2
  case ys1_2 => (intro w hSw; (try dsimp only at hSw); go_simp; try with_reducible rfl)
  try simp only [Act.put, List.setIfInBounds_toArray, List.set_cons_zero, List.set_cons_succ]
  refine wpAnyH_take (i := 4) (oi := ({ dst := some 11, op := .load 25 (.tmp 3), type := 25, pos := "law.go:35", after := #[], guard := none } : Oper)) rfl says1_plain (by as_aux_lemma => kernel_rfl) (by as_aux_lemma => kernel_rfl) (fun _ _ _ h => h) (yields_load (by rfl) 25 _ rfl _ _ rfl _ _ RB Tryd.underlying25 rfl iB) (by assumption) ?_
  try simp only [Act.put, List.setIfInBounds_toArray, List.set_cons_zero, List.set_cons_succ]
  refine wpAnyH_take (i := 5) (oi := ({ dst := some 12, op := .indexAddr 27 (.tmp 5) (.const (.int .i64 0)), type := 0, pos := "law.go:35", after := #[], guard := none } : Oper)) (v := ?vs1_5) rfl says1_plain (by as_aux_lemma => kernel_rfl) (by as_aux_lemma => kernel_rfl) (fun _ _ _ h => h) (Or.inl ⟨by rfl, ?ys1_5⟩) (by assumption) ?rs1_5
  case ys1_5 => (intro w hSw; (try dsimp only at hSw); go_simp; try with_reducible rfl)
  try simp only [Act.put, List.setIfInBounds_toArray, List.set_cons_zero, List.set_cons_succ]
  refine wpAnyH_take (i := 6) (oi := ({ dst := some 13, op := .load 3 (.tmp 12), type := 3, pos := "law.go:35", after := #[{ on := 5, ground := .data }], guard := none } : Oper)) (v := ?vs1_6) rfl says1_plain (by as_aux_lemma => kernel_rfl) (by as_aux_lemma => kernel_rfl) (fun _ _ _ h => h) (Or.inl ⟨by rfl, ?ys1_6⟩) (by assumption) ?rs1_6
  case ys1_6 => (intro w hSw; (try dsimp only at hSw); go_simp; try with_reducible rfl)
  try simp only [Act.put, List.setIfInBounds_toArray, List.set_cons_zero, List.set_cons_succ]
  refine wpAnyH_ready (rs := [3]) (by as_aux_lemma => kernel_rfl) (by simp) ?_
  refine AllReadyH.cons (o := ({ dst := some 10, op := .call { callee := .value (.func 8), args := #[.tmp 7, .tmp 9], argTypes := #[25, 3] }, type := 26, pos := "law.go:35", after := #[{ on := 0, ground := .data }, { on := 2, ground := .data }], guard := none } : Oper)) rfl (fun KK hK => ?_) AllReadyH.nil
  rw [if_pos (by rfl)]
  go_simp
  go_at_call 8; refine (L1.out _ (PN.out _ (by assumption))).mono ?_; rintro e w1 ⟨rfl, hb1⟩
  go_wp2_with fail
  refine hK.out _ _ ?_ (fun hHeld1 => ?_)
  · exact belowT (by assumption) hb1
  clear hK KK hb1
  try simp only [Act.put, List.setIfInBounds_toArray, List.set_cons_zero, List.set_cons_succ]
  refine wpAnyH_ready (rs := [7]) (by as_aux_lemma => kernel_rfl) (by simp) ?_
  refine AllReadyH.cons (o := ({ dst := some 14, op := .call { callee := .value (.func 9), args := #[.tmp 11, .tmp 13], argTypes := #[25, 3] }, type := 26, pos := "law.go:35", after := #[{ on := 4, ground := .data }, { on := 6, ground := .data }, { on := 3, ground := .chain }], guard := none } : Oper)) rfl (fun KK hK => ?_) AllReadyH.nil
  rw [if_pos (by rfl)]
  go_simp
  go_at_call 9; refine (R1.out _).mono ?_; rintro e w2 ⟨rfl, hb2⟩
  go_wp2_with fail
  refine hK.out _ _ ?_ (fun hHeld2 => ?_)
  · exact belowT (by assumption) hb2
  clear hK KK hb2 hHeld1
  try simp only [Act.put, List.setIfInBounds_toArray, List.set_cons_zero, List.set_cons_succ]
  refine wpAnyH_take (i := 8) (oi := ({ dst := some 15, op := .binOp .eql 26 (.tmp 10) (.tmp 14) 26, type := 4, pos := "law.go:35", after := #[{ on := 3, ground := .data }, { on := 7, ground := .data }], guard := none } : Oper)) (v := ?vs1_8) rfl says1_plain (by as_aux_lemma => kernel_rfl) (by as_aux_lemma => kernel_rfl) (fun _ _ _ h => h) (Or.inl ⟨by rfl, ?ys1_8⟩) (by assumption) ?rs1_8
  case ys1_8 => (intro w hSw; (try dsimp only at hSw); go_simp; try with_reducible rfl)
  try simp only [Act.put, List.setIfInBounds_toArray, List.set_cons_zero, List.set_cons_succ]
  refine wpAnyH_take (i := 9) (oi := ({ dst := some 16, op := .move (.tmp 15), type := 4, pos := "law.go:35", after := #[{ on := 8, ground := .data }, { on := 7, ground := .chain }], guard := none } : Oper)) (v := ?vs1_9) rfl says1_plain (by as_aux_lemma => kernel_rfl) (by as_aux_lemma => kernel_rfl) (fun _ _ _ h => h) (Or.inl ⟨by rfl, ?ys1_9⟩) (by assumption) ?rs1_9
  case ys1_9 => (intro w hSw; (try dsimp only at hSw); go_simp; try with_reducible rfl)
  try simp only [Act.put, List.setIfInBounds_toArray, List.set_cons_zero, List.set_cons_succ]
  refine wpAnyH_take (i := 10) (oi := ({ dst := some 17, op := .load 26 (.tmp 4), type := 26, pos := "law.go:35", after := #[{ on := 9, ground := .guard }], guard := some (9, true) } : Oper)) rfl says1_plain (by as_aux_lemma => kernel_rfl) (by as_aux_lemma => kernel_rfl) (fun _ _ _ h => h) (yields_load (by rfl) 26 _ rfl _ _ rfl _ _ RA Tryd.underlying26 rfl iA) (by assumption) ?_
  try simp only [Act.put, List.setIfInBounds_toArray, List.set_cons_zero, List.set_cons_succ]
  refine wpAnyH_take (i := 12) (oi := ({ dst := some 19, op := .load 26 (.tmp 4), type := 26, pos := "law.go:35", after := #[{ on := 9, ground := .guard }], guard := some (9, true) } : Oper)) rfl says1_plain (by as_aux_lemma => kernel_rfl) (by as_aux_lemma => kernel_rfl) (fun _ _ _ h => h) (yields_load (by rfl) 26 _ rfl _ _ rfl _ _ RA Tryd.underlying26 rfl iA) (by assumption) ?_
  try simp only [Act.put, List.setIfInBounds_toArray, List.set_cons_zero, List.set_cons_succ]
  refine wpAnyH_ready (rs := [11]) (by as_aux_lemma => kernel_rfl) (by simp) ?_
  refine AllReadyH.cons (o := ({ dst := some 18, op := .call { callee := .value (.func 10), args := #[.tmp 17], argTypes := #[26] }, type := 4, pos := "law.go:35", after := #[{ on := 10, ground := .data }, { on := 9, ground := .chain }, { on := 9, ground := .guard }], guard := some (9, true) } : Oper)) rfl (fun KK hK => ?_) AllReadyH.nil
  rw [if_pos (by rfl)]
  go_simp
  go_at_call 10; refine (L2.out _ (PN.out _ (by assumption))).mono ?_; rintro e w3 ⟨rfl, hb3⟩
  go_wp2_with fail
  refine hK.out _ _ ?_ (fun hHeld3 => ?_)
  · exact belowT (by assumption) hb3
  clear hK KK hb3 hHeld2
  try simp only [Act.put, List.setIfInBounds_toArray, List.set_cons_zero, List.set_cons_succ]
  refine wpAnyH_ready (rs := [13]) (by as_aux_lemma => kernel_rfl) (by simp) ?_
  refine AllReadyH.cons (o := ({ dst := some 20, op := .call { callee := .value (.func 11), args := #[.tmp 19], argTypes := #[26] }, type := 4, pos := "law.go:35", after := #[{ on := 12, ground := .data }, { on := 11, ground := .chain }, { on := 9, ground := .guard }], guard := some (9, true) } : Oper)) rfl (fun KK hK => ?_) AllReadyH.nil
  rw [if_pos (by rfl)]
  go_simp
  go_at_call 11; refine (R2.out _).mono ?_; rintro e w4 ⟨rfl, hb4⟩
  go_wp2_with fail
  refine hK.out _ _ ?_ (fun hHeld4 => ?_)
  · exact belowT (by assumption) hb4
  clear hK KK hb4 hHeld3
  try simp only [Act.put, List.setIfInBounds_toArray, List.set_cons_zero, List.set_cons_succ]
  refine wpAnyH_take (i := 14) (oi := ({ dst := some 21, op := .binOp .eql 4 (.tmp 18) (.tmp 20) 4, type := 4, pos := "law.go:35", after := #[{ on := 11, ground := .data }, { on := 13, ground := .data }, { on := 9, ground := .guard }], guard := some (9, true) } : Oper)) (v := ?vs1_14) rfl says1_plain (by as_aux_lemma => kernel_rfl) (by as_aux_lemma => kernel_rfl) (fun _ _ _ h => h) (Or.inl ⟨by rfl, ?ys1_14⟩) (by assumption) ?rs1_14
  case ys1_14 => (intro w hSw; (try dsimp only at hSw); go_simp; try with_reducible rfl)
  try simp only [Act.put, List.setIfInBounds_toArray, List.set_cons_zero, List.set_cons_succ]
  refine wpAnyH_take (i := 15) (oi := ({ dst := some 22, op := .pick (.tmp 16) (.tmp 21) (.const (.bool false)), type := 4, pos := "law.go:35", after := #[{ on := 9, ground := .data }, { on := 14, ground := .data }], guard := none } : Oper)) (v := ?vs1_15) rfl says1_plain (by as_aux_lemma => kernel_rfl) (by as_aux_lemma => kernel_rfl) (fun _ _ _ h => h) (Or.inl ⟨by rfl, ?ys1_15⟩) (by assumption) ?rs1_15
  case ys1_15 => (intro w hSw; (try dsimp only at hSw); go_simp; try with_reducible rfl)
  try simp only [Act.put, List.setIfInBounds_toArray, List.set_cons_zero, List.set_cons_succ]
  refine wpAnyH_take (i := 16) (oi := ({ dst := some 23, op := .move (.tmp 22), type := 4, pos := "law.go:35", after := #[{ on := 15, ground := .data }, { on := 13, ground := .chain }], guard := none } : Oper)) (v := ?vs1_16) rfl says1_plain (by as_aux_lemma => kernel_rfl) (by as_aux_lemma => kernel_rfl) (fun _ _ _ h => h) (Or.inl ⟨by rfl, ?ys1_16⟩) (by assumption) ?rs1_16
  case ys1_16 => (intro w hSw; (try dsimp only at hSw); go_simp; try with_reducible rfl)
  try simp only [Act.put, List.setIfInBounds_toArray, List.set_cons_zero, List.set_cons_succ]
  refine wpAnyH_take (i := 17) (oi := ({ dst := some 24, op := .load 26 (.tmp 4), type := 26, pos := "law.go:35", after := #[{ on := 16, ground := .guard }], guard := some (16, true) } : Oper)) rfl says1_plain (by as_aux_lemma => kernel_rfl) (by as_aux_lemma => kernel_rfl) (fun _ _ _ h => h) (yields_load (by rfl) 26 _ rfl _ _ rfl _ _ RA Tryd.underlying26 rfl iA) (by assumption) ?_
  try simp only [Act.put, List.setIfInBounds_toArray, List.set_cons_zero, List.set_cons_succ]
  refine wpAnyH_take (i := 19) (oi := ({ dst := some 26, op := .load 26 (.tmp 4), type := 26, pos := "law.go:35", after := #[{ on := 16, ground := .guard }], guard := some (16, true) } : Oper)) rfl says1_plain (by as_aux_lemma => kernel_rfl) (by as_aux_lemma => kernel_rfl) (fun _ _ _ h => h) (yields_load (by rfl) 26 _ rfl _ _ rfl _ _ RA Tryd.underlying26 rfl iA) (by assumption) ?_
  try simp only [Act.put, List.setIfInBounds_toArray, List.set_cons_zero, List.set_cons_succ]
  refine wpAnyH_ready (rs := [18]) (by as_aux_lemma => kernel_rfl) (by simp) ?_
  refine AllReadyH.cons (o := ({ dst := some 25, op := .call { callee := .value (.func 12), args := #[.tmp 24], argTypes := #[26] }, type := 3, pos := "law.go:35", after := #[{ on := 17, ground := .data }, { on := 16, ground := .chain }, { on := 16, ground := .guard }], guard := some (16, true) } : Oper)) rfl (fun KK hK => ?_) AllReadyH.nil
  rw [if_pos (by rfl)]
  go_simp
  go_at_call 12; refine (L3.out _ (PN.out _ (by assumption))).mono ?_; rintro e w5 ⟨rfl, hb5⟩
  go_wp2_with fail
  refine hK.out _ _ ?_ (fun hHeld5 => ?_)
  · exact belowT (by assumption) hb5
  clear hK KK hb5 hHeld4
  try simp only [Act.put, List.setIfInBounds_toArray, List.set_cons_zero, List.set_cons_succ]
  refine wpAnyH_ready (rs := [20]) (by as_aux_lemma => kernel_rfl) (by simp) ?_
  refine AllReadyH.cons (o := ({ dst := some 27, op := .call { callee := .value (.func 13), args := #[.tmp 26], argTypes := #[26] }, type := 3, pos := "law.go:35", after := #[{ on := 19, ground := .data }, { on := 18, ground := .chain }, { on := 16, ground := .guard }], guard := some (16, true) } : Oper)) rfl (fun KK hK => ?_) AllReadyH.nil
  rw [if_pos (by rfl)]
  go_simp
  go_at_call 13; refine (R3.out _).mono ?_; rintro e w6 ⟨rfl, hb6⟩
  go_wp2_with fail
  refine hK.out _ _ ?_ (fun hHeld6 => ?_)
  · exact belowT (by assumption) hb6
  clear hK KK hb6 hHeld5
  try simp only [Act.put, List.setIfInBounds_toArray, List.set_cons_zero, List.set_cons_succ]
  refine wpAnyH_take (i := 21) (oi := ({ dst := some 28, op := .binOp .eql 3 (.tmp 25) (.tmp 27) 3, type := 4, pos := "law.go:35", after := #[{ on := 18, ground := .data }, { on := 20, ground := .data }, { on := 16, ground := .guard }], guard := some (16, true) } : Oper)) (v := ?vs1_21) rfl says1_plain (by as_aux_lemma => kernel_rfl) (by as_aux_lemma => kernel_rfl) (fun _ _ _ h => h) (Or.inl ⟨by rfl, ?ys1_21⟩) (by assumption) ?rs1_21
  case ys1_21 => (intro w hSw; (try dsimp only at hSw); go_simp; try with_reducible rfl)
  try simp only [Act.put, List.setIfInBounds_toArray, List.set_cons_zero, List.set_cons_succ]
  refine wpAnyH_take (i := 22) (oi := ({ dst := some 29, op := .pick (.tmp 23) (.tmp 28) (.const (.bool false)), type := 4, pos := "law.go:35", after := #[{ on := 16, ground := .data }, { on := 21, ground := .data }], guard := none } : Oper)) (v := ?vs1_22) rfl says1_plain (by as_aux_lemma => kernel_rfl) (by as_aux_lemma => kernel_rfl) (fun _ _ _ h => h) (Or.inl ⟨by rfl, ?ys1_22⟩) (by assumption) ?rs1_22
  case ys1_22 => (intro w hSw; (try dsimp only at hSw); go_simp; try with_reducible rfl)
  try simp only [Act.put, List.setIfInBounds_toArray, List.set_cons_zero, List.set_cons_succ]
  refine wpAnyH_take (i := 23) (oi := ({ dst := some 30, op := .move (.tmp 29), type := 4, pos := "law.go:35", after := #[{ on := 22, ground := .data }, { on := 20, ground := .chain }], guard := none } : Oper)) (v := ?vs1_23) rfl says1_plain (by as_aux_lemma => kernel_rfl) (by as_aux_lemma => kernel_rfl) (fun _ _ _ h => h) (Or.inl ⟨by rfl, ?ys1_23⟩) (by assumption) ?rs1_23
  case ys1_23 => (intro w hSw; (try dsimp only at hSw); go_simp; try with_reducible rfl)
  try simp only [Act.put, List.setIfInBounds_toArray, List.set_cons_zero, List.set_cons_succ]
  refine wpAnyH_take (i := 24) (oi := ({ dst := some 31, op := .load 26 (.tmp 4), type := 26, pos := "law.go:35", after := #[{ on := 23, ground := .guard }], guard := some (23, true) } : Oper)) rfl says1_plain (by as_aux_lemma => kernel_rfl) (by as_aux_lemma => kernel_rfl) (fun _ _ _ h => h) (yields_load (by rfl) 26 _ rfl _ _ rfl _ _ RA Tryd.underlying26 rfl iA) (by assumption) ?_
  try simp only [Act.put, List.setIfInBounds_toArray, List.set_cons_zero, List.set_cons_succ]
  refine wpAnyH_take (i := 26) (oi := ({ dst := some 33, op := .load 26 (.tmp 4), type := 26, pos := "law.go:35", after := #[{ on := 23, ground := .guard }], guard := some (23, true) } : Oper)) rfl says1_plain (by as_aux_lemma => kernel_rfl) (by as_aux_lemma => kernel_rfl) (fun _ _ _ h => h) (yields_load (by rfl) 26 _ rfl _ _ rfl _ _ RA Tryd.underlying26 rfl iA) (by assumption) ?_
  try simp only [Act.put, List.setIfInBounds_toArray, List.set_cons_zero, List.set_cons_succ]
  refine wpAnyH_ready (rs := [25]) (by as_aux_lemma => kernel_rfl) (by simp) ?_
  refine AllReadyH.cons (o := ({ dst := some 32, op := .call { callee := .value (.func 14), args := #[.tmp 31], argTypes := #[26] }, type := 4, pos := "law.go:35", after := #[{ on := 24, ground := .data }, { on := 23, ground := .chain }, { on := 23, ground := .guard }], guard := some (23, true) } : Oper)) rfl (fun KK hK => ?_) AllReadyH.nil
  rw [if_pos (by rfl)]
  go_simp
  go_at_call 14; refine (L4.out _ (PN.out _ (by assumption))).mono ?_; rintro e w7 ⟨rfl, hb7⟩
  go_wp2_with fail
  refine hK.out _ _ ?_ (fun hHeld7 => ?_)
  · exact belowT (by assumption) hb7
  clear hK KK hb7 hHeld6
  try simp only [Act.put, List.setIfInBounds_toArray, List.set_cons_zero, List.set_cons_succ]
  refine wpAnyH_ready (rs := [27]) (by as_aux_lemma => kernel_rfl) (by simp) ?_
  refine AllReadyH.cons (o := ({ dst := some 34, op := .call { callee := .value (.func 15), args := #[.tmp 33], argTypes := #[26] }, type := 4, pos := "law.go:35", after := #[{ on := 26, ground := .data }, { on := 25, ground := .chain }, { on := 23, ground := .guard }], guard := some (23, true) } : Oper)) rfl (fun KK hK => ?_) AllReadyH.nil
  rw [if_pos (by rfl)]
  go_simp
  go_at_call 15; refine (R4.out _).mono ?_; rintro e w8 ⟨rfl, hb8⟩
  go_wp2_with fail
  refine hK.out _ _ ?_ (fun hHeld8 => ?_)
  · exact belowT (by assumption) hb8
  clear hK KK hb8 hHeld7
  try simp only [Act.put, List.setIfInBounds_toArray, List.set_cons_zero, List.set_cons_succ]
  refine wpAnyH_take (i := 28) (oi := ({ dst := some 35, op := .binOp .eql 4 (.tmp 32) (.tmp 34) 4, type := 4, pos := "law.go:35", after := #[{ on := 25, ground := .data }, { on := 27, ground := .data }, { on := 23, ground := .guard }], guard := some (23, true) } : Oper)) (v := ?vs1_28) rfl says1_plain (by as_aux_lemma => kernel_rfl) (by as_aux_lemma => kernel_rfl) (fun _ _ _ h => h) (Or.inl ⟨by rfl, ?ys1_28⟩) (by assumption) ?rs1_28
  case ys1_28 => (intro w hSw; (try dsimp only at hSw); go_simp; try with_reducible rfl)
  try simp only [Act.put, List.setIfInBounds_toArray, List.set_cons_zero, List.set_cons_succ]
  refine wpAnyH_take (i := 29) (oi := ({ dst := some 36, op := .pick (.tmp 30) (.tmp 35) (.const (.bool false)), type := 4, pos := "law.go:35", after := #[{ on := 23, ground := .data }, { on := 28, ground := .data }], guard := none } : Oper)) (v := ?vs1_29) rfl says1_plain (by as_aux_lemma => kernel_rfl) (by as_aux_lemma => kernel_rfl) (fun _ _ _ h => h) (Or.inl ⟨by rfl, ?ys1_29⟩) (by assumption) ?rs1_29
  case ys1_29 => (intro w hSw; (try dsimp only at hSw); go_simp; try with_reducible rfl)
  try simp only [Act.put, List.setIfInBounds_toArray, List.set_cons_zero, List.set_cons_succ]
  refine wpAnyH_take (i := 30) (oi := ({ dst := some 37, op := .move (.tmp 36), type := 4, pos := "law.go:35", after := #[{ on := 29, ground := .data }, { on := 27, ground := .chain }], guard := none } : Oper)) (v := ?vs1_30) rfl says1_plain (by as_aux_lemma => kernel_rfl) (by as_aux_lemma => kernel_rfl) (fun _ _ _ h => h) (Or.inl ⟨by rfl, ?ys1_30⟩) (by assumption) ?rs1_30
  case ys1_30 => (intro w hSw; (try dsimp only at hSw); go_simp; try with_reducible rfl)
  try simp only [Act.put, List.setIfInBounds_toArray, List.set_cons_zero, List.set_cons_succ]
  refine wpAnyH_take (i := 31) (oi := ({ dst := some 38, op := .load 26 (.tmp 4), type := 26, pos := "law.go:35", after := #[{ on := 30, ground := .guard }], guard := some (30, true) } : Oper)) rfl says1_plain (by as_aux_lemma => kernel_rfl) (by as_aux_lemma => kernel_rfl) (fun _ _ _ h => h) (yields_load (by rfl) 26 _ rfl _ _ rfl _ _ RA Tryd.underlying26 rfl iA) (by assumption) ?_
  try simp only [Act.put, List.setIfInBounds_toArray, List.set_cons_zero, List.set_cons_succ]
  refine wpAnyH_take (i := 32) (oi := ({ dst := some 39, op := .indexAddr 27 (.tmp 5) (.const (.int .i64 1)), type := 0, pos := "law.go:35", after := #[{ on := 30, ground := .guard }], guard := some (30, true) } : Oper)) (v := ?vs1_32) rfl says1_plain (by as_aux_lemma => kernel_rfl) (by as_aux_lemma => kernel_rfl) (fun _ _ _ h => h) (Or.inl ⟨by rfl, ?ys1_32⟩) (by assumption) ?rs1_32
  case ys1_32 => (intro w hSw; (try dsimp only at hSw); go_simp; try with_reducible rfl)
  try simp only [Act.put, List.setIfInBounds_toArray, List.set_cons_zero, List.set_cons_succ]
  refine wpAnyH_take (i := 33) (oi := ({ dst := some 40, op := .load 3 (.tmp 39), type := 3, pos := "law.go:35", after := #[{ on := 32, ground := .data }, { on := 30, ground := .guard }], guard := some (30, true) } : Oper)) (v := ?vs1_33) rfl says1_plain (by as_aux_lemma => kernel_rfl) (by as_aux_lemma => kernel_rfl) (fun _ _ _ h => h) (Or.inl ⟨by rfl, ?ys1_33⟩) (by assumption) ?rs1_33
  case ys1_33 => (intro w hSw; (try dsimp only at hSw); go_simp; try with_reducible rfl)
  try simp only [Act.put, List.setIfInBounds_toArray, List.set_cons_zero, List.set_cons_succ]
  refine wpAnyH_take (i := 35) (oi := ({ dst := some 42, op := .load 26 (.tmp 4), type := 26, pos := "law.go:35", after := #[{ on := 30, ground := .guard }], guard := some (30, true) } : Oper)) rfl says1_plain (by as_aux_lemma => kernel_rfl) (by as_aux_lemma => kernel_rfl) (fun _ _ _ h => h) (yields_load (by rfl) 26 _ rfl _ _ rfl _ _ RA Tryd.underlying26 rfl iA) (by assumption) ?_
  try simp only [Act.put, List.setIfInBounds_toArray, List.set_cons_zero, List.set_cons_succ]
  refine wpAnyH_take (i := 36) (oi := ({ dst := some 43, op := .indexAddr 27 (.tmp 5) (.const (.int .i64 1)), type := 0, pos := "law.go:35", after := #[{ on := 30, ground := .guard }], guard := some (30, true) } : Oper)) (v := ?vs1_36) rfl says1_plain (by as_aux_lemma => kernel_rfl) (by as_aux_lemma => kernel_rfl) (fun _ _ _ h => h) (Or.inl ⟨by rfl, ?ys1_36⟩) (by assumption) ?rs1_36
  case ys1_36 => (intro w hSw; (try dsimp only at hSw); go_simp; try with_reducible rfl)
  try simp only [Act.put, List.setIfInBounds_toArray, List.set_cons_zero, List.set_cons_succ]
  refine wpAnyH_take (i := 37) (oi := ({ dst := some 44, op := .load 3 (.tmp 43), type := 3, pos := "law.go:35", after := #[{ on := 36, ground := .data }, { on := 30, ground := .guard }], guard := some (30, true) } : Oper)) (v := ?vs1_37) rfl says1_plain (by as_aux_lemma => kernel_rfl) (by as_aux_lemma => kernel_rfl) (fun _ _ _ h => h) (Or.inl ⟨by rfl, ?ys1_37⟩) (by assumption) ?rs1_37
  case ys1_37 => (intro w hSw; (try dsimp only at hSw); go_simp; try with_reducible rfl)
  try simp only [Act.put, List.setIfInBounds_toArray, List.set_cons_zero, List.set_cons_succ]
  refine wpAnyH_ready (rs := [34]) (by as_aux_lemma => kernel_rfl) (by simp) ?_
  refine AllReadyH.cons (o := ({ dst := some 41, op := .call { callee := .value (.func 16), args := #[.tmp 38, .tmp 40], argTypes := #[26, 3] }, type := 3, pos := "law.go:35", after := #[{ on := 31, ground := .data }, { on := 33, ground := .data }, { on := 30, ground := .chain }, { on := 30, ground := .guard }], guard := some (30, true) } : Oper)) rfl (fun KK hK => ?_) AllReadyH.nil
  rw [if_pos (by rfl)]
  go_simp
  go_at_call 16; refine (L5.out _ (PN.out _ (by assumption))).mono ?_; rintro e w9 ⟨rfl, hb9⟩
  go_wp2_with fail
  refine hK.out _ _ ?_ (fun hHeld9 => ?_)
  · exact belowT (by assumption) hb9
  clear hK KK hb9 hHeld8
  try simp only [Act.put, List.setIfInBounds_toArray, List.set_cons_zero, List.set_cons_succ]
  refine wpAnyH_ready (rs := [38]) (by as_aux_lemma => kernel_rfl) (by simp) ?_
  refine AllReadyH.cons (o := ({ dst := some 45, op := .call { callee := .value (.func 17), args := #[.tmp 42, .tmp 44], argTypes := #[26, 3] }, type := 3, pos := "law.go:35", after := #[{ on := 35, ground := .data }, { on := 37, ground := .data }, { on := 34, ground := .chain }, { on := 30, ground := .guard }], guard := some (30, true) } : Oper)) rfl (fun KK hK => ?_) AllReadyH.nil
  rw [if_pos (by rfl)]
  go_simp
  go_at_call 17; refine (R5.out _).mono ?_; rintro e w10 ⟨rfl, hb10⟩
  go_wp2_with fail
  refine hK.out _ _ ?_ (fun hHeld10 => ?_)
  · exact belowT (by assumption) hb10
  clear hK KK hb10 hHeld9
  try simp only [Act.put, List.setIfInBounds_toArray, List.set_cons_zero, List.set_cons_succ]
  refine wpAnyH_take (i := 39) (oi := ({ dst := some 46, op := .binOp .eql 3 (.tmp 41) (.tmp 45) 3, type := 4, pos := "law.go:35", after := #[{ on := 34, ground := .data }, { on := 38, ground := .data }, { on := 30, ground := .guard }], guard := some (30, true) } : Oper)) (v := ?vs1_39) rfl says1_plain (by as_aux_lemma => kernel_rfl) (by as_aux_lemma => kernel_rfl) (fun _ _ _ h => h) (Or.inl ⟨by rfl, ?ys1_39⟩) (by assumption) ?rs1_39
  case ys1_39 => (intro w hSw; (try dsimp only at hSw); go_simp; try with_reducible rfl)
  try simp only [Act.put, List.setIfInBounds_toArray, List.set_cons_zero, List.set_cons_succ]
  refine wpAnyH_take (i := 40) (oi := ({ dst := some 47, op := .pick (.tmp 37) (.tmp 46) (.const (.bool false)), type := 4, pos := "law.go:35", after := #[{ on := 30, ground := .data }, { on := 39, ground := .data }], guard := none } : Oper)) (v := ?vs1_40) rfl says1_plain (by as_aux_lemma => kernel_rfl) (by as_aux_lemma => kernel_rfl) (fun _ _ _ h => h) (Or.inl ⟨by rfl, ?ys1_40⟩) (by assumption) ?rs1_40
  case ys1_40 => (intro w hSw; (try dsimp only at hSw); go_simp; try with_reducible rfl)
  try simp only [Act.put, List.setIfInBounds_toArray, List.set_cons_zero, List.set_cons_succ]
  refine wpAnyH_take (i := 41) (oi := ({ dst := some 48, op := .move (.tmp 47), type := 4, pos := "law.go:35", after := #[{ on := 40, ground := .data }, { on := 38, ground := .chain }], guard := none } : Oper)) (v := ?vs1_41) rfl says1_plain (by as_aux_lemma => kernel_rfl) (by as_aux_lemma => kernel_rfl) (fun _ _ _ h => h) (Or.inl ⟨by rfl, ?ys1_41⟩) (by assumption) ?rs1_41
  case ys1_41 => (intro w hSw; (try dsimp only at hSw); go_simp; try with_reducible rfl)
  try simp only [Act.put, List.setIfInBounds_toArray, List.set_cons_zero, List.set_cons_succ]
  refine wpAnyH_ready (rs := [42]) (by as_aux_lemma => kernel_rfl) (by simp) ?_
  refine AllReadyH.cons (o := ({ dst := some 49, op := .call { callee := .value (.func 18), args := #[], argTypes := #[] }, type := 4, pos := "law.go:35", after := #[{ on := 41, ground := .chain }, { on := 41, ground := .guard }], guard := some (41, true) } : Oper)) rfl (fun KK hK => ?_) AllReadyH.nil
  rw [if_pos (by rfl)]
  go_simp
  go_at_call 18; refine (AW.out _ (PN.out _ (by assumption))).mono ?_; rintro e w11 ⟨rfl, hb11⟩
  go_wp2_with fail
  refine hK.out _ _ ?_ (fun hHeld11 => ?_)
  · exact belowT (by assumption) hb11
  clear hK KK hb11 hHeld10
  try simp only [Act.put, List.setIfInBounds_toArray, List.set_cons_zero, List.set_cons_succ]
  refine wpAnyH_take (i := 43) (oi := ({ dst := some 50, op := .pick (.tmp 48) (.tmp 49) (.const (.bool false)), type := 4, pos := "law.go:35", after := #[{ on := 41, ground := .data }, { on := 42, ground := .data }], guard := none } : Oper)) (v := ?vs1_43) rfl says1_plain (by as_aux_lemma => kernel_rfl) (by as_aux_lemma => kernel_rfl) (fun _ _ _ h => h) (Or.inl ⟨by rfl, ?ys1_43⟩) (by assumption) ?rs1_43
  case ys1_43 => (intro w hSw; (try dsimp only at hSw); go_simp; try with_reducible rfl)
  try simp only [Act.put, List.setIfInBounds_toArray, List.set_cons_zero, List.set_cons_succ]
  refine wpAnyH_take (i := 44) (oi := ({ dst := some 6, op := .assign (.tmp 50), type := 4, pos := "law.go:35", after := #[{ on := 43, ground := .data }, { on := 42, ground := .chain }, { on := 0, ground := .phase }, { on := 1, ground := .phase }, { on := 2, ground := .phase }, { on := 3, ground := .phase }, { on := 4, ground := .phase }, { on := 5, ground := .phase }, { on := 6, ground := .phase }, { on := 7, ground := .phase }, { on := 8, ground := .phase }, { on := 9, ground := .phase }, { on := 10, ground := .phase }, { on := 11, ground := .phase }, { on := 12, ground := .phase }, { on := 13, ground := .phase }, { on := 14, ground := .phase }, { on := 15, ground := .phase }, { on := 16, ground := .phase }, { on := 17, ground := .phase }, { on := 18, ground := .phase }, { on := 19, ground := .phase }, { on := 20, ground := .phase }, { on := 21, ground := .phase }, { on := 22, ground := .phase }, { on := 23, ground := .phase }, { on := 24, ground := .phase }, { on := 25, ground := .phase }, { on := 26, ground := .phase }, { on := 27, ground := .phase }, { on := 28, ground := .phase }, { on := 29, ground := .phase }, { on := 30, ground := .phase }, { on := 31, ground := .phase }, { on := 32, ground := .phase }, { on := 33, ground := .phase }, { on := 34, ground := .phase }, { on := 35, ground := .phase }, { on := 36, ground := .phase }, { on := 37, ground := .phase }, { on := 38, ground := .phase }, { on := 39, ground := .phase }, { on := 40, ground := .phase }, { on := 41, ground := .phase }, { on := 42, ground := .phase }, { on := 43, ground := .phase }], guard := none } : Oper)) (v := ?vs1_44) rfl says1_plain (by as_aux_lemma => kernel_rfl) (by as_aux_lemma => kernel_rfl) (fun _ _ _ h => h) (Or.inl ⟨by rfl, ?ys1_44⟩) (by assumption) ?rs1_44
  case ys1_44 => (intro w hSw; (try dsimp only at hSw); go_simp; try with_reducible rfl)
  try simp only [Act.put, List.setIfInBounds_toArray, List.set_cons_zero, List.set_cons_succ]
  refine wpAnyH_done (by as_aux_lemma => kernel_rfl) ?_ _
  refine NoPanic.normal ?_
  go_wp2
  go_ret
  exact ⟨rfl, belowT B0 (by assumption)⟩
end Law23
end Go.Proofs.YtaooigldchojcaaDoor
