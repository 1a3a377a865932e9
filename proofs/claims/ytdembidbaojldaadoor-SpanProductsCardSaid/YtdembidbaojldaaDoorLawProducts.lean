/- SpanProducts: the walk. -/
import Derived.Test.YtdembidbaojldaaDoorLawAdds
import Derived.Test.YtdembidbaojldaaDoorSpanD
namespace Go.Proofs.YtdembidbaojldaaDoor
open Go.RowKit

/-- The operations of a drawn region, as the translation has them. -/
def products11 : Array Oper := #[
  { dst := some 73, op := .move (.tmp 15), type := 30, pos := "law.go:91", after := #[], guard := none },
  { dst := some 74, op := .binOp .eql 30 (.tmp 73) (.const (.int .i64 0)) 30, type := 4, pos := "law.go:91", after := #[{ on := 0, ground := .data }], guard := none },
  { dst := some 75, op := .move (.tmp 74), type := 4, pos := "law.go:91", after := #[{ on := 1, ground := .data }], guard := none },
  { dst := some 76, op := .load 23 (.tmp 14), type := 23, pos := "law.go:91", after := #[{ on := 2, ground := .guard }], guard := some (2, true) },
  { dst := some 77, op := .move (.tmp 16), type := 2, pos := "law.go:91", after := #[{ on := 2, ground := .guard }], guard := some (2, true) },
  { dst := some 78, op := .call { callee := .value (.func 9), args := #[.tmp 76, .tmp 77], argTypes := #[23, 2] }, type := 4, pos := "law.go:91", after := #[{ on := 3, ground := .data }, { on := 4, ground := .data }, { on := 2, ground := .chain }, { on := 2, ground := .guard }], guard := some (2, true) },
  { dst := some 79, op := .load 23 (.tmp 3), type := 23, pos := "law.go:91", after := #[{ on := 2, ground := .guard }], guard := some (2, true) },
  { dst := some 80, op := .move (.tmp 16), type := 2, pos := "law.go:91", after := #[{ on := 2, ground := .guard }], guard := some (2, true) },
  { dst := some 81, op := .move (.tmp 9), type := 2, pos := "law.go:91", after := #[{ on := 2, ground := .guard }], guard := some (2, true) },
  { dst := some 82, op := .binOp .mul 2 (.tmp 80) (.tmp 81) 2, type := 2, pos := "law.go:91", after := #[{ on := 7, ground := .data }, { on := 8, ground := .data }, { on := 2, ground := .guard }], guard := some (2, true) },
  { dst := some 83, op := .call { callee := .value (.func 9), args := #[.tmp 79, .tmp 82], argTypes := #[23, 2] }, type := 4, pos := "law.go:91", after := #[{ on := 6, ground := .data }, { on := 9, ground := .data }, { on := 5, ground := .chain }, { on := 2, ground := .guard }], guard := some (2, true) },
  { dst := some 84, op := .binOp .eql 4 (.tmp 78) (.tmp 83) 4, type := 4, pos := "law.go:91", after := #[{ on := 5, ground := .data }, { on := 10, ground := .data }, { on := 2, ground := .guard }], guard := some (2, true) },
  { dst := some 85, op := .pick (.tmp 75) (.tmp 84) (.const (.bool false)), type := 4, pos := "law.go:91", after := #[{ on := 2, ground := .data }, { on := 11, ground := .data }], guard := none },
  { dst := some 86, op := .move (.tmp 85), type := 4, pos := "law.go:91", after := #[{ on := 12, ground := .data }, { on := 10, ground := .chain }], guard := none },
  { dst := some 87, op := .call { callee := .value (.func 11), args := #[], argTypes := #[] }, type := 4, pos := "law.go:91", after := #[{ on := 13, ground := .chain }, { on := 13, ground := .guard }], guard := some (13, true) },
  { dst := some 88, op := .pick (.tmp 86) (.tmp 87) (.const (.bool false)), type := 4, pos := "law.go:91", after := #[{ on := 13, ground := .data }, { on := 14, ground := .data }], guard := none },
  { dst := some 6, op := .assign (.tmp 88), type := 4, pos := "law.go:91", after := #[{ on := 15, ground := .data }, { on := 14, ground := .chain }, { on := 0, ground := .phase }, { on := 1, ground := .phase }, { on := 2, ground := .phase }, { on := 3, ground := .phase }, { on := 4, ground := .phase }, { on := 5, ground := .phase }, { on := 6, ground := .phase }, { on := 7, ground := .phase }, { on := 8, ground := .phase }, { on := 9, ground := .phase }, { on := 10, ground := .phase }, { on := 11, ground := .phase }, { on := 12, ground := .phase }, { on := 13, ground := .phase }, { on := 14, ground := .phase }, { on := 15, ground := .phase }], guard := none }]
theorem products11_plain : Region.noSelect products11 = true := by kernel_rfl


theorem four_in (w : World) (x y z v : Value) (t : TypeId) : (w.alloc (.cells #[x, y, z, v] t)).cell? ⟨w.heap.size, 3, none⟩ = some v := by simp
theorem four_at (w : World) (o p : Obj) (x y z v : Value) (t : TypeId) : (((w.alloc o).alloc p).alloc (.cells #[x, y, z, v] t)).drew.cell? ⟨w.heap.size + 1 + 1, 3, none⟩ = some v := by
  have h := four_in ((w.alloc o).alloc p) x y z v t
  rw [heap1, heap1] at h
  exact h

set_option maxHeartbeats 4000000 in
theorem products_out1 (a b c d x y z v z1 D m md qL qH : Int) (g : Bool) (w : World)
    (e1z : bits .and .i64 z 1048575 = z1) (e2z : IntKind.i64.wrap (1 + z1) = D) (e3z : v / 2097152 = m) (e4z : IntKind.i64.wrap (m * D) = md)
    (K1 : Hid (∀ w, Calls Tryd.prog 9 #[.agg #[.int .i64 a, .int .i64 b], .int .i64 x] w fun e w' => e = .returned (.bool false) ∧ Below w.heap.size w w'))
    (DV : Hid (∀ w', Below w.heap.size w w' → Calls Tryd.prog 20 #[.agg #[.int .i64 a, .int .i64 b], .int .i64 D] w' fun e w'' => e = .returned (.tuple #[.agg #[.int .i64 qL, .int .i64 qH], .int .i64 0]) ∧ Below w'.heap.size w' w''))
    (G1 : Hid (∀ w, Calls Tryd.prog 9 #[.agg #[.int .i64 qL, .int .i64 qH], .int .i64 m] w fun e w' => e = .returned (.bool g) ∧ Below w.heap.size w w'))
    (G2 : Hid (∀ w, Calls Tryd.prog 9 #[.agg #[.int .i64 a, .int .i64 b], .int .i64 md] w fun e w' => e = .returned (.bool g) ∧ Below w.heap.size w w'))
    (AW : Hid (∀ w', Below w.heap.size w w' → Calls Tryd.prog 11 #[] w' fun e w'' => e = .returned (.bool true) ∧ Below w'.heap.size w' w'')) :
    Calls Tryd.prog 5 #[.agg #[.int .i64 a, .int .i64 b], .agg #[.int .i64 c, .int .i64 d], .agg #[.int .i64 x, .int .i64 y, .int .i64 z, .int .i64 v]] w fun e w' => e = .returned (.bool true) ∧ Below w.heap.size w w' := by
  go_enter Tryd.func5, Tryd.ntmps5
  go_wp2_with fail
  go_region
  have V0 := (four_at w (.cells #[.int .i64 a, .int .i64 b] 23) (.cells #[.int .i64 c, .int .i64 d] 23) (.int .i64 x) (.int .i64 y) (.int .i64 z) (.int .i64 v) 35)
  go_wp2_with fail
  refine (K1.out _).mono ?_; rintro e w1 ⟨rfl, hb1⟩
  have B1 := belowT ((below3 w _ _ _).drew) hb1
  have X1 := ((((own2 w _ _ _).more _).more _).drew).keep hb1; have X1a := X1.c0; have X1b := X1.c1; have X1c := X1.f0; have X1d := X1.f1; have X1l := X1.lt
  have Y1 := (((own2b w _ _ _ _).more _).drew).keep hb1; have Y1a := Y1.c0; have Y1b := Y1.c1; have Y1c := Y1.f0; have Y1d := Y1.f1; have Y1l := Y1.lt
  have V1 := keepc hb1 (w1 := w1) V0
  go_wp2_with fail
  refine (DV.out _ B1).mono ?_; rintro e w2 ⟨rfl, hb2⟩
  have B2 := belowT (B1) hb2
  have X2 := (X1).keep hb2; have X2a := X2.c0; have X2b := X2.c1; have X2c := X2.f0; have X2d := X2.f1; have X2l := X2.lt
  have V2 := keepc hb2 V1
  have VQ := keepc (below1 w2 (.cells #[.int .i64 qL, .int .i64 qH] 23)) V2
  have XQ := X2.more (.cells #[.int .i64 qL, .int .i64 qH] 23)
  have QQ := own2 w2 (.int .i64 qL) (.int .i64 qH) 23
  have BQ := belowT B2 (below1 w2 (.cells #[.int .i64 qL, .int .i64 qH] 23))
  obtain ⟨W0, hW0⟩ : ∃ W0, W0 = World.alloc w2 (.cells #[.int .i64 qL, .int .i64 qH] 23) := ⟨_, rfl⟩
  rw [← hW0] at XQ QQ BQ
  have xr0 : ∀ w', Below W0.heap.size W0 w' → w'.cell? ⟨w.heap.size, 0, none⟩ = some (.int .i64 a) := fun w' hb => keepc hb XQ.c0
  have xr1 : ∀ w', Below W0.heap.size W0 w' → w'.cell? ⟨w.heap.size, 1, none⟩ = some (.int .i64 b) := fun w' hb => keepc hb XQ.c1
  have qr0 : ∀ w', Below W0.heap.size W0 w' → w'.cell? ⟨w2.heap.size, 0, none⟩ = some (.int .i64 qL) := fun w' hb => keepc hb QQ.c0
  have qr1 : ∀ w', Below W0.heap.size W0 w' → w'.cell? ⟨w2.heap.size, 1, none⟩ = some (.int .i64 qH) := fun w' hb => keepc hb QQ.c1
  go_upto_region 11 with fail
  rw [← hW0]
  clear hW0
  change (Code.region 11 products11 true).wp Tryd.prog _ _ _
  refine wp_region_noPanic ?_
  refine wp_region_held_drew (S := fun w' => Below W0.heap.size W0 w') (by kernel_rfl) ((Below.refl _ _).drew) (fun hHeld => ?_)
  refine wpAnyH_take (i := 0) (oi := ({ dst := some 73, op := .move (.tmp 15), type := 30, pos := "law.go:91", after := #[], guard := none } : Oper)) (v := ?vs1_0) rfl products11_plain (by as_aux_lemma => kernel_rfl) (by as_aux_lemma => kernel_rfl) (fun _ _ _ h => h) (Or.inl ⟨by rfl, ?ys1_0⟩) (by assumption) ?rs1_0
  case ys1_0 => (intro w hSw; (try dsimp only at hSw); go_simp; try with_reducible rfl)
  try simp only [Act.put, List.setIfInBounds_toArray, List.set_cons_zero, List.set_cons_succ]
  refine wpAnyH_take (i := 1) (oi := ({ dst := some 74, op := .binOp .eql 30 (.tmp 73) (.const (.int .i64 0)) 30, type := 4, pos := "law.go:91", after := #[{ on := 0, ground := .data }], guard := none } : Oper)) (v := ?vs1_1) rfl products11_plain (by as_aux_lemma => kernel_rfl) (by as_aux_lemma => kernel_rfl) (fun _ _ _ h => h) (Or.inl ⟨by rfl, ?ys1_1⟩) (by assumption) ?rs1_1
  case ys1_1 => (intro w hSw; (try dsimp only at hSw); go_simp; try with_reducible rfl)
  try simp only [Act.put, List.setIfInBounds_toArray, List.set_cons_zero, List.set_cons_succ]
  refine wpAnyH_take (i := 2) (oi := ({ dst := some 75, op := .move (.tmp 74), type := 4, pos := "law.go:91", after := #[{ on := 1, ground := .data }], guard := none } : Oper)) (v := ?vs1_2) rfl products11_plain (by as_aux_lemma => kernel_rfl) (by as_aux_lemma => kernel_rfl) (fun _ _ _ h => h) (Or.inl ⟨by rfl, ?ys1_2⟩) (by assumption) ?rs1_2
  case ys1_2 => (intro w hSw; (try dsimp only at hSw); go_simp; try with_reducible rfl)
  try simp only [Act.put, List.setIfInBounds_toArray, List.set_cons_zero, List.set_cons_succ]
  refine wpAnyH_take (i := 3) (oi := ({ dst := some 76, op := .load 23 (.tmp 14), type := 23, pos := "law.go:91", after := #[{ on := 2, ground := .guard }], guard := some (2, true) } : Oper)) (v := ?vs1_3) rfl products11_plain (by as_aux_lemma => kernel_rfl) (by as_aux_lemma => kernel_rfl) (fun _ _ _ h => h) (Or.inl ⟨by rfl, ?ys1_3⟩) (by assumption) ?rs1_3
  case ys1_3 => (intro w hSw; (try dsimp only at hSw); go_simp; try with_reducible rfl)
  try simp only [Act.put, List.setIfInBounds_toArray, List.set_cons_zero, List.set_cons_succ]
  refine wpAnyH_take (i := 4) (oi := ({ dst := some 77, op := .move (.tmp 16), type := 2, pos := "law.go:91", after := #[{ on := 2, ground := .guard }], guard := some (2, true) } : Oper)) (v := ?vs1_4) rfl products11_plain (by as_aux_lemma => kernel_rfl) (by as_aux_lemma => kernel_rfl) (fun _ _ _ h => h) (Or.inl ⟨by rfl, ?ys1_4⟩) (by assumption) ?rs1_4
  case ys1_4 => (intro w hSw; (try dsimp only at hSw); go_simp; try with_reducible rfl)
  try simp only [Act.put, List.setIfInBounds_toArray, List.set_cons_zero, List.set_cons_succ]
  refine wpAnyH_take (i := 6) (oi := ({ dst := some 79, op := .load 23 (.tmp 3), type := 23, pos := "law.go:91", after := #[{ on := 2, ground := .guard }], guard := some (2, true) } : Oper)) (v := ?vs1_6) rfl products11_plain (by as_aux_lemma => kernel_rfl) (by as_aux_lemma => kernel_rfl) (fun _ _ _ h => h) (Or.inl ⟨by rfl, ?ys1_6⟩) (by assumption) ?rs1_6
  case ys1_6 => (intro w hSw; (try dsimp only at hSw); go_simp; try with_reducible rfl)
  try simp only [Act.put, List.setIfInBounds_toArray, List.set_cons_zero, List.set_cons_succ]
  refine wpAnyH_take (i := 7) (oi := ({ dst := some 80, op := .move (.tmp 16), type := 2, pos := "law.go:91", after := #[{ on := 2, ground := .guard }], guard := some (2, true) } : Oper)) (v := ?vs1_7) rfl products11_plain (by as_aux_lemma => kernel_rfl) (by as_aux_lemma => kernel_rfl) (fun _ _ _ h => h) (Or.inl ⟨by rfl, ?ys1_7⟩) (by assumption) ?rs1_7
  case ys1_7 => (intro w hSw; (try dsimp only at hSw); go_simp; try with_reducible rfl)
  try simp only [Act.put, List.setIfInBounds_toArray, List.set_cons_zero, List.set_cons_succ]
  refine wpAnyH_take (i := 8) (oi := ({ dst := some 81, op := .move (.tmp 9), type := 2, pos := "law.go:91", after := #[{ on := 2, ground := .guard }], guard := some (2, true) } : Oper)) (v := ?vs1_8) rfl products11_plain (by as_aux_lemma => kernel_rfl) (by as_aux_lemma => kernel_rfl) (fun _ _ _ h => h) (Or.inl ⟨by rfl, ?ys1_8⟩) (by assumption) ?rs1_8
  case ys1_8 => (intro w hSw; (try dsimp only at hSw); go_simp; try with_reducible rfl)
  try simp only [Act.put, List.setIfInBounds_toArray, List.set_cons_zero, List.set_cons_succ]
  refine wpAnyH_take (i := 9) (oi := ({ dst := some 82, op := .binOp .mul 2 (.tmp 80) (.tmp 81) 2, type := 2, pos := "law.go:91", after := #[{ on := 7, ground := .data }, { on := 8, ground := .data }, { on := 2, ground := .guard }], guard := some (2, true) } : Oper)) (v := ?vs1_9) rfl products11_plain (by as_aux_lemma => kernel_rfl) (by as_aux_lemma => kernel_rfl) (fun _ _ _ h => h) (Or.inl ⟨by rfl, ?ys1_9⟩) (by assumption) ?rs1_9
  case ys1_9 => (intro w hSw; (try dsimp only at hSw); go_simp; try with_reducible rfl)
  try simp only [Act.put, List.setIfInBounds_toArray, List.set_cons_zero, List.set_cons_succ]
  refine wpAnyH_ready (rs := [5]) (by as_aux_lemma => kernel_rfl) (by simp) ?_
  refine AllReadyH.cons (o := ({ dst := some 78, op := .call { callee := .value (.func 9), args := #[.tmp 76, .tmp 77], argTypes := #[23, 2] }, type := 4, pos := "law.go:91", after := #[{ on := 3, ground := .data }, { on := 4, ground := .data }, { on := 2, ground := .chain }, { on := 2, ground := .guard }], guard := some (2, true) } : Oper)) rfl (fun KK hK => ?_) AllReadyH.nil
  rw [if_pos (by rfl)]
  go_simp
  go_at_call 9; refine (G1.out _).mono ?_; rintro e w3 ⟨rfl, hb3⟩
  go_wp2_with fail
  refine hK.out _ _ ?_ (fun hHeld3 => ?_)
  · exact belowT (by assumption) hb3
  clear hK KK hb3
  try simp only [Act.put, List.setIfInBounds_toArray, List.set_cons_zero, List.set_cons_succ]
  refine wpAnyH_ready (rs := [10]) (by as_aux_lemma => kernel_rfl) (by simp) ?_
  refine AllReadyH.cons (o := ({ dst := some 83, op := .call { callee := .value (.func 9), args := #[.tmp 79, .tmp 82], argTypes := #[23, 2] }, type := 4, pos := "law.go:91", after := #[{ on := 6, ground := .data }, { on := 9, ground := .data }, { on := 5, ground := .chain }, { on := 2, ground := .guard }], guard := some (2, true) } : Oper)) rfl (fun KK hK => ?_) AllReadyH.nil
  rw [if_pos (by rfl)]
  go_simp
  go_at_call 9; refine (G2.out _).mono ?_; rintro e w4 ⟨rfl, hb4⟩
  go_wp2_with fail
  refine hK.out _ _ ?_ (fun hHeld4 => ?_)
  · exact belowT (by assumption) hb4
  clear hK KK hb4 hHeld3
  try simp only [Act.put, List.setIfInBounds_toArray, List.set_cons_zero, List.set_cons_succ]
  refine wpAnyH_take (i := 11) (oi := ({ dst := some 84, op := .binOp .eql 4 (.tmp 78) (.tmp 83) 4, type := 4, pos := "law.go:91", after := #[{ on := 5, ground := .data }, { on := 10, ground := .data }, { on := 2, ground := .guard }], guard := some (2, true) } : Oper)) (v := ?vs1_11) rfl products11_plain (by as_aux_lemma => kernel_rfl) (by as_aux_lemma => kernel_rfl) (fun _ _ _ h => h) (Or.inl ⟨by rfl, ?ys1_11⟩) (by assumption) ?rs1_11
  case ys1_11 => (intro w hSw; (try dsimp only at hSw); go_simp; try with_reducible rfl)
  try simp only [Act.put, List.setIfInBounds_toArray, List.set_cons_zero, List.set_cons_succ]
  refine wpAnyH_take (i := 12) (oi := ({ dst := some 85, op := .pick (.tmp 75) (.tmp 84) (.const (.bool false)), type := 4, pos := "law.go:91", after := #[{ on := 2, ground := .data }, { on := 11, ground := .data }], guard := none } : Oper)) (v := ?vs1_12) rfl products11_plain (by as_aux_lemma => kernel_rfl) (by as_aux_lemma => kernel_rfl) (fun _ _ _ h => h) (Or.inl ⟨by rfl, ?ys1_12⟩) (by assumption) ?rs1_12
  case ys1_12 => (intro w hSw; (try dsimp only at hSw); go_simp; try with_reducible rfl)
  try simp only [Act.put, List.setIfInBounds_toArray, List.set_cons_zero, List.set_cons_succ]
  refine wpAnyH_take (i := 13) (oi := ({ dst := some 86, op := .move (.tmp 85), type := 4, pos := "law.go:91", after := #[{ on := 12, ground := .data }, { on := 10, ground := .chain }], guard := none } : Oper)) (v := ?vs1_13) rfl products11_plain (by as_aux_lemma => kernel_rfl) (by as_aux_lemma => kernel_rfl) (fun _ _ _ h => h) (Or.inl ⟨by rfl, ?ys1_13⟩) (by assumption) ?rs1_13
  case ys1_13 => (intro w hSw; (try dsimp only at hSw); go_simp; try with_reducible rfl)
  try simp only [Act.put, List.setIfInBounds_toArray, List.set_cons_zero, List.set_cons_succ]
  refine wpAnyH_ready (rs := [14]) (by as_aux_lemma => kernel_rfl) (by simp) ?_
  refine AllReadyH.cons (o := ({ dst := some 87, op := .call { callee := .value (.func 11), args := #[], argTypes := #[] }, type := 4, pos := "law.go:91", after := #[{ on := 13, ground := .chain }, { on := 13, ground := .guard }], guard := some (13, true) } : Oper)) rfl (fun KK hK => ?_) AllReadyH.nil
  rw [if_pos (by rfl)]
  go_simp
  go_at_call 11; refine (AW.out _ (belowT BQ (by assumption))).mono ?_; rintro e w5 ⟨rfl, hb5⟩
  go_wp2_with fail
  refine hK.out _ _ ?_ (fun hHeld5 => ?_)
  · exact belowT (by assumption) hb5
  clear hK KK hb5 hHeld4
  try simp only [Act.put, List.setIfInBounds_toArray, List.set_cons_zero, List.set_cons_succ]
  refine wpAnyH_take (i := 15) (oi := ({ dst := some 88, op := .pick (.tmp 86) (.tmp 87) (.const (.bool false)), type := 4, pos := "law.go:91", after := #[{ on := 13, ground := .data }, { on := 14, ground := .data }], guard := none } : Oper)) (v := ?vs1_15) rfl products11_plain (by as_aux_lemma => kernel_rfl) (by as_aux_lemma => kernel_rfl) (fun _ _ _ h => h) (Or.inl ⟨by rfl, ?ys1_15⟩) (by assumption) ?rs1_15
  case ys1_15 => (intro w hSw; (try dsimp only at hSw); go_simp; try with_reducible rfl)
  try simp only [Act.put, List.setIfInBounds_toArray, List.set_cons_zero, List.set_cons_succ]
  refine wpAnyH_take (i := 16) (oi := ({ dst := some 6, op := .assign (.tmp 88), type := 4, pos := "law.go:91", after := #[{ on := 15, ground := .data }, { on := 14, ground := .chain }, { on := 0, ground := .phase }, { on := 1, ground := .phase }, { on := 2, ground := .phase }, { on := 3, ground := .phase }, { on := 4, ground := .phase }, { on := 5, ground := .phase }, { on := 6, ground := .phase }, { on := 7, ground := .phase }, { on := 8, ground := .phase }, { on := 9, ground := .phase }, { on := 10, ground := .phase }, { on := 11, ground := .phase }, { on := 12, ground := .phase }, { on := 13, ground := .phase }, { on := 14, ground := .phase }, { on := 15, ground := .phase }], guard := none } : Oper)) (v := ?vs1_16) rfl products11_plain (by as_aux_lemma => kernel_rfl) (by as_aux_lemma => kernel_rfl) (fun _ _ _ h => h) (Or.inl ⟨by rfl, ?ys1_16⟩) (by assumption) ?rs1_16
  case ys1_16 => (intro w hSw; (try dsimp only at hSw); go_simp; try with_reducible rfl)
  try simp only [Act.put, List.setIfInBounds_toArray, List.set_cons_zero, List.set_cons_succ]
  refine wpAnyH_done (by as_aux_lemma => kernel_rfl) ?_ _
  refine NoPanic.normal ?_
  go_wp2_with fail
  go_ret
  exact ⟨rfl, belowT BQ (by assumption)⟩

set_option maxHeartbeats 4000000 in
theorem products_out2 (a b c d x y z v z1 D m md qL qH : Int) (g : Bool) (w : World)
    (e1z : bits .and .i64 z 1048575 = z1) (e2z : IntKind.i64.wrap (1 + z1) = D) (e3z : v / 2097152 = m) (e4z : IntKind.i64.wrap (m * D) = md)
    (K1 : Hid (∀ w, Calls Tryd.prog 9 #[.agg #[.int .i64 a, .int .i64 b], .int .i64 x] w fun e w' => e = .returned (.bool true) ∧ Below w.heap.size w w'))
    (K2 : Hid (∀ w, Calls Tryd.prog 9 #[.agg #[.int .i64 c, .int .i64 d], .int .i64 y] w fun e w' => e = .returned (.bool false) ∧ Below w.heap.size w w'))
    (DV : Hid (∀ w', Below w.heap.size w w' → Calls Tryd.prog 20 #[.agg #[.int .i64 a, .int .i64 b], .int .i64 D] w' fun e w'' => e = .returned (.tuple #[.agg #[.int .i64 qL, .int .i64 qH], .int .i64 0]) ∧ Below w'.heap.size w' w''))
    (G1 : Hid (∀ w, Calls Tryd.prog 9 #[.agg #[.int .i64 qL, .int .i64 qH], .int .i64 m] w fun e w' => e = .returned (.bool g) ∧ Below w.heap.size w w'))
    (G2 : Hid (∀ w, Calls Tryd.prog 9 #[.agg #[.int .i64 a, .int .i64 b], .int .i64 md] w fun e w' => e = .returned (.bool g) ∧ Below w.heap.size w w'))
    (AW : Hid (∀ w', Below w.heap.size w w' → Calls Tryd.prog 11 #[] w' fun e w'' => e = .returned (.bool true) ∧ Below w'.heap.size w' w'')) :
    Calls Tryd.prog 5 #[.agg #[.int .i64 a, .int .i64 b], .agg #[.int .i64 c, .int .i64 d], .agg #[.int .i64 x, .int .i64 y, .int .i64 z, .int .i64 v]] w fun e w' => e = .returned (.bool true) ∧ Below w.heap.size w w' := by
  go_enter Tryd.func5, Tryd.ntmps5
  go_wp2_with fail
  go_region
  have V0 := (four_at w (.cells #[.int .i64 a, .int .i64 b] 23) (.cells #[.int .i64 c, .int .i64 d] 23) (.int .i64 x) (.int .i64 y) (.int .i64 z) (.int .i64 v) 35)
  go_wp2_with fail
  refine (K1.out _).mono ?_; rintro e w1 ⟨rfl, hb1⟩
  have B1 := belowT ((below3 w _ _ _).drew) hb1
  have X1 := ((((own2 w _ _ _).more _).more _).drew).keep hb1; have X1a := X1.c0; have X1b := X1.c1; have X1c := X1.f0; have X1d := X1.f1; have X1l := X1.lt
  have Y1 := (((own2b w _ _ _ _).more _).drew).keep hb1; have Y1a := Y1.c0; have Y1b := Y1.c1; have Y1c := Y1.f0; have Y1d := Y1.f1; have Y1l := Y1.lt
  have V1 := keepc hb1 (w1 := w1) V0
  go_wp2_with fail
  refine (K2.out _).mono ?_; rintro e w2 ⟨rfl, hb2⟩
  have B2 := belowT (B1) hb2
  have X2 := (X1).keep hb2; have X2a := X2.c0; have X2b := X2.c1; have X2c := X2.f0; have X2d := X2.f1; have X2l := X2.lt
  have Y2 := (Y1).keep hb2; have Y2a := Y2.c0; have Y2b := Y2.c1; have Y2c := Y2.f0; have Y2d := Y2.f1; have Y2l := Y2.lt
  have V2 := keepc hb2 V1
  go_wp2_with fail
  refine (DV.out _ B2).mono ?_; rintro e w3 ⟨rfl, hb3⟩
  have B3 := belowT (B2) hb3
  have X3 := (X2).keep hb3; have X3a := X3.c0; have X3b := X3.c1; have X3c := X3.f0; have X3d := X3.f1; have X3l := X3.lt
  have V3 := keepc hb3 V2
  have VQ := keepc (below1 w3 (.cells #[.int .i64 qL, .int .i64 qH] 23)) V3
  have XQ := X3.more (.cells #[.int .i64 qL, .int .i64 qH] 23)
  have QQ := own2 w3 (.int .i64 qL) (.int .i64 qH) 23
  have BQ := belowT B3 (below1 w3 (.cells #[.int .i64 qL, .int .i64 qH] 23))
  obtain ⟨W0, hW0⟩ : ∃ W0, W0 = World.alloc w3 (.cells #[.int .i64 qL, .int .i64 qH] 23) := ⟨_, rfl⟩
  rw [← hW0] at XQ QQ BQ
  have xr0 : ∀ w', Below W0.heap.size W0 w' → w'.cell? ⟨w.heap.size, 0, none⟩ = some (.int .i64 a) := fun w' hb => keepc hb XQ.c0
  have xr1 : ∀ w', Below W0.heap.size W0 w' → w'.cell? ⟨w.heap.size, 1, none⟩ = some (.int .i64 b) := fun w' hb => keepc hb XQ.c1
  have qr0 : ∀ w', Below W0.heap.size W0 w' → w'.cell? ⟨w3.heap.size, 0, none⟩ = some (.int .i64 qL) := fun w' hb => keepc hb QQ.c0
  have qr1 : ∀ w', Below W0.heap.size W0 w' → w'.cell? ⟨w3.heap.size, 1, none⟩ = some (.int .i64 qH) := fun w' hb => keepc hb QQ.c1
  go_upto_region 11 with fail
  rw [← hW0]
  clear hW0
  change (Code.region 11 products11 true).wp Tryd.prog _ _ _
  refine wp_region_noPanic ?_
  refine wp_region_held_drew (S := fun w' => Below W0.heap.size W0 w') (by kernel_rfl) ((Below.refl _ _).drew) (fun hHeld => ?_)
  refine wpAnyH_take (i := 0) (oi := ({ dst := some 73, op := .move (.tmp 15), type := 30, pos := "law.go:91", after := #[], guard := none } : Oper)) (v := ?vs2_0) rfl products11_plain (by as_aux_lemma => kernel_rfl) (by as_aux_lemma => kernel_rfl) (fun _ _ _ h => h) (Or.inl ⟨by rfl, ?ys2_0⟩) (by assumption) ?rs2_0
  case ys2_0 => (intro w hSw; (try dsimp only at hSw); go_simp; try with_reducible rfl)
  try simp only [Act.put, List.setIfInBounds_toArray, List.set_cons_zero, List.set_cons_succ]
  refine wpAnyH_take (i := 1) (oi := ({ dst := some 74, op := .binOp .eql 30 (.tmp 73) (.const (.int .i64 0)) 30, type := 4, pos := "law.go:91", after := #[{ on := 0, ground := .data }], guard := none } : Oper)) (v := ?vs2_1) rfl products11_plain (by as_aux_lemma => kernel_rfl) (by as_aux_lemma => kernel_rfl) (fun _ _ _ h => h) (Or.inl ⟨by rfl, ?ys2_1⟩) (by assumption) ?rs2_1
  case ys2_1 => (intro w hSw; (try dsimp only at hSw); go_simp; try with_reducible rfl)
  try simp only [Act.put, List.setIfInBounds_toArray, List.set_cons_zero, List.set_cons_succ]
  refine wpAnyH_take (i := 2) (oi := ({ dst := some 75, op := .move (.tmp 74), type := 4, pos := "law.go:91", after := #[{ on := 1, ground := .data }], guard := none } : Oper)) (v := ?vs2_2) rfl products11_plain (by as_aux_lemma => kernel_rfl) (by as_aux_lemma => kernel_rfl) (fun _ _ _ h => h) (Or.inl ⟨by rfl, ?ys2_2⟩) (by assumption) ?rs2_2
  case ys2_2 => (intro w hSw; (try dsimp only at hSw); go_simp; try with_reducible rfl)
  try simp only [Act.put, List.setIfInBounds_toArray, List.set_cons_zero, List.set_cons_succ]
  refine wpAnyH_take (i := 3) (oi := ({ dst := some 76, op := .load 23 (.tmp 14), type := 23, pos := "law.go:91", after := #[{ on := 2, ground := .guard }], guard := some (2, true) } : Oper)) (v := ?vs2_3) rfl products11_plain (by as_aux_lemma => kernel_rfl) (by as_aux_lemma => kernel_rfl) (fun _ _ _ h => h) (Or.inl ⟨by rfl, ?ys2_3⟩) (by assumption) ?rs2_3
  case ys2_3 => (intro w hSw; (try dsimp only at hSw); go_simp; try with_reducible rfl)
  try simp only [Act.put, List.setIfInBounds_toArray, List.set_cons_zero, List.set_cons_succ]
  refine wpAnyH_take (i := 4) (oi := ({ dst := some 77, op := .move (.tmp 16), type := 2, pos := "law.go:91", after := #[{ on := 2, ground := .guard }], guard := some (2, true) } : Oper)) (v := ?vs2_4) rfl products11_plain (by as_aux_lemma => kernel_rfl) (by as_aux_lemma => kernel_rfl) (fun _ _ _ h => h) (Or.inl ⟨by rfl, ?ys2_4⟩) (by assumption) ?rs2_4
  case ys2_4 => (intro w hSw; (try dsimp only at hSw); go_simp; try with_reducible rfl)
  try simp only [Act.put, List.setIfInBounds_toArray, List.set_cons_zero, List.set_cons_succ]
  refine wpAnyH_take (i := 6) (oi := ({ dst := some 79, op := .load 23 (.tmp 3), type := 23, pos := "law.go:91", after := #[{ on := 2, ground := .guard }], guard := some (2, true) } : Oper)) (v := ?vs2_6) rfl products11_plain (by as_aux_lemma => kernel_rfl) (by as_aux_lemma => kernel_rfl) (fun _ _ _ h => h) (Or.inl ⟨by rfl, ?ys2_6⟩) (by assumption) ?rs2_6
  case ys2_6 => (intro w hSw; (try dsimp only at hSw); go_simp; try with_reducible rfl)
  try simp only [Act.put, List.setIfInBounds_toArray, List.set_cons_zero, List.set_cons_succ]
  refine wpAnyH_take (i := 7) (oi := ({ dst := some 80, op := .move (.tmp 16), type := 2, pos := "law.go:91", after := #[{ on := 2, ground := .guard }], guard := some (2, true) } : Oper)) (v := ?vs2_7) rfl products11_plain (by as_aux_lemma => kernel_rfl) (by as_aux_lemma => kernel_rfl) (fun _ _ _ h => h) (Or.inl ⟨by rfl, ?ys2_7⟩) (by assumption) ?rs2_7
  case ys2_7 => (intro w hSw; (try dsimp only at hSw); go_simp; try with_reducible rfl)
  try simp only [Act.put, List.setIfInBounds_toArray, List.set_cons_zero, List.set_cons_succ]
  refine wpAnyH_take (i := 8) (oi := ({ dst := some 81, op := .move (.tmp 9), type := 2, pos := "law.go:91", after := #[{ on := 2, ground := .guard }], guard := some (2, true) } : Oper)) (v := ?vs2_8) rfl products11_plain (by as_aux_lemma => kernel_rfl) (by as_aux_lemma => kernel_rfl) (fun _ _ _ h => h) (Or.inl ⟨by rfl, ?ys2_8⟩) (by assumption) ?rs2_8
  case ys2_8 => (intro w hSw; (try dsimp only at hSw); go_simp; try with_reducible rfl)
  try simp only [Act.put, List.setIfInBounds_toArray, List.set_cons_zero, List.set_cons_succ]
  refine wpAnyH_take (i := 9) (oi := ({ dst := some 82, op := .binOp .mul 2 (.tmp 80) (.tmp 81) 2, type := 2, pos := "law.go:91", after := #[{ on := 7, ground := .data }, { on := 8, ground := .data }, { on := 2, ground := .guard }], guard := some (2, true) } : Oper)) (v := ?vs2_9) rfl products11_plain (by as_aux_lemma => kernel_rfl) (by as_aux_lemma => kernel_rfl) (fun _ _ _ h => h) (Or.inl ⟨by rfl, ?ys2_9⟩) (by assumption) ?rs2_9
  case ys2_9 => (intro w hSw; (try dsimp only at hSw); go_simp; try with_reducible rfl)
  try simp only [Act.put, List.setIfInBounds_toArray, List.set_cons_zero, List.set_cons_succ]
  refine wpAnyH_ready (rs := [5]) (by as_aux_lemma => kernel_rfl) (by simp) ?_
  refine AllReadyH.cons (o := ({ dst := some 78, op := .call { callee := .value (.func 9), args := #[.tmp 76, .tmp 77], argTypes := #[23, 2] }, type := 4, pos := "law.go:91", after := #[{ on := 3, ground := .data }, { on := 4, ground := .data }, { on := 2, ground := .chain }, { on := 2, ground := .guard }], guard := some (2, true) } : Oper)) rfl (fun KK hK => ?_) AllReadyH.nil
  rw [if_pos (by rfl)]
  go_simp
  go_at_call 9; refine (G1.out _).mono ?_; rintro e w4 ⟨rfl, hb4⟩
  go_wp2_with fail
  refine hK.out _ _ ?_ (fun hHeld4 => ?_)
  · exact belowT (by assumption) hb4
  clear hK KK hb4
  try simp only [Act.put, List.setIfInBounds_toArray, List.set_cons_zero, List.set_cons_succ]
  refine wpAnyH_ready (rs := [10]) (by as_aux_lemma => kernel_rfl) (by simp) ?_
  refine AllReadyH.cons (o := ({ dst := some 83, op := .call { callee := .value (.func 9), args := #[.tmp 79, .tmp 82], argTypes := #[23, 2] }, type := 4, pos := "law.go:91", after := #[{ on := 6, ground := .data }, { on := 9, ground := .data }, { on := 5, ground := .chain }, { on := 2, ground := .guard }], guard := some (2, true) } : Oper)) rfl (fun KK hK => ?_) AllReadyH.nil
  rw [if_pos (by rfl)]
  go_simp
  go_at_call 9; refine (G2.out _).mono ?_; rintro e w5 ⟨rfl, hb5⟩
  go_wp2_with fail
  refine hK.out _ _ ?_ (fun hHeld5 => ?_)
  · exact belowT (by assumption) hb5
  clear hK KK hb5 hHeld4
  try simp only [Act.put, List.setIfInBounds_toArray, List.set_cons_zero, List.set_cons_succ]
  refine wpAnyH_take (i := 11) (oi := ({ dst := some 84, op := .binOp .eql 4 (.tmp 78) (.tmp 83) 4, type := 4, pos := "law.go:91", after := #[{ on := 5, ground := .data }, { on := 10, ground := .data }, { on := 2, ground := .guard }], guard := some (2, true) } : Oper)) (v := ?vs2_11) rfl products11_plain (by as_aux_lemma => kernel_rfl) (by as_aux_lemma => kernel_rfl) (fun _ _ _ h => h) (Or.inl ⟨by rfl, ?ys2_11⟩) (by assumption) ?rs2_11
  case ys2_11 => (intro w hSw; (try dsimp only at hSw); go_simp; try with_reducible rfl)
  try simp only [Act.put, List.setIfInBounds_toArray, List.set_cons_zero, List.set_cons_succ]
  refine wpAnyH_take (i := 12) (oi := ({ dst := some 85, op := .pick (.tmp 75) (.tmp 84) (.const (.bool false)), type := 4, pos := "law.go:91", after := #[{ on := 2, ground := .data }, { on := 11, ground := .data }], guard := none } : Oper)) (v := ?vs2_12) rfl products11_plain (by as_aux_lemma => kernel_rfl) (by as_aux_lemma => kernel_rfl) (fun _ _ _ h => h) (Or.inl ⟨by rfl, ?ys2_12⟩) (by assumption) ?rs2_12
  case ys2_12 => (intro w hSw; (try dsimp only at hSw); go_simp; try with_reducible rfl)
  try simp only [Act.put, List.setIfInBounds_toArray, List.set_cons_zero, List.set_cons_succ]
  refine wpAnyH_take (i := 13) (oi := ({ dst := some 86, op := .move (.tmp 85), type := 4, pos := "law.go:91", after := #[{ on := 12, ground := .data }, { on := 10, ground := .chain }], guard := none } : Oper)) (v := ?vs2_13) rfl products11_plain (by as_aux_lemma => kernel_rfl) (by as_aux_lemma => kernel_rfl) (fun _ _ _ h => h) (Or.inl ⟨by rfl, ?ys2_13⟩) (by assumption) ?rs2_13
  case ys2_13 => (intro w hSw; (try dsimp only at hSw); go_simp; try with_reducible rfl)
  try simp only [Act.put, List.setIfInBounds_toArray, List.set_cons_zero, List.set_cons_succ]
  refine wpAnyH_ready (rs := [14]) (by as_aux_lemma => kernel_rfl) (by simp) ?_
  refine AllReadyH.cons (o := ({ dst := some 87, op := .call { callee := .value (.func 11), args := #[], argTypes := #[] }, type := 4, pos := "law.go:91", after := #[{ on := 13, ground := .chain }, { on := 13, ground := .guard }], guard := some (13, true) } : Oper)) rfl (fun KK hK => ?_) AllReadyH.nil
  rw [if_pos (by rfl)]
  go_simp
  go_at_call 11; refine (AW.out _ (belowT BQ (by assumption))).mono ?_; rintro e w6 ⟨rfl, hb6⟩
  go_wp2_with fail
  refine hK.out _ _ ?_ (fun hHeld6 => ?_)
  · exact belowT (by assumption) hb6
  clear hK KK hb6 hHeld5
  try simp only [Act.put, List.setIfInBounds_toArray, List.set_cons_zero, List.set_cons_succ]
  refine wpAnyH_take (i := 15) (oi := ({ dst := some 88, op := .pick (.tmp 86) (.tmp 87) (.const (.bool false)), type := 4, pos := "law.go:91", after := #[{ on := 13, ground := .data }, { on := 14, ground := .data }], guard := none } : Oper)) (v := ?vs2_15) rfl products11_plain (by as_aux_lemma => kernel_rfl) (by as_aux_lemma => kernel_rfl) (fun _ _ _ h => h) (Or.inl ⟨by rfl, ?ys2_15⟩) (by assumption) ?rs2_15
  case ys2_15 => (intro w hSw; (try dsimp only at hSw); go_simp; try with_reducible rfl)
  try simp only [Act.put, List.setIfInBounds_toArray, List.set_cons_zero, List.set_cons_succ]
  refine wpAnyH_take (i := 16) (oi := ({ dst := some 6, op := .assign (.tmp 88), type := 4, pos := "law.go:91", after := #[{ on := 15, ground := .data }, { on := 14, ground := .chain }, { on := 0, ground := .phase }, { on := 1, ground := .phase }, { on := 2, ground := .phase }, { on := 3, ground := .phase }, { on := 4, ground := .phase }, { on := 5, ground := .phase }, { on := 6, ground := .phase }, { on := 7, ground := .phase }, { on := 8, ground := .phase }, { on := 9, ground := .phase }, { on := 10, ground := .phase }, { on := 11, ground := .phase }, { on := 12, ground := .phase }, { on := 13, ground := .phase }, { on := 14, ground := .phase }, { on := 15, ground := .phase }], guard := none } : Oper)) (v := ?vs2_16) rfl products11_plain (by as_aux_lemma => kernel_rfl) (by as_aux_lemma => kernel_rfl) (fun _ _ _ h => h) (Or.inl ⟨by rfl, ?ys2_16⟩) (by assumption) ?rs2_16
  case ys2_16 => (intro w hSw; (try dsimp only at hSw); go_simp; try with_reducible rfl)
  try simp only [Act.put, List.setIfInBounds_toArray, List.set_cons_zero, List.set_cons_succ]
  refine wpAnyH_done (by as_aux_lemma => kernel_rfl) ?_ _
  refine NoPanic.normal ?_
  go_wp2_with fail
  go_ret
  exact ⟨rfl, belowT BQ (by assumption)⟩

set_option maxHeartbeats 4000000 in
theorem products_tt (a b c d x y z v z1 D m md qL qH s1 e1 s2 e2 L1 H1 L2 H2 : Int) (g : Bool) (w : World)
    (e1z : bits .and .i64 z 1048575 = z1) (e2z : IntKind.i64.wrap (1 + z1) = D) (e3z : v / 2097152 = m) (e4z : IntKind.i64.wrap (m * D) = md)
    (K1 : Hid (∀ w, Calls Tryd.prog 9 #[.agg #[.int .i64 a, .int .i64 b], .int .i64 x] w fun e w' => e = .returned (.bool true) ∧ Below w.heap.size w w'))
    (K2 : Hid (∀ w, Calls Tryd.prog 9 #[.agg #[.int .i64 c, .int .i64 d], .int .i64 y] w fun e w' => e = .returned (.bool true) ∧ Below w.heap.size w w'))
    (c1 : (e1 == 0) = true) (c2 : (e2 == 0) = true)
    (A1 : Hid (∀ w, Calls Tryd.prog 16 #[.int .i64 x, .int .i64 y] w fun e w' => e = .returned (.tuple #[.int .i64 s1, .int .i64 e1]) ∧ Below w.heap.size w w'))
    (A2 : Hid (∀ w, Calls Tryd.prog 16 #[.int .i64 x, .int .i64 x] w fun e w' => e = .returned (.tuple #[.int .i64 s2, .int .i64 e2]) ∧ Below w.heap.size w w'))
    (S1 : Hid (∀ w', Below w.heap.size w w' → Calls Tryd.prog 18 #[.agg #[.int .i64 a, .int .i64 b], .agg #[.int .i64 c, .int .i64 d]] w' fun e w'' => e = .returned (.agg #[.int .i64 L1, .int .i64 H1]) ∧ Below w'.heap.size w' w''))
    (P1 : Hid (∀ w, Calls Tryd.prog 9 #[.agg #[.int .i64 L1, .int .i64 H1], .int .i64 s1] w fun e w' => e = .returned (.bool true) ∧ Below w.heap.size w w'))
    (S2 : Hid (∀ w', Below w.heap.size w w' → Calls Tryd.prog 19 #[.agg #[.int .i64 a, .int .i64 b]] w' fun e w'' => e = .returned (.agg #[.int .i64 L2, .int .i64 H2]) ∧ Below w'.heap.size w' w''))
    (P2 : Hid (∀ w, Calls Tryd.prog 9 #[.agg #[.int .i64 L2, .int .i64 H2], .int .i64 s2] w fun e w' => e = .returned (.bool true) ∧ Below w.heap.size w w'))
    (DV : Hid (∀ w', Below w.heap.size w w' → Calls Tryd.prog 20 #[.agg #[.int .i64 a, .int .i64 b], .int .i64 D] w' fun e w'' => e = .returned (.tuple #[.agg #[.int .i64 qL, .int .i64 qH], .int .i64 0]) ∧ Below w'.heap.size w' w''))
    (G1 : Hid (∀ w, Calls Tryd.prog 9 #[.agg #[.int .i64 qL, .int .i64 qH], .int .i64 m] w fun e w' => e = .returned (.bool g) ∧ Below w.heap.size w w'))
    (G2 : Hid (∀ w, Calls Tryd.prog 9 #[.agg #[.int .i64 a, .int .i64 b], .int .i64 md] w fun e w' => e = .returned (.bool g) ∧ Below w.heap.size w w'))
    (AW : Hid (∀ w', Below w.heap.size w w' → Calls Tryd.prog 11 #[] w' fun e w'' => e = .returned (.bool true) ∧ Below w'.heap.size w' w'')) :
    Calls Tryd.prog 5 #[.agg #[.int .i64 a, .int .i64 b], .agg #[.int .i64 c, .int .i64 d], .agg #[.int .i64 x, .int .i64 y, .int .i64 z, .int .i64 v]] w fun e w' => e = .returned (.bool true) ∧ Below w.heap.size w w' := by
  go_enter Tryd.func5, Tryd.ntmps5
  go_wp2_with fail
  go_region
  have V0 := (four_at w (.cells #[.int .i64 a, .int .i64 b] 23) (.cells #[.int .i64 c, .int .i64 d] 23) (.int .i64 x) (.int .i64 y) (.int .i64 z) (.int .i64 v) 35)
  go_wp2_with fail
  refine (K1.out _).mono ?_; rintro e w1 ⟨rfl, hb1⟩
  have B1 := belowT ((below3 w _ _ _).drew) hb1
  have X1 := ((((own2 w _ _ _).more _).more _).drew).keep hb1; have X1a := X1.c0; have X1b := X1.c1; have X1c := X1.f0; have X1d := X1.f1; have X1l := X1.lt
  have Y1 := (((own2b w _ _ _ _).more _).drew).keep hb1; have Y1a := Y1.c0; have Y1b := Y1.c1; have Y1c := Y1.f0; have Y1d := Y1.f1; have Y1l := Y1.lt
  have V1 := keepc hb1 (w1 := w1) V0
  go_wp2_with fail
  refine (K2.out _).mono ?_; rintro e w2 ⟨rfl, hb2⟩
  have B2 := belowT (B1) hb2
  have X2 := (X1).keep hb2; have X2a := X2.c0; have X2b := X2.c1; have X2c := X2.f0; have X2d := X2.f1; have X2l := X2.lt
  have Y2 := (Y1).keep hb2; have Y2a := Y2.c0; have Y2b := Y2.c1; have Y2c := Y2.f0; have Y2d := Y2.f1; have Y2l := Y2.lt
  have V2 := keepc hb2 V1
  go_wp2_with fail
  refine (A1.out _).mono ?_; rintro e w3 ⟨rfl, hb3⟩
  have B3 := belowT (B2) hb3
  have X3 := (X2).keep hb3; have X3a := X3.c0; have X3b := X3.c1; have X3c := X3.f0; have X3d := X3.f1; have X3l := X3.lt
  have Y3 := (Y2).keep hb3; have Y3a := Y3.c0; have Y3b := Y3.c1; have Y3c := Y3.f0; have Y3d := Y3.f1; have Y3l := Y3.lt
  have V3 := keepc hb3 V2
  go_wp2_with fail
  refine (S1.out _ B3).mono ?_; rintro e w4 ⟨rfl, hb4⟩
  have B4 := belowT (B3) hb4
  have X4 := (X3).keep hb4; have X4a := X4.c0; have X4b := X4.c1; have X4c := X4.f0; have X4d := X4.f1; have X4l := X4.lt
  have Y4 := (Y3).keep hb4; have Y4a := Y4.c0; have Y4b := Y4.c1; have Y4c := Y4.f0; have Y4d := Y4.f1; have Y4l := Y4.lt
  have V4 := keepc hb4 V3
  go_wp2_with fail
  refine (P1.out _).mono ?_; rintro e w5 ⟨rfl, hb5⟩
  have B5 := belowT (B4) hb5
  have X5 := (X4).keep hb5; have X5a := X5.c0; have X5b := X5.c1; have X5c := X5.f0; have X5d := X5.f1; have X5l := X5.lt
  have Y5 := (Y4).keep hb5; have Y5a := Y5.c0; have Y5b := Y5.c1; have Y5c := Y5.f0; have Y5d := Y5.f1; have Y5l := Y5.lt
  have V5 := keepc hb5 V4
  go_wp2_with fail
  refine (A2.out _).mono ?_; rintro e w6 ⟨rfl, hb6⟩
  have B6 := belowT (B5) hb6
  have X6 := (X5).keep hb6; have X6a := X6.c0; have X6b := X6.c1; have X6c := X6.f0; have X6d := X6.f1; have X6l := X6.lt
  have Y6 := (Y5).keep hb6; have Y6a := Y6.c0; have Y6b := Y6.c1; have Y6c := Y6.f0; have Y6d := Y6.f1; have Y6l := Y6.lt
  have V6 := keepc hb6 V5
  go_wp2_with fail
  refine (S2.out _ B6).mono ?_; rintro e w7 ⟨rfl, hb7⟩
  have B7 := belowT (B6) hb7
  have X7 := (X6).keep hb7; have X7a := X7.c0; have X7b := X7.c1; have X7c := X7.f0; have X7d := X7.f1; have X7l := X7.lt
  have Y7 := (Y6).keep hb7; have Y7a := Y7.c0; have Y7b := Y7.c1; have Y7c := Y7.f0; have Y7d := Y7.f1; have Y7l := Y7.lt
  have V7 := keepc hb7 V6
  go_wp2_with fail
  refine (P2.out _).mono ?_; rintro e w8 ⟨rfl, hb8⟩
  have B8 := belowT (B7) hb8
  have X8 := (X7).keep hb8; have X8a := X8.c0; have X8b := X8.c1; have X8c := X8.f0; have X8d := X8.f1; have X8l := X8.lt
  have Y8 := (Y7).keep hb8; have Y8a := Y8.c0; have Y8b := Y8.c1; have Y8c := Y8.f0; have Y8d := Y8.f1; have Y8l := Y8.lt
  have V8 := keepc hb8 V7
  go_wp2_with fail
  refine (DV.out _ B8).mono ?_; rintro e w9 ⟨rfl, hb9⟩
  have B9 := belowT (B8) hb9
  have X9 := (X8).keep hb9; have X9a := X9.c0; have X9b := X9.c1; have X9c := X9.f0; have X9d := X9.f1; have X9l := X9.lt
  have V9 := keepc hb9 V8
  have VQ := keepc (below1 w9 (.cells #[.int .i64 qL, .int .i64 qH] 23)) V9
  have XQ := X9.more (.cells #[.int .i64 qL, .int .i64 qH] 23)
  have QQ := own2 w9 (.int .i64 qL) (.int .i64 qH) 23
  have BQ := belowT B9 (below1 w9 (.cells #[.int .i64 qL, .int .i64 qH] 23))
  obtain ⟨W0, hW0⟩ : ∃ W0, W0 = World.alloc w9 (.cells #[.int .i64 qL, .int .i64 qH] 23) := ⟨_, rfl⟩
  rw [← hW0] at XQ QQ BQ
  have xr0 : ∀ w', Below W0.heap.size W0 w' → w'.cell? ⟨w.heap.size, 0, none⟩ = some (.int .i64 a) := fun w' hb => keepc hb XQ.c0
  have xr1 : ∀ w', Below W0.heap.size W0 w' → w'.cell? ⟨w.heap.size, 1, none⟩ = some (.int .i64 b) := fun w' hb => keepc hb XQ.c1
  have qr0 : ∀ w', Below W0.heap.size W0 w' → w'.cell? ⟨w9.heap.size, 0, none⟩ = some (.int .i64 qL) := fun w' hb => keepc hb QQ.c0
  have qr1 : ∀ w', Below W0.heap.size W0 w' → w'.cell? ⟨w9.heap.size, 1, none⟩ = some (.int .i64 qH) := fun w' hb => keepc hb QQ.c1
  go_upto_region 11 with fail
  rw [← hW0]
  clear hW0
  change (Code.region 11 products11 true).wp Tryd.prog _ _ _
  refine wp_region_noPanic ?_
  refine wp_region_held_drew (S := fun w' => Below W0.heap.size W0 w') (by kernel_rfl) ((Below.refl _ _).drew) (fun hHeld => ?_)
  refine wpAnyH_take (i := 0) (oi := ({ dst := some 73, op := .move (.tmp 15), type := 30, pos := "law.go:91", after := #[], guard := none } : Oper)) (v := ?vs3_0) rfl products11_plain (by as_aux_lemma => kernel_rfl) (by as_aux_lemma => kernel_rfl) (fun _ _ _ h => h) (Or.inl ⟨by rfl, ?ys3_0⟩) (by assumption) ?rs3_0
  case ys3_0 => (intro w hSw; (try dsimp only at hSw); go_simp; try with_reducible rfl)
  try simp only [Act.put, List.setIfInBounds_toArray, List.set_cons_zero, List.set_cons_succ]
  refine wpAnyH_take (i := 1) (oi := ({ dst := some 74, op := .binOp .eql 30 (.tmp 73) (.const (.int .i64 0)) 30, type := 4, pos := "law.go:91", after := #[{ on := 0, ground := .data }], guard := none } : Oper)) (v := ?vs3_1) rfl products11_plain (by as_aux_lemma => kernel_rfl) (by as_aux_lemma => kernel_rfl) (fun _ _ _ h => h) (Or.inl ⟨by rfl, ?ys3_1⟩) (by assumption) ?rs3_1
  case ys3_1 => (intro w hSw; (try dsimp only at hSw); go_simp; try with_reducible rfl)
  try simp only [Act.put, List.setIfInBounds_toArray, List.set_cons_zero, List.set_cons_succ]
  refine wpAnyH_take (i := 2) (oi := ({ dst := some 75, op := .move (.tmp 74), type := 4, pos := "law.go:91", after := #[{ on := 1, ground := .data }], guard := none } : Oper)) (v := ?vs3_2) rfl products11_plain (by as_aux_lemma => kernel_rfl) (by as_aux_lemma => kernel_rfl) (fun _ _ _ h => h) (Or.inl ⟨by rfl, ?ys3_2⟩) (by assumption) ?rs3_2
  case ys3_2 => (intro w hSw; (try dsimp only at hSw); go_simp; try with_reducible rfl)
  try simp only [Act.put, List.setIfInBounds_toArray, List.set_cons_zero, List.set_cons_succ]
  refine wpAnyH_take (i := 3) (oi := ({ dst := some 76, op := .load 23 (.tmp 14), type := 23, pos := "law.go:91", after := #[{ on := 2, ground := .guard }], guard := some (2, true) } : Oper)) (v := ?vs3_3) rfl products11_plain (by as_aux_lemma => kernel_rfl) (by as_aux_lemma => kernel_rfl) (fun _ _ _ h => h) (Or.inl ⟨by rfl, ?ys3_3⟩) (by assumption) ?rs3_3
  case ys3_3 => (intro w hSw; (try dsimp only at hSw); go_simp; try with_reducible rfl)
  try simp only [Act.put, List.setIfInBounds_toArray, List.set_cons_zero, List.set_cons_succ]
  refine wpAnyH_take (i := 4) (oi := ({ dst := some 77, op := .move (.tmp 16), type := 2, pos := "law.go:91", after := #[{ on := 2, ground := .guard }], guard := some (2, true) } : Oper)) (v := ?vs3_4) rfl products11_plain (by as_aux_lemma => kernel_rfl) (by as_aux_lemma => kernel_rfl) (fun _ _ _ h => h) (Or.inl ⟨by rfl, ?ys3_4⟩) (by assumption) ?rs3_4
  case ys3_4 => (intro w hSw; (try dsimp only at hSw); go_simp; try with_reducible rfl)
  try simp only [Act.put, List.setIfInBounds_toArray, List.set_cons_zero, List.set_cons_succ]
  refine wpAnyH_take (i := 6) (oi := ({ dst := some 79, op := .load 23 (.tmp 3), type := 23, pos := "law.go:91", after := #[{ on := 2, ground := .guard }], guard := some (2, true) } : Oper)) (v := ?vs3_6) rfl products11_plain (by as_aux_lemma => kernel_rfl) (by as_aux_lemma => kernel_rfl) (fun _ _ _ h => h) (Or.inl ⟨by rfl, ?ys3_6⟩) (by assumption) ?rs3_6
  case ys3_6 => (intro w hSw; (try dsimp only at hSw); go_simp; try with_reducible rfl)
  try simp only [Act.put, List.setIfInBounds_toArray, List.set_cons_zero, List.set_cons_succ]
  refine wpAnyH_take (i := 7) (oi := ({ dst := some 80, op := .move (.tmp 16), type := 2, pos := "law.go:91", after := #[{ on := 2, ground := .guard }], guard := some (2, true) } : Oper)) (v := ?vs3_7) rfl products11_plain (by as_aux_lemma => kernel_rfl) (by as_aux_lemma => kernel_rfl) (fun _ _ _ h => h) (Or.inl ⟨by rfl, ?ys3_7⟩) (by assumption) ?rs3_7
  case ys3_7 => (intro w hSw; (try dsimp only at hSw); go_simp; try with_reducible rfl)
  try simp only [Act.put, List.setIfInBounds_toArray, List.set_cons_zero, List.set_cons_succ]
  refine wpAnyH_take (i := 8) (oi := ({ dst := some 81, op := .move (.tmp 9), type := 2, pos := "law.go:91", after := #[{ on := 2, ground := .guard }], guard := some (2, true) } : Oper)) (v := ?vs3_8) rfl products11_plain (by as_aux_lemma => kernel_rfl) (by as_aux_lemma => kernel_rfl) (fun _ _ _ h => h) (Or.inl ⟨by rfl, ?ys3_8⟩) (by assumption) ?rs3_8
  case ys3_8 => (intro w hSw; (try dsimp only at hSw); go_simp; try with_reducible rfl)
  try simp only [Act.put, List.setIfInBounds_toArray, List.set_cons_zero, List.set_cons_succ]
  refine wpAnyH_take (i := 9) (oi := ({ dst := some 82, op := .binOp .mul 2 (.tmp 80) (.tmp 81) 2, type := 2, pos := "law.go:91", after := #[{ on := 7, ground := .data }, { on := 8, ground := .data }, { on := 2, ground := .guard }], guard := some (2, true) } : Oper)) (v := ?vs3_9) rfl products11_plain (by as_aux_lemma => kernel_rfl) (by as_aux_lemma => kernel_rfl) (fun _ _ _ h => h) (Or.inl ⟨by rfl, ?ys3_9⟩) (by assumption) ?rs3_9
  case ys3_9 => (intro w hSw; (try dsimp only at hSw); go_simp; try with_reducible rfl)
  try simp only [Act.put, List.setIfInBounds_toArray, List.set_cons_zero, List.set_cons_succ]
  refine wpAnyH_ready (rs := [5]) (by as_aux_lemma => kernel_rfl) (by simp) ?_
  refine AllReadyH.cons (o := ({ dst := some 78, op := .call { callee := .value (.func 9), args := #[.tmp 76, .tmp 77], argTypes := #[23, 2] }, type := 4, pos := "law.go:91", after := #[{ on := 3, ground := .data }, { on := 4, ground := .data }, { on := 2, ground := .chain }, { on := 2, ground := .guard }], guard := some (2, true) } : Oper)) rfl (fun KK hK => ?_) AllReadyH.nil
  rw [if_pos (by rfl)]
  go_simp
  go_at_call 9; refine (G1.out _).mono ?_; rintro e w10 ⟨rfl, hb10⟩
  go_wp2_with fail
  refine hK.out _ _ ?_ (fun hHeld10 => ?_)
  · exact belowT (by assumption) hb10
  clear hK KK hb10
  try simp only [Act.put, List.setIfInBounds_toArray, List.set_cons_zero, List.set_cons_succ]
  refine wpAnyH_ready (rs := [10]) (by as_aux_lemma => kernel_rfl) (by simp) ?_
  refine AllReadyH.cons (o := ({ dst := some 83, op := .call { callee := .value (.func 9), args := #[.tmp 79, .tmp 82], argTypes := #[23, 2] }, type := 4, pos := "law.go:91", after := #[{ on := 6, ground := .data }, { on := 9, ground := .data }, { on := 5, ground := .chain }, { on := 2, ground := .guard }], guard := some (2, true) } : Oper)) rfl (fun KK hK => ?_) AllReadyH.nil
  rw [if_pos (by rfl)]
  go_simp
  go_at_call 9; refine (G2.out _).mono ?_; rintro e w11 ⟨rfl, hb11⟩
  go_wp2_with fail
  refine hK.out _ _ ?_ (fun hHeld11 => ?_)
  · exact belowT (by assumption) hb11
  clear hK KK hb11 hHeld10
  try simp only [Act.put, List.setIfInBounds_toArray, List.set_cons_zero, List.set_cons_succ]
  refine wpAnyH_take (i := 11) (oi := ({ dst := some 84, op := .binOp .eql 4 (.tmp 78) (.tmp 83) 4, type := 4, pos := "law.go:91", after := #[{ on := 5, ground := .data }, { on := 10, ground := .data }, { on := 2, ground := .guard }], guard := some (2, true) } : Oper)) (v := ?vs3_11) rfl products11_plain (by as_aux_lemma => kernel_rfl) (by as_aux_lemma => kernel_rfl) (fun _ _ _ h => h) (Or.inl ⟨by rfl, ?ys3_11⟩) (by assumption) ?rs3_11
  case ys3_11 => (intro w hSw; (try dsimp only at hSw); go_simp; try with_reducible rfl)
  try simp only [Act.put, List.setIfInBounds_toArray, List.set_cons_zero, List.set_cons_succ]
  refine wpAnyH_take (i := 12) (oi := ({ dst := some 85, op := .pick (.tmp 75) (.tmp 84) (.const (.bool false)), type := 4, pos := "law.go:91", after := #[{ on := 2, ground := .data }, { on := 11, ground := .data }], guard := none } : Oper)) (v := ?vs3_12) rfl products11_plain (by as_aux_lemma => kernel_rfl) (by as_aux_lemma => kernel_rfl) (fun _ _ _ h => h) (Or.inl ⟨by rfl, ?ys3_12⟩) (by assumption) ?rs3_12
  case ys3_12 => (intro w hSw; (try dsimp only at hSw); go_simp; try with_reducible rfl)
  try simp only [Act.put, List.setIfInBounds_toArray, List.set_cons_zero, List.set_cons_succ]
  refine wpAnyH_take (i := 13) (oi := ({ dst := some 86, op := .move (.tmp 85), type := 4, pos := "law.go:91", after := #[{ on := 12, ground := .data }, { on := 10, ground := .chain }], guard := none } : Oper)) (v := ?vs3_13) rfl products11_plain (by as_aux_lemma => kernel_rfl) (by as_aux_lemma => kernel_rfl) (fun _ _ _ h => h) (Or.inl ⟨by rfl, ?ys3_13⟩) (by assumption) ?rs3_13
  case ys3_13 => (intro w hSw; (try dsimp only at hSw); go_simp; try with_reducible rfl)
  try simp only [Act.put, List.setIfInBounds_toArray, List.set_cons_zero, List.set_cons_succ]
  refine wpAnyH_ready (rs := [14]) (by as_aux_lemma => kernel_rfl) (by simp) ?_
  refine AllReadyH.cons (o := ({ dst := some 87, op := .call { callee := .value (.func 11), args := #[], argTypes := #[] }, type := 4, pos := "law.go:91", after := #[{ on := 13, ground := .chain }, { on := 13, ground := .guard }], guard := some (13, true) } : Oper)) rfl (fun KK hK => ?_) AllReadyH.nil
  rw [if_pos (by rfl)]
  go_simp
  go_at_call 11; refine (AW.out _ (belowT BQ (by assumption))).mono ?_; rintro e w12 ⟨rfl, hb12⟩
  go_wp2_with fail
  refine hK.out _ _ ?_ (fun hHeld12 => ?_)
  · exact belowT (by assumption) hb12
  clear hK KK hb12 hHeld11
  try simp only [Act.put, List.setIfInBounds_toArray, List.set_cons_zero, List.set_cons_succ]
  refine wpAnyH_take (i := 15) (oi := ({ dst := some 88, op := .pick (.tmp 86) (.tmp 87) (.const (.bool false)), type := 4, pos := "law.go:91", after := #[{ on := 13, ground := .data }, { on := 14, ground := .data }], guard := none } : Oper)) (v := ?vs3_15) rfl products11_plain (by as_aux_lemma => kernel_rfl) (by as_aux_lemma => kernel_rfl) (fun _ _ _ h => h) (Or.inl ⟨by rfl, ?ys3_15⟩) (by assumption) ?rs3_15
  case ys3_15 => (intro w hSw; (try dsimp only at hSw); go_simp; try with_reducible rfl)
  try simp only [Act.put, List.setIfInBounds_toArray, List.set_cons_zero, List.set_cons_succ]
  refine wpAnyH_take (i := 16) (oi := ({ dst := some 6, op := .assign (.tmp 88), type := 4, pos := "law.go:91", after := #[{ on := 15, ground := .data }, { on := 14, ground := .chain }, { on := 0, ground := .phase }, { on := 1, ground := .phase }, { on := 2, ground := .phase }, { on := 3, ground := .phase }, { on := 4, ground := .phase }, { on := 5, ground := .phase }, { on := 6, ground := .phase }, { on := 7, ground := .phase }, { on := 8, ground := .phase }, { on := 9, ground := .phase }, { on := 10, ground := .phase }, { on := 11, ground := .phase }, { on := 12, ground := .phase }, { on := 13, ground := .phase }, { on := 14, ground := .phase }, { on := 15, ground := .phase }], guard := none } : Oper)) (v := ?vs3_16) rfl products11_plain (by as_aux_lemma => kernel_rfl) (by as_aux_lemma => kernel_rfl) (fun _ _ _ h => h) (Or.inl ⟨by rfl, ?ys3_16⟩) (by assumption) ?rs3_16
  case ys3_16 => (intro w hSw; (try dsimp only at hSw); go_simp; try with_reducible rfl)
  try simp only [Act.put, List.setIfInBounds_toArray, List.set_cons_zero, List.set_cons_succ]
  refine wpAnyH_done (by as_aux_lemma => kernel_rfl) ?_ _
  refine NoPanic.normal ?_
  go_wp2_with fail
  go_ret
  exact ⟨rfl, belowT BQ (by assumption)⟩

set_option maxHeartbeats 4000000 in
theorem products_tf (a b c d x y z v z1 D m md qL qH s1 e1 s2 e2 L1 H1 : Int) (g : Bool) (w : World)
    (e1z : bits .and .i64 z 1048575 = z1) (e2z : IntKind.i64.wrap (1 + z1) = D) (e3z : v / 2097152 = m) (e4z : IntKind.i64.wrap (m * D) = md)
    (K1 : Hid (∀ w, Calls Tryd.prog 9 #[.agg #[.int .i64 a, .int .i64 b], .int .i64 x] w fun e w' => e = .returned (.bool true) ∧ Below w.heap.size w w'))
    (K2 : Hid (∀ w, Calls Tryd.prog 9 #[.agg #[.int .i64 c, .int .i64 d], .int .i64 y] w fun e w' => e = .returned (.bool true) ∧ Below w.heap.size w w'))
    (c1 : (e1 == 0) = true) (c2 : (e2 == 0) = false)
    (A1 : Hid (∀ w, Calls Tryd.prog 16 #[.int .i64 x, .int .i64 y] w fun e w' => e = .returned (.tuple #[.int .i64 s1, .int .i64 e1]) ∧ Below w.heap.size w w'))
    (A2 : Hid (∀ w, Calls Tryd.prog 16 #[.int .i64 x, .int .i64 x] w fun e w' => e = .returned (.tuple #[.int .i64 s2, .int .i64 e2]) ∧ Below w.heap.size w w'))
    (S1 : Hid (∀ w', Below w.heap.size w w' → Calls Tryd.prog 18 #[.agg #[.int .i64 a, .int .i64 b], .agg #[.int .i64 c, .int .i64 d]] w' fun e w'' => e = .returned (.agg #[.int .i64 L1, .int .i64 H1]) ∧ Below w'.heap.size w' w''))
    (P1 : Hid (∀ w, Calls Tryd.prog 9 #[.agg #[.int .i64 L1, .int .i64 H1], .int .i64 s1] w fun e w' => e = .returned (.bool true) ∧ Below w.heap.size w w'))
    (DV : Hid (∀ w', Below w.heap.size w w' → Calls Tryd.prog 20 #[.agg #[.int .i64 a, .int .i64 b], .int .i64 D] w' fun e w'' => e = .returned (.tuple #[.agg #[.int .i64 qL, .int .i64 qH], .int .i64 0]) ∧ Below w'.heap.size w' w''))
    (G1 : Hid (∀ w, Calls Tryd.prog 9 #[.agg #[.int .i64 qL, .int .i64 qH], .int .i64 m] w fun e w' => e = .returned (.bool g) ∧ Below w.heap.size w w'))
    (G2 : Hid (∀ w, Calls Tryd.prog 9 #[.agg #[.int .i64 a, .int .i64 b], .int .i64 md] w fun e w' => e = .returned (.bool g) ∧ Below w.heap.size w w'))
    (AW : Hid (∀ w', Below w.heap.size w w' → Calls Tryd.prog 11 #[] w' fun e w'' => e = .returned (.bool true) ∧ Below w'.heap.size w' w'')) :
    Calls Tryd.prog 5 #[.agg #[.int .i64 a, .int .i64 b], .agg #[.int .i64 c, .int .i64 d], .agg #[.int .i64 x, .int .i64 y, .int .i64 z, .int .i64 v]] w fun e w' => e = .returned (.bool true) ∧ Below w.heap.size w w' := by
  go_enter Tryd.func5, Tryd.ntmps5
  go_wp2_with fail
  go_region
  have V0 := (four_at w (.cells #[.int .i64 a, .int .i64 b] 23) (.cells #[.int .i64 c, .int .i64 d] 23) (.int .i64 x) (.int .i64 y) (.int .i64 z) (.int .i64 v) 35)
  go_wp2_with fail
  refine (K1.out _).mono ?_; rintro e w1 ⟨rfl, hb1⟩
  have B1 := belowT ((below3 w _ _ _).drew) hb1
  have X1 := ((((own2 w _ _ _).more _).more _).drew).keep hb1; have X1a := X1.c0; have X1b := X1.c1; have X1c := X1.f0; have X1d := X1.f1; have X1l := X1.lt
  have Y1 := (((own2b w _ _ _ _).more _).drew).keep hb1; have Y1a := Y1.c0; have Y1b := Y1.c1; have Y1c := Y1.f0; have Y1d := Y1.f1; have Y1l := Y1.lt
  have V1 := keepc hb1 (w1 := w1) V0
  go_wp2_with fail
  refine (K2.out _).mono ?_; rintro e w2 ⟨rfl, hb2⟩
  have B2 := belowT (B1) hb2
  have X2 := (X1).keep hb2; have X2a := X2.c0; have X2b := X2.c1; have X2c := X2.f0; have X2d := X2.f1; have X2l := X2.lt
  have Y2 := (Y1).keep hb2; have Y2a := Y2.c0; have Y2b := Y2.c1; have Y2c := Y2.f0; have Y2d := Y2.f1; have Y2l := Y2.lt
  have V2 := keepc hb2 V1
  go_wp2_with fail
  refine (A1.out _).mono ?_; rintro e w3 ⟨rfl, hb3⟩
  have B3 := belowT (B2) hb3
  have X3 := (X2).keep hb3; have X3a := X3.c0; have X3b := X3.c1; have X3c := X3.f0; have X3d := X3.f1; have X3l := X3.lt
  have Y3 := (Y2).keep hb3; have Y3a := Y3.c0; have Y3b := Y3.c1; have Y3c := Y3.f0; have Y3d := Y3.f1; have Y3l := Y3.lt
  have V3 := keepc hb3 V2
  go_wp2_with fail
  refine (S1.out _ B3).mono ?_; rintro e w4 ⟨rfl, hb4⟩
  have B4 := belowT (B3) hb4
  have X4 := (X3).keep hb4; have X4a := X4.c0; have X4b := X4.c1; have X4c := X4.f0; have X4d := X4.f1; have X4l := X4.lt
  have Y4 := (Y3).keep hb4; have Y4a := Y4.c0; have Y4b := Y4.c1; have Y4c := Y4.f0; have Y4d := Y4.f1; have Y4l := Y4.lt
  have V4 := keepc hb4 V3
  go_wp2_with fail
  refine (P1.out _).mono ?_; rintro e w5 ⟨rfl, hb5⟩
  have B5 := belowT (B4) hb5
  have X5 := (X4).keep hb5; have X5a := X5.c0; have X5b := X5.c1; have X5c := X5.f0; have X5d := X5.f1; have X5l := X5.lt
  have Y5 := (Y4).keep hb5; have Y5a := Y5.c0; have Y5b := Y5.c1; have Y5c := Y5.f0; have Y5d := Y5.f1; have Y5l := Y5.lt
  have V5 := keepc hb5 V4
  go_wp2_with fail
  refine (A2.out _).mono ?_; rintro e w6 ⟨rfl, hb6⟩
  have B6 := belowT (B5) hb6
  have X6 := (X5).keep hb6; have X6a := X6.c0; have X6b := X6.c1; have X6c := X6.f0; have X6d := X6.f1; have X6l := X6.lt
  have Y6 := (Y5).keep hb6; have Y6a := Y6.c0; have Y6b := Y6.c1; have Y6c := Y6.f0; have Y6d := Y6.f1; have Y6l := Y6.lt
  have V6 := keepc hb6 V5
  go_wp2_with fail
  refine (DV.out _ B6).mono ?_; rintro e w7 ⟨rfl, hb7⟩
  have B7 := belowT (B6) hb7
  have X7 := (X6).keep hb7; have X7a := X7.c0; have X7b := X7.c1; have X7c := X7.f0; have X7d := X7.f1; have X7l := X7.lt
  have V7 := keepc hb7 V6
  have VQ := keepc (below1 w7 (.cells #[.int .i64 qL, .int .i64 qH] 23)) V7
  have XQ := X7.more (.cells #[.int .i64 qL, .int .i64 qH] 23)
  have QQ := own2 w7 (.int .i64 qL) (.int .i64 qH) 23
  have BQ := belowT B7 (below1 w7 (.cells #[.int .i64 qL, .int .i64 qH] 23))
  obtain ⟨W0, hW0⟩ : ∃ W0, W0 = World.alloc w7 (.cells #[.int .i64 qL, .int .i64 qH] 23) := ⟨_, rfl⟩
  rw [← hW0] at XQ QQ BQ
  have xr0 : ∀ w', Below W0.heap.size W0 w' → w'.cell? ⟨w.heap.size, 0, none⟩ = some (.int .i64 a) := fun w' hb => keepc hb XQ.c0
  have xr1 : ∀ w', Below W0.heap.size W0 w' → w'.cell? ⟨w.heap.size, 1, none⟩ = some (.int .i64 b) := fun w' hb => keepc hb XQ.c1
  have qr0 : ∀ w', Below W0.heap.size W0 w' → w'.cell? ⟨w7.heap.size, 0, none⟩ = some (.int .i64 qL) := fun w' hb => keepc hb QQ.c0
  have qr1 : ∀ w', Below W0.heap.size W0 w' → w'.cell? ⟨w7.heap.size, 1, none⟩ = some (.int .i64 qH) := fun w' hb => keepc hb QQ.c1
  go_upto_region 11 with fail
  rw [← hW0]
  clear hW0
  change (Code.region 11 products11 true).wp Tryd.prog _ _ _
  refine wp_region_noPanic ?_
  refine wp_region_held_drew (S := fun w' => Below W0.heap.size W0 w') (by kernel_rfl) ((Below.refl _ _).drew) (fun hHeld => ?_)
  refine wpAnyH_take (i := 0) (oi := ({ dst := some 73, op := .move (.tmp 15), type := 30, pos := "law.go:91", after := #[], guard := none } : Oper)) (v := ?vs4_0) rfl products11_plain (by as_aux_lemma => kernel_rfl) (by as_aux_lemma => kernel_rfl) (fun _ _ _ h => h) (Or.inl ⟨by rfl, ?ys4_0⟩) (by assumption) ?rs4_0
  case ys4_0 => (intro w hSw; (try dsimp only at hSw); go_simp; try with_reducible rfl)
  try simp only [Act.put, List.setIfInBounds_toArray, List.set_cons_zero, List.set_cons_succ]
  refine wpAnyH_take (i := 1) (oi := ({ dst := some 74, op := .binOp .eql 30 (.tmp 73) (.const (.int .i64 0)) 30, type := 4, pos := "law.go:91", after := #[{ on := 0, ground := .data }], guard := none } : Oper)) (v := ?vs4_1) rfl products11_plain (by as_aux_lemma => kernel_rfl) (by as_aux_lemma => kernel_rfl) (fun _ _ _ h => h) (Or.inl ⟨by rfl, ?ys4_1⟩) (by assumption) ?rs4_1
  case ys4_1 => (intro w hSw; (try dsimp only at hSw); go_simp; try with_reducible rfl)
  try simp only [Act.put, List.setIfInBounds_toArray, List.set_cons_zero, List.set_cons_succ]
  refine wpAnyH_take (i := 2) (oi := ({ dst := some 75, op := .move (.tmp 74), type := 4, pos := "law.go:91", after := #[{ on := 1, ground := .data }], guard := none } : Oper)) (v := ?vs4_2) rfl products11_plain (by as_aux_lemma => kernel_rfl) (by as_aux_lemma => kernel_rfl) (fun _ _ _ h => h) (Or.inl ⟨by rfl, ?ys4_2⟩) (by assumption) ?rs4_2
  case ys4_2 => (intro w hSw; (try dsimp only at hSw); go_simp; try with_reducible rfl)
  try simp only [Act.put, List.setIfInBounds_toArray, List.set_cons_zero, List.set_cons_succ]
  refine wpAnyH_take (i := 3) (oi := ({ dst := some 76, op := .load 23 (.tmp 14), type := 23, pos := "law.go:91", after := #[{ on := 2, ground := .guard }], guard := some (2, true) } : Oper)) (v := ?vs4_3) rfl products11_plain (by as_aux_lemma => kernel_rfl) (by as_aux_lemma => kernel_rfl) (fun _ _ _ h => h) (Or.inl ⟨by rfl, ?ys4_3⟩) (by assumption) ?rs4_3
  case ys4_3 => (intro w hSw; (try dsimp only at hSw); go_simp; try with_reducible rfl)
  try simp only [Act.put, List.setIfInBounds_toArray, List.set_cons_zero, List.set_cons_succ]
  refine wpAnyH_take (i := 4) (oi := ({ dst := some 77, op := .move (.tmp 16), type := 2, pos := "law.go:91", after := #[{ on := 2, ground := .guard }], guard := some (2, true) } : Oper)) (v := ?vs4_4) rfl products11_plain (by as_aux_lemma => kernel_rfl) (by as_aux_lemma => kernel_rfl) (fun _ _ _ h => h) (Or.inl ⟨by rfl, ?ys4_4⟩) (by assumption) ?rs4_4
  case ys4_4 => (intro w hSw; (try dsimp only at hSw); go_simp; try with_reducible rfl)
  try simp only [Act.put, List.setIfInBounds_toArray, List.set_cons_zero, List.set_cons_succ]
  refine wpAnyH_take (i := 6) (oi := ({ dst := some 79, op := .load 23 (.tmp 3), type := 23, pos := "law.go:91", after := #[{ on := 2, ground := .guard }], guard := some (2, true) } : Oper)) (v := ?vs4_6) rfl products11_plain (by as_aux_lemma => kernel_rfl) (by as_aux_lemma => kernel_rfl) (fun _ _ _ h => h) (Or.inl ⟨by rfl, ?ys4_6⟩) (by assumption) ?rs4_6
  case ys4_6 => (intro w hSw; (try dsimp only at hSw); go_simp; try with_reducible rfl)
  try simp only [Act.put, List.setIfInBounds_toArray, List.set_cons_zero, List.set_cons_succ]
  refine wpAnyH_take (i := 7) (oi := ({ dst := some 80, op := .move (.tmp 16), type := 2, pos := "law.go:91", after := #[{ on := 2, ground := .guard }], guard := some (2, true) } : Oper)) (v := ?vs4_7) rfl products11_plain (by as_aux_lemma => kernel_rfl) (by as_aux_lemma => kernel_rfl) (fun _ _ _ h => h) (Or.inl ⟨by rfl, ?ys4_7⟩) (by assumption) ?rs4_7
  case ys4_7 => (intro w hSw; (try dsimp only at hSw); go_simp; try with_reducible rfl)
  try simp only [Act.put, List.setIfInBounds_toArray, List.set_cons_zero, List.set_cons_succ]
  refine wpAnyH_take (i := 8) (oi := ({ dst := some 81, op := .move (.tmp 9), type := 2, pos := "law.go:91", after := #[{ on := 2, ground := .guard }], guard := some (2, true) } : Oper)) (v := ?vs4_8) rfl products11_plain (by as_aux_lemma => kernel_rfl) (by as_aux_lemma => kernel_rfl) (fun _ _ _ h => h) (Or.inl ⟨by rfl, ?ys4_8⟩) (by assumption) ?rs4_8
  case ys4_8 => (intro w hSw; (try dsimp only at hSw); go_simp; try with_reducible rfl)
  try simp only [Act.put, List.setIfInBounds_toArray, List.set_cons_zero, List.set_cons_succ]
  refine wpAnyH_take (i := 9) (oi := ({ dst := some 82, op := .binOp .mul 2 (.tmp 80) (.tmp 81) 2, type := 2, pos := "law.go:91", after := #[{ on := 7, ground := .data }, { on := 8, ground := .data }, { on := 2, ground := .guard }], guard := some (2, true) } : Oper)) (v := ?vs4_9) rfl products11_plain (by as_aux_lemma => kernel_rfl) (by as_aux_lemma => kernel_rfl) (fun _ _ _ h => h) (Or.inl ⟨by rfl, ?ys4_9⟩) (by assumption) ?rs4_9
  case ys4_9 => (intro w hSw; (try dsimp only at hSw); go_simp; try with_reducible rfl)
  try simp only [Act.put, List.setIfInBounds_toArray, List.set_cons_zero, List.set_cons_succ]
  refine wpAnyH_ready (rs := [5]) (by as_aux_lemma => kernel_rfl) (by simp) ?_
  refine AllReadyH.cons (o := ({ dst := some 78, op := .call { callee := .value (.func 9), args := #[.tmp 76, .tmp 77], argTypes := #[23, 2] }, type := 4, pos := "law.go:91", after := #[{ on := 3, ground := .data }, { on := 4, ground := .data }, { on := 2, ground := .chain }, { on := 2, ground := .guard }], guard := some (2, true) } : Oper)) rfl (fun KK hK => ?_) AllReadyH.nil
  rw [if_pos (by rfl)]
  go_simp
  go_at_call 9; refine (G1.out _).mono ?_; rintro e w8 ⟨rfl, hb8⟩
  go_wp2_with fail
  refine hK.out _ _ ?_ (fun hHeld8 => ?_)
  · exact belowT (by assumption) hb8
  clear hK KK hb8
  try simp only [Act.put, List.setIfInBounds_toArray, List.set_cons_zero, List.set_cons_succ]
  refine wpAnyH_ready (rs := [10]) (by as_aux_lemma => kernel_rfl) (by simp) ?_
  refine AllReadyH.cons (o := ({ dst := some 83, op := .call { callee := .value (.func 9), args := #[.tmp 79, .tmp 82], argTypes := #[23, 2] }, type := 4, pos := "law.go:91", after := #[{ on := 6, ground := .data }, { on := 9, ground := .data }, { on := 5, ground := .chain }, { on := 2, ground := .guard }], guard := some (2, true) } : Oper)) rfl (fun KK hK => ?_) AllReadyH.nil
  rw [if_pos (by rfl)]
  go_simp
  go_at_call 9; refine (G2.out _).mono ?_; rintro e w9 ⟨rfl, hb9⟩
  go_wp2_with fail
  refine hK.out _ _ ?_ (fun hHeld9 => ?_)
  · exact belowT (by assumption) hb9
  clear hK KK hb9 hHeld8
  try simp only [Act.put, List.setIfInBounds_toArray, List.set_cons_zero, List.set_cons_succ]
  refine wpAnyH_take (i := 11) (oi := ({ dst := some 84, op := .binOp .eql 4 (.tmp 78) (.tmp 83) 4, type := 4, pos := "law.go:91", after := #[{ on := 5, ground := .data }, { on := 10, ground := .data }, { on := 2, ground := .guard }], guard := some (2, true) } : Oper)) (v := ?vs4_11) rfl products11_plain (by as_aux_lemma => kernel_rfl) (by as_aux_lemma => kernel_rfl) (fun _ _ _ h => h) (Or.inl ⟨by rfl, ?ys4_11⟩) (by assumption) ?rs4_11
  case ys4_11 => (intro w hSw; (try dsimp only at hSw); go_simp; try with_reducible rfl)
  try simp only [Act.put, List.setIfInBounds_toArray, List.set_cons_zero, List.set_cons_succ]
  refine wpAnyH_take (i := 12) (oi := ({ dst := some 85, op := .pick (.tmp 75) (.tmp 84) (.const (.bool false)), type := 4, pos := "law.go:91", after := #[{ on := 2, ground := .data }, { on := 11, ground := .data }], guard := none } : Oper)) (v := ?vs4_12) rfl products11_plain (by as_aux_lemma => kernel_rfl) (by as_aux_lemma => kernel_rfl) (fun _ _ _ h => h) (Or.inl ⟨by rfl, ?ys4_12⟩) (by assumption) ?rs4_12
  case ys4_12 => (intro w hSw; (try dsimp only at hSw); go_simp; try with_reducible rfl)
  try simp only [Act.put, List.setIfInBounds_toArray, List.set_cons_zero, List.set_cons_succ]
  refine wpAnyH_take (i := 13) (oi := ({ dst := some 86, op := .move (.tmp 85), type := 4, pos := "law.go:91", after := #[{ on := 12, ground := .data }, { on := 10, ground := .chain }], guard := none } : Oper)) (v := ?vs4_13) rfl products11_plain (by as_aux_lemma => kernel_rfl) (by as_aux_lemma => kernel_rfl) (fun _ _ _ h => h) (Or.inl ⟨by rfl, ?ys4_13⟩) (by assumption) ?rs4_13
  case ys4_13 => (intro w hSw; (try dsimp only at hSw); go_simp; try with_reducible rfl)
  try simp only [Act.put, List.setIfInBounds_toArray, List.set_cons_zero, List.set_cons_succ]
  refine wpAnyH_ready (rs := [14]) (by as_aux_lemma => kernel_rfl) (by simp) ?_
  refine AllReadyH.cons (o := ({ dst := some 87, op := .call { callee := .value (.func 11), args := #[], argTypes := #[] }, type := 4, pos := "law.go:91", after := #[{ on := 13, ground := .chain }, { on := 13, ground := .guard }], guard := some (13, true) } : Oper)) rfl (fun KK hK => ?_) AllReadyH.nil
  rw [if_pos (by rfl)]
  go_simp
  go_at_call 11; refine (AW.out _ (belowT BQ (by assumption))).mono ?_; rintro e w10 ⟨rfl, hb10⟩
  go_wp2_with fail
  refine hK.out _ _ ?_ (fun hHeld10 => ?_)
  · exact belowT (by assumption) hb10
  clear hK KK hb10 hHeld9
  try simp only [Act.put, List.setIfInBounds_toArray, List.set_cons_zero, List.set_cons_succ]
  refine wpAnyH_take (i := 15) (oi := ({ dst := some 88, op := .pick (.tmp 86) (.tmp 87) (.const (.bool false)), type := 4, pos := "law.go:91", after := #[{ on := 13, ground := .data }, { on := 14, ground := .data }], guard := none } : Oper)) (v := ?vs4_15) rfl products11_plain (by as_aux_lemma => kernel_rfl) (by as_aux_lemma => kernel_rfl) (fun _ _ _ h => h) (Or.inl ⟨by rfl, ?ys4_15⟩) (by assumption) ?rs4_15
  case ys4_15 => (intro w hSw; (try dsimp only at hSw); go_simp; try with_reducible rfl)
  try simp only [Act.put, List.setIfInBounds_toArray, List.set_cons_zero, List.set_cons_succ]
  refine wpAnyH_take (i := 16) (oi := ({ dst := some 6, op := .assign (.tmp 88), type := 4, pos := "law.go:91", after := #[{ on := 15, ground := .data }, { on := 14, ground := .chain }, { on := 0, ground := .phase }, { on := 1, ground := .phase }, { on := 2, ground := .phase }, { on := 3, ground := .phase }, { on := 4, ground := .phase }, { on := 5, ground := .phase }, { on := 6, ground := .phase }, { on := 7, ground := .phase }, { on := 8, ground := .phase }, { on := 9, ground := .phase }, { on := 10, ground := .phase }, { on := 11, ground := .phase }, { on := 12, ground := .phase }, { on := 13, ground := .phase }, { on := 14, ground := .phase }, { on := 15, ground := .phase }], guard := none } : Oper)) (v := ?vs4_16) rfl products11_plain (by as_aux_lemma => kernel_rfl) (by as_aux_lemma => kernel_rfl) (fun _ _ _ h => h) (Or.inl ⟨by rfl, ?ys4_16⟩) (by assumption) ?rs4_16
  case ys4_16 => (intro w hSw; (try dsimp only at hSw); go_simp; try with_reducible rfl)
  try simp only [Act.put, List.setIfInBounds_toArray, List.set_cons_zero, List.set_cons_succ]
  refine wpAnyH_done (by as_aux_lemma => kernel_rfl) ?_ _
  refine NoPanic.normal ?_
  go_wp2_with fail
  go_ret
  exact ⟨rfl, belowT BQ (by assumption)⟩

set_option maxHeartbeats 4000000 in
theorem products_ft (a b c d x y z v z1 D m md qL qH s1 e1 s2 e2 L2 H2 : Int) (g : Bool) (w : World)
    (e1z : bits .and .i64 z 1048575 = z1) (e2z : IntKind.i64.wrap (1 + z1) = D) (e3z : v / 2097152 = m) (e4z : IntKind.i64.wrap (m * D) = md)
    (K1 : Hid (∀ w, Calls Tryd.prog 9 #[.agg #[.int .i64 a, .int .i64 b], .int .i64 x] w fun e w' => e = .returned (.bool true) ∧ Below w.heap.size w w'))
    (K2 : Hid (∀ w, Calls Tryd.prog 9 #[.agg #[.int .i64 c, .int .i64 d], .int .i64 y] w fun e w' => e = .returned (.bool true) ∧ Below w.heap.size w w'))
    (c1 : (e1 == 0) = false) (c2 : (e2 == 0) = true)
    (A1 : Hid (∀ w, Calls Tryd.prog 16 #[.int .i64 x, .int .i64 y] w fun e w' => e = .returned (.tuple #[.int .i64 s1, .int .i64 e1]) ∧ Below w.heap.size w w'))
    (A2 : Hid (∀ w, Calls Tryd.prog 16 #[.int .i64 x, .int .i64 x] w fun e w' => e = .returned (.tuple #[.int .i64 s2, .int .i64 e2]) ∧ Below w.heap.size w w'))
    (S2 : Hid (∀ w', Below w.heap.size w w' → Calls Tryd.prog 19 #[.agg #[.int .i64 a, .int .i64 b]] w' fun e w'' => e = .returned (.agg #[.int .i64 L2, .int .i64 H2]) ∧ Below w'.heap.size w' w''))
    (P2 : Hid (∀ w, Calls Tryd.prog 9 #[.agg #[.int .i64 L2, .int .i64 H2], .int .i64 s2] w fun e w' => e = .returned (.bool true) ∧ Below w.heap.size w w'))
    (DV : Hid (∀ w', Below w.heap.size w w' → Calls Tryd.prog 20 #[.agg #[.int .i64 a, .int .i64 b], .int .i64 D] w' fun e w'' => e = .returned (.tuple #[.agg #[.int .i64 qL, .int .i64 qH], .int .i64 0]) ∧ Below w'.heap.size w' w''))
    (G1 : Hid (∀ w, Calls Tryd.prog 9 #[.agg #[.int .i64 qL, .int .i64 qH], .int .i64 m] w fun e w' => e = .returned (.bool g) ∧ Below w.heap.size w w'))
    (G2 : Hid (∀ w, Calls Tryd.prog 9 #[.agg #[.int .i64 a, .int .i64 b], .int .i64 md] w fun e w' => e = .returned (.bool g) ∧ Below w.heap.size w w'))
    (AW : Hid (∀ w', Below w.heap.size w w' → Calls Tryd.prog 11 #[] w' fun e w'' => e = .returned (.bool true) ∧ Below w'.heap.size w' w'')) :
    Calls Tryd.prog 5 #[.agg #[.int .i64 a, .int .i64 b], .agg #[.int .i64 c, .int .i64 d], .agg #[.int .i64 x, .int .i64 y, .int .i64 z, .int .i64 v]] w fun e w' => e = .returned (.bool true) ∧ Below w.heap.size w w' := by
  go_enter Tryd.func5, Tryd.ntmps5
  go_wp2_with fail
  go_region
  have V0 := (four_at w (.cells #[.int .i64 a, .int .i64 b] 23) (.cells #[.int .i64 c, .int .i64 d] 23) (.int .i64 x) (.int .i64 y) (.int .i64 z) (.int .i64 v) 35)
  go_wp2_with fail
  refine (K1.out _).mono ?_; rintro e w1 ⟨rfl, hb1⟩
  have B1 := belowT ((below3 w _ _ _).drew) hb1
  have X1 := ((((own2 w _ _ _).more _).more _).drew).keep hb1; have X1a := X1.c0; have X1b := X1.c1; have X1c := X1.f0; have X1d := X1.f1; have X1l := X1.lt
  have Y1 := (((own2b w _ _ _ _).more _).drew).keep hb1; have Y1a := Y1.c0; have Y1b := Y1.c1; have Y1c := Y1.f0; have Y1d := Y1.f1; have Y1l := Y1.lt
  have V1 := keepc hb1 (w1 := w1) V0
  go_wp2_with fail
  refine (K2.out _).mono ?_; rintro e w2 ⟨rfl, hb2⟩
  have B2 := belowT (B1) hb2
  have X2 := (X1).keep hb2; have X2a := X2.c0; have X2b := X2.c1; have X2c := X2.f0; have X2d := X2.f1; have X2l := X2.lt
  have Y2 := (Y1).keep hb2; have Y2a := Y2.c0; have Y2b := Y2.c1; have Y2c := Y2.f0; have Y2d := Y2.f1; have Y2l := Y2.lt
  have V2 := keepc hb2 V1
  go_wp2_with fail
  refine (A1.out _).mono ?_; rintro e w3 ⟨rfl, hb3⟩
  have B3 := belowT (B2) hb3
  have X3 := (X2).keep hb3; have X3a := X3.c0; have X3b := X3.c1; have X3c := X3.f0; have X3d := X3.f1; have X3l := X3.lt
  have Y3 := (Y2).keep hb3; have Y3a := Y3.c0; have Y3b := Y3.c1; have Y3c := Y3.f0; have Y3d := Y3.f1; have Y3l := Y3.lt
  have V3 := keepc hb3 V2
  go_wp2_with fail
  refine (A2.out _).mono ?_; rintro e w4 ⟨rfl, hb4⟩
  have B4 := belowT (B3) hb4
  have X4 := (X3).keep hb4; have X4a := X4.c0; have X4b := X4.c1; have X4c := X4.f0; have X4d := X4.f1; have X4l := X4.lt
  have Y4 := (Y3).keep hb4; have Y4a := Y4.c0; have Y4b := Y4.c1; have Y4c := Y4.f0; have Y4d := Y4.f1; have Y4l := Y4.lt
  have V4 := keepc hb4 V3
  go_wp2_with fail
  refine (S2.out _ B4).mono ?_; rintro e w5 ⟨rfl, hb5⟩
  have B5 := belowT (B4) hb5
  have X5 := (X4).keep hb5; have X5a := X5.c0; have X5b := X5.c1; have X5c := X5.f0; have X5d := X5.f1; have X5l := X5.lt
  have Y5 := (Y4).keep hb5; have Y5a := Y5.c0; have Y5b := Y5.c1; have Y5c := Y5.f0; have Y5d := Y5.f1; have Y5l := Y5.lt
  have V5 := keepc hb5 V4
  go_wp2_with fail
  refine (P2.out _).mono ?_; rintro e w6 ⟨rfl, hb6⟩
  have B6 := belowT (B5) hb6
  have X6 := (X5).keep hb6; have X6a := X6.c0; have X6b := X6.c1; have X6c := X6.f0; have X6d := X6.f1; have X6l := X6.lt
  have Y6 := (Y5).keep hb6; have Y6a := Y6.c0; have Y6b := Y6.c1; have Y6c := Y6.f0; have Y6d := Y6.f1; have Y6l := Y6.lt
  have V6 := keepc hb6 V5
  go_wp2_with fail
  refine (DV.out _ B6).mono ?_; rintro e w7 ⟨rfl, hb7⟩
  have B7 := belowT (B6) hb7
  have X7 := (X6).keep hb7; have X7a := X7.c0; have X7b := X7.c1; have X7c := X7.f0; have X7d := X7.f1; have X7l := X7.lt
  have V7 := keepc hb7 V6
  have VQ := keepc (below1 w7 (.cells #[.int .i64 qL, .int .i64 qH] 23)) V7
  have XQ := X7.more (.cells #[.int .i64 qL, .int .i64 qH] 23)
  have QQ := own2 w7 (.int .i64 qL) (.int .i64 qH) 23
  have BQ := belowT B7 (below1 w7 (.cells #[.int .i64 qL, .int .i64 qH] 23))
  obtain ⟨W0, hW0⟩ : ∃ W0, W0 = World.alloc w7 (.cells #[.int .i64 qL, .int .i64 qH] 23) := ⟨_, rfl⟩
  rw [← hW0] at XQ QQ BQ
  have xr0 : ∀ w', Below W0.heap.size W0 w' → w'.cell? ⟨w.heap.size, 0, none⟩ = some (.int .i64 a) := fun w' hb => keepc hb XQ.c0
  have xr1 : ∀ w', Below W0.heap.size W0 w' → w'.cell? ⟨w.heap.size, 1, none⟩ = some (.int .i64 b) := fun w' hb => keepc hb XQ.c1
  have qr0 : ∀ w', Below W0.heap.size W0 w' → w'.cell? ⟨w7.heap.size, 0, none⟩ = some (.int .i64 qL) := fun w' hb => keepc hb QQ.c0
  have qr1 : ∀ w', Below W0.heap.size W0 w' → w'.cell? ⟨w7.heap.size, 1, none⟩ = some (.int .i64 qH) := fun w' hb => keepc hb QQ.c1
  go_upto_region 11 with fail
  rw [← hW0]
  clear hW0
  change (Code.region 11 products11 true).wp Tryd.prog _ _ _
  refine wp_region_noPanic ?_
  refine wp_region_held_drew (S := fun w' => Below W0.heap.size W0 w') (by kernel_rfl) ((Below.refl _ _).drew) (fun hHeld => ?_)
  refine wpAnyH_take (i := 0) (oi := ({ dst := some 73, op := .move (.tmp 15), type := 30, pos := "law.go:91", after := #[], guard := none } : Oper)) (v := ?vs5_0) rfl products11_plain (by as_aux_lemma => kernel_rfl) (by as_aux_lemma => kernel_rfl) (fun _ _ _ h => h) (Or.inl ⟨by rfl, ?ys5_0⟩) (by assumption) ?rs5_0
  case ys5_0 => (intro w hSw; (try dsimp only at hSw); go_simp; try with_reducible rfl)
  try simp only [Act.put, List.setIfInBounds_toArray, List.set_cons_zero, List.set_cons_succ]
  refine wpAnyH_take (i := 1) (oi := ({ dst := some 74, op := .binOp .eql 30 (.tmp 73) (.const (.int .i64 0)) 30, type := 4, pos := "law.go:91", after := #[{ on := 0, ground := .data }], guard := none } : Oper)) (v := ?vs5_1) rfl products11_plain (by as_aux_lemma => kernel_rfl) (by as_aux_lemma => kernel_rfl) (fun _ _ _ h => h) (Or.inl ⟨by rfl, ?ys5_1⟩) (by assumption) ?rs5_1
  case ys5_1 => (intro w hSw; (try dsimp only at hSw); go_simp; try with_reducible rfl)
  try simp only [Act.put, List.setIfInBounds_toArray, List.set_cons_zero, List.set_cons_succ]
  refine wpAnyH_take (i := 2) (oi := ({ dst := some 75, op := .move (.tmp 74), type := 4, pos := "law.go:91", after := #[{ on := 1, ground := .data }], guard := none } : Oper)) (v := ?vs5_2) rfl products11_plain (by as_aux_lemma => kernel_rfl) (by as_aux_lemma => kernel_rfl) (fun _ _ _ h => h) (Or.inl ⟨by rfl, ?ys5_2⟩) (by assumption) ?rs5_2
  case ys5_2 => (intro w hSw; (try dsimp only at hSw); go_simp; try with_reducible rfl)
  try simp only [Act.put, List.setIfInBounds_toArray, List.set_cons_zero, List.set_cons_succ]
  refine wpAnyH_take (i := 3) (oi := ({ dst := some 76, op := .load 23 (.tmp 14), type := 23, pos := "law.go:91", after := #[{ on := 2, ground := .guard }], guard := some (2, true) } : Oper)) (v := ?vs5_3) rfl products11_plain (by as_aux_lemma => kernel_rfl) (by as_aux_lemma => kernel_rfl) (fun _ _ _ h => h) (Or.inl ⟨by rfl, ?ys5_3⟩) (by assumption) ?rs5_3
  case ys5_3 => (intro w hSw; (try dsimp only at hSw); go_simp; try with_reducible rfl)
  try simp only [Act.put, List.setIfInBounds_toArray, List.set_cons_zero, List.set_cons_succ]
  refine wpAnyH_take (i := 4) (oi := ({ dst := some 77, op := .move (.tmp 16), type := 2, pos := "law.go:91", after := #[{ on := 2, ground := .guard }], guard := some (2, true) } : Oper)) (v := ?vs5_4) rfl products11_plain (by as_aux_lemma => kernel_rfl) (by as_aux_lemma => kernel_rfl) (fun _ _ _ h => h) (Or.inl ⟨by rfl, ?ys5_4⟩) (by assumption) ?rs5_4
  case ys5_4 => (intro w hSw; (try dsimp only at hSw); go_simp; try with_reducible rfl)
  try simp only [Act.put, List.setIfInBounds_toArray, List.set_cons_zero, List.set_cons_succ]
  refine wpAnyH_take (i := 6) (oi := ({ dst := some 79, op := .load 23 (.tmp 3), type := 23, pos := "law.go:91", after := #[{ on := 2, ground := .guard }], guard := some (2, true) } : Oper)) (v := ?vs5_6) rfl products11_plain (by as_aux_lemma => kernel_rfl) (by as_aux_lemma => kernel_rfl) (fun _ _ _ h => h) (Or.inl ⟨by rfl, ?ys5_6⟩) (by assumption) ?rs5_6
  case ys5_6 => (intro w hSw; (try dsimp only at hSw); go_simp; try with_reducible rfl)
  try simp only [Act.put, List.setIfInBounds_toArray, List.set_cons_zero, List.set_cons_succ]
  refine wpAnyH_take (i := 7) (oi := ({ dst := some 80, op := .move (.tmp 16), type := 2, pos := "law.go:91", after := #[{ on := 2, ground := .guard }], guard := some (2, true) } : Oper)) (v := ?vs5_7) rfl products11_plain (by as_aux_lemma => kernel_rfl) (by as_aux_lemma => kernel_rfl) (fun _ _ _ h => h) (Or.inl ⟨by rfl, ?ys5_7⟩) (by assumption) ?rs5_7
  case ys5_7 => (intro w hSw; (try dsimp only at hSw); go_simp; try with_reducible rfl)
  try simp only [Act.put, List.setIfInBounds_toArray, List.set_cons_zero, List.set_cons_succ]
  refine wpAnyH_take (i := 8) (oi := ({ dst := some 81, op := .move (.tmp 9), type := 2, pos := "law.go:91", after := #[{ on := 2, ground := .guard }], guard := some (2, true) } : Oper)) (v := ?vs5_8) rfl products11_plain (by as_aux_lemma => kernel_rfl) (by as_aux_lemma => kernel_rfl) (fun _ _ _ h => h) (Or.inl ⟨by rfl, ?ys5_8⟩) (by assumption) ?rs5_8
  case ys5_8 => (intro w hSw; (try dsimp only at hSw); go_simp; try with_reducible rfl)
  try simp only [Act.put, List.setIfInBounds_toArray, List.set_cons_zero, List.set_cons_succ]
  refine wpAnyH_take (i := 9) (oi := ({ dst := some 82, op := .binOp .mul 2 (.tmp 80) (.tmp 81) 2, type := 2, pos := "law.go:91", after := #[{ on := 7, ground := .data }, { on := 8, ground := .data }, { on := 2, ground := .guard }], guard := some (2, true) } : Oper)) (v := ?vs5_9) rfl products11_plain (by as_aux_lemma => kernel_rfl) (by as_aux_lemma => kernel_rfl) (fun _ _ _ h => h) (Or.inl ⟨by rfl, ?ys5_9⟩) (by assumption) ?rs5_9
  case ys5_9 => (intro w hSw; (try dsimp only at hSw); go_simp; try with_reducible rfl)
  try simp only [Act.put, List.setIfInBounds_toArray, List.set_cons_zero, List.set_cons_succ]
  refine wpAnyH_ready (rs := [5]) (by as_aux_lemma => kernel_rfl) (by simp) ?_
  refine AllReadyH.cons (o := ({ dst := some 78, op := .call { callee := .value (.func 9), args := #[.tmp 76, .tmp 77], argTypes := #[23, 2] }, type := 4, pos := "law.go:91", after := #[{ on := 3, ground := .data }, { on := 4, ground := .data }, { on := 2, ground := .chain }, { on := 2, ground := .guard }], guard := some (2, true) } : Oper)) rfl (fun KK hK => ?_) AllReadyH.nil
  rw [if_pos (by rfl)]
  go_simp
  go_at_call 9; refine (G1.out _).mono ?_; rintro e w8 ⟨rfl, hb8⟩
  go_wp2_with fail
  refine hK.out _ _ ?_ (fun hHeld8 => ?_)
  · exact belowT (by assumption) hb8
  clear hK KK hb8
  try simp only [Act.put, List.setIfInBounds_toArray, List.set_cons_zero, List.set_cons_succ]
  refine wpAnyH_ready (rs := [10]) (by as_aux_lemma => kernel_rfl) (by simp) ?_
  refine AllReadyH.cons (o := ({ dst := some 83, op := .call { callee := .value (.func 9), args := #[.tmp 79, .tmp 82], argTypes := #[23, 2] }, type := 4, pos := "law.go:91", after := #[{ on := 6, ground := .data }, { on := 9, ground := .data }, { on := 5, ground := .chain }, { on := 2, ground := .guard }], guard := some (2, true) } : Oper)) rfl (fun KK hK => ?_) AllReadyH.nil
  rw [if_pos (by rfl)]
  go_simp
  go_at_call 9; refine (G2.out _).mono ?_; rintro e w9 ⟨rfl, hb9⟩
  go_wp2_with fail
  refine hK.out _ _ ?_ (fun hHeld9 => ?_)
  · exact belowT (by assumption) hb9
  clear hK KK hb9 hHeld8
  try simp only [Act.put, List.setIfInBounds_toArray, List.set_cons_zero, List.set_cons_succ]
  refine wpAnyH_take (i := 11) (oi := ({ dst := some 84, op := .binOp .eql 4 (.tmp 78) (.tmp 83) 4, type := 4, pos := "law.go:91", after := #[{ on := 5, ground := .data }, { on := 10, ground := .data }, { on := 2, ground := .guard }], guard := some (2, true) } : Oper)) (v := ?vs5_11) rfl products11_plain (by as_aux_lemma => kernel_rfl) (by as_aux_lemma => kernel_rfl) (fun _ _ _ h => h) (Or.inl ⟨by rfl, ?ys5_11⟩) (by assumption) ?rs5_11
  case ys5_11 => (intro w hSw; (try dsimp only at hSw); go_simp; try with_reducible rfl)
  try simp only [Act.put, List.setIfInBounds_toArray, List.set_cons_zero, List.set_cons_succ]
  refine wpAnyH_take (i := 12) (oi := ({ dst := some 85, op := .pick (.tmp 75) (.tmp 84) (.const (.bool false)), type := 4, pos := "law.go:91", after := #[{ on := 2, ground := .data }, { on := 11, ground := .data }], guard := none } : Oper)) (v := ?vs5_12) rfl products11_plain (by as_aux_lemma => kernel_rfl) (by as_aux_lemma => kernel_rfl) (fun _ _ _ h => h) (Or.inl ⟨by rfl, ?ys5_12⟩) (by assumption) ?rs5_12
  case ys5_12 => (intro w hSw; (try dsimp only at hSw); go_simp; try with_reducible rfl)
  try simp only [Act.put, List.setIfInBounds_toArray, List.set_cons_zero, List.set_cons_succ]
  refine wpAnyH_take (i := 13) (oi := ({ dst := some 86, op := .move (.tmp 85), type := 4, pos := "law.go:91", after := #[{ on := 12, ground := .data }, { on := 10, ground := .chain }], guard := none } : Oper)) (v := ?vs5_13) rfl products11_plain (by as_aux_lemma => kernel_rfl) (by as_aux_lemma => kernel_rfl) (fun _ _ _ h => h) (Or.inl ⟨by rfl, ?ys5_13⟩) (by assumption) ?rs5_13
  case ys5_13 => (intro w hSw; (try dsimp only at hSw); go_simp; try with_reducible rfl)
  try simp only [Act.put, List.setIfInBounds_toArray, List.set_cons_zero, List.set_cons_succ]
  refine wpAnyH_ready (rs := [14]) (by as_aux_lemma => kernel_rfl) (by simp) ?_
  refine AllReadyH.cons (o := ({ dst := some 87, op := .call { callee := .value (.func 11), args := #[], argTypes := #[] }, type := 4, pos := "law.go:91", after := #[{ on := 13, ground := .chain }, { on := 13, ground := .guard }], guard := some (13, true) } : Oper)) rfl (fun KK hK => ?_) AllReadyH.nil
  rw [if_pos (by rfl)]
  go_simp
  go_at_call 11; refine (AW.out _ (belowT BQ (by assumption))).mono ?_; rintro e w10 ⟨rfl, hb10⟩
  go_wp2_with fail
  refine hK.out _ _ ?_ (fun hHeld10 => ?_)
  · exact belowT (by assumption) hb10
  clear hK KK hb10 hHeld9
  try simp only [Act.put, List.setIfInBounds_toArray, List.set_cons_zero, List.set_cons_succ]
  refine wpAnyH_take (i := 15) (oi := ({ dst := some 88, op := .pick (.tmp 86) (.tmp 87) (.const (.bool false)), type := 4, pos := "law.go:91", after := #[{ on := 13, ground := .data }, { on := 14, ground := .data }], guard := none } : Oper)) (v := ?vs5_15) rfl products11_plain (by as_aux_lemma => kernel_rfl) (by as_aux_lemma => kernel_rfl) (fun _ _ _ h => h) (Or.inl ⟨by rfl, ?ys5_15⟩) (by assumption) ?rs5_15
  case ys5_15 => (intro w hSw; (try dsimp only at hSw); go_simp; try with_reducible rfl)
  try simp only [Act.put, List.setIfInBounds_toArray, List.set_cons_zero, List.set_cons_succ]
  refine wpAnyH_take (i := 16) (oi := ({ dst := some 6, op := .assign (.tmp 88), type := 4, pos := "law.go:91", after := #[{ on := 15, ground := .data }, { on := 14, ground := .chain }, { on := 0, ground := .phase }, { on := 1, ground := .phase }, { on := 2, ground := .phase }, { on := 3, ground := .phase }, { on := 4, ground := .phase }, { on := 5, ground := .phase }, { on := 6, ground := .phase }, { on := 7, ground := .phase }, { on := 8, ground := .phase }, { on := 9, ground := .phase }, { on := 10, ground := .phase }, { on := 11, ground := .phase }, { on := 12, ground := .phase }, { on := 13, ground := .phase }, { on := 14, ground := .phase }, { on := 15, ground := .phase }], guard := none } : Oper)) (v := ?vs5_16) rfl products11_plain (by as_aux_lemma => kernel_rfl) (by as_aux_lemma => kernel_rfl) (fun _ _ _ h => h) (Or.inl ⟨by rfl, ?ys5_16⟩) (by assumption) ?rs5_16
  case ys5_16 => (intro w hSw; (try dsimp only at hSw); go_simp; try with_reducible rfl)
  try simp only [Act.put, List.setIfInBounds_toArray, List.set_cons_zero, List.set_cons_succ]
  refine wpAnyH_done (by as_aux_lemma => kernel_rfl) ?_ _
  refine NoPanic.normal ?_
  go_wp2_with fail
  go_ret
  exact ⟨rfl, belowT BQ (by assumption)⟩

set_option maxHeartbeats 4000000 in
theorem products_ff (a b c d x y z v z1 D m md qL qH s1 e1 s2 e2 : Int) (g : Bool) (w : World)
    (e1z : bits .and .i64 z 1048575 = z1) (e2z : IntKind.i64.wrap (1 + z1) = D) (e3z : v / 2097152 = m) (e4z : IntKind.i64.wrap (m * D) = md)
    (K1 : Hid (∀ w, Calls Tryd.prog 9 #[.agg #[.int .i64 a, .int .i64 b], .int .i64 x] w fun e w' => e = .returned (.bool true) ∧ Below w.heap.size w w'))
    (K2 : Hid (∀ w, Calls Tryd.prog 9 #[.agg #[.int .i64 c, .int .i64 d], .int .i64 y] w fun e w' => e = .returned (.bool true) ∧ Below w.heap.size w w'))
    (c1 : (e1 == 0) = false) (c2 : (e2 == 0) = false)
    (A1 : Hid (∀ w, Calls Tryd.prog 16 #[.int .i64 x, .int .i64 y] w fun e w' => e = .returned (.tuple #[.int .i64 s1, .int .i64 e1]) ∧ Below w.heap.size w w'))
    (A2 : Hid (∀ w, Calls Tryd.prog 16 #[.int .i64 x, .int .i64 x] w fun e w' => e = .returned (.tuple #[.int .i64 s2, .int .i64 e2]) ∧ Below w.heap.size w w'))
    (DV : Hid (∀ w', Below w.heap.size w w' → Calls Tryd.prog 20 #[.agg #[.int .i64 a, .int .i64 b], .int .i64 D] w' fun e w'' => e = .returned (.tuple #[.agg #[.int .i64 qL, .int .i64 qH], .int .i64 0]) ∧ Below w'.heap.size w' w''))
    (G1 : Hid (∀ w, Calls Tryd.prog 9 #[.agg #[.int .i64 qL, .int .i64 qH], .int .i64 m] w fun e w' => e = .returned (.bool g) ∧ Below w.heap.size w w'))
    (G2 : Hid (∀ w, Calls Tryd.prog 9 #[.agg #[.int .i64 a, .int .i64 b], .int .i64 md] w fun e w' => e = .returned (.bool g) ∧ Below w.heap.size w w'))
    (AW : Hid (∀ w', Below w.heap.size w w' → Calls Tryd.prog 11 #[] w' fun e w'' => e = .returned (.bool true) ∧ Below w'.heap.size w' w'')) :
    Calls Tryd.prog 5 #[.agg #[.int .i64 a, .int .i64 b], .agg #[.int .i64 c, .int .i64 d], .agg #[.int .i64 x, .int .i64 y, .int .i64 z, .int .i64 v]] w fun e w' => e = .returned (.bool true) ∧ Below w.heap.size w w' := by
  go_enter Tryd.func5, Tryd.ntmps5
  go_wp2_with fail
  go_region
  have V0 := (four_at w (.cells #[.int .i64 a, .int .i64 b] 23) (.cells #[.int .i64 c, .int .i64 d] 23) (.int .i64 x) (.int .i64 y) (.int .i64 z) (.int .i64 v) 35)
  go_wp2_with fail
  refine (K1.out _).mono ?_; rintro e w1 ⟨rfl, hb1⟩
  have B1 := belowT ((below3 w _ _ _).drew) hb1
  have X1 := ((((own2 w _ _ _).more _).more _).drew).keep hb1; have X1a := X1.c0; have X1b := X1.c1; have X1c := X1.f0; have X1d := X1.f1; have X1l := X1.lt
  have Y1 := (((own2b w _ _ _ _).more _).drew).keep hb1; have Y1a := Y1.c0; have Y1b := Y1.c1; have Y1c := Y1.f0; have Y1d := Y1.f1; have Y1l := Y1.lt
  have V1 := keepc hb1 (w1 := w1) V0
  go_wp2_with fail
  refine (K2.out _).mono ?_; rintro e w2 ⟨rfl, hb2⟩
  have B2 := belowT (B1) hb2
  have X2 := (X1).keep hb2; have X2a := X2.c0; have X2b := X2.c1; have X2c := X2.f0; have X2d := X2.f1; have X2l := X2.lt
  have Y2 := (Y1).keep hb2; have Y2a := Y2.c0; have Y2b := Y2.c1; have Y2c := Y2.f0; have Y2d := Y2.f1; have Y2l := Y2.lt
  have V2 := keepc hb2 V1
  go_wp2_with fail
  refine (A1.out _).mono ?_; rintro e w3 ⟨rfl, hb3⟩
  have B3 := belowT (B2) hb3
  have X3 := (X2).keep hb3; have X3a := X3.c0; have X3b := X3.c1; have X3c := X3.f0; have X3d := X3.f1; have X3l := X3.lt
  have Y3 := (Y2).keep hb3; have Y3a := Y3.c0; have Y3b := Y3.c1; have Y3c := Y3.f0; have Y3d := Y3.f1; have Y3l := Y3.lt
  have V3 := keepc hb3 V2
  go_wp2_with fail
  refine (A2.out _).mono ?_; rintro e w4 ⟨rfl, hb4⟩
  have B4 := belowT (B3) hb4
  have X4 := (X3).keep hb4; have X4a := X4.c0; have X4b := X4.c1; have X4c := X4.f0; have X4d := X4.f1; have X4l := X4.lt
  have Y4 := (Y3).keep hb4; have Y4a := Y4.c0; have Y4b := Y4.c1; have Y4c := Y4.f0; have Y4d := Y4.f1; have Y4l := Y4.lt
  have V4 := keepc hb4 V3
  go_wp2_with fail
  refine (DV.out _ B4).mono ?_; rintro e w5 ⟨rfl, hb5⟩
  have B5 := belowT (B4) hb5
  have X5 := (X4).keep hb5; have X5a := X5.c0; have X5b := X5.c1; have X5c := X5.f0; have X5d := X5.f1; have X5l := X5.lt
  have V5 := keepc hb5 V4
  have VQ := keepc (below1 w5 (.cells #[.int .i64 qL, .int .i64 qH] 23)) V5
  have XQ := X5.more (.cells #[.int .i64 qL, .int .i64 qH] 23)
  have QQ := own2 w5 (.int .i64 qL) (.int .i64 qH) 23
  have BQ := belowT B5 (below1 w5 (.cells #[.int .i64 qL, .int .i64 qH] 23))
  obtain ⟨W0, hW0⟩ : ∃ W0, W0 = World.alloc w5 (.cells #[.int .i64 qL, .int .i64 qH] 23) := ⟨_, rfl⟩
  rw [← hW0] at XQ QQ BQ
  have xr0 : ∀ w', Below W0.heap.size W0 w' → w'.cell? ⟨w.heap.size, 0, none⟩ = some (.int .i64 a) := fun w' hb => keepc hb XQ.c0
  have xr1 : ∀ w', Below W0.heap.size W0 w' → w'.cell? ⟨w.heap.size, 1, none⟩ = some (.int .i64 b) := fun w' hb => keepc hb XQ.c1
  have qr0 : ∀ w', Below W0.heap.size W0 w' → w'.cell? ⟨w5.heap.size, 0, none⟩ = some (.int .i64 qL) := fun w' hb => keepc hb QQ.c0
  have qr1 : ∀ w', Below W0.heap.size W0 w' → w'.cell? ⟨w5.heap.size, 1, none⟩ = some (.int .i64 qH) := fun w' hb => keepc hb QQ.c1
  go_upto_region 11 with fail
  rw [← hW0]
  clear hW0
  change (Code.region 11 products11 true).wp Tryd.prog _ _ _
  refine wp_region_noPanic ?_
  refine wp_region_held_drew (S := fun w' => Below W0.heap.size W0 w') (by kernel_rfl) ((Below.refl _ _).drew) (fun hHeld => ?_)
  refine wpAnyH_take (i := 0) (oi := ({ dst := some 73, op := .move (.tmp 15), type := 30, pos := "law.go:91", after := #[], guard := none } : Oper)) (v := ?vs6_0) rfl products11_plain (by as_aux_lemma => kernel_rfl) (by as_aux_lemma => kernel_rfl) (fun _ _ _ h => h) (Or.inl ⟨by rfl, ?ys6_0⟩) (by assumption) ?rs6_0
  case ys6_0 => (intro w hSw; (try dsimp only at hSw); go_simp; try with_reducible rfl)
  try simp only [Act.put, List.setIfInBounds_toArray, List.set_cons_zero, List.set_cons_succ]
  refine wpAnyH_take (i := 1) (oi := ({ dst := some 74, op := .binOp .eql 30 (.tmp 73) (.const (.int .i64 0)) 30, type := 4, pos := "law.go:91", after := #[{ on := 0, ground := .data }], guard := none } : Oper)) (v := ?vs6_1) rfl products11_plain (by as_aux_lemma => kernel_rfl) (by as_aux_lemma => kernel_rfl) (fun _ _ _ h => h) (Or.inl ⟨by rfl, ?ys6_1⟩) (by assumption) ?rs6_1
  case ys6_1 => (intro w hSw; (try dsimp only at hSw); go_simp; try with_reducible rfl)
  try simp only [Act.put, List.setIfInBounds_toArray, List.set_cons_zero, List.set_cons_succ]
  refine wpAnyH_take (i := 2) (oi := ({ dst := some 75, op := .move (.tmp 74), type := 4, pos := "law.go:91", after := #[{ on := 1, ground := .data }], guard := none } : Oper)) (v := ?vs6_2) rfl products11_plain (by as_aux_lemma => kernel_rfl) (by as_aux_lemma => kernel_rfl) (fun _ _ _ h => h) (Or.inl ⟨by rfl, ?ys6_2⟩) (by assumption) ?rs6_2
  case ys6_2 => (intro w hSw; (try dsimp only at hSw); go_simp; try with_reducible rfl)
  try simp only [Act.put, List.setIfInBounds_toArray, List.set_cons_zero, List.set_cons_succ]
  refine wpAnyH_take (i := 3) (oi := ({ dst := some 76, op := .load 23 (.tmp 14), type := 23, pos := "law.go:91", after := #[{ on := 2, ground := .guard }], guard := some (2, true) } : Oper)) (v := ?vs6_3) rfl products11_plain (by as_aux_lemma => kernel_rfl) (by as_aux_lemma => kernel_rfl) (fun _ _ _ h => h) (Or.inl ⟨by rfl, ?ys6_3⟩) (by assumption) ?rs6_3
  case ys6_3 => (intro w hSw; (try dsimp only at hSw); go_simp; try with_reducible rfl)
  try simp only [Act.put, List.setIfInBounds_toArray, List.set_cons_zero, List.set_cons_succ]
  refine wpAnyH_take (i := 4) (oi := ({ dst := some 77, op := .move (.tmp 16), type := 2, pos := "law.go:91", after := #[{ on := 2, ground := .guard }], guard := some (2, true) } : Oper)) (v := ?vs6_4) rfl products11_plain (by as_aux_lemma => kernel_rfl) (by as_aux_lemma => kernel_rfl) (fun _ _ _ h => h) (Or.inl ⟨by rfl, ?ys6_4⟩) (by assumption) ?rs6_4
  case ys6_4 => (intro w hSw; (try dsimp only at hSw); go_simp; try with_reducible rfl)
  try simp only [Act.put, List.setIfInBounds_toArray, List.set_cons_zero, List.set_cons_succ]
  refine wpAnyH_take (i := 6) (oi := ({ dst := some 79, op := .load 23 (.tmp 3), type := 23, pos := "law.go:91", after := #[{ on := 2, ground := .guard }], guard := some (2, true) } : Oper)) (v := ?vs6_6) rfl products11_plain (by as_aux_lemma => kernel_rfl) (by as_aux_lemma => kernel_rfl) (fun _ _ _ h => h) (Or.inl ⟨by rfl, ?ys6_6⟩) (by assumption) ?rs6_6
  case ys6_6 => (intro w hSw; (try dsimp only at hSw); go_simp; try with_reducible rfl)
  try simp only [Act.put, List.setIfInBounds_toArray, List.set_cons_zero, List.set_cons_succ]
  refine wpAnyH_take (i := 7) (oi := ({ dst := some 80, op := .move (.tmp 16), type := 2, pos := "law.go:91", after := #[{ on := 2, ground := .guard }], guard := some (2, true) } : Oper)) (v := ?vs6_7) rfl products11_plain (by as_aux_lemma => kernel_rfl) (by as_aux_lemma => kernel_rfl) (fun _ _ _ h => h) (Or.inl ⟨by rfl, ?ys6_7⟩) (by assumption) ?rs6_7
  case ys6_7 => (intro w hSw; (try dsimp only at hSw); go_simp; try with_reducible rfl)
  try simp only [Act.put, List.setIfInBounds_toArray, List.set_cons_zero, List.set_cons_succ]
  refine wpAnyH_take (i := 8) (oi := ({ dst := some 81, op := .move (.tmp 9), type := 2, pos := "law.go:91", after := #[{ on := 2, ground := .guard }], guard := some (2, true) } : Oper)) (v := ?vs6_8) rfl products11_plain (by as_aux_lemma => kernel_rfl) (by as_aux_lemma => kernel_rfl) (fun _ _ _ h => h) (Or.inl ⟨by rfl, ?ys6_8⟩) (by assumption) ?rs6_8
  case ys6_8 => (intro w hSw; (try dsimp only at hSw); go_simp; try with_reducible rfl)
  try simp only [Act.put, List.setIfInBounds_toArray, List.set_cons_zero, List.set_cons_succ]
  refine wpAnyH_take (i := 9) (oi := ({ dst := some 82, op := .binOp .mul 2 (.tmp 80) (.tmp 81) 2, type := 2, pos := "law.go:91", after := #[{ on := 7, ground := .data }, { on := 8, ground := .data }, { on := 2, ground := .guard }], guard := some (2, true) } : Oper)) (v := ?vs6_9) rfl products11_plain (by as_aux_lemma => kernel_rfl) (by as_aux_lemma => kernel_rfl) (fun _ _ _ h => h) (Or.inl ⟨by rfl, ?ys6_9⟩) (by assumption) ?rs6_9
  case ys6_9 => (intro w hSw; (try dsimp only at hSw); go_simp; try with_reducible rfl)
  try simp only [Act.put, List.setIfInBounds_toArray, List.set_cons_zero, List.set_cons_succ]
  refine wpAnyH_ready (rs := [5]) (by as_aux_lemma => kernel_rfl) (by simp) ?_
  refine AllReadyH.cons (o := ({ dst := some 78, op := .call { callee := .value (.func 9), args := #[.tmp 76, .tmp 77], argTypes := #[23, 2] }, type := 4, pos := "law.go:91", after := #[{ on := 3, ground := .data }, { on := 4, ground := .data }, { on := 2, ground := .chain }, { on := 2, ground := .guard }], guard := some (2, true) } : Oper)) rfl (fun KK hK => ?_) AllReadyH.nil
  rw [if_pos (by rfl)]
  go_simp
  go_at_call 9; refine (G1.out _).mono ?_; rintro e w6 ⟨rfl, hb6⟩
  go_wp2_with fail
  refine hK.out _ _ ?_ (fun hHeld6 => ?_)
  · exact belowT (by assumption) hb6
  clear hK KK hb6
  try simp only [Act.put, List.setIfInBounds_toArray, List.set_cons_zero, List.set_cons_succ]
  refine wpAnyH_ready (rs := [10]) (by as_aux_lemma => kernel_rfl) (by simp) ?_
  refine AllReadyH.cons (o := ({ dst := some 83, op := .call { callee := .value (.func 9), args := #[.tmp 79, .tmp 82], argTypes := #[23, 2] }, type := 4, pos := "law.go:91", after := #[{ on := 6, ground := .data }, { on := 9, ground := .data }, { on := 5, ground := .chain }, { on := 2, ground := .guard }], guard := some (2, true) } : Oper)) rfl (fun KK hK => ?_) AllReadyH.nil
  rw [if_pos (by rfl)]
  go_simp
  go_at_call 9; refine (G2.out _).mono ?_; rintro e w7 ⟨rfl, hb7⟩
  go_wp2_with fail
  refine hK.out _ _ ?_ (fun hHeld7 => ?_)
  · exact belowT (by assumption) hb7
  clear hK KK hb7 hHeld6
  try simp only [Act.put, List.setIfInBounds_toArray, List.set_cons_zero, List.set_cons_succ]
  refine wpAnyH_take (i := 11) (oi := ({ dst := some 84, op := .binOp .eql 4 (.tmp 78) (.tmp 83) 4, type := 4, pos := "law.go:91", after := #[{ on := 5, ground := .data }, { on := 10, ground := .data }, { on := 2, ground := .guard }], guard := some (2, true) } : Oper)) (v := ?vs6_11) rfl products11_plain (by as_aux_lemma => kernel_rfl) (by as_aux_lemma => kernel_rfl) (fun _ _ _ h => h) (Or.inl ⟨by rfl, ?ys6_11⟩) (by assumption) ?rs6_11
  case ys6_11 => (intro w hSw; (try dsimp only at hSw); go_simp; try with_reducible rfl)
  try simp only [Act.put, List.setIfInBounds_toArray, List.set_cons_zero, List.set_cons_succ]
  refine wpAnyH_take (i := 12) (oi := ({ dst := some 85, op := .pick (.tmp 75) (.tmp 84) (.const (.bool false)), type := 4, pos := "law.go:91", after := #[{ on := 2, ground := .data }, { on := 11, ground := .data }], guard := none } : Oper)) (v := ?vs6_12) rfl products11_plain (by as_aux_lemma => kernel_rfl) (by as_aux_lemma => kernel_rfl) (fun _ _ _ h => h) (Or.inl ⟨by rfl, ?ys6_12⟩) (by assumption) ?rs6_12
  case ys6_12 => (intro w hSw; (try dsimp only at hSw); go_simp; try with_reducible rfl)
  try simp only [Act.put, List.setIfInBounds_toArray, List.set_cons_zero, List.set_cons_succ]
  refine wpAnyH_take (i := 13) (oi := ({ dst := some 86, op := .move (.tmp 85), type := 4, pos := "law.go:91", after := #[{ on := 12, ground := .data }, { on := 10, ground := .chain }], guard := none } : Oper)) (v := ?vs6_13) rfl products11_plain (by as_aux_lemma => kernel_rfl) (by as_aux_lemma => kernel_rfl) (fun _ _ _ h => h) (Or.inl ⟨by rfl, ?ys6_13⟩) (by assumption) ?rs6_13
  case ys6_13 => (intro w hSw; (try dsimp only at hSw); go_simp; try with_reducible rfl)
  try simp only [Act.put, List.setIfInBounds_toArray, List.set_cons_zero, List.set_cons_succ]
  refine wpAnyH_ready (rs := [14]) (by as_aux_lemma => kernel_rfl) (by simp) ?_
  refine AllReadyH.cons (o := ({ dst := some 87, op := .call { callee := .value (.func 11), args := #[], argTypes := #[] }, type := 4, pos := "law.go:91", after := #[{ on := 13, ground := .chain }, { on := 13, ground := .guard }], guard := some (13, true) } : Oper)) rfl (fun KK hK => ?_) AllReadyH.nil
  rw [if_pos (by rfl)]
  go_simp
  go_at_call 11; refine (AW.out _ (belowT BQ (by assumption))).mono ?_; rintro e w8 ⟨rfl, hb8⟩
  go_wp2_with fail
  refine hK.out _ _ ?_ (fun hHeld8 => ?_)
  · exact belowT (by assumption) hb8
  clear hK KK hb8 hHeld7
  try simp only [Act.put, List.setIfInBounds_toArray, List.set_cons_zero, List.set_cons_succ]
  refine wpAnyH_take (i := 15) (oi := ({ dst := some 88, op := .pick (.tmp 86) (.tmp 87) (.const (.bool false)), type := 4, pos := "law.go:91", after := #[{ on := 13, ground := .data }, { on := 14, ground := .data }], guard := none } : Oper)) (v := ?vs6_15) rfl products11_plain (by as_aux_lemma => kernel_rfl) (by as_aux_lemma => kernel_rfl) (fun _ _ _ h => h) (Or.inl ⟨by rfl, ?ys6_15⟩) (by assumption) ?rs6_15
  case ys6_15 => (intro w hSw; (try dsimp only at hSw); go_simp; try with_reducible rfl)
  try simp only [Act.put, List.setIfInBounds_toArray, List.set_cons_zero, List.set_cons_succ]
  refine wpAnyH_take (i := 16) (oi := ({ dst := some 6, op := .assign (.tmp 88), type := 4, pos := "law.go:91", after := #[{ on := 15, ground := .data }, { on := 14, ground := .chain }, { on := 0, ground := .phase }, { on := 1, ground := .phase }, { on := 2, ground := .phase }, { on := 3, ground := .phase }, { on := 4, ground := .phase }, { on := 5, ground := .phase }, { on := 6, ground := .phase }, { on := 7, ground := .phase }, { on := 8, ground := .phase }, { on := 9, ground := .phase }, { on := 10, ground := .phase }, { on := 11, ground := .phase }, { on := 12, ground := .phase }, { on := 13, ground := .phase }, { on := 14, ground := .phase }, { on := 15, ground := .phase }], guard := none } : Oper)) (v := ?vs6_16) rfl products11_plain (by as_aux_lemma => kernel_rfl) (by as_aux_lemma => kernel_rfl) (fun _ _ _ h => h) (Or.inl ⟨by rfl, ?ys6_16⟩) (by assumption) ?rs6_16
  case ys6_16 => (intro w hSw; (try dsimp only at hSw); go_simp; try with_reducible rfl)
  try simp only [Act.put, List.setIfInBounds_toArray, List.set_cons_zero, List.set_cons_succ]
  refine wpAnyH_done (by as_aux_lemma => kernel_rfl) ?_ _
  refine NoPanic.normal ?_
  go_wp2_with fail
  go_ret
  exact ⟨rfl, belowT BQ (by assumption)⟩

theorem mask20 (h : Int) (r : Fix.Room h) : bits .and .i64 h 1048575 = h % 1048576 := by
  obtain ⟨r1, r2⟩ := r
  have e1 : (BitVec.ofInt 64 h).toNat = (h % 18446744073709551616).toNat := BitVec.toNat_ofInt h
  have e2 : (BitVec.ofInt 64 1048575).toNat = 1048575 := by decide
  show IntKind.i64.wrap ((BitVec.ofInt 64 h &&& BitVec.ofInt 64 1048575).toNat : Int) = _
  rw [BitVec.toNat_and, e1, e2, show (1048575 : Nat) = 2 ^ 20 - 1 by decide, Nat.and_two_pow_sub_one_eq_mod, IntKind.wrap_i64, show (2 ^ 20 : Nat) = 1048576 by decide]
  omega

theorem prod_room (m D : Int) (m1 : -4398046511104 ≤ m) (m2 : m ≤ 4398046511103) (d1 : 1 ≤ D) (d2 : D ≤ 1048576) : -4611686018427387904 ≤ m * D ∧ m * D ≤ 4611686018427387904 := by
  have u1 : m * D ≤ 4398046511103 * D := Int.mul_le_mul_of_nonneg_right m2 (by omega)
  have u2 : -4398046511104 * D ≤ m * D := Int.mul_le_mul_of_nonneg_right m1 (by omega)
  omega

theorem err_not {x : Int} (h : ¬ (Fix.okE x == 0) = true) : (Fix.okE x == 0) = false := by simpa using h

theorem products_any (a b c d x y z v : Int) (w : World) (n : NoneAt w) (ra : Fix.Room a) (rb : Fix.Room b) (rc : Fix.Room c) (rd : Fix.Room d) (rx : Fix.Room x) (ry : Fix.Room y) (rz : Fix.Room z) (rv : Fix.Room v) :
    Calls Tryd.prog 5 #[.agg #[.int .i64 a, .int .i64 b], .agg #[.int .i64 c, .int .i64 d], .agg #[.int .i64 x, .int .i64 y, .int .i64 z, .int .i64 v]] w fun e w' => e = .returned (.bool true) ∧ Below w.heap.size w w' := by
  have K1 := Lib.hid fun w => Has_any a b x w
  have K2 := Lib.hid fun w => Has_any c d y w
  have AW : Hid (∀ w', Below w.heap.size w w' → Calls Tryd.prog 11 #[] w' fun e w'' => e = .returned (.bool true) ∧ Below w'.heap.size w' w'') := Lib.hid fun w' B => awake_any w' (n.keep B)
  have z0 := Int.emod_nonneg z (show (1048576 : Int) ≠ 0 by omega)
  have z1 := Int.emod_lt_of_pos z (show (0 : Int) < 1048576 by omega)
  have e1z := mask20 z rz
  obtain ⟨D, hD⟩ : ∃ D, D = 1 + z % 1048576 := ⟨_, rfl⟩
  obtain ⟨v1, v2⟩ := rv
  obtain ⟨m, hm⟩ : ∃ m, m = v / 2097152 := ⟨_, rfl⟩
  have pr := prod_room m D (by omega) (by omega) (by omega) (by omega)
  have e2z : IntKind.i64.wrap (1 + z % 1048576) = D := by rw [hD]; exact (wrap_i64 _).trans (by omega)
  have e4z : IntKind.i64.wrap (m * D) = m * D := (wrap_i64 _).trans (by omega)
  have DV : Hid (∀ w', Below w.heap.size w w' → Calls Tryd.prog 20 #[.agg #[.int .i64 a, .int .i64 b], .int .i64 D] w' fun e w'' => e = .returned (.tuple #[.agg #[.int .i64 (Sp.oL (Sp.up a D) (b / D)), .int .i64 (Sp.oH (Sp.up a D) (b / D))], .int .i64 0]) ∧ Below w'.heap.size w' w'') :=
    Lib.hid fun w' B => sDiv a b D w' (n.keep B) ra rb ⟨by omega, by omega⟩ (by omega)
  have G1 : Hid (∀ w, Calls Tryd.prog 9 #[.agg #[.int .i64 (Sp.oL (Sp.up a D) (b / D)), .int .i64 (Sp.oH (Sp.up a D) (b / D))], .int .i64 m] w fun e w' => e = .returned (.bool (Sp.has a b (m * D))) ∧ Below w.heap.size w w') := by
    refine Lib.hid fun w => ?_
    have h := Has_any (Sp.oL (Sp.up a D) (b / D)) (Sp.oH (Sp.up a D) (b / D)) m w
    rw [Sp.quot_has (by omega)] at h
    exact h
  have G2 := Lib.hid fun w => Has_any a b (m * D) w
  cases p : Sp.has a b x
  · rw [p] at K1; exact products_out1 a b c d x y z v _ D m _ _ _ _ w e1z e2z hm.symm e4z K1 DV G1 G2 AW
  cases q : Sp.has c d y
  · rw [p] at K1; rw [q] at K2; exact products_out2 a b c d x y z v _ D m _ _ _ _ w e1z e2z hm.symm e4z K1 K2 DV G1 G2 AW
  rw [p] at K1
  rw [q] at K2
  have A1 := Lib.hid fun w => Mul_b x y w rx ry
  have A2 := Lib.hid fun w => Mul_b x x w rx rx
  have S1 : Hid (∀ w', Below w.heap.size w w' → Calls Tryd.prog 18 #[.agg #[.int .i64 a, .int .i64 b], .agg #[.int .i64 c, .int .i64 d]] w' fun e w'' => e = .returned (.agg #[.int .i64 (Sp.sel a b c d 1 (Sp.oL (Sp.mulL a b c d) (Sp.mulH a b c d))), .int .i64 (Sp.sel a b c d 0 (Sp.oH (Sp.mulL a b c d) (Sp.mulH a b c d)))]) ∧ Below w'.heap.size w' w'') :=
    Lib.hid fun w' B => sMul a b c d w' (n.keep B) ra rb rc rd
  have S2 : Hid (∀ w', Below w.heap.size w w' → Calls Tryd.prog 19 #[.agg #[.int .i64 a, .int .i64 b]] w' fun e w'' => e = .returned (.agg #[.int .i64 (Sp.sel a b a b 1 (Sp.oL (Sp.sqL a b) (Sp.sqH a b))), .int .i64 (Sp.sel a b a b 0 (Sp.oH (Sp.sqL a b) (Sp.sqH a b)))]) ∧ Below w'.heap.size w' w'') :=
    Lib.hid fun w' B => sSquare a b w' (n.keep B) ra rb
  have P1 : (Fix.okE (x * y) == 0) = true → Hid (∀ w, Calls Tryd.prog 9 #[.agg #[.int .i64 (Sp.sel a b c d 1 (Sp.oL (Sp.mulL a b c d) (Sp.mulH a b c d))), .int .i64 (Sp.sel a b c d 0 (Sp.oH (Sp.mulL a b c d) (Sp.mulH a b c d)))], .int .i64 (Fix.okV (x * y))] w fun e w' => e = .returned (.bool true) ∧ Below w.heap.size w w') := by
    refine fun h => Lib.hid fun w => ?_
    obtain ⟨e, r⟩ := ok_room rfl rfl h
    have c := Has_any (Sp.sel a b c d 1 (Sp.oL (Sp.mulL a b c d) (Sp.mulH a b c d))) (Sp.sel a b c d 0 (Sp.oH (Sp.mulL a b c d) (Sp.mulH a b c d))) (x * y) w
    rw [Sp.has_sel p q (Sp.mul_has p q r)] at c
    rw [e]; exact c
  have P2 : (Fix.okE (x * x) == 0) = true → Hid (∀ w, Calls Tryd.prog 9 #[.agg #[.int .i64 (Sp.sel a b a b 1 (Sp.oL (Sp.sqL a b) (Sp.sqH a b))), .int .i64 (Sp.sel a b a b 0 (Sp.oH (Sp.sqL a b) (Sp.sqH a b)))], .int .i64 (Fix.okV (x * x))] w fun e w' => e = .returned (.bool true) ∧ Below w.heap.size w w') := by
    refine fun h => Lib.hid fun w => ?_
    obtain ⟨e, r⟩ := ok_room rfl rfl h
    have c := Has_any (Sp.sel a b a b 1 (Sp.oL (Sp.sqL a b) (Sp.sqH a b))) (Sp.sel a b a b 0 (Sp.oH (Sp.sqL a b) (Sp.sqH a b))) (x * x) w
    rw [Sp.has_sel p p (Sp.sq_has p r)] at c
    rw [e]; exact c
  by_cases c1 : (Fix.okE (x * y) == 0) = true <;> by_cases c2 : (Fix.okE (x * x) == 0) = true
  · exact products_tt a b c d x y z v _ D m _ _ _ _ _ _ _ _ _ _ _ _ w e1z e2z hm.symm e4z K1 K2 c1 c2 A1 A2 S1 (P1 c1) S2 (P2 c2) DV G1 G2 AW
  · exact products_tf a b c d x y z v _ D m _ _ _ _ _ _ _ _ _ _ w e1z e2z hm.symm e4z K1 K2 c1 (err_not c2) A1 A2 S1 (P1 c1) DV G1 G2 AW
  · exact products_ft a b c d x y z v _ D m _ _ _ _ _ _ _ _ _ _ w e1z e2z hm.symm e4z K1 K2 (err_not c1) c2 A1 A2 S2 (P2 c2) DV G1 G2 AW
  · exact products_ff a b c d x y z v _ D m _ _ _ _ _ _ _ _ w e1z e2z hm.symm e4z K1 K2 (err_not c1) (err_not c2) A1 A2 DV G1 G2 AW

end Go.Proofs.YtdembidbaojldaaDoor
