/- SpanSplits: the walk. -/
import Derived.Test.YtdembidbaojldaaDoorSpanE
import Derived.Test.YtdembidbaojldaaDoorSpanF
import Derived.Test.YtdembidbaojldaaDoorSpanG
import Derived.Deep.CutBlock
import Derived.Deep.CutRange
namespace Go.Proofs.YtdembidbaojldaaDoor
open Go.RowKit

/-- The operations of a drawn region, as the translation has them. -/
def splits3 : Array Oper := #[
  { dst := some 22, op := .load 23 (.tmp 3), type := 23, pos := "law.go:98", after := #[], guard := none },
  { dst := some 23, op := .move (.tmp 2), type := 2, pos := "law.go:98", after := #[], guard := none },
  { dst := some 24, op := .call { callee := .value (.func 9), args := #[.tmp 22, .tmp 23], argTypes := #[23, 2] }, type := 4, pos := "law.go:98", after := #[{ on := 0, ground := .data }, { on := 1, ground := .data }], guard := none },
  { dst := some 25, op := .move (.tmp 9), type := 4, pos := "law.go:98", after := #[], guard := none },
  { dst := some 26, op := .move (.tmp 25), type := 4, pos := "law.go:98", after := #[{ on := 3, ground := .data }, { on := 2, ground := .chain }], guard := none },
  { dst := some 27, op := .move (.tmp 10), type := 4, pos := "law.go:98", after := #[{ on := 4, ground := .guard }], guard := some (4, false) },
  { dst := some 28, op := .pick (.tmp 26) (.const (.bool true)) (.tmp 27), type := 4, pos := "law.go:98", after := #[{ on := 4, ground := .data }, { on := 5, ground := .data }], guard := none },
  { dst := some 29, op := .binOp .neq 4 (.tmp 24) (.tmp 28) 4, type := 4, pos := "law.go:98", after := #[{ on := 2, ground := .data }, { on := 6, ground := .data }], guard := none },
  { dst := some 30, op := .move (.tmp 29), type := 4, pos := "law.go:98", after := #[{ on := 7, ground := .data }, { on := 4, ground := .chain }], guard := none },
  { dst := some 31, op := .move (.tmp 9), type := 4, pos := "law.go:98", after := #[{ on := 8, ground := .guard }], guard := some (8, false) },
  { dst := some 32, op := .move (.tmp 31), type := 4, pos := "law.go:98", after := #[{ on := 9, ground := .data }, { on := 8, ground := .chain }, { on := 8, ground := .guard }], guard := some (8, false) },
  { dst := some 33, op := .move (.tmp 10), type := 4, pos := "law.go:98", after := #[{ on := 10, ground := .guard }], guard := some (10, true) },
  { dst := some 34, op := .pick (.tmp 32) (.tmp 33) (.const (.bool false)), type := 4, pos := "law.go:98", after := #[{ on := 10, ground := .data }, { on := 11, ground := .data }, { on := 8, ground := .guard }], guard := some (8, false) },
  { dst := some 35, op := .pick (.tmp 30) (.const (.bool true)) (.tmp 34), type := 4, pos := "law.go:98", after := #[{ on := 8, ground := .data }, { on := 12, ground := .data }], guard := none },
  { dst := some 36, op := .move (.tmp 35), type := 4, pos := "law.go:98", after := #[{ on := 13, ground := .data }, { on := 10, ground := .chain }], guard := none },
  { dst := some 37, op := .load 23 (.tmp 3), type := 23, pos := "law.go:98", after := #[{ on := 14, ground := .guard }], guard := some (14, false) },
  { dst := some 38, op := .load 23 (.tmp 4), type := 23, pos := "law.go:98", after := #[{ on := 14, ground := .guard }], guard := some (14, false) },
  { dst := some 39, op := .call { callee := .value (.func 22), args := #[.tmp 37, .tmp 38], argTypes := #[23, 23] }, type := 2, pos := "law.go:98", after := #[{ on := 15, ground := .data }, { on := 16, ground := .data }, { on := 14, ground := .chain }, { on := 14, ground := .guard }], guard := some (14, false) },
  { dst := some 40, op := .load 23 (.tmp 4), type := 23, pos := "law.go:98", after := #[{ on := 14, ground := .guard }], guard := some (14, false) },
  { dst := some 41, op := .load 23 (.tmp 3), type := 23, pos := "law.go:98", after := #[{ on := 14, ground := .guard }], guard := some (14, false) },
  { dst := some 42, op := .call { callee := .value (.func 22), args := #[.tmp 40, .tmp 41], argTypes := #[23, 23] }, type := 2, pos := "law.go:98", after := #[{ on := 18, ground := .data }, { on := 19, ground := .data }, { on := 17, ground := .chain }, { on := 14, ground := .guard }], guard := some (14, false) },
  { dst := some 43, op := .binOp .neq 2 (.tmp 39) (.tmp 42) 2, type := 4, pos := "law.go:98", after := #[{ on := 17, ground := .data }, { on := 20, ground := .data }, { on := 14, ground := .guard }], guard := some (14, false) },
  { dst := some 44, op := .pick (.tmp 36) (.const (.bool true)) (.tmp 43), type := 4, pos := "law.go:98", after := #[{ on := 14, ground := .data }, { on := 21, ground := .data }], guard := none }]
theorem splits3_plain : Region.noSelect splits3 = true := by kernel_rfl

/-- The operations of a drawn region, as the translation has them. -/
def splits5 : Array Oper := #[
  { dst := some 45, op := .load 23 (.tmp 3), type := 23, pos := "law.go:101", after := #[], guard := none },
  { dst := some 46, op := .load 23 (.tmp 4), type := 23, pos := "law.go:101", after := #[], guard := none },
  { dst := some 47, op := .call { callee := .value (.func 22), args := #[.tmp 45, .tmp 46], argTypes := #[23, 23] }, type := 2, pos := "law.go:101", after := #[{ on := 0, ground := .data }, { on := 1, ground := .data }], guard := none },
  { dst := some 48, op := .binOp .gtr 2 (.tmp 47) (.const (.int .i64 0)) 2, type := 4, pos := "law.go:101", after := #[{ on := 2, ground := .data }], guard := none },
  { dst := some 49, op := .load 23 (.tmp 3), type := 23, pos := "law.go:101", after := #[], guard := none },
  { dst := some 50, op := .call { callee := .value (.func 10), args := #[.tmp 49], argTypes := #[23] }, type := 4, pos := "law.go:101", after := #[{ on := 4, ground := .data }, { on := 2, ground := .chain }], guard := none },
  { dst := some 51, op := .unOp .not 4 (.tmp 50), type := 4, pos := "law.go:101", after := #[{ on := 5, ground := .data }], guard := none },
  { dst := some 52, op := .move (.tmp 51), type := 4, pos := "law.go:101", after := #[{ on := 6, ground := .data }, { on := 5, ground := .chain }], guard := none },
  { dst := some 53, op := .load 23 (.tmp 4), type := 23, pos := "law.go:101", after := #[{ on := 7, ground := .guard }], guard := some (7, true) },
  { dst := some 54, op := .call { callee := .value (.func 10), args := #[.tmp 53], argTypes := #[23] }, type := 4, pos := "law.go:101", after := #[{ on := 8, ground := .data }, { on := 7, ground := .chain }, { on := 7, ground := .guard }], guard := some (7, true) },
  { dst := some 55, op := .unOp .not 4 (.tmp 54), type := 4, pos := "law.go:101", after := #[{ on := 9, ground := .data }, { on := 7, ground := .guard }], guard := some (7, true) },
  { dst := some 56, op := .pick (.tmp 52) (.tmp 55) (.const (.bool false)), type := 4, pos := "law.go:101", after := #[{ on := 7, ground := .data }, { on := 10, ground := .data }], guard := none },
  { dst := some 57, op := .move (.tmp 56), type := 4, pos := "law.go:101", after := #[{ on := 11, ground := .data }, { on := 9, ground := .chain }], guard := none },
  { dst := some 58, op := .load 23 (.tmp 3), type := 23, pos := "law.go:101", after := #[{ on := 12, ground := .guard }], guard := some (12, true) },
  { dst := some 59, op := .load 23 (.tmp 4), type := 23, pos := "law.go:101", after := #[{ on := 12, ground := .guard }], guard := some (12, true) },
  { dst := some 60, op := .call { callee := .value (.func 7), args := #[.tmp 58, .tmp 59], argTypes := #[23, 23] }, type := 23, pos := "law.go:101", after := #[{ on := 13, ground := .data }, { on := 14, ground := .data }, { on := 12, ground := .chain }, { on := 12, ground := .guard }], guard := some (12, true) },
  { dst := some 61, op := .call { callee := .value (.func 10), args := #[.tmp 60], argTypes := #[23] }, type := 4, pos := "law.go:101", after := #[{ on := 15, ground := .data }, { on := 15, ground := .chain }, { on := 12, ground := .guard }], guard := some (12, true) },
  { dst := some 62, op := .pick (.tmp 57) (.tmp 61) (.const (.bool false)), type := 4, pos := "law.go:101", after := #[{ on := 12, ground := .data }, { on := 16, ground := .data }], guard := none },
  { dst := some 63, op := .binOp .eql 4 (.tmp 48) (.tmp 62) 4, type := 4, pos := "law.go:101", after := #[{ on := 3, ground := .data }, { on := 17, ground := .data }], guard := none },
  { dst := some 64, op := .move (.tmp 63), type := 4, pos := "law.go:101", after := #[{ on := 18, ground := .data }, { on := 16, ground := .chain }], guard := none },
  { dst := some 65, op := .call { callee := .value (.func 11), args := #[], argTypes := #[] }, type := 4, pos := "law.go:101", after := #[{ on := 19, ground := .chain }, { on := 19, ground := .guard }], guard := some (19, true) },
  { dst := some 66, op := .pick (.tmp 64) (.tmp 65) (.const (.bool false)), type := 4, pos := "law.go:101", after := #[{ on := 19, ground := .data }, { on := 20, ground := .data }], guard := none },
  { dst := some 6, op := .assign (.tmp 66), type := 4, pos := "law.go:101", after := #[{ on := 21, ground := .data }, { on := 20, ground := .chain }, { on := 0, ground := .phase }, { on := 1, ground := .phase }, { on := 2, ground := .phase }, { on := 3, ground := .phase }, { on := 4, ground := .phase }, { on := 5, ground := .phase }, { on := 6, ground := .phase }, { on := 7, ground := .phase }, { on := 8, ground := .phase }, { on := 9, ground := .phase }, { on := 10, ground := .phase }, { on := 11, ground := .phase }, { on := 12, ground := .phase }, { on := 13, ground := .phase }, { on := 14, ground := .phase }, { on := 15, ground := .phase }, { on := 16, ground := .phase }, { on := 17, ground := .phase }, { on := 18, ground := .phase }, { on := 19, ground := .phase }, { on := 20, ground := .phase }, { on := 21, ground := .phase }], guard := none }]
theorem splits5_plain : Region.noSelect splits5 = true := by kernel_rfl


set_option maxHeartbeats 4000000 in
set_option maxRecDepth 100000 in
theorem splits_core (a b c d x p1 p2 q1 q2 g l h : Int) (kin kout ka : Bool) (ea eb em : Bool) (w : World)
    (SP : Hid (∀ w', Below w.heap.size w w' → Calls Tryd.prog 21 #[.agg #[.int .i64 a, .int .i64 b]] w' fun e w'' => e = .returned (.tuple #[.agg #[.int .i64 p1, .int .i64 p2], .agg #[.int .i64 q1, .int .i64 q2]]) ∧ Below w'.heap.size w' w''))
    (K1 : Hid (∀ w, Calls Tryd.prog 9 #[.agg #[.int .i64 p1, .int .i64 p2], .int .i64 x] w fun e w' => e = .returned (.bool kin) ∧ Below w.heap.size w w'))
    (K2 : Hid (∀ w, Calls Tryd.prog 9 #[.agg #[.int .i64 q1, .int .i64 q2], .int .i64 x] w fun e w' => e = .returned (.bool kout) ∧ Below w.heap.size w w'))
    (K3 : Hid (∀ w, Calls Tryd.prog 9 #[.agg #[.int .i64 a, .int .i64 b], .int .i64 x] w fun e w' => e = .returned (.bool ka) ∧ Below w.heap.size w w'))
    (G1 : Hid (∀ w', Below w.heap.size w w' → Calls Tryd.prog 22 #[.agg #[.int .i64 a, .int .i64 b], .agg #[.int .i64 c, .int .i64 d]] w' fun e w'' => e = .returned (.int .i64 g) ∧ Below w'.heap.size w' w''))
    (G2 : Hid (∀ w', Below w.heap.size w w' → Calls Tryd.prog 22 #[.agg #[.int .i64 c, .int .i64 d], .agg #[.int .i64 a, .int .i64 b]] w' fun e w'' => e = .returned (.int .i64 g) ∧ Below w'.heap.size w' w''))
    (E1 : Hid (∀ w, Calls Tryd.prog 10 #[.agg #[.int .i64 a, .int .i64 b]] w fun e w' => e = .returned (.bool ea) ∧ Below w.heap.size w w'))
    (E2 : Hid (∀ w, Calls Tryd.prog 10 #[.agg #[.int .i64 c, .int .i64 d]] w fun e w' => e = .returned (.bool eb) ∧ Below w.heap.size w w'))
    (M : Hid (∀ w', Below w.heap.size w w' → Calls Tryd.prog 7 #[.agg #[.int .i64 a, .int .i64 b], .agg #[.int .i64 c, .int .i64 d]] w' fun e w'' => e = .returned (.agg #[.int .i64 l, .int .i64 h]) ∧ Below w'.heap.size w' w''))
    (E3 : Hid (∀ w, Calls Tryd.prog 10 #[.agg #[.int .i64 l, .int .i64 h]] w fun e w' => e = .returned (.bool em) ∧ Below w.heap.size w w'))
    (AW : Hid (∀ w', Below w.heap.size w w' → Calls Tryd.prog 11 #[] w' fun e w'' => e = .returned (.bool true) ∧ Below w'.heap.size w' w''))
    (hk : kin = true ∧ kout = false ∧ ka = true ∨ kin = false ∧ kout = true ∧ ka = true ∨ kin = false ∧ kout = false ∧ ka = false)
    (hg : ea = true ∧ decide (0 < g) = false ∨ ea = false ∧ eb = true ∧ decide (0 < g) = false ∨ ea = false ∧ eb = false ∧ em = true ∧ 0 < g ∨ ea = false ∧ eb = false ∧ em = false ∧ decide (0 < g) = false) :
    Calls Tryd.prog 6 #[.agg #[.int .i64 a, .int .i64 b], .agg #[.int .i64 c, .int .i64 d], .int .i64 x] w fun e w' => e = .returned (.bool true) ∧ Below w.heap.size w w' := by
  go_enter Tryd.func6, Tryd.ntmps6
  go_wp2_with fail
  refine (SP.out _ (below2 w _ _)).mono ?_; rintro e w1 ⟨rfl, hb1⟩
  have B1 := belowT (below2 w _ _) hb1
  have X1 := (own2b w _ _ _ _).keep hb1; have X1a := X1.c0; have X1b := X1.c1; have X1c := X1.f0; have X1d := X1.f1; have X1l := X1.lt
  have Y1 := ((own2 w _ _ _).more _).keep hb1; have Y1a := Y1.c0; have Y1b := Y1.c1; have Y1c := Y1.f0; have Y1d := Y1.f1; have Y1l := Y1.lt
  go_wp2_with fail
  have B1' := belowT B1 (below2 w1 (.cells #[.int .i64 p1, .int .i64 p2] 23) (.cells #[.int .i64 q1, .int .i64 q2] 23))
  have P1 := (own2 w1 (.int .i64 p1) (.int .i64 p2) 23).more (.cells #[.int .i64 q1, .int .i64 q2] 23)
  have Q1 := own2b w1 (.cells #[.int .i64 p1, .int .i64 p2] 23) (.int .i64 q1) (.int .i64 q2) 23
  obtain ⟨pa, pb, pc, pd⟩ := P1
  obtain ⟨qa, qb, qc, qd⟩ := Q1
  go_region_held3 (fun w' => w'.cell? ⟨w1.heap.size, 0, none⟩ = some (.int .i64 p1) ∧ w'.cell? ⟨w1.heap.size, 1, none⟩ = some (.int .i64 p2) ∧ w'.cell? ⟨w1.heap.size + 1, 0, none⟩ = some (.int .i64 q1) ∧ w'.cell? ⟨w1.heap.size + 1, 1, none⟩ = some (.int .i64 q2))
    (first
      | (go_split_ands; refine ⟨?_, ?_, ?_, ?_⟩ <;> first | exact keepc hb3 (by assumption) | exact keepc hb2 (by assumption))
      | go_keep)
    (first
      | (go_at_call 9; have _t := B2; clear _t; (with_reducible refine (K2.out _).mono ?_); rintro e w3 ⟨rfl, hb3⟩; have B3 := belowT B2 hb3)
      | (go_at_call 9; (with_reducible refine (K1.out _).mono ?_); rintro e w2 ⟨rfl, hb2⟩; have B2 := belowT (B1').drew hb2))
  have X3 := ((((X1.more (.cells #[.int .i64 p1, .int .i64 p2] 23)).more (.cells #[.int .i64 q1, .int .i64 q2] 23)).drew).keep hb2).keep hb3
  have Y3 := ((((Y1.more (.cells #[.int .i64 p1, .int .i64 p2] 23)).more (.cells #[.int .i64 q1, .int .i64 q2] 23)).drew).keep hb2).keep hb3
  have xr0 : ∀ w', Below w3.heap.size w3 w' → w'.cell? ⟨w.heap.size + 1, 0, none⟩ = some (.int .i64 c) := fun w' hb => keepc hb X3.c0
  have xr1 : ∀ w', Below w3.heap.size w3 w' → w'.cell? ⟨w.heap.size + 1, 1, none⟩ = some (.int .i64 d) := fun w' hb => keepc hb X3.c1
  have yr0 : ∀ w', Below w3.heap.size w3 w' → w'.cell? ⟨w.heap.size, 0, none⟩ = some (.int .i64 a) := fun w' hb => keepc hb Y3.c0
  have yr1 : ∀ w', Below w3.heap.size w3 w' → w'.cell? ⟨w.heap.size, 1, none⟩ = some (.int .i64 b) := fun w' hb => keepc hb Y3.c1
  clear X1 X1a X1b X1c X1d X1l Y1 Y1a Y1b Y1c Y1d Y1l pa pb pc pd qa qb qc qd
  go_upto_region 3 with fail
  go_cut [44] from 22 to 45 (fun v wx => v = .bool false ∧ Below w3.heap.size w3 wx)
  case first =>
    rcases hk with ⟨rfl, rfl, rfl⟩ | ⟨rfl, rfl, rfl⟩ | ⟨rfl, rfl, rfl⟩
    · skip
      change (Code.region 3 splits3 true).wp Tryd.prog _ _ _
      refine wp_region_noPanic ?_
      refine wp_region_held_drew (S := fun w' => Below w3.heap.size w3 w') (by kernel_rfl) ((Below.refl _ _).drew) (fun hHeld => ?_)
      refine wpAnyH_take (i := 0) (oi := ({ dst := some 22, op := .load 23 (.tmp 3), type := 23, pos := "law.go:98", after := #[], guard := none } : Oper)) (v := ?vs1_0) rfl splits3_plain (by as_aux_lemma => kernel_rfl) (by as_aux_lemma => kernel_rfl) (fun _ _ _ h => h) (Or.inl ⟨by rfl, ?ys1_0⟩) (by assumption) ?rs1_0
      case ys1_0 => (intro w hSw; (try dsimp only at hSw); go_simp; try with_reducible rfl)
      try simp only [Act.put, List.setIfInBounds_toArray, List.set_cons_zero, List.set_cons_succ]
      refine wpAnyH_take (i := 1) (oi := ({ dst := some 23, op := .move (.tmp 2), type := 2, pos := "law.go:98", after := #[], guard := none } : Oper)) (v := ?vs1_1) rfl splits3_plain (by as_aux_lemma => kernel_rfl) (by as_aux_lemma => kernel_rfl) (fun _ _ _ h => h) (Or.inl ⟨by rfl, ?ys1_1⟩) (by assumption) ?rs1_1
      case ys1_1 => (intro w hSw; (try dsimp only at hSw); go_simp; try with_reducible rfl)
      try simp only [Act.put, List.setIfInBounds_toArray, List.set_cons_zero, List.set_cons_succ]
      refine wpAnyH_take (i := 3) (oi := ({ dst := some 25, op := .move (.tmp 9), type := 4, pos := "law.go:98", after := #[], guard := none } : Oper)) (v := ?vs1_3) rfl splits3_plain (by as_aux_lemma => kernel_rfl) (by as_aux_lemma => kernel_rfl) (fun _ _ _ h => h) (Or.inl ⟨by rfl, ?ys1_3⟩) (by assumption) ?rs1_3
      case ys1_3 => (intro w hSw; (try dsimp only at hSw); go_simp; try with_reducible rfl)
      try simp only [Act.put, List.setIfInBounds_toArray, List.set_cons_zero, List.set_cons_succ]
      refine wpAnyH_ready (rs := [2]) (by as_aux_lemma => kernel_rfl) (by simp) ?_
      refine AllReadyH.cons (o := ({ dst := some 24, op := .call { callee := .value (.func 9), args := #[.tmp 22, .tmp 23], argTypes := #[23, 2] }, type := 4, pos := "law.go:98", after := #[{ on := 0, ground := .data }, { on := 1, ground := .data }], guard := none } : Oper)) rfl (fun KK hK => ?_) AllReadyH.nil
      rw [if_pos (by rfl)]
      go_simp
      go_at_call 9; refine (K3.out _).mono ?_; rintro e w4 ⟨rfl, hb4⟩
      go_wp2_with fail
      refine hK.out _ _ ?_ (fun hHeld4 => ?_)
      · exact belowT (by assumption) hb4
      clear hK KK hb4
      try simp only [Act.put, List.setIfInBounds_toArray, List.set_cons_zero, List.set_cons_succ]
      refine wpAnyH_take (i := 4) (oi := ({ dst := some 26, op := .move (.tmp 25), type := 4, pos := "law.go:98", after := #[{ on := 3, ground := .data }, { on := 2, ground := .chain }], guard := none } : Oper)) (v := ?vs1_4) rfl splits3_plain (by as_aux_lemma => kernel_rfl) (by as_aux_lemma => kernel_rfl) (fun _ _ _ h => h) (Or.inl ⟨by rfl, ?ys1_4⟩) (by assumption) ?rs1_4
      case ys1_4 => (intro w hSw; (try dsimp only at hSw); go_simp; try with_reducible rfl)
      try simp only [Act.put, List.setIfInBounds_toArray, List.set_cons_zero, List.set_cons_succ]
      refine wpAnyH_take (i := 5) (oi := ({ dst := some 27, op := .move (.tmp 10), type := 4, pos := "law.go:98", after := #[{ on := 4, ground := .guard }], guard := some (4, false) } : Oper)) (v := undef) rfl splits3_plain (by as_aux_lemma => kernel_rfl) (by as_aux_lemma => kernel_rfl) (fun _ _ _ h => h) (Or.inr ⟨by rfl, rfl⟩) (by assumption) ?_
      try simp only [Act.put, List.setIfInBounds_toArray, List.set_cons_zero, List.set_cons_succ]
      refine wpAnyH_take (i := 6) (oi := ({ dst := some 28, op := .pick (.tmp 26) (.const (.bool true)) (.tmp 27), type := 4, pos := "law.go:98", after := #[{ on := 4, ground := .data }, { on := 5, ground := .data }], guard := none } : Oper)) (v := ?vs1_6) rfl splits3_plain (by as_aux_lemma => kernel_rfl) (by as_aux_lemma => kernel_rfl) (fun _ _ _ h => h) (Or.inl ⟨by rfl, ?ys1_6⟩) (by assumption) ?rs1_6
      case ys1_6 => (intro w hSw; (try dsimp only at hSw); go_simp; try with_reducible rfl)
      try simp only [Act.put, List.setIfInBounds_toArray, List.set_cons_zero, List.set_cons_succ]
      refine wpAnyH_take (i := 7) (oi := ({ dst := some 29, op := .binOp .neq 4 (.tmp 24) (.tmp 28) 4, type := 4, pos := "law.go:98", after := #[{ on := 2, ground := .data }, { on := 6, ground := .data }], guard := none } : Oper)) (v := ?vs1_7) rfl splits3_plain (by as_aux_lemma => kernel_rfl) (by as_aux_lemma => kernel_rfl) (fun _ _ _ h => h) (Or.inl ⟨by rfl, ?ys1_7⟩) (by assumption) ?rs1_7
      case ys1_7 => (intro w hSw; (try dsimp only at hSw); go_simp; try with_reducible rfl)
      try simp only [Act.put, List.setIfInBounds_toArray, List.set_cons_zero, List.set_cons_succ]
      refine wpAnyH_take (i := 8) (oi := ({ dst := some 30, op := .move (.tmp 29), type := 4, pos := "law.go:98", after := #[{ on := 7, ground := .data }, { on := 4, ground := .chain }], guard := none } : Oper)) (v := ?vs1_8) rfl splits3_plain (by as_aux_lemma => kernel_rfl) (by as_aux_lemma => kernel_rfl) (fun _ _ _ h => h) (Or.inl ⟨by rfl, ?ys1_8⟩) (by assumption) ?rs1_8
      case ys1_8 => (intro w hSw; (try dsimp only at hSw); go_simp; try with_reducible rfl)
      try simp only [Act.put, List.setIfInBounds_toArray, List.set_cons_zero, List.set_cons_succ]
      refine wpAnyH_take (i := 9) (oi := ({ dst := some 31, op := .move (.tmp 9), type := 4, pos := "law.go:98", after := #[{ on := 8, ground := .guard }], guard := some (8, false) } : Oper)) (v := ?vs1_9) rfl splits3_plain (by as_aux_lemma => kernel_rfl) (by as_aux_lemma => kernel_rfl) (fun _ _ _ h => h) (Or.inl ⟨by rfl, ?ys1_9⟩) (by assumption) ?rs1_9
      case ys1_9 => (intro w hSw; (try dsimp only at hSw); go_simp; try with_reducible rfl)
      try simp only [Act.put, List.setIfInBounds_toArray, List.set_cons_zero, List.set_cons_succ]
      refine wpAnyH_take (i := 10) (oi := ({ dst := some 32, op := .move (.tmp 31), type := 4, pos := "law.go:98", after := #[{ on := 9, ground := .data }, { on := 8, ground := .chain }, { on := 8, ground := .guard }], guard := some (8, false) } : Oper)) (v := ?vs1_10) rfl splits3_plain (by as_aux_lemma => kernel_rfl) (by as_aux_lemma => kernel_rfl) (fun _ _ _ h => h) (Or.inl ⟨by rfl, ?ys1_10⟩) (by assumption) ?rs1_10
      case ys1_10 => (intro w hSw; (try dsimp only at hSw); go_simp; try with_reducible rfl)
      try simp only [Act.put, List.setIfInBounds_toArray, List.set_cons_zero, List.set_cons_succ]
      refine wpAnyH_take (i := 11) (oi := ({ dst := some 33, op := .move (.tmp 10), type := 4, pos := "law.go:98", after := #[{ on := 10, ground := .guard }], guard := some (10, true) } : Oper)) (v := ?vs1_11) rfl splits3_plain (by as_aux_lemma => kernel_rfl) (by as_aux_lemma => kernel_rfl) (fun _ _ _ h => h) (Or.inl ⟨by rfl, ?ys1_11⟩) (by assumption) ?rs1_11
      case ys1_11 => (intro w hSw; (try dsimp only at hSw); go_simp; try with_reducible rfl)
      try simp only [Act.put, List.setIfInBounds_toArray, List.set_cons_zero, List.set_cons_succ]
      refine wpAnyH_take (i := 12) (oi := ({ dst := some 34, op := .pick (.tmp 32) (.tmp 33) (.const (.bool false)), type := 4, pos := "law.go:98", after := #[{ on := 10, ground := .data }, { on := 11, ground := .data }, { on := 8, ground := .guard }], guard := some (8, false) } : Oper)) (v := ?vs1_12) rfl splits3_plain (by as_aux_lemma => kernel_rfl) (by as_aux_lemma => kernel_rfl) (fun _ _ _ h => h) (Or.inl ⟨by rfl, ?ys1_12⟩) (by assumption) ?rs1_12
      case ys1_12 => (intro w hSw; (try dsimp only at hSw); go_simp; try with_reducible rfl)
      try simp only [Act.put, List.setIfInBounds_toArray, List.set_cons_zero, List.set_cons_succ]
      refine wpAnyH_take (i := 13) (oi := ({ dst := some 35, op := .pick (.tmp 30) (.const (.bool true)) (.tmp 34), type := 4, pos := "law.go:98", after := #[{ on := 8, ground := .data }, { on := 12, ground := .data }], guard := none } : Oper)) (v := ?vs1_13) rfl splits3_plain (by as_aux_lemma => kernel_rfl) (by as_aux_lemma => kernel_rfl) (fun _ _ _ h => h) (Or.inl ⟨by rfl, ?ys1_13⟩) (by assumption) ?rs1_13
      case ys1_13 => (intro w hSw; (try dsimp only at hSw); go_simp; try with_reducible rfl)
      try simp only [Act.put, List.setIfInBounds_toArray, List.set_cons_zero, List.set_cons_succ]
      refine wpAnyH_take (i := 14) (oi := ({ dst := some 36, op := .move (.tmp 35), type := 4, pos := "law.go:98", after := #[{ on := 13, ground := .data }, { on := 10, ground := .chain }], guard := none } : Oper)) (v := ?vs1_14) rfl splits3_plain (by as_aux_lemma => kernel_rfl) (by as_aux_lemma => kernel_rfl) (fun _ _ _ h => h) (Or.inl ⟨by rfl, ?ys1_14⟩) (by assumption) ?rs1_14
      case ys1_14 => (intro w hSw; (try dsimp only at hSw); go_simp; try with_reducible rfl)
      try simp only [Act.put, List.setIfInBounds_toArray, List.set_cons_zero, List.set_cons_succ]
      refine wpAnyH_take (i := 15) (oi := ({ dst := some 37, op := .load 23 (.tmp 3), type := 23, pos := "law.go:98", after := #[{ on := 14, ground := .guard }], guard := some (14, false) } : Oper)) (v := ?vs1_15) rfl splits3_plain (by as_aux_lemma => kernel_rfl) (by as_aux_lemma => kernel_rfl) (fun _ _ _ h => h) (Or.inl ⟨by rfl, ?ys1_15⟩) (by assumption) ?rs1_15
      case ys1_15 => (intro w hSw; (try dsimp only at hSw); go_simp; try with_reducible rfl)
      try simp only [Act.put, List.setIfInBounds_toArray, List.set_cons_zero, List.set_cons_succ]
      refine wpAnyH_take (i := 16) (oi := ({ dst := some 38, op := .load 23 (.tmp 4), type := 23, pos := "law.go:98", after := #[{ on := 14, ground := .guard }], guard := some (14, false) } : Oper)) (v := ?vs1_16) rfl splits3_plain (by as_aux_lemma => kernel_rfl) (by as_aux_lemma => kernel_rfl) (fun _ _ _ h => h) (Or.inl ⟨by rfl, ?ys1_16⟩) (by assumption) ?rs1_16
      case ys1_16 => (intro w hSw; (try dsimp only at hSw); go_simp; try with_reducible rfl)
      try simp only [Act.put, List.setIfInBounds_toArray, List.set_cons_zero, List.set_cons_succ]
      refine wpAnyH_take (i := 18) (oi := ({ dst := some 40, op := .load 23 (.tmp 4), type := 23, pos := "law.go:98", after := #[{ on := 14, ground := .guard }], guard := some (14, false) } : Oper)) (v := ?vs1_18) rfl splits3_plain (by as_aux_lemma => kernel_rfl) (by as_aux_lemma => kernel_rfl) (fun _ _ _ h => h) (Or.inl ⟨by rfl, ?ys1_18⟩) (by assumption) ?rs1_18
      case ys1_18 => (intro w hSw; (try dsimp only at hSw); go_simp; try with_reducible rfl)
      try simp only [Act.put, List.setIfInBounds_toArray, List.set_cons_zero, List.set_cons_succ]
      refine wpAnyH_take (i := 19) (oi := ({ dst := some 41, op := .load 23 (.tmp 3), type := 23, pos := "law.go:98", after := #[{ on := 14, ground := .guard }], guard := some (14, false) } : Oper)) (v := ?vs1_19) rfl splits3_plain (by as_aux_lemma => kernel_rfl) (by as_aux_lemma => kernel_rfl) (fun _ _ _ h => h) (Or.inl ⟨by rfl, ?ys1_19⟩) (by assumption) ?rs1_19
      case ys1_19 => (intro w hSw; (try dsimp only at hSw); go_simp; try with_reducible rfl)
      try simp only [Act.put, List.setIfInBounds_toArray, List.set_cons_zero, List.set_cons_succ]
      refine wpAnyH_ready (rs := [17]) (by as_aux_lemma => kernel_rfl) (by simp) ?_
      refine AllReadyH.cons (o := ({ dst := some 39, op := .call { callee := .value (.func 22), args := #[.tmp 37, .tmp 38], argTypes := #[23, 23] }, type := 2, pos := "law.go:98", after := #[{ on := 15, ground := .data }, { on := 16, ground := .data }, { on := 14, ground := .chain }, { on := 14, ground := .guard }], guard := some (14, false) } : Oper)) rfl (fun KK hK => ?_) AllReadyH.nil
      rw [if_pos (by rfl)]
      go_simp
      go_at_call 22; refine (G1.out _ (belowT B3 (by assumption))).mono ?_; rintro e w5 ⟨rfl, hb5⟩
      go_wp2_with fail
      refine hK.out _ _ ?_ (fun hHeld5 => ?_)
      · exact belowT (by assumption) hb5
      clear hK KK hb5 hHeld4
      try simp only [Act.put, List.setIfInBounds_toArray, List.set_cons_zero, List.set_cons_succ]
      refine wpAnyH_ready (rs := [20]) (by as_aux_lemma => kernel_rfl) (by simp) ?_
      refine AllReadyH.cons (o := ({ dst := some 42, op := .call { callee := .value (.func 22), args := #[.tmp 40, .tmp 41], argTypes := #[23, 23] }, type := 2, pos := "law.go:98", after := #[{ on := 18, ground := .data }, { on := 19, ground := .data }, { on := 17, ground := .chain }, { on := 14, ground := .guard }], guard := some (14, false) } : Oper)) rfl (fun KK hK => ?_) AllReadyH.nil
      rw [if_pos (by rfl)]
      go_simp
      go_at_call 22; refine (G2.out _ (belowT B3 (by assumption))).mono ?_; rintro e w6 ⟨rfl, hb6⟩
      go_wp2_with fail
      refine hK.out _ _ ?_ (fun hHeld6 => ?_)
      · exact belowT (by assumption) hb6
      clear hK KK hb6 hHeld5
      try simp only [Act.put, List.setIfInBounds_toArray, List.set_cons_zero, List.set_cons_succ]
      refine wpAnyH_take (i := 21) (oi := ({ dst := some 43, op := .binOp .neq 2 (.tmp 39) (.tmp 42) 2, type := 4, pos := "law.go:98", after := #[{ on := 17, ground := .data }, { on := 20, ground := .data }, { on := 14, ground := .guard }], guard := some (14, false) } : Oper)) (v := ?vs1_21) rfl splits3_plain (by as_aux_lemma => kernel_rfl) (by as_aux_lemma => kernel_rfl) (fun _ _ _ h => h) (Or.inl ⟨by rfl, ?ys1_21⟩) (by assumption) ?rs1_21
      case ys1_21 => (intro w hSw; (try dsimp only at hSw); go_simp; try with_reducible rfl)
      try simp only [Act.put, List.setIfInBounds_toArray, List.set_cons_zero, List.set_cons_succ]
      refine wpAnyH_take (i := 22) (oi := ({ dst := some 44, op := .pick (.tmp 36) (.const (.bool true)) (.tmp 43), type := 4, pos := "law.go:98", after := #[{ on := 14, ground := .data }, { on := 21, ground := .data }], guard := none } : Oper)) (v := ?vs1_22) rfl splits3_plain (by as_aux_lemma => kernel_rfl) (by as_aux_lemma => kernel_rfl) (fun _ _ _ h => h) (Or.inl ⟨by rfl, ?ys1_22⟩) (by assumption) ?rs1_22
      case ys1_22 => (intro w hSw; (try dsimp only at hSw); go_simp; try with_reducible rfl)
      try simp only [Act.put, List.setIfInBounds_toArray, List.set_cons_zero, List.set_cons_succ]
      refine wpAnyH_done (by as_aux_lemma => kernel_rfl) ?_ _
      refine NoPanic.normal ?_
      go_wp2_with fail
      go_meet
      exact ⟨rfl, by assumption⟩
    · skip
      change (Code.region 3 splits3 true).wp Tryd.prog _ _ _
      refine wp_region_noPanic ?_
      refine wp_region_held_drew (S := fun w' => Below w3.heap.size w3 w') (by kernel_rfl) ((Below.refl _ _).drew) (fun hHeld => ?_)
      refine wpAnyH_take (i := 0) (oi := ({ dst := some 22, op := .load 23 (.tmp 3), type := 23, pos := "law.go:98", after := #[], guard := none } : Oper)) (v := ?vs2_0) rfl splits3_plain (by as_aux_lemma => kernel_rfl) (by as_aux_lemma => kernel_rfl) (fun _ _ _ h => h) (Or.inl ⟨by rfl, ?ys2_0⟩) (by assumption) ?rs2_0
      case ys2_0 => (intro w hSw; (try dsimp only at hSw); go_simp; try with_reducible rfl)
      try simp only [Act.put, List.setIfInBounds_toArray, List.set_cons_zero, List.set_cons_succ]
      refine wpAnyH_take (i := 1) (oi := ({ dst := some 23, op := .move (.tmp 2), type := 2, pos := "law.go:98", after := #[], guard := none } : Oper)) (v := ?vs2_1) rfl splits3_plain (by as_aux_lemma => kernel_rfl) (by as_aux_lemma => kernel_rfl) (fun _ _ _ h => h) (Or.inl ⟨by rfl, ?ys2_1⟩) (by assumption) ?rs2_1
      case ys2_1 => (intro w hSw; (try dsimp only at hSw); go_simp; try with_reducible rfl)
      try simp only [Act.put, List.setIfInBounds_toArray, List.set_cons_zero, List.set_cons_succ]
      refine wpAnyH_take (i := 3) (oi := ({ dst := some 25, op := .move (.tmp 9), type := 4, pos := "law.go:98", after := #[], guard := none } : Oper)) (v := ?vs2_3) rfl splits3_plain (by as_aux_lemma => kernel_rfl) (by as_aux_lemma => kernel_rfl) (fun _ _ _ h => h) (Or.inl ⟨by rfl, ?ys2_3⟩) (by assumption) ?rs2_3
      case ys2_3 => (intro w hSw; (try dsimp only at hSw); go_simp; try with_reducible rfl)
      try simp only [Act.put, List.setIfInBounds_toArray, List.set_cons_zero, List.set_cons_succ]
      refine wpAnyH_ready (rs := [2]) (by as_aux_lemma => kernel_rfl) (by simp) ?_
      refine AllReadyH.cons (o := ({ dst := some 24, op := .call { callee := .value (.func 9), args := #[.tmp 22, .tmp 23], argTypes := #[23, 2] }, type := 4, pos := "law.go:98", after := #[{ on := 0, ground := .data }, { on := 1, ground := .data }], guard := none } : Oper)) rfl (fun KK hK => ?_) AllReadyH.nil
      rw [if_pos (by rfl)]
      go_simp
      go_at_call 9; refine (K3.out _).mono ?_; rintro e w4 ⟨rfl, hb4⟩
      go_wp2_with fail
      refine hK.out _ _ ?_ (fun hHeld4 => ?_)
      · exact belowT (by assumption) hb4
      clear hK KK hb4
      try simp only [Act.put, List.setIfInBounds_toArray, List.set_cons_zero, List.set_cons_succ]
      refine wpAnyH_take (i := 4) (oi := ({ dst := some 26, op := .move (.tmp 25), type := 4, pos := "law.go:98", after := #[{ on := 3, ground := .data }, { on := 2, ground := .chain }], guard := none } : Oper)) (v := ?vs2_4) rfl splits3_plain (by as_aux_lemma => kernel_rfl) (by as_aux_lemma => kernel_rfl) (fun _ _ _ h => h) (Or.inl ⟨by rfl, ?ys2_4⟩) (by assumption) ?rs2_4
      case ys2_4 => (intro w hSw; (try dsimp only at hSw); go_simp; try with_reducible rfl)
      try simp only [Act.put, List.setIfInBounds_toArray, List.set_cons_zero, List.set_cons_succ]
      refine wpAnyH_take (i := 5) (oi := ({ dst := some 27, op := .move (.tmp 10), type := 4, pos := "law.go:98", after := #[{ on := 4, ground := .guard }], guard := some (4, false) } : Oper)) (v := ?vs2_5) rfl splits3_plain (by as_aux_lemma => kernel_rfl) (by as_aux_lemma => kernel_rfl) (fun _ _ _ h => h) (Or.inl ⟨by rfl, ?ys2_5⟩) (by assumption) ?rs2_5
      case ys2_5 => (intro w hSw; (try dsimp only at hSw); go_simp; try with_reducible rfl)
      try simp only [Act.put, List.setIfInBounds_toArray, List.set_cons_zero, List.set_cons_succ]
      refine wpAnyH_take (i := 6) (oi := ({ dst := some 28, op := .pick (.tmp 26) (.const (.bool true)) (.tmp 27), type := 4, pos := "law.go:98", after := #[{ on := 4, ground := .data }, { on := 5, ground := .data }], guard := none } : Oper)) (v := ?vs2_6) rfl splits3_plain (by as_aux_lemma => kernel_rfl) (by as_aux_lemma => kernel_rfl) (fun _ _ _ h => h) (Or.inl ⟨by rfl, ?ys2_6⟩) (by assumption) ?rs2_6
      case ys2_6 => (intro w hSw; (try dsimp only at hSw); go_simp; try with_reducible rfl)
      try simp only [Act.put, List.setIfInBounds_toArray, List.set_cons_zero, List.set_cons_succ]
      refine wpAnyH_take (i := 7) (oi := ({ dst := some 29, op := .binOp .neq 4 (.tmp 24) (.tmp 28) 4, type := 4, pos := "law.go:98", after := #[{ on := 2, ground := .data }, { on := 6, ground := .data }], guard := none } : Oper)) (v := ?vs2_7) rfl splits3_plain (by as_aux_lemma => kernel_rfl) (by as_aux_lemma => kernel_rfl) (fun _ _ _ h => h) (Or.inl ⟨by rfl, ?ys2_7⟩) (by assumption) ?rs2_7
      case ys2_7 => (intro w hSw; (try dsimp only at hSw); go_simp; try with_reducible rfl)
      try simp only [Act.put, List.setIfInBounds_toArray, List.set_cons_zero, List.set_cons_succ]
      refine wpAnyH_take (i := 8) (oi := ({ dst := some 30, op := .move (.tmp 29), type := 4, pos := "law.go:98", after := #[{ on := 7, ground := .data }, { on := 4, ground := .chain }], guard := none } : Oper)) (v := ?vs2_8) rfl splits3_plain (by as_aux_lemma => kernel_rfl) (by as_aux_lemma => kernel_rfl) (fun _ _ _ h => h) (Or.inl ⟨by rfl, ?ys2_8⟩) (by assumption) ?rs2_8
      case ys2_8 => (intro w hSw; (try dsimp only at hSw); go_simp; try with_reducible rfl)
      try simp only [Act.put, List.setIfInBounds_toArray, List.set_cons_zero, List.set_cons_succ]
      refine wpAnyH_take (i := 9) (oi := ({ dst := some 31, op := .move (.tmp 9), type := 4, pos := "law.go:98", after := #[{ on := 8, ground := .guard }], guard := some (8, false) } : Oper)) (v := ?vs2_9) rfl splits3_plain (by as_aux_lemma => kernel_rfl) (by as_aux_lemma => kernel_rfl) (fun _ _ _ h => h) (Or.inl ⟨by rfl, ?ys2_9⟩) (by assumption) ?rs2_9
      case ys2_9 => (intro w hSw; (try dsimp only at hSw); go_simp; try with_reducible rfl)
      try simp only [Act.put, List.setIfInBounds_toArray, List.set_cons_zero, List.set_cons_succ]
      refine wpAnyH_take (i := 10) (oi := ({ dst := some 32, op := .move (.tmp 31), type := 4, pos := "law.go:98", after := #[{ on := 9, ground := .data }, { on := 8, ground := .chain }, { on := 8, ground := .guard }], guard := some (8, false) } : Oper)) (v := ?vs2_10) rfl splits3_plain (by as_aux_lemma => kernel_rfl) (by as_aux_lemma => kernel_rfl) (fun _ _ _ h => h) (Or.inl ⟨by rfl, ?ys2_10⟩) (by assumption) ?rs2_10
      case ys2_10 => (intro w hSw; (try dsimp only at hSw); go_simp; try with_reducible rfl)
      try simp only [Act.put, List.setIfInBounds_toArray, List.set_cons_zero, List.set_cons_succ]
      refine wpAnyH_take (i := 11) (oi := ({ dst := some 33, op := .move (.tmp 10), type := 4, pos := "law.go:98", after := #[{ on := 10, ground := .guard }], guard := some (10, true) } : Oper)) (v := undef) rfl splits3_plain (by as_aux_lemma => kernel_rfl) (by as_aux_lemma => kernel_rfl) (fun _ _ _ h => h) (Or.inr ⟨by rfl, rfl⟩) (by assumption) ?_
      try simp only [Act.put, List.setIfInBounds_toArray, List.set_cons_zero, List.set_cons_succ]
      refine wpAnyH_take (i := 12) (oi := ({ dst := some 34, op := .pick (.tmp 32) (.tmp 33) (.const (.bool false)), type := 4, pos := "law.go:98", after := #[{ on := 10, ground := .data }, { on := 11, ground := .data }, { on := 8, ground := .guard }], guard := some (8, false) } : Oper)) (v := ?vs2_12) rfl splits3_plain (by as_aux_lemma => kernel_rfl) (by as_aux_lemma => kernel_rfl) (fun _ _ _ h => h) (Or.inl ⟨by rfl, ?ys2_12⟩) (by assumption) ?rs2_12
      case ys2_12 => (intro w hSw; (try dsimp only at hSw); go_simp; try with_reducible rfl)
      try simp only [Act.put, List.setIfInBounds_toArray, List.set_cons_zero, List.set_cons_succ]
      refine wpAnyH_take (i := 13) (oi := ({ dst := some 35, op := .pick (.tmp 30) (.const (.bool true)) (.tmp 34), type := 4, pos := "law.go:98", after := #[{ on := 8, ground := .data }, { on := 12, ground := .data }], guard := none } : Oper)) (v := ?vs2_13) rfl splits3_plain (by as_aux_lemma => kernel_rfl) (by as_aux_lemma => kernel_rfl) (fun _ _ _ h => h) (Or.inl ⟨by rfl, ?ys2_13⟩) (by assumption) ?rs2_13
      case ys2_13 => (intro w hSw; (try dsimp only at hSw); go_simp; try with_reducible rfl)
      try simp only [Act.put, List.setIfInBounds_toArray, List.set_cons_zero, List.set_cons_succ]
      refine wpAnyH_take (i := 14) (oi := ({ dst := some 36, op := .move (.tmp 35), type := 4, pos := "law.go:98", after := #[{ on := 13, ground := .data }, { on := 10, ground := .chain }], guard := none } : Oper)) (v := ?vs2_14) rfl splits3_plain (by as_aux_lemma => kernel_rfl) (by as_aux_lemma => kernel_rfl) (fun _ _ _ h => h) (Or.inl ⟨by rfl, ?ys2_14⟩) (by assumption) ?rs2_14
      case ys2_14 => (intro w hSw; (try dsimp only at hSw); go_simp; try with_reducible rfl)
      try simp only [Act.put, List.setIfInBounds_toArray, List.set_cons_zero, List.set_cons_succ]
      refine wpAnyH_take (i := 15) (oi := ({ dst := some 37, op := .load 23 (.tmp 3), type := 23, pos := "law.go:98", after := #[{ on := 14, ground := .guard }], guard := some (14, false) } : Oper)) (v := ?vs2_15) rfl splits3_plain (by as_aux_lemma => kernel_rfl) (by as_aux_lemma => kernel_rfl) (fun _ _ _ h => h) (Or.inl ⟨by rfl, ?ys2_15⟩) (by assumption) ?rs2_15
      case ys2_15 => (intro w hSw; (try dsimp only at hSw); go_simp; try with_reducible rfl)
      try simp only [Act.put, List.setIfInBounds_toArray, List.set_cons_zero, List.set_cons_succ]
      refine wpAnyH_take (i := 16) (oi := ({ dst := some 38, op := .load 23 (.tmp 4), type := 23, pos := "law.go:98", after := #[{ on := 14, ground := .guard }], guard := some (14, false) } : Oper)) (v := ?vs2_16) rfl splits3_plain (by as_aux_lemma => kernel_rfl) (by as_aux_lemma => kernel_rfl) (fun _ _ _ h => h) (Or.inl ⟨by rfl, ?ys2_16⟩) (by assumption) ?rs2_16
      case ys2_16 => (intro w hSw; (try dsimp only at hSw); go_simp; try with_reducible rfl)
      try simp only [Act.put, List.setIfInBounds_toArray, List.set_cons_zero, List.set_cons_succ]
      refine wpAnyH_take (i := 18) (oi := ({ dst := some 40, op := .load 23 (.tmp 4), type := 23, pos := "law.go:98", after := #[{ on := 14, ground := .guard }], guard := some (14, false) } : Oper)) (v := ?vs2_18) rfl splits3_plain (by as_aux_lemma => kernel_rfl) (by as_aux_lemma => kernel_rfl) (fun _ _ _ h => h) (Or.inl ⟨by rfl, ?ys2_18⟩) (by assumption) ?rs2_18
      case ys2_18 => (intro w hSw; (try dsimp only at hSw); go_simp; try with_reducible rfl)
      try simp only [Act.put, List.setIfInBounds_toArray, List.set_cons_zero, List.set_cons_succ]
      refine wpAnyH_take (i := 19) (oi := ({ dst := some 41, op := .load 23 (.tmp 3), type := 23, pos := "law.go:98", after := #[{ on := 14, ground := .guard }], guard := some (14, false) } : Oper)) (v := ?vs2_19) rfl splits3_plain (by as_aux_lemma => kernel_rfl) (by as_aux_lemma => kernel_rfl) (fun _ _ _ h => h) (Or.inl ⟨by rfl, ?ys2_19⟩) (by assumption) ?rs2_19
      case ys2_19 => (intro w hSw; (try dsimp only at hSw); go_simp; try with_reducible rfl)
      try simp only [Act.put, List.setIfInBounds_toArray, List.set_cons_zero, List.set_cons_succ]
      refine wpAnyH_ready (rs := [17]) (by as_aux_lemma => kernel_rfl) (by simp) ?_
      refine AllReadyH.cons (o := ({ dst := some 39, op := .call { callee := .value (.func 22), args := #[.tmp 37, .tmp 38], argTypes := #[23, 23] }, type := 2, pos := "law.go:98", after := #[{ on := 15, ground := .data }, { on := 16, ground := .data }, { on := 14, ground := .chain }, { on := 14, ground := .guard }], guard := some (14, false) } : Oper)) rfl (fun KK hK => ?_) AllReadyH.nil
      rw [if_pos (by rfl)]
      go_simp
      go_at_call 22; refine (G1.out _ (belowT B3 (by assumption))).mono ?_; rintro e w5 ⟨rfl, hb5⟩
      go_wp2_with fail
      refine hK.out _ _ ?_ (fun hHeld5 => ?_)
      · exact belowT (by assumption) hb5
      clear hK KK hb5 hHeld4
      try simp only [Act.put, List.setIfInBounds_toArray, List.set_cons_zero, List.set_cons_succ]
      refine wpAnyH_ready (rs := [20]) (by as_aux_lemma => kernel_rfl) (by simp) ?_
      refine AllReadyH.cons (o := ({ dst := some 42, op := .call { callee := .value (.func 22), args := #[.tmp 40, .tmp 41], argTypes := #[23, 23] }, type := 2, pos := "law.go:98", after := #[{ on := 18, ground := .data }, { on := 19, ground := .data }, { on := 17, ground := .chain }, { on := 14, ground := .guard }], guard := some (14, false) } : Oper)) rfl (fun KK hK => ?_) AllReadyH.nil
      rw [if_pos (by rfl)]
      go_simp
      go_at_call 22; refine (G2.out _ (belowT B3 (by assumption))).mono ?_; rintro e w6 ⟨rfl, hb6⟩
      go_wp2_with fail
      refine hK.out _ _ ?_ (fun hHeld6 => ?_)
      · exact belowT (by assumption) hb6
      clear hK KK hb6 hHeld5
      try simp only [Act.put, List.setIfInBounds_toArray, List.set_cons_zero, List.set_cons_succ]
      refine wpAnyH_take (i := 21) (oi := ({ dst := some 43, op := .binOp .neq 2 (.tmp 39) (.tmp 42) 2, type := 4, pos := "law.go:98", after := #[{ on := 17, ground := .data }, { on := 20, ground := .data }, { on := 14, ground := .guard }], guard := some (14, false) } : Oper)) (v := ?vs2_21) rfl splits3_plain (by as_aux_lemma => kernel_rfl) (by as_aux_lemma => kernel_rfl) (fun _ _ _ h => h) (Or.inl ⟨by rfl, ?ys2_21⟩) (by assumption) ?rs2_21
      case ys2_21 => (intro w hSw; (try dsimp only at hSw); go_simp; try with_reducible rfl)
      try simp only [Act.put, List.setIfInBounds_toArray, List.set_cons_zero, List.set_cons_succ]
      refine wpAnyH_take (i := 22) (oi := ({ dst := some 44, op := .pick (.tmp 36) (.const (.bool true)) (.tmp 43), type := 4, pos := "law.go:98", after := #[{ on := 14, ground := .data }, { on := 21, ground := .data }], guard := none } : Oper)) (v := ?vs2_22) rfl splits3_plain (by as_aux_lemma => kernel_rfl) (by as_aux_lemma => kernel_rfl) (fun _ _ _ h => h) (Or.inl ⟨by rfl, ?ys2_22⟩) (by assumption) ?rs2_22
      case ys2_22 => (intro w hSw; (try dsimp only at hSw); go_simp; try with_reducible rfl)
      try simp only [Act.put, List.setIfInBounds_toArray, List.set_cons_zero, List.set_cons_succ]
      refine wpAnyH_done (by as_aux_lemma => kernel_rfl) ?_ _
      refine NoPanic.normal ?_
      go_wp2_with fail
      go_meet
      exact ⟨rfl, by assumption⟩
    · skip
      change (Code.region 3 splits3 true).wp Tryd.prog _ _ _
      refine wp_region_noPanic ?_
      refine wp_region_held_drew (S := fun w' => Below w3.heap.size w3 w') (by kernel_rfl) ((Below.refl _ _).drew) (fun hHeld => ?_)
      refine wpAnyH_take (i := 0) (oi := ({ dst := some 22, op := .load 23 (.tmp 3), type := 23, pos := "law.go:98", after := #[], guard := none } : Oper)) (v := ?vs3_0) rfl splits3_plain (by as_aux_lemma => kernel_rfl) (by as_aux_lemma => kernel_rfl) (fun _ _ _ h => h) (Or.inl ⟨by rfl, ?ys3_0⟩) (by assumption) ?rs3_0
      case ys3_0 => (intro w hSw; (try dsimp only at hSw); go_simp; try with_reducible rfl)
      try simp only [Act.put, List.setIfInBounds_toArray, List.set_cons_zero, List.set_cons_succ]
      refine wpAnyH_take (i := 1) (oi := ({ dst := some 23, op := .move (.tmp 2), type := 2, pos := "law.go:98", after := #[], guard := none } : Oper)) (v := ?vs3_1) rfl splits3_plain (by as_aux_lemma => kernel_rfl) (by as_aux_lemma => kernel_rfl) (fun _ _ _ h => h) (Or.inl ⟨by rfl, ?ys3_1⟩) (by assumption) ?rs3_1
      case ys3_1 => (intro w hSw; (try dsimp only at hSw); go_simp; try with_reducible rfl)
      try simp only [Act.put, List.setIfInBounds_toArray, List.set_cons_zero, List.set_cons_succ]
      refine wpAnyH_take (i := 3) (oi := ({ dst := some 25, op := .move (.tmp 9), type := 4, pos := "law.go:98", after := #[], guard := none } : Oper)) (v := ?vs3_3) rfl splits3_plain (by as_aux_lemma => kernel_rfl) (by as_aux_lemma => kernel_rfl) (fun _ _ _ h => h) (Or.inl ⟨by rfl, ?ys3_3⟩) (by assumption) ?rs3_3
      case ys3_3 => (intro w hSw; (try dsimp only at hSw); go_simp; try with_reducible rfl)
      try simp only [Act.put, List.setIfInBounds_toArray, List.set_cons_zero, List.set_cons_succ]
      refine wpAnyH_ready (rs := [2]) (by as_aux_lemma => kernel_rfl) (by simp) ?_
      refine AllReadyH.cons (o := ({ dst := some 24, op := .call { callee := .value (.func 9), args := #[.tmp 22, .tmp 23], argTypes := #[23, 2] }, type := 4, pos := "law.go:98", after := #[{ on := 0, ground := .data }, { on := 1, ground := .data }], guard := none } : Oper)) rfl (fun KK hK => ?_) AllReadyH.nil
      rw [if_pos (by rfl)]
      go_simp
      go_at_call 9; refine (K3.out _).mono ?_; rintro e w4 ⟨rfl, hb4⟩
      go_wp2_with fail
      refine hK.out _ _ ?_ (fun hHeld4 => ?_)
      · exact belowT (by assumption) hb4
      clear hK KK hb4
      try simp only [Act.put, List.setIfInBounds_toArray, List.set_cons_zero, List.set_cons_succ]
      refine wpAnyH_take (i := 4) (oi := ({ dst := some 26, op := .move (.tmp 25), type := 4, pos := "law.go:98", after := #[{ on := 3, ground := .data }, { on := 2, ground := .chain }], guard := none } : Oper)) (v := ?vs3_4) rfl splits3_plain (by as_aux_lemma => kernel_rfl) (by as_aux_lemma => kernel_rfl) (fun _ _ _ h => h) (Or.inl ⟨by rfl, ?ys3_4⟩) (by assumption) ?rs3_4
      case ys3_4 => (intro w hSw; (try dsimp only at hSw); go_simp; try with_reducible rfl)
      try simp only [Act.put, List.setIfInBounds_toArray, List.set_cons_zero, List.set_cons_succ]
      refine wpAnyH_take (i := 5) (oi := ({ dst := some 27, op := .move (.tmp 10), type := 4, pos := "law.go:98", after := #[{ on := 4, ground := .guard }], guard := some (4, false) } : Oper)) (v := ?vs3_5) rfl splits3_plain (by as_aux_lemma => kernel_rfl) (by as_aux_lemma => kernel_rfl) (fun _ _ _ h => h) (Or.inl ⟨by rfl, ?ys3_5⟩) (by assumption) ?rs3_5
      case ys3_5 => (intro w hSw; (try dsimp only at hSw); go_simp; try with_reducible rfl)
      try simp only [Act.put, List.setIfInBounds_toArray, List.set_cons_zero, List.set_cons_succ]
      refine wpAnyH_take (i := 6) (oi := ({ dst := some 28, op := .pick (.tmp 26) (.const (.bool true)) (.tmp 27), type := 4, pos := "law.go:98", after := #[{ on := 4, ground := .data }, { on := 5, ground := .data }], guard := none } : Oper)) (v := ?vs3_6) rfl splits3_plain (by as_aux_lemma => kernel_rfl) (by as_aux_lemma => kernel_rfl) (fun _ _ _ h => h) (Or.inl ⟨by rfl, ?ys3_6⟩) (by assumption) ?rs3_6
      case ys3_6 => (intro w hSw; (try dsimp only at hSw); go_simp; try with_reducible rfl)
      try simp only [Act.put, List.setIfInBounds_toArray, List.set_cons_zero, List.set_cons_succ]
      refine wpAnyH_take (i := 7) (oi := ({ dst := some 29, op := .binOp .neq 4 (.tmp 24) (.tmp 28) 4, type := 4, pos := "law.go:98", after := #[{ on := 2, ground := .data }, { on := 6, ground := .data }], guard := none } : Oper)) (v := ?vs3_7) rfl splits3_plain (by as_aux_lemma => kernel_rfl) (by as_aux_lemma => kernel_rfl) (fun _ _ _ h => h) (Or.inl ⟨by rfl, ?ys3_7⟩) (by assumption) ?rs3_7
      case ys3_7 => (intro w hSw; (try dsimp only at hSw); go_simp; try with_reducible rfl)
      try simp only [Act.put, List.setIfInBounds_toArray, List.set_cons_zero, List.set_cons_succ]
      refine wpAnyH_take (i := 8) (oi := ({ dst := some 30, op := .move (.tmp 29), type := 4, pos := "law.go:98", after := #[{ on := 7, ground := .data }, { on := 4, ground := .chain }], guard := none } : Oper)) (v := ?vs3_8) rfl splits3_plain (by as_aux_lemma => kernel_rfl) (by as_aux_lemma => kernel_rfl) (fun _ _ _ h => h) (Or.inl ⟨by rfl, ?ys3_8⟩) (by assumption) ?rs3_8
      case ys3_8 => (intro w hSw; (try dsimp only at hSw); go_simp; try with_reducible rfl)
      try simp only [Act.put, List.setIfInBounds_toArray, List.set_cons_zero, List.set_cons_succ]
      refine wpAnyH_take (i := 9) (oi := ({ dst := some 31, op := .move (.tmp 9), type := 4, pos := "law.go:98", after := #[{ on := 8, ground := .guard }], guard := some (8, false) } : Oper)) (v := ?vs3_9) rfl splits3_plain (by as_aux_lemma => kernel_rfl) (by as_aux_lemma => kernel_rfl) (fun _ _ _ h => h) (Or.inl ⟨by rfl, ?ys3_9⟩) (by assumption) ?rs3_9
      case ys3_9 => (intro w hSw; (try dsimp only at hSw); go_simp; try with_reducible rfl)
      try simp only [Act.put, List.setIfInBounds_toArray, List.set_cons_zero, List.set_cons_succ]
      refine wpAnyH_take (i := 10) (oi := ({ dst := some 32, op := .move (.tmp 31), type := 4, pos := "law.go:98", after := #[{ on := 9, ground := .data }, { on := 8, ground := .chain }, { on := 8, ground := .guard }], guard := some (8, false) } : Oper)) (v := ?vs3_10) rfl splits3_plain (by as_aux_lemma => kernel_rfl) (by as_aux_lemma => kernel_rfl) (fun _ _ _ h => h) (Or.inl ⟨by rfl, ?ys3_10⟩) (by assumption) ?rs3_10
      case ys3_10 => (intro w hSw; (try dsimp only at hSw); go_simp; try with_reducible rfl)
      try simp only [Act.put, List.setIfInBounds_toArray, List.set_cons_zero, List.set_cons_succ]
      refine wpAnyH_take (i := 11) (oi := ({ dst := some 33, op := .move (.tmp 10), type := 4, pos := "law.go:98", after := #[{ on := 10, ground := .guard }], guard := some (10, true) } : Oper)) (v := undef) rfl splits3_plain (by as_aux_lemma => kernel_rfl) (by as_aux_lemma => kernel_rfl) (fun _ _ _ h => h) (Or.inr ⟨by rfl, rfl⟩) (by assumption) ?_
      try simp only [Act.put, List.setIfInBounds_toArray, List.set_cons_zero, List.set_cons_succ]
      refine wpAnyH_take (i := 12) (oi := ({ dst := some 34, op := .pick (.tmp 32) (.tmp 33) (.const (.bool false)), type := 4, pos := "law.go:98", after := #[{ on := 10, ground := .data }, { on := 11, ground := .data }, { on := 8, ground := .guard }], guard := some (8, false) } : Oper)) (v := ?vs3_12) rfl splits3_plain (by as_aux_lemma => kernel_rfl) (by as_aux_lemma => kernel_rfl) (fun _ _ _ h => h) (Or.inl ⟨by rfl, ?ys3_12⟩) (by assumption) ?rs3_12
      case ys3_12 => (intro w hSw; (try dsimp only at hSw); go_simp; try with_reducible rfl)
      try simp only [Act.put, List.setIfInBounds_toArray, List.set_cons_zero, List.set_cons_succ]
      refine wpAnyH_take (i := 13) (oi := ({ dst := some 35, op := .pick (.tmp 30) (.const (.bool true)) (.tmp 34), type := 4, pos := "law.go:98", after := #[{ on := 8, ground := .data }, { on := 12, ground := .data }], guard := none } : Oper)) (v := ?vs3_13) rfl splits3_plain (by as_aux_lemma => kernel_rfl) (by as_aux_lemma => kernel_rfl) (fun _ _ _ h => h) (Or.inl ⟨by rfl, ?ys3_13⟩) (by assumption) ?rs3_13
      case ys3_13 => (intro w hSw; (try dsimp only at hSw); go_simp; try with_reducible rfl)
      try simp only [Act.put, List.setIfInBounds_toArray, List.set_cons_zero, List.set_cons_succ]
      refine wpAnyH_take (i := 14) (oi := ({ dst := some 36, op := .move (.tmp 35), type := 4, pos := "law.go:98", after := #[{ on := 13, ground := .data }, { on := 10, ground := .chain }], guard := none } : Oper)) (v := ?vs3_14) rfl splits3_plain (by as_aux_lemma => kernel_rfl) (by as_aux_lemma => kernel_rfl) (fun _ _ _ h => h) (Or.inl ⟨by rfl, ?ys3_14⟩) (by assumption) ?rs3_14
      case ys3_14 => (intro w hSw; (try dsimp only at hSw); go_simp; try with_reducible rfl)
      try simp only [Act.put, List.setIfInBounds_toArray, List.set_cons_zero, List.set_cons_succ]
      refine wpAnyH_take (i := 15) (oi := ({ dst := some 37, op := .load 23 (.tmp 3), type := 23, pos := "law.go:98", after := #[{ on := 14, ground := .guard }], guard := some (14, false) } : Oper)) (v := ?vs3_15) rfl splits3_plain (by as_aux_lemma => kernel_rfl) (by as_aux_lemma => kernel_rfl) (fun _ _ _ h => h) (Or.inl ⟨by rfl, ?ys3_15⟩) (by assumption) ?rs3_15
      case ys3_15 => (intro w hSw; (try dsimp only at hSw); go_simp; try with_reducible rfl)
      try simp only [Act.put, List.setIfInBounds_toArray, List.set_cons_zero, List.set_cons_succ]
      refine wpAnyH_take (i := 16) (oi := ({ dst := some 38, op := .load 23 (.tmp 4), type := 23, pos := "law.go:98", after := #[{ on := 14, ground := .guard }], guard := some (14, false) } : Oper)) (v := ?vs3_16) rfl splits3_plain (by as_aux_lemma => kernel_rfl) (by as_aux_lemma => kernel_rfl) (fun _ _ _ h => h) (Or.inl ⟨by rfl, ?ys3_16⟩) (by assumption) ?rs3_16
      case ys3_16 => (intro w hSw; (try dsimp only at hSw); go_simp; try with_reducible rfl)
      try simp only [Act.put, List.setIfInBounds_toArray, List.set_cons_zero, List.set_cons_succ]
      refine wpAnyH_take (i := 18) (oi := ({ dst := some 40, op := .load 23 (.tmp 4), type := 23, pos := "law.go:98", after := #[{ on := 14, ground := .guard }], guard := some (14, false) } : Oper)) (v := ?vs3_18) rfl splits3_plain (by as_aux_lemma => kernel_rfl) (by as_aux_lemma => kernel_rfl) (fun _ _ _ h => h) (Or.inl ⟨by rfl, ?ys3_18⟩) (by assumption) ?rs3_18
      case ys3_18 => (intro w hSw; (try dsimp only at hSw); go_simp; try with_reducible rfl)
      try simp only [Act.put, List.setIfInBounds_toArray, List.set_cons_zero, List.set_cons_succ]
      refine wpAnyH_take (i := 19) (oi := ({ dst := some 41, op := .load 23 (.tmp 3), type := 23, pos := "law.go:98", after := #[{ on := 14, ground := .guard }], guard := some (14, false) } : Oper)) (v := ?vs3_19) rfl splits3_plain (by as_aux_lemma => kernel_rfl) (by as_aux_lemma => kernel_rfl) (fun _ _ _ h => h) (Or.inl ⟨by rfl, ?ys3_19⟩) (by assumption) ?rs3_19
      case ys3_19 => (intro w hSw; (try dsimp only at hSw); go_simp; try with_reducible rfl)
      try simp only [Act.put, List.setIfInBounds_toArray, List.set_cons_zero, List.set_cons_succ]
      refine wpAnyH_ready (rs := [17]) (by as_aux_lemma => kernel_rfl) (by simp) ?_
      refine AllReadyH.cons (o := ({ dst := some 39, op := .call { callee := .value (.func 22), args := #[.tmp 37, .tmp 38], argTypes := #[23, 23] }, type := 2, pos := "law.go:98", after := #[{ on := 15, ground := .data }, { on := 16, ground := .data }, { on := 14, ground := .chain }, { on := 14, ground := .guard }], guard := some (14, false) } : Oper)) rfl (fun KK hK => ?_) AllReadyH.nil
      rw [if_pos (by rfl)]
      go_simp
      go_at_call 22; refine (G1.out _ (belowT B3 (by assumption))).mono ?_; rintro e w5 ⟨rfl, hb5⟩
      go_wp2_with fail
      refine hK.out _ _ ?_ (fun hHeld5 => ?_)
      · exact belowT (by assumption) hb5
      clear hK KK hb5 hHeld4
      try simp only [Act.put, List.setIfInBounds_toArray, List.set_cons_zero, List.set_cons_succ]
      refine wpAnyH_ready (rs := [20]) (by as_aux_lemma => kernel_rfl) (by simp) ?_
      refine AllReadyH.cons (o := ({ dst := some 42, op := .call { callee := .value (.func 22), args := #[.tmp 40, .tmp 41], argTypes := #[23, 23] }, type := 2, pos := "law.go:98", after := #[{ on := 18, ground := .data }, { on := 19, ground := .data }, { on := 17, ground := .chain }, { on := 14, ground := .guard }], guard := some (14, false) } : Oper)) rfl (fun KK hK => ?_) AllReadyH.nil
      rw [if_pos (by rfl)]
      go_simp
      go_at_call 22; refine (G2.out _ (belowT B3 (by assumption))).mono ?_; rintro e w6 ⟨rfl, hb6⟩
      go_wp2_with fail
      refine hK.out _ _ ?_ (fun hHeld6 => ?_)
      · exact belowT (by assumption) hb6
      clear hK KK hb6 hHeld5
      try simp only [Act.put, List.setIfInBounds_toArray, List.set_cons_zero, List.set_cons_succ]
      refine wpAnyH_take (i := 21) (oi := ({ dst := some 43, op := .binOp .neq 2 (.tmp 39) (.tmp 42) 2, type := 4, pos := "law.go:98", after := #[{ on := 17, ground := .data }, { on := 20, ground := .data }, { on := 14, ground := .guard }], guard := some (14, false) } : Oper)) (v := ?vs3_21) rfl splits3_plain (by as_aux_lemma => kernel_rfl) (by as_aux_lemma => kernel_rfl) (fun _ _ _ h => h) (Or.inl ⟨by rfl, ?ys3_21⟩) (by assumption) ?rs3_21
      case ys3_21 => (intro w hSw; (try dsimp only at hSw); go_simp; try with_reducible rfl)
      try simp only [Act.put, List.setIfInBounds_toArray, List.set_cons_zero, List.set_cons_succ]
      refine wpAnyH_take (i := 22) (oi := ({ dst := some 44, op := .pick (.tmp 36) (.const (.bool true)) (.tmp 43), type := 4, pos := "law.go:98", after := #[{ on := 14, ground := .data }, { on := 21, ground := .data }], guard := none } : Oper)) (v := ?vs3_22) rfl splits3_plain (by as_aux_lemma => kernel_rfl) (by as_aux_lemma => kernel_rfl) (fun _ _ _ h => h) (Or.inl ⟨by rfl, ?ys3_22⟩) (by assumption) ?rs3_22
      case ys3_22 => (intro w hSw; (try dsimp only at hSw); go_simp; try with_reducible rfl)
      try simp only [Act.put, List.setIfInBounds_toArray, List.set_cons_zero, List.set_cons_succ]
      refine wpAnyH_done (by as_aux_lemma => kernel_rfl) ?_ _
      refine NoPanic.normal ?_
      go_wp2_with fail
      go_meet
      exact ⟨rfl, by assumption⟩
  case rest =>
    rename World => wx
    obtain ⟨rfl, hb4⟩ := hcut
    have B4 := belowT B3 hb4
    have X4 := X3.keep hb4
    have Y4 := Y3.keep hb4
    have xs0 : ∀ w', Below wx.heap.size wx w' → w'.cell? ⟨w.heap.size + 1, 0, none⟩ = some (.int .i64 c) := fun w' hb => keepc hb X4.c0
    have xs1 : ∀ w', Below wx.heap.size wx w' → w'.cell? ⟨w.heap.size + 1, 1, none⟩ = some (.int .i64 d) := fun w' hb => keepc hb X4.c1
    have ys0 : ∀ w', Below wx.heap.size wx w' → w'.cell? ⟨w.heap.size, 0, none⟩ = some (.int .i64 a) := fun w' hb => keepc hb Y4.c0
    have ys1 : ∀ w', Below wx.heap.size wx w' → w'.cell? ⟨w.heap.size, 1, none⟩ = some (.int .i64 b) := fun w' hb => keepc hb Y4.c1
    clear xr0 xr1 yr0 yr1 hk
    go_upto_region 5 with fail
    rcases hg with ⟨rfl, hg⟩ | ⟨rfl, rfl, hg⟩ | ⟨rfl, rfl, rfl, hg⟩ | ⟨rfl, rfl, rfl, hg⟩
    · skip
      change (Code.region 5 splits5 true).wp Tryd.prog _ _ _
      refine wp_region_noPanic ?_
      refine wp_region_held_drew (S := fun w' => Below wx.heap.size wx w') (by kernel_rfl) ((Below.refl _ _).drew) (fun hHeld => ?_)
      refine wpAnyH_take (i := 0) (oi := ({ dst := some 45, op := .load 23 (.tmp 3), type := 23, pos := "law.go:101", after := #[], guard := none } : Oper)) (v := ?vs4_0) rfl splits5_plain (by as_aux_lemma => kernel_rfl) (by as_aux_lemma => kernel_rfl) (fun _ _ _ h => h) (Or.inl ⟨by rfl, ?ys4_0⟩) (by assumption) ?rs4_0
      case ys4_0 => (intro w hSw; (try dsimp only at hSw); go_simp; try with_reducible rfl)
      try simp only [Act.put, List.setIfInBounds_toArray, List.set_cons_zero, List.set_cons_succ]
      refine wpAnyH_take (i := 1) (oi := ({ dst := some 46, op := .load 23 (.tmp 4), type := 23, pos := "law.go:101", after := #[], guard := none } : Oper)) (v := ?vs4_1) rfl splits5_plain (by as_aux_lemma => kernel_rfl) (by as_aux_lemma => kernel_rfl) (fun _ _ _ h => h) (Or.inl ⟨by rfl, ?ys4_1⟩) (by assumption) ?rs4_1
      case ys4_1 => (intro w hSw; (try dsimp only at hSw); go_simp; try with_reducible rfl)
      try simp only [Act.put, List.setIfInBounds_toArray, List.set_cons_zero, List.set_cons_succ]
      refine wpAnyH_take (i := 4) (oi := ({ dst := some 49, op := .load 23 (.tmp 3), type := 23, pos := "law.go:101", after := #[], guard := none } : Oper)) (v := ?vs4_4) rfl splits5_plain (by as_aux_lemma => kernel_rfl) (by as_aux_lemma => kernel_rfl) (fun _ _ _ h => h) (Or.inl ⟨by rfl, ?ys4_4⟩) (by assumption) ?rs4_4
      case ys4_4 => (intro w hSw; (try dsimp only at hSw); go_simp; try with_reducible rfl)
      try simp only [Act.put, List.setIfInBounds_toArray, List.set_cons_zero, List.set_cons_succ]
      refine wpAnyH_ready (rs := [2]) (by as_aux_lemma => kernel_rfl) (by simp) ?_
      refine AllReadyH.cons (o := ({ dst := some 47, op := .call { callee := .value (.func 22), args := #[.tmp 45, .tmp 46], argTypes := #[23, 23] }, type := 2, pos := "law.go:101", after := #[{ on := 0, ground := .data }, { on := 1, ground := .data }], guard := none } : Oper)) rfl (fun KK hK => ?_) AllReadyH.nil
      rw [if_pos (by rfl)]
      go_simp
      go_at_call 22; refine (G1.out _ (belowT B4 (by assumption))).mono ?_; rintro e w4 ⟨rfl, hb4⟩
      go_wp2_with fail
      refine hK.out _ _ ?_ (fun hHeld4 => ?_)
      · exact belowT (by assumption) hb4
      clear hK KK hb4
      try simp only [Act.put, List.setIfInBounds_toArray, List.set_cons_zero, List.set_cons_succ]
      refine wpAnyH_take (i := 3) (oi := ({ dst := some 48, op := .binOp .gtr 2 (.tmp 47) (.const (.int .i64 0)) 2, type := 4, pos := "law.go:101", after := #[{ on := 2, ground := .data }], guard := none } : Oper)) (v := ?vs4_3) rfl splits5_plain (by as_aux_lemma => kernel_rfl) (by as_aux_lemma => kernel_rfl) (fun _ _ _ h => h) (Or.inl ⟨by rfl, ?ys4_3⟩) (by assumption) ?rs4_3
      case ys4_3 => (intro w hSw; (try dsimp only at hSw); go_simp; try with_reducible rfl)
      try simp only [Act.put, List.setIfInBounds_toArray, List.set_cons_zero, List.set_cons_succ]
      refine wpAnyH_ready (rs := [5]) (by as_aux_lemma => kernel_rfl) (by simp) ?_
      refine AllReadyH.cons (o := ({ dst := some 50, op := .call { callee := .value (.func 10), args := #[.tmp 49], argTypes := #[23] }, type := 4, pos := "law.go:101", after := #[{ on := 4, ground := .data }, { on := 2, ground := .chain }], guard := none } : Oper)) rfl (fun KK hK => ?_) AllReadyH.nil
      rw [if_pos (by rfl)]
      go_simp
      go_at_call 10; refine (E1.out _).mono ?_; rintro e w5 ⟨rfl, hb5⟩
      go_wp2_with fail
      refine hK.out _ _ ?_ (fun hHeld5 => ?_)
      · exact belowT (by assumption) hb5
      clear hK KK hb5 hHeld4
      try simp only [Act.put, List.setIfInBounds_toArray, List.set_cons_zero, List.set_cons_succ]
      refine wpAnyH_take (i := 6) (oi := ({ dst := some 51, op := .unOp .not 4 (.tmp 50), type := 4, pos := "law.go:101", after := #[{ on := 5, ground := .data }], guard := none } : Oper)) (v := ?vs4_6) rfl splits5_plain (by as_aux_lemma => kernel_rfl) (by as_aux_lemma => kernel_rfl) (fun _ _ _ h => h) (Or.inl ⟨by rfl, ?ys4_6⟩) (by assumption) ?rs4_6
      case ys4_6 => (intro w hSw; (try dsimp only at hSw); go_simp; try with_reducible rfl)
      try simp only [Act.put, List.setIfInBounds_toArray, List.set_cons_zero, List.set_cons_succ]
      refine wpAnyH_take (i := 7) (oi := ({ dst := some 52, op := .move (.tmp 51), type := 4, pos := "law.go:101", after := #[{ on := 6, ground := .data }, { on := 5, ground := .chain }], guard := none } : Oper)) (v := ?vs4_7) rfl splits5_plain (by as_aux_lemma => kernel_rfl) (by as_aux_lemma => kernel_rfl) (fun _ _ _ h => h) (Or.inl ⟨by rfl, ?ys4_7⟩) (by assumption) ?rs4_7
      case ys4_7 => (intro w hSw; (try dsimp only at hSw); go_simp; try with_reducible rfl)
      try simp only [Act.put, List.setIfInBounds_toArray, List.set_cons_zero, List.set_cons_succ]
      refine wpAnyH_take (i := 8) (oi := ({ dst := some 53, op := .load 23 (.tmp 4), type := 23, pos := "law.go:101", after := #[{ on := 7, ground := .guard }], guard := some (7, true) } : Oper)) (v := undef) rfl splits5_plain (by as_aux_lemma => kernel_rfl) (by as_aux_lemma => kernel_rfl) (fun _ _ _ h => h) (Or.inr ⟨by rfl, rfl⟩) (by assumption) ?_
      try simp only [Act.put, List.setIfInBounds_toArray, List.set_cons_zero, List.set_cons_succ]
      refine wpAnyH_take (i := 9) (oi := ({ dst := some 54, op := .call { callee := .value (.func 10), args := #[.tmp 53], argTypes := #[23] }, type := 4, pos := "law.go:101", after := #[{ on := 8, ground := .data }, { on := 7, ground := .chain }, { on := 7, ground := .guard }], guard := some (7, true) } : Oper)) (v := undef) rfl splits5_plain (by as_aux_lemma => kernel_rfl) (by as_aux_lemma => kernel_rfl) (fun _ _ _ h => h) (Or.inr ⟨by rfl, rfl⟩) (by assumption) ?_
      try simp only [Act.put, List.setIfInBounds_toArray, List.set_cons_zero, List.set_cons_succ]
      refine wpAnyH_take (i := 10) (oi := ({ dst := some 55, op := .unOp .not 4 (.tmp 54), type := 4, pos := "law.go:101", after := #[{ on := 9, ground := .data }, { on := 7, ground := .guard }], guard := some (7, true) } : Oper)) (v := undef) rfl splits5_plain (by as_aux_lemma => kernel_rfl) (by as_aux_lemma => kernel_rfl) (fun _ _ _ h => h) (Or.inr ⟨by rfl, rfl⟩) (by assumption) ?_
      try simp only [Act.put, List.setIfInBounds_toArray, List.set_cons_zero, List.set_cons_succ]
      refine wpAnyH_take (i := 11) (oi := ({ dst := some 56, op := .pick (.tmp 52) (.tmp 55) (.const (.bool false)), type := 4, pos := "law.go:101", after := #[{ on := 7, ground := .data }, { on := 10, ground := .data }], guard := none } : Oper)) (v := ?vs4_11) rfl splits5_plain (by as_aux_lemma => kernel_rfl) (by as_aux_lemma => kernel_rfl) (fun _ _ _ h => h) (Or.inl ⟨by rfl, ?ys4_11⟩) (by assumption) ?rs4_11
      case ys4_11 => (intro w hSw; (try dsimp only at hSw); go_simp; try with_reducible rfl)
      try simp only [Act.put, List.setIfInBounds_toArray, List.set_cons_zero, List.set_cons_succ]
      refine wpAnyH_take (i := 12) (oi := ({ dst := some 57, op := .move (.tmp 56), type := 4, pos := "law.go:101", after := #[{ on := 11, ground := .data }, { on := 9, ground := .chain }], guard := none } : Oper)) (v := ?vs4_12) rfl splits5_plain (by as_aux_lemma => kernel_rfl) (by as_aux_lemma => kernel_rfl) (fun _ _ _ h => h) (Or.inl ⟨by rfl, ?ys4_12⟩) (by assumption) ?rs4_12
      case ys4_12 => (intro w hSw; (try dsimp only at hSw); go_simp; try with_reducible rfl)
      try simp only [Act.put, List.setIfInBounds_toArray, List.set_cons_zero, List.set_cons_succ]
      refine wpAnyH_take (i := 13) (oi := ({ dst := some 58, op := .load 23 (.tmp 3), type := 23, pos := "law.go:101", after := #[{ on := 12, ground := .guard }], guard := some (12, true) } : Oper)) (v := undef) rfl splits5_plain (by as_aux_lemma => kernel_rfl) (by as_aux_lemma => kernel_rfl) (fun _ _ _ h => h) (Or.inr ⟨by rfl, rfl⟩) (by assumption) ?_
      try simp only [Act.put, List.setIfInBounds_toArray, List.set_cons_zero, List.set_cons_succ]
      refine wpAnyH_take (i := 14) (oi := ({ dst := some 59, op := .load 23 (.tmp 4), type := 23, pos := "law.go:101", after := #[{ on := 12, ground := .guard }], guard := some (12, true) } : Oper)) (v := undef) rfl splits5_plain (by as_aux_lemma => kernel_rfl) (by as_aux_lemma => kernel_rfl) (fun _ _ _ h => h) (Or.inr ⟨by rfl, rfl⟩) (by assumption) ?_
      try simp only [Act.put, List.setIfInBounds_toArray, List.set_cons_zero, List.set_cons_succ]
      refine wpAnyH_take (i := 15) (oi := ({ dst := some 60, op := .call { callee := .value (.func 7), args := #[.tmp 58, .tmp 59], argTypes := #[23, 23] }, type := 23, pos := "law.go:101", after := #[{ on := 13, ground := .data }, { on := 14, ground := .data }, { on := 12, ground := .chain }, { on := 12, ground := .guard }], guard := some (12, true) } : Oper)) (v := undef) rfl splits5_plain (by as_aux_lemma => kernel_rfl) (by as_aux_lemma => kernel_rfl) (fun _ _ _ h => h) (Or.inr ⟨by rfl, rfl⟩) (by assumption) ?_
      try simp only [Act.put, List.setIfInBounds_toArray, List.set_cons_zero, List.set_cons_succ]
      refine wpAnyH_take (i := 16) (oi := ({ dst := some 61, op := .call { callee := .value (.func 10), args := #[.tmp 60], argTypes := #[23] }, type := 4, pos := "law.go:101", after := #[{ on := 15, ground := .data }, { on := 15, ground := .chain }, { on := 12, ground := .guard }], guard := some (12, true) } : Oper)) (v := undef) rfl splits5_plain (by as_aux_lemma => kernel_rfl) (by as_aux_lemma => kernel_rfl) (fun _ _ _ h => h) (Or.inr ⟨by rfl, rfl⟩) (by assumption) ?_
      try simp only [Act.put, List.setIfInBounds_toArray, List.set_cons_zero, List.set_cons_succ]
      refine wpAnyH_take (i := 17) (oi := ({ dst := some 62, op := .pick (.tmp 57) (.tmp 61) (.const (.bool false)), type := 4, pos := "law.go:101", after := #[{ on := 12, ground := .data }, { on := 16, ground := .data }], guard := none } : Oper)) (v := ?vs4_17) rfl splits5_plain (by as_aux_lemma => kernel_rfl) (by as_aux_lemma => kernel_rfl) (fun _ _ _ h => h) (Or.inl ⟨by rfl, ?ys4_17⟩) (by assumption) ?rs4_17
      case ys4_17 => (intro w hSw; (try dsimp only at hSw); go_simp; try with_reducible rfl)
      try simp only [Act.put, List.setIfInBounds_toArray, List.set_cons_zero, List.set_cons_succ]
      refine wpAnyH_take (i := 18) (oi := ({ dst := some 63, op := .binOp .eql 4 (.tmp 48) (.tmp 62) 4, type := 4, pos := "law.go:101", after := #[{ on := 3, ground := .data }, { on := 17, ground := .data }], guard := none } : Oper)) (v := ?vs4_18) rfl splits5_plain (by as_aux_lemma => kernel_rfl) (by as_aux_lemma => kernel_rfl) (fun _ _ _ h => h) (Or.inl ⟨by rfl, ?ys4_18⟩) (by assumption) ?rs4_18
      case ys4_18 => (intro w hSw; (try dsimp only at hSw); go_simp; try with_reducible rfl)
      try simp only [Act.put, List.setIfInBounds_toArray, List.set_cons_zero, List.set_cons_succ]
      refine wpAnyH_take (i := 19) (oi := ({ dst := some 64, op := .move (.tmp 63), type := 4, pos := "law.go:101", after := #[{ on := 18, ground := .data }, { on := 16, ground := .chain }], guard := none } : Oper)) (v := ?vs4_19) rfl splits5_plain (by as_aux_lemma => kernel_rfl) (by as_aux_lemma => kernel_rfl) (fun _ _ _ h => h) (Or.inl ⟨by rfl, ?ys4_19⟩) (by assumption) ?rs4_19
      case ys4_19 => (intro w hSw; (try dsimp only at hSw); go_simp; try with_reducible rfl)
      try simp only [Act.put, List.setIfInBounds_toArray, List.set_cons_zero, List.set_cons_succ]
      refine wpAnyH_ready (rs := [20]) (by as_aux_lemma => kernel_rfl) (by simp) ?_
      refine AllReadyH.cons (o := ({ dst := some 65, op := .call { callee := .value (.func 11), args := #[], argTypes := #[] }, type := 4, pos := "law.go:101", after := #[{ on := 19, ground := .chain }, { on := 19, ground := .guard }], guard := some (19, true) } : Oper)) rfl (fun KK hK => ?_) AllReadyH.nil
      rw [if_pos (by rfl)]
      go_simp
      go_at_call 11; refine (AW.out _ (belowT B4 (by assumption))).mono ?_; rintro e w6 ⟨rfl, hb6⟩
      go_wp2_with fail
      refine hK.out _ _ ?_ (fun hHeld6 => ?_)
      · exact belowT (by assumption) hb6
      clear hK KK hb6 hHeld5
      try simp only [Act.put, List.setIfInBounds_toArray, List.set_cons_zero, List.set_cons_succ]
      refine wpAnyH_take (i := 21) (oi := ({ dst := some 66, op := .pick (.tmp 64) (.tmp 65) (.const (.bool false)), type := 4, pos := "law.go:101", after := #[{ on := 19, ground := .data }, { on := 20, ground := .data }], guard := none } : Oper)) (v := ?vs4_21) rfl splits5_plain (by as_aux_lemma => kernel_rfl) (by as_aux_lemma => kernel_rfl) (fun _ _ _ h => h) (Or.inl ⟨by rfl, ?ys4_21⟩) (by assumption) ?rs4_21
      case ys4_21 => (intro w hSw; (try dsimp only at hSw); go_simp; try with_reducible rfl)
      try simp only [Act.put, List.setIfInBounds_toArray, List.set_cons_zero, List.set_cons_succ]
      refine wpAnyH_take (i := 22) (oi := ({ dst := some 6, op := .assign (.tmp 66), type := 4, pos := "law.go:101", after := #[{ on := 21, ground := .data }, { on := 20, ground := .chain }, { on := 0, ground := .phase }, { on := 1, ground := .phase }, { on := 2, ground := .phase }, { on := 3, ground := .phase }, { on := 4, ground := .phase }, { on := 5, ground := .phase }, { on := 6, ground := .phase }, { on := 7, ground := .phase }, { on := 8, ground := .phase }, { on := 9, ground := .phase }, { on := 10, ground := .phase }, { on := 11, ground := .phase }, { on := 12, ground := .phase }, { on := 13, ground := .phase }, { on := 14, ground := .phase }, { on := 15, ground := .phase }, { on := 16, ground := .phase }, { on := 17, ground := .phase }, { on := 18, ground := .phase }, { on := 19, ground := .phase }, { on := 20, ground := .phase }, { on := 21, ground := .phase }], guard := none } : Oper)) (v := ?vs4_22) rfl splits5_plain (by as_aux_lemma => kernel_rfl) (by as_aux_lemma => kernel_rfl) (fun _ _ _ h => h) (Or.inl ⟨by rfl, ?ys4_22⟩) (by assumption) ?rs4_22
      case ys4_22 => (intro w hSw; (try dsimp only at hSw); go_simp; try with_reducible rfl)
      try simp only [Act.put, List.setIfInBounds_toArray, List.set_cons_zero, List.set_cons_succ]
      refine wpAnyH_done (by as_aux_lemma => kernel_rfl) ?_ _
      refine NoPanic.normal ?_
      go_wp2_with fail
      go_ret
      exact ⟨rfl, belowT B4 (by assumption)⟩
    · skip
      change (Code.region 5 splits5 true).wp Tryd.prog _ _ _
      refine wp_region_noPanic ?_
      refine wp_region_held_drew (S := fun w' => Below wx.heap.size wx w') (by kernel_rfl) ((Below.refl _ _).drew) (fun hHeld => ?_)
      refine wpAnyH_take (i := 0) (oi := ({ dst := some 45, op := .load 23 (.tmp 3), type := 23, pos := "law.go:101", after := #[], guard := none } : Oper)) (v := ?vs5_0) rfl splits5_plain (by as_aux_lemma => kernel_rfl) (by as_aux_lemma => kernel_rfl) (fun _ _ _ h => h) (Or.inl ⟨by rfl, ?ys5_0⟩) (by assumption) ?rs5_0
      case ys5_0 => (intro w hSw; (try dsimp only at hSw); go_simp; try with_reducible rfl)
      try simp only [Act.put, List.setIfInBounds_toArray, List.set_cons_zero, List.set_cons_succ]
      refine wpAnyH_take (i := 1) (oi := ({ dst := some 46, op := .load 23 (.tmp 4), type := 23, pos := "law.go:101", after := #[], guard := none } : Oper)) (v := ?vs5_1) rfl splits5_plain (by as_aux_lemma => kernel_rfl) (by as_aux_lemma => kernel_rfl) (fun _ _ _ h => h) (Or.inl ⟨by rfl, ?ys5_1⟩) (by assumption) ?rs5_1
      case ys5_1 => (intro w hSw; (try dsimp only at hSw); go_simp; try with_reducible rfl)
      try simp only [Act.put, List.setIfInBounds_toArray, List.set_cons_zero, List.set_cons_succ]
      refine wpAnyH_take (i := 4) (oi := ({ dst := some 49, op := .load 23 (.tmp 3), type := 23, pos := "law.go:101", after := #[], guard := none } : Oper)) (v := ?vs5_4) rfl splits5_plain (by as_aux_lemma => kernel_rfl) (by as_aux_lemma => kernel_rfl) (fun _ _ _ h => h) (Or.inl ⟨by rfl, ?ys5_4⟩) (by assumption) ?rs5_4
      case ys5_4 => (intro w hSw; (try dsimp only at hSw); go_simp; try with_reducible rfl)
      try simp only [Act.put, List.setIfInBounds_toArray, List.set_cons_zero, List.set_cons_succ]
      refine wpAnyH_ready (rs := [2]) (by as_aux_lemma => kernel_rfl) (by simp) ?_
      refine AllReadyH.cons (o := ({ dst := some 47, op := .call { callee := .value (.func 22), args := #[.tmp 45, .tmp 46], argTypes := #[23, 23] }, type := 2, pos := "law.go:101", after := #[{ on := 0, ground := .data }, { on := 1, ground := .data }], guard := none } : Oper)) rfl (fun KK hK => ?_) AllReadyH.nil
      rw [if_pos (by rfl)]
      go_simp
      go_at_call 22; refine (G1.out _ (belowT B4 (by assumption))).mono ?_; rintro e w4 ⟨rfl, hb4⟩
      go_wp2_with fail
      refine hK.out _ _ ?_ (fun hHeld4 => ?_)
      · exact belowT (by assumption) hb4
      clear hK KK hb4
      try simp only [Act.put, List.setIfInBounds_toArray, List.set_cons_zero, List.set_cons_succ]
      refine wpAnyH_take (i := 3) (oi := ({ dst := some 48, op := .binOp .gtr 2 (.tmp 47) (.const (.int .i64 0)) 2, type := 4, pos := "law.go:101", after := #[{ on := 2, ground := .data }], guard := none } : Oper)) (v := ?vs5_3) rfl splits5_plain (by as_aux_lemma => kernel_rfl) (by as_aux_lemma => kernel_rfl) (fun _ _ _ h => h) (Or.inl ⟨by rfl, ?ys5_3⟩) (by assumption) ?rs5_3
      case ys5_3 => (intro w hSw; (try dsimp only at hSw); go_simp; try with_reducible rfl)
      try simp only [Act.put, List.setIfInBounds_toArray, List.set_cons_zero, List.set_cons_succ]
      refine wpAnyH_ready (rs := [5]) (by as_aux_lemma => kernel_rfl) (by simp) ?_
      refine AllReadyH.cons (o := ({ dst := some 50, op := .call { callee := .value (.func 10), args := #[.tmp 49], argTypes := #[23] }, type := 4, pos := "law.go:101", after := #[{ on := 4, ground := .data }, { on := 2, ground := .chain }], guard := none } : Oper)) rfl (fun KK hK => ?_) AllReadyH.nil
      rw [if_pos (by rfl)]
      go_simp
      go_at_call 10; refine (E1.out _).mono ?_; rintro e w5 ⟨rfl, hb5⟩
      go_wp2_with fail
      refine hK.out _ _ ?_ (fun hHeld5 => ?_)
      · exact belowT (by assumption) hb5
      clear hK KK hb5 hHeld4
      try simp only [Act.put, List.setIfInBounds_toArray, List.set_cons_zero, List.set_cons_succ]
      refine wpAnyH_take (i := 6) (oi := ({ dst := some 51, op := .unOp .not 4 (.tmp 50), type := 4, pos := "law.go:101", after := #[{ on := 5, ground := .data }], guard := none } : Oper)) (v := ?vs5_6) rfl splits5_plain (by as_aux_lemma => kernel_rfl) (by as_aux_lemma => kernel_rfl) (fun _ _ _ h => h) (Or.inl ⟨by rfl, ?ys5_6⟩) (by assumption) ?rs5_6
      case ys5_6 => (intro w hSw; (try dsimp only at hSw); go_simp; try with_reducible rfl)
      try simp only [Act.put, List.setIfInBounds_toArray, List.set_cons_zero, List.set_cons_succ]
      refine wpAnyH_take (i := 7) (oi := ({ dst := some 52, op := .move (.tmp 51), type := 4, pos := "law.go:101", after := #[{ on := 6, ground := .data }, { on := 5, ground := .chain }], guard := none } : Oper)) (v := ?vs5_7) rfl splits5_plain (by as_aux_lemma => kernel_rfl) (by as_aux_lemma => kernel_rfl) (fun _ _ _ h => h) (Or.inl ⟨by rfl, ?ys5_7⟩) (by assumption) ?rs5_7
      case ys5_7 => (intro w hSw; (try dsimp only at hSw); go_simp; try with_reducible rfl)
      try simp only [Act.put, List.setIfInBounds_toArray, List.set_cons_zero, List.set_cons_succ]
      refine wpAnyH_take (i := 8) (oi := ({ dst := some 53, op := .load 23 (.tmp 4), type := 23, pos := "law.go:101", after := #[{ on := 7, ground := .guard }], guard := some (7, true) } : Oper)) (v := ?vs5_8) rfl splits5_plain (by as_aux_lemma => kernel_rfl) (by as_aux_lemma => kernel_rfl) (fun _ _ _ h => h) (Or.inl ⟨by rfl, ?ys5_8⟩) (by assumption) ?rs5_8
      case ys5_8 => (intro w hSw; (try dsimp only at hSw); go_simp; try with_reducible rfl)
      try simp only [Act.put, List.setIfInBounds_toArray, List.set_cons_zero, List.set_cons_succ]
      refine wpAnyH_ready (rs := [9]) (by as_aux_lemma => kernel_rfl) (by simp) ?_
      refine AllReadyH.cons (o := ({ dst := some 54, op := .call { callee := .value (.func 10), args := #[.tmp 53], argTypes := #[23] }, type := 4, pos := "law.go:101", after := #[{ on := 8, ground := .data }, { on := 7, ground := .chain }, { on := 7, ground := .guard }], guard := some (7, true) } : Oper)) rfl (fun KK hK => ?_) AllReadyH.nil
      rw [if_pos (by rfl)]
      go_simp
      go_at_call 10; refine (E2.out _).mono ?_; rintro e w6 ⟨rfl, hb6⟩
      go_wp2_with fail
      refine hK.out _ _ ?_ (fun hHeld6 => ?_)
      · exact belowT (by assumption) hb6
      clear hK KK hb6 hHeld5
      try simp only [Act.put, List.setIfInBounds_toArray, List.set_cons_zero, List.set_cons_succ]
      refine wpAnyH_take (i := 10) (oi := ({ dst := some 55, op := .unOp .not 4 (.tmp 54), type := 4, pos := "law.go:101", after := #[{ on := 9, ground := .data }, { on := 7, ground := .guard }], guard := some (7, true) } : Oper)) (v := ?vs5_10) rfl splits5_plain (by as_aux_lemma => kernel_rfl) (by as_aux_lemma => kernel_rfl) (fun _ _ _ h => h) (Or.inl ⟨by rfl, ?ys5_10⟩) (by assumption) ?rs5_10
      case ys5_10 => (intro w hSw; (try dsimp only at hSw); go_simp; try with_reducible rfl)
      try simp only [Act.put, List.setIfInBounds_toArray, List.set_cons_zero, List.set_cons_succ]
      refine wpAnyH_take (i := 11) (oi := ({ dst := some 56, op := .pick (.tmp 52) (.tmp 55) (.const (.bool false)), type := 4, pos := "law.go:101", after := #[{ on := 7, ground := .data }, { on := 10, ground := .data }], guard := none } : Oper)) (v := ?vs5_11) rfl splits5_plain (by as_aux_lemma => kernel_rfl) (by as_aux_lemma => kernel_rfl) (fun _ _ _ h => h) (Or.inl ⟨by rfl, ?ys5_11⟩) (by assumption) ?rs5_11
      case ys5_11 => (intro w hSw; (try dsimp only at hSw); go_simp; try with_reducible rfl)
      try simp only [Act.put, List.setIfInBounds_toArray, List.set_cons_zero, List.set_cons_succ]
      refine wpAnyH_take (i := 12) (oi := ({ dst := some 57, op := .move (.tmp 56), type := 4, pos := "law.go:101", after := #[{ on := 11, ground := .data }, { on := 9, ground := .chain }], guard := none } : Oper)) (v := ?vs5_12) rfl splits5_plain (by as_aux_lemma => kernel_rfl) (by as_aux_lemma => kernel_rfl) (fun _ _ _ h => h) (Or.inl ⟨by rfl, ?ys5_12⟩) (by assumption) ?rs5_12
      case ys5_12 => (intro w hSw; (try dsimp only at hSw); go_simp; try with_reducible rfl)
      try simp only [Act.put, List.setIfInBounds_toArray, List.set_cons_zero, List.set_cons_succ]
      refine wpAnyH_take (i := 13) (oi := ({ dst := some 58, op := .load 23 (.tmp 3), type := 23, pos := "law.go:101", after := #[{ on := 12, ground := .guard }], guard := some (12, true) } : Oper)) (v := undef) rfl splits5_plain (by as_aux_lemma => kernel_rfl) (by as_aux_lemma => kernel_rfl) (fun _ _ _ h => h) (Or.inr ⟨by rfl, rfl⟩) (by assumption) ?_
      try simp only [Act.put, List.setIfInBounds_toArray, List.set_cons_zero, List.set_cons_succ]
      refine wpAnyH_take (i := 14) (oi := ({ dst := some 59, op := .load 23 (.tmp 4), type := 23, pos := "law.go:101", after := #[{ on := 12, ground := .guard }], guard := some (12, true) } : Oper)) (v := undef) rfl splits5_plain (by as_aux_lemma => kernel_rfl) (by as_aux_lemma => kernel_rfl) (fun _ _ _ h => h) (Or.inr ⟨by rfl, rfl⟩) (by assumption) ?_
      try simp only [Act.put, List.setIfInBounds_toArray, List.set_cons_zero, List.set_cons_succ]
      refine wpAnyH_take (i := 15) (oi := ({ dst := some 60, op := .call { callee := .value (.func 7), args := #[.tmp 58, .tmp 59], argTypes := #[23, 23] }, type := 23, pos := "law.go:101", after := #[{ on := 13, ground := .data }, { on := 14, ground := .data }, { on := 12, ground := .chain }, { on := 12, ground := .guard }], guard := some (12, true) } : Oper)) (v := undef) rfl splits5_plain (by as_aux_lemma => kernel_rfl) (by as_aux_lemma => kernel_rfl) (fun _ _ _ h => h) (Or.inr ⟨by rfl, rfl⟩) (by assumption) ?_
      try simp only [Act.put, List.setIfInBounds_toArray, List.set_cons_zero, List.set_cons_succ]
      refine wpAnyH_take (i := 16) (oi := ({ dst := some 61, op := .call { callee := .value (.func 10), args := #[.tmp 60], argTypes := #[23] }, type := 4, pos := "law.go:101", after := #[{ on := 15, ground := .data }, { on := 15, ground := .chain }, { on := 12, ground := .guard }], guard := some (12, true) } : Oper)) (v := undef) rfl splits5_plain (by as_aux_lemma => kernel_rfl) (by as_aux_lemma => kernel_rfl) (fun _ _ _ h => h) (Or.inr ⟨by rfl, rfl⟩) (by assumption) ?_
      try simp only [Act.put, List.setIfInBounds_toArray, List.set_cons_zero, List.set_cons_succ]
      refine wpAnyH_take (i := 17) (oi := ({ dst := some 62, op := .pick (.tmp 57) (.tmp 61) (.const (.bool false)), type := 4, pos := "law.go:101", after := #[{ on := 12, ground := .data }, { on := 16, ground := .data }], guard := none } : Oper)) (v := ?vs5_17) rfl splits5_plain (by as_aux_lemma => kernel_rfl) (by as_aux_lemma => kernel_rfl) (fun _ _ _ h => h) (Or.inl ⟨by rfl, ?ys5_17⟩) (by assumption) ?rs5_17
      case ys5_17 => (intro w hSw; (try dsimp only at hSw); go_simp; try with_reducible rfl)
      try simp only [Act.put, List.setIfInBounds_toArray, List.set_cons_zero, List.set_cons_succ]
      refine wpAnyH_take (i := 18) (oi := ({ dst := some 63, op := .binOp .eql 4 (.tmp 48) (.tmp 62) 4, type := 4, pos := "law.go:101", after := #[{ on := 3, ground := .data }, { on := 17, ground := .data }], guard := none } : Oper)) (v := ?vs5_18) rfl splits5_plain (by as_aux_lemma => kernel_rfl) (by as_aux_lemma => kernel_rfl) (fun _ _ _ h => h) (Or.inl ⟨by rfl, ?ys5_18⟩) (by assumption) ?rs5_18
      case ys5_18 => (intro w hSw; (try dsimp only at hSw); go_simp; try with_reducible rfl)
      try simp only [Act.put, List.setIfInBounds_toArray, List.set_cons_zero, List.set_cons_succ]
      refine wpAnyH_take (i := 19) (oi := ({ dst := some 64, op := .move (.tmp 63), type := 4, pos := "law.go:101", after := #[{ on := 18, ground := .data }, { on := 16, ground := .chain }], guard := none } : Oper)) (v := ?vs5_19) rfl splits5_plain (by as_aux_lemma => kernel_rfl) (by as_aux_lemma => kernel_rfl) (fun _ _ _ h => h) (Or.inl ⟨by rfl, ?ys5_19⟩) (by assumption) ?rs5_19
      case ys5_19 => (intro w hSw; (try dsimp only at hSw); go_simp; try with_reducible rfl)
      try simp only [Act.put, List.setIfInBounds_toArray, List.set_cons_zero, List.set_cons_succ]
      refine wpAnyH_ready (rs := [20]) (by as_aux_lemma => kernel_rfl) (by simp) ?_
      refine AllReadyH.cons (o := ({ dst := some 65, op := .call { callee := .value (.func 11), args := #[], argTypes := #[] }, type := 4, pos := "law.go:101", after := #[{ on := 19, ground := .chain }, { on := 19, ground := .guard }], guard := some (19, true) } : Oper)) rfl (fun KK hK => ?_) AllReadyH.nil
      rw [if_pos (by rfl)]
      go_simp
      go_at_call 11; refine (AW.out _ (belowT B4 (by assumption))).mono ?_; rintro e w7 ⟨rfl, hb7⟩
      go_wp2_with fail
      refine hK.out _ _ ?_ (fun hHeld7 => ?_)
      · exact belowT (by assumption) hb7
      clear hK KK hb7 hHeld6
      try simp only [Act.put, List.setIfInBounds_toArray, List.set_cons_zero, List.set_cons_succ]
      refine wpAnyH_take (i := 21) (oi := ({ dst := some 66, op := .pick (.tmp 64) (.tmp 65) (.const (.bool false)), type := 4, pos := "law.go:101", after := #[{ on := 19, ground := .data }, { on := 20, ground := .data }], guard := none } : Oper)) (v := ?vs5_21) rfl splits5_plain (by as_aux_lemma => kernel_rfl) (by as_aux_lemma => kernel_rfl) (fun _ _ _ h => h) (Or.inl ⟨by rfl, ?ys5_21⟩) (by assumption) ?rs5_21
      case ys5_21 => (intro w hSw; (try dsimp only at hSw); go_simp; try with_reducible rfl)
      try simp only [Act.put, List.setIfInBounds_toArray, List.set_cons_zero, List.set_cons_succ]
      refine wpAnyH_take (i := 22) (oi := ({ dst := some 6, op := .assign (.tmp 66), type := 4, pos := "law.go:101", after := #[{ on := 21, ground := .data }, { on := 20, ground := .chain }, { on := 0, ground := .phase }, { on := 1, ground := .phase }, { on := 2, ground := .phase }, { on := 3, ground := .phase }, { on := 4, ground := .phase }, { on := 5, ground := .phase }, { on := 6, ground := .phase }, { on := 7, ground := .phase }, { on := 8, ground := .phase }, { on := 9, ground := .phase }, { on := 10, ground := .phase }, { on := 11, ground := .phase }, { on := 12, ground := .phase }, { on := 13, ground := .phase }, { on := 14, ground := .phase }, { on := 15, ground := .phase }, { on := 16, ground := .phase }, { on := 17, ground := .phase }, { on := 18, ground := .phase }, { on := 19, ground := .phase }, { on := 20, ground := .phase }, { on := 21, ground := .phase }], guard := none } : Oper)) (v := ?vs5_22) rfl splits5_plain (by as_aux_lemma => kernel_rfl) (by as_aux_lemma => kernel_rfl) (fun _ _ _ h => h) (Or.inl ⟨by rfl, ?ys5_22⟩) (by assumption) ?rs5_22
      case ys5_22 => (intro w hSw; (try dsimp only at hSw); go_simp; try with_reducible rfl)
      try simp only [Act.put, List.setIfInBounds_toArray, List.set_cons_zero, List.set_cons_succ]
      refine wpAnyH_done (by as_aux_lemma => kernel_rfl) ?_ _
      refine NoPanic.normal ?_
      go_wp2_with fail
      go_ret
      exact ⟨rfl, belowT B4 (by assumption)⟩
    · skip
      change (Code.region 5 splits5 true).wp Tryd.prog _ _ _
      refine wp_region_noPanic ?_
      refine wp_region_held_drew (S := fun w' => Below wx.heap.size wx w') (by kernel_rfl) ((Below.refl _ _).drew) (fun hHeld => ?_)
      refine wpAnyH_take (i := 0) (oi := ({ dst := some 45, op := .load 23 (.tmp 3), type := 23, pos := "law.go:101", after := #[], guard := none } : Oper)) (v := ?vs6_0) rfl splits5_plain (by as_aux_lemma => kernel_rfl) (by as_aux_lemma => kernel_rfl) (fun _ _ _ h => h) (Or.inl ⟨by rfl, ?ys6_0⟩) (by assumption) ?rs6_0
      case ys6_0 => (intro w hSw; (try dsimp only at hSw); go_simp; try with_reducible rfl)
      try simp only [Act.put, List.setIfInBounds_toArray, List.set_cons_zero, List.set_cons_succ]
      refine wpAnyH_take (i := 1) (oi := ({ dst := some 46, op := .load 23 (.tmp 4), type := 23, pos := "law.go:101", after := #[], guard := none } : Oper)) (v := ?vs6_1) rfl splits5_plain (by as_aux_lemma => kernel_rfl) (by as_aux_lemma => kernel_rfl) (fun _ _ _ h => h) (Or.inl ⟨by rfl, ?ys6_1⟩) (by assumption) ?rs6_1
      case ys6_1 => (intro w hSw; (try dsimp only at hSw); go_simp; try with_reducible rfl)
      try simp only [Act.put, List.setIfInBounds_toArray, List.set_cons_zero, List.set_cons_succ]
      refine wpAnyH_take (i := 4) (oi := ({ dst := some 49, op := .load 23 (.tmp 3), type := 23, pos := "law.go:101", after := #[], guard := none } : Oper)) (v := ?vs6_4) rfl splits5_plain (by as_aux_lemma => kernel_rfl) (by as_aux_lemma => kernel_rfl) (fun _ _ _ h => h) (Or.inl ⟨by rfl, ?ys6_4⟩) (by assumption) ?rs6_4
      case ys6_4 => (intro w hSw; (try dsimp only at hSw); go_simp; try with_reducible rfl)
      try simp only [Act.put, List.setIfInBounds_toArray, List.set_cons_zero, List.set_cons_succ]
      refine wpAnyH_ready (rs := [2]) (by as_aux_lemma => kernel_rfl) (by simp) ?_
      refine AllReadyH.cons (o := ({ dst := some 47, op := .call { callee := .value (.func 22), args := #[.tmp 45, .tmp 46], argTypes := #[23, 23] }, type := 2, pos := "law.go:101", after := #[{ on := 0, ground := .data }, { on := 1, ground := .data }], guard := none } : Oper)) rfl (fun KK hK => ?_) AllReadyH.nil
      rw [if_pos (by rfl)]
      go_simp
      go_at_call 22; refine (G1.out _ (belowT B4 (by assumption))).mono ?_; rintro e w4 ⟨rfl, hb4⟩
      go_wp2_with fail
      refine hK.out _ _ ?_ (fun hHeld4 => ?_)
      · exact belowT (by assumption) hb4
      clear hK KK hb4
      try simp only [Act.put, List.setIfInBounds_toArray, List.set_cons_zero, List.set_cons_succ]
      refine wpAnyH_take (i := 3) (oi := ({ dst := some 48, op := .binOp .gtr 2 (.tmp 47) (.const (.int .i64 0)) 2, type := 4, pos := "law.go:101", after := #[{ on := 2, ground := .data }], guard := none } : Oper)) (v := ?vs6_3) rfl splits5_plain (by as_aux_lemma => kernel_rfl) (by as_aux_lemma => kernel_rfl) (fun _ _ _ h => h) (Or.inl ⟨by rfl, ?ys6_3⟩) (by assumption) ?rs6_3
      case ys6_3 => (intro w hSw; (try dsimp only at hSw); go_simp; try with_reducible rfl)
      try simp only [Act.put, List.setIfInBounds_toArray, List.set_cons_zero, List.set_cons_succ]
      refine wpAnyH_ready (rs := [5]) (by as_aux_lemma => kernel_rfl) (by simp) ?_
      refine AllReadyH.cons (o := ({ dst := some 50, op := .call { callee := .value (.func 10), args := #[.tmp 49], argTypes := #[23] }, type := 4, pos := "law.go:101", after := #[{ on := 4, ground := .data }, { on := 2, ground := .chain }], guard := none } : Oper)) rfl (fun KK hK => ?_) AllReadyH.nil
      rw [if_pos (by rfl)]
      go_simp
      go_at_call 10; refine (E1.out _).mono ?_; rintro e w5 ⟨rfl, hb5⟩
      go_wp2_with fail
      refine hK.out _ _ ?_ (fun hHeld5 => ?_)
      · exact belowT (by assumption) hb5
      clear hK KK hb5 hHeld4
      try simp only [Act.put, List.setIfInBounds_toArray, List.set_cons_zero, List.set_cons_succ]
      refine wpAnyH_take (i := 6) (oi := ({ dst := some 51, op := .unOp .not 4 (.tmp 50), type := 4, pos := "law.go:101", after := #[{ on := 5, ground := .data }], guard := none } : Oper)) (v := ?vs6_6) rfl splits5_plain (by as_aux_lemma => kernel_rfl) (by as_aux_lemma => kernel_rfl) (fun _ _ _ h => h) (Or.inl ⟨by rfl, ?ys6_6⟩) (by assumption) ?rs6_6
      case ys6_6 => (intro w hSw; (try dsimp only at hSw); go_simp; try with_reducible rfl)
      try simp only [Act.put, List.setIfInBounds_toArray, List.set_cons_zero, List.set_cons_succ]
      refine wpAnyH_take (i := 7) (oi := ({ dst := some 52, op := .move (.tmp 51), type := 4, pos := "law.go:101", after := #[{ on := 6, ground := .data }, { on := 5, ground := .chain }], guard := none } : Oper)) (v := ?vs6_7) rfl splits5_plain (by as_aux_lemma => kernel_rfl) (by as_aux_lemma => kernel_rfl) (fun _ _ _ h => h) (Or.inl ⟨by rfl, ?ys6_7⟩) (by assumption) ?rs6_7
      case ys6_7 => (intro w hSw; (try dsimp only at hSw); go_simp; try with_reducible rfl)
      try simp only [Act.put, List.setIfInBounds_toArray, List.set_cons_zero, List.set_cons_succ]
      refine wpAnyH_take (i := 8) (oi := ({ dst := some 53, op := .load 23 (.tmp 4), type := 23, pos := "law.go:101", after := #[{ on := 7, ground := .guard }], guard := some (7, true) } : Oper)) (v := ?vs6_8) rfl splits5_plain (by as_aux_lemma => kernel_rfl) (by as_aux_lemma => kernel_rfl) (fun _ _ _ h => h) (Or.inl ⟨by rfl, ?ys6_8⟩) (by assumption) ?rs6_8
      case ys6_8 => (intro w hSw; (try dsimp only at hSw); go_simp; try with_reducible rfl)
      try simp only [Act.put, List.setIfInBounds_toArray, List.set_cons_zero, List.set_cons_succ]
      refine wpAnyH_ready (rs := [9]) (by as_aux_lemma => kernel_rfl) (by simp) ?_
      refine AllReadyH.cons (o := ({ dst := some 54, op := .call { callee := .value (.func 10), args := #[.tmp 53], argTypes := #[23] }, type := 4, pos := "law.go:101", after := #[{ on := 8, ground := .data }, { on := 7, ground := .chain }, { on := 7, ground := .guard }], guard := some (7, true) } : Oper)) rfl (fun KK hK => ?_) AllReadyH.nil
      rw [if_pos (by rfl)]
      go_simp
      go_at_call 10; refine (E2.out _).mono ?_; rintro e w6 ⟨rfl, hb6⟩
      go_wp2_with fail
      refine hK.out _ _ ?_ (fun hHeld6 => ?_)
      · exact belowT (by assumption) hb6
      clear hK KK hb6 hHeld5
      try simp only [Act.put, List.setIfInBounds_toArray, List.set_cons_zero, List.set_cons_succ]
      refine wpAnyH_take (i := 10) (oi := ({ dst := some 55, op := .unOp .not 4 (.tmp 54), type := 4, pos := "law.go:101", after := #[{ on := 9, ground := .data }, { on := 7, ground := .guard }], guard := some (7, true) } : Oper)) (v := ?vs6_10) rfl splits5_plain (by as_aux_lemma => kernel_rfl) (by as_aux_lemma => kernel_rfl) (fun _ _ _ h => h) (Or.inl ⟨by rfl, ?ys6_10⟩) (by assumption) ?rs6_10
      case ys6_10 => (intro w hSw; (try dsimp only at hSw); go_simp; try with_reducible rfl)
      try simp only [Act.put, List.setIfInBounds_toArray, List.set_cons_zero, List.set_cons_succ]
      refine wpAnyH_take (i := 11) (oi := ({ dst := some 56, op := .pick (.tmp 52) (.tmp 55) (.const (.bool false)), type := 4, pos := "law.go:101", after := #[{ on := 7, ground := .data }, { on := 10, ground := .data }], guard := none } : Oper)) (v := ?vs6_11) rfl splits5_plain (by as_aux_lemma => kernel_rfl) (by as_aux_lemma => kernel_rfl) (fun _ _ _ h => h) (Or.inl ⟨by rfl, ?ys6_11⟩) (by assumption) ?rs6_11
      case ys6_11 => (intro w hSw; (try dsimp only at hSw); go_simp; try with_reducible rfl)
      try simp only [Act.put, List.setIfInBounds_toArray, List.set_cons_zero, List.set_cons_succ]
      refine wpAnyH_take (i := 12) (oi := ({ dst := some 57, op := .move (.tmp 56), type := 4, pos := "law.go:101", after := #[{ on := 11, ground := .data }, { on := 9, ground := .chain }], guard := none } : Oper)) (v := ?vs6_12) rfl splits5_plain (by as_aux_lemma => kernel_rfl) (by as_aux_lemma => kernel_rfl) (fun _ _ _ h => h) (Or.inl ⟨by rfl, ?ys6_12⟩) (by assumption) ?rs6_12
      case ys6_12 => (intro w hSw; (try dsimp only at hSw); go_simp; try with_reducible rfl)
      try simp only [Act.put, List.setIfInBounds_toArray, List.set_cons_zero, List.set_cons_succ]
      refine wpAnyH_take (i := 13) (oi := ({ dst := some 58, op := .load 23 (.tmp 3), type := 23, pos := "law.go:101", after := #[{ on := 12, ground := .guard }], guard := some (12, true) } : Oper)) (v := ?vs6_13) rfl splits5_plain (by as_aux_lemma => kernel_rfl) (by as_aux_lemma => kernel_rfl) (fun _ _ _ h => h) (Or.inl ⟨by rfl, ?ys6_13⟩) (by assumption) ?rs6_13
      case ys6_13 => (intro w hSw; (try dsimp only at hSw); go_simp; try with_reducible rfl)
      try simp only [Act.put, List.setIfInBounds_toArray, List.set_cons_zero, List.set_cons_succ]
      refine wpAnyH_take (i := 14) (oi := ({ dst := some 59, op := .load 23 (.tmp 4), type := 23, pos := "law.go:101", after := #[{ on := 12, ground := .guard }], guard := some (12, true) } : Oper)) (v := ?vs6_14) rfl splits5_plain (by as_aux_lemma => kernel_rfl) (by as_aux_lemma => kernel_rfl) (fun _ _ _ h => h) (Or.inl ⟨by rfl, ?ys6_14⟩) (by assumption) ?rs6_14
      case ys6_14 => (intro w hSw; (try dsimp only at hSw); go_simp; try with_reducible rfl)
      try simp only [Act.put, List.setIfInBounds_toArray, List.set_cons_zero, List.set_cons_succ]
      refine wpAnyH_ready (rs := [15]) (by as_aux_lemma => kernel_rfl) (by simp) ?_
      refine AllReadyH.cons (o := ({ dst := some 60, op := .call { callee := .value (.func 7), args := #[.tmp 58, .tmp 59], argTypes := #[23, 23] }, type := 23, pos := "law.go:101", after := #[{ on := 13, ground := .data }, { on := 14, ground := .data }, { on := 12, ground := .chain }, { on := 12, ground := .guard }], guard := some (12, true) } : Oper)) rfl (fun KK hK => ?_) AllReadyH.nil
      rw [if_pos (by rfl)]
      go_simp
      go_at_call 7; refine (M.out _ (belowT B4 (by assumption))).mono ?_; rintro e w7 ⟨rfl, hb7⟩
      go_wp2_with fail
      refine hK.out _ _ ?_ (fun hHeld7 => ?_)
      · exact belowT (by assumption) hb7
      clear hK KK hb7 hHeld6
      try simp only [Act.put, List.setIfInBounds_toArray, List.set_cons_zero, List.set_cons_succ]
      refine wpAnyH_ready (rs := [16]) (by as_aux_lemma => kernel_rfl) (by simp) ?_
      refine AllReadyH.cons (o := ({ dst := some 61, op := .call { callee := .value (.func 10), args := #[.tmp 60], argTypes := #[23] }, type := 4, pos := "law.go:101", after := #[{ on := 15, ground := .data }, { on := 15, ground := .chain }, { on := 12, ground := .guard }], guard := some (12, true) } : Oper)) rfl (fun KK hK => ?_) AllReadyH.nil
      rw [if_pos (by rfl)]
      go_simp
      go_at_call 10; refine (E3.out _).mono ?_; rintro e w8 ⟨rfl, hb8⟩
      go_wp2_with fail
      refine hK.out _ _ ?_ (fun hHeld8 => ?_)
      · exact belowT (by assumption) hb8
      clear hK KK hb8 hHeld7
      try simp only [Act.put, List.setIfInBounds_toArray, List.set_cons_zero, List.set_cons_succ]
      refine wpAnyH_take (i := 17) (oi := ({ dst := some 62, op := .pick (.tmp 57) (.tmp 61) (.const (.bool false)), type := 4, pos := "law.go:101", after := #[{ on := 12, ground := .data }, { on := 16, ground := .data }], guard := none } : Oper)) (v := ?vs6_17) rfl splits5_plain (by as_aux_lemma => kernel_rfl) (by as_aux_lemma => kernel_rfl) (fun _ _ _ h => h) (Or.inl ⟨by rfl, ?ys6_17⟩) (by assumption) ?rs6_17
      case ys6_17 => (intro w hSw; (try dsimp only at hSw); go_simp; try with_reducible rfl)
      try simp only [Act.put, List.setIfInBounds_toArray, List.set_cons_zero, List.set_cons_succ]
      refine wpAnyH_take (i := 18) (oi := ({ dst := some 63, op := .binOp .eql 4 (.tmp 48) (.tmp 62) 4, type := 4, pos := "law.go:101", after := #[{ on := 3, ground := .data }, { on := 17, ground := .data }], guard := none } : Oper)) (v := ?vs6_18) rfl splits5_plain (by as_aux_lemma => kernel_rfl) (by as_aux_lemma => kernel_rfl) (fun _ _ _ h => h) (Or.inl ⟨by rfl, ?ys6_18⟩) (by assumption) ?rs6_18
      case ys6_18 => (intro w hSw; (try dsimp only at hSw); go_simp; try with_reducible rfl)
      try simp only [Act.put, List.setIfInBounds_toArray, List.set_cons_zero, List.set_cons_succ]
      refine wpAnyH_take (i := 19) (oi := ({ dst := some 64, op := .move (.tmp 63), type := 4, pos := "law.go:101", after := #[{ on := 18, ground := .data }, { on := 16, ground := .chain }], guard := none } : Oper)) (v := ?vs6_19) rfl splits5_plain (by as_aux_lemma => kernel_rfl) (by as_aux_lemma => kernel_rfl) (fun _ _ _ h => h) (Or.inl ⟨by rfl, ?ys6_19⟩) (by assumption) ?rs6_19
      case ys6_19 => (intro w hSw; (try dsimp only at hSw); go_simp; try with_reducible rfl)
      try simp only [Act.put, List.setIfInBounds_toArray, List.set_cons_zero, List.set_cons_succ]
      refine wpAnyH_ready (rs := [20]) (by as_aux_lemma => kernel_rfl) (by simp) ?_
      refine AllReadyH.cons (o := ({ dst := some 65, op := .call { callee := .value (.func 11), args := #[], argTypes := #[] }, type := 4, pos := "law.go:101", after := #[{ on := 19, ground := .chain }, { on := 19, ground := .guard }], guard := some (19, true) } : Oper)) rfl (fun KK hK => ?_) AllReadyH.nil
      rw [if_pos (by rfl)]
      go_simp
      go_at_call 11; refine (AW.out _ (belowT B4 (by assumption))).mono ?_; rintro e w9 ⟨rfl, hb9⟩
      go_wp2_with fail
      refine hK.out _ _ ?_ (fun hHeld9 => ?_)
      · exact belowT (by assumption) hb9
      clear hK KK hb9 hHeld8
      try simp only [Act.put, List.setIfInBounds_toArray, List.set_cons_zero, List.set_cons_succ]
      refine wpAnyH_take (i := 21) (oi := ({ dst := some 66, op := .pick (.tmp 64) (.tmp 65) (.const (.bool false)), type := 4, pos := "law.go:101", after := #[{ on := 19, ground := .data }, { on := 20, ground := .data }], guard := none } : Oper)) (v := ?vs6_21) rfl splits5_plain (by as_aux_lemma => kernel_rfl) (by as_aux_lemma => kernel_rfl) (fun _ _ _ h => h) (Or.inl ⟨by rfl, ?ys6_21⟩) (by assumption) ?rs6_21
      case ys6_21 => (intro w hSw; (try dsimp only at hSw); go_simp; try with_reducible rfl)
      try simp only [Act.put, List.setIfInBounds_toArray, List.set_cons_zero, List.set_cons_succ]
      refine wpAnyH_take (i := 22) (oi := ({ dst := some 6, op := .assign (.tmp 66), type := 4, pos := "law.go:101", after := #[{ on := 21, ground := .data }, { on := 20, ground := .chain }, { on := 0, ground := .phase }, { on := 1, ground := .phase }, { on := 2, ground := .phase }, { on := 3, ground := .phase }, { on := 4, ground := .phase }, { on := 5, ground := .phase }, { on := 6, ground := .phase }, { on := 7, ground := .phase }, { on := 8, ground := .phase }, { on := 9, ground := .phase }, { on := 10, ground := .phase }, { on := 11, ground := .phase }, { on := 12, ground := .phase }, { on := 13, ground := .phase }, { on := 14, ground := .phase }, { on := 15, ground := .phase }, { on := 16, ground := .phase }, { on := 17, ground := .phase }, { on := 18, ground := .phase }, { on := 19, ground := .phase }, { on := 20, ground := .phase }, { on := 21, ground := .phase }], guard := none } : Oper)) (v := ?vs6_22) rfl splits5_plain (by as_aux_lemma => kernel_rfl) (by as_aux_lemma => kernel_rfl) (fun _ _ _ h => h) (Or.inl ⟨by rfl, ?ys6_22⟩) (by assumption) ?rs6_22
      case ys6_22 => (intro w hSw; (try dsimp only at hSw); go_simp; try with_reducible rfl)
      try simp only [Act.put, List.setIfInBounds_toArray, List.set_cons_zero, List.set_cons_succ]
      refine wpAnyH_done (by as_aux_lemma => kernel_rfl) ?_ _
      refine NoPanic.normal ?_
      go_wp2_with fail
      go_ret
      exact ⟨rfl, belowT B4 (by assumption)⟩
    · skip
      change (Code.region 5 splits5 true).wp Tryd.prog _ _ _
      refine wp_region_noPanic ?_
      refine wp_region_held_drew (S := fun w' => Below wx.heap.size wx w') (by kernel_rfl) ((Below.refl _ _).drew) (fun hHeld => ?_)
      refine wpAnyH_take (i := 0) (oi := ({ dst := some 45, op := .load 23 (.tmp 3), type := 23, pos := "law.go:101", after := #[], guard := none } : Oper)) (v := ?vs7_0) rfl splits5_plain (by as_aux_lemma => kernel_rfl) (by as_aux_lemma => kernel_rfl) (fun _ _ _ h => h) (Or.inl ⟨by rfl, ?ys7_0⟩) (by assumption) ?rs7_0
      case ys7_0 => (intro w hSw; (try dsimp only at hSw); go_simp; try with_reducible rfl)
      try simp only [Act.put, List.setIfInBounds_toArray, List.set_cons_zero, List.set_cons_succ]
      refine wpAnyH_take (i := 1) (oi := ({ dst := some 46, op := .load 23 (.tmp 4), type := 23, pos := "law.go:101", after := #[], guard := none } : Oper)) (v := ?vs7_1) rfl splits5_plain (by as_aux_lemma => kernel_rfl) (by as_aux_lemma => kernel_rfl) (fun _ _ _ h => h) (Or.inl ⟨by rfl, ?ys7_1⟩) (by assumption) ?rs7_1
      case ys7_1 => (intro w hSw; (try dsimp only at hSw); go_simp; try with_reducible rfl)
      try simp only [Act.put, List.setIfInBounds_toArray, List.set_cons_zero, List.set_cons_succ]
      refine wpAnyH_take (i := 4) (oi := ({ dst := some 49, op := .load 23 (.tmp 3), type := 23, pos := "law.go:101", after := #[], guard := none } : Oper)) (v := ?vs7_4) rfl splits5_plain (by as_aux_lemma => kernel_rfl) (by as_aux_lemma => kernel_rfl) (fun _ _ _ h => h) (Or.inl ⟨by rfl, ?ys7_4⟩) (by assumption) ?rs7_4
      case ys7_4 => (intro w hSw; (try dsimp only at hSw); go_simp; try with_reducible rfl)
      try simp only [Act.put, List.setIfInBounds_toArray, List.set_cons_zero, List.set_cons_succ]
      refine wpAnyH_ready (rs := [2]) (by as_aux_lemma => kernel_rfl) (by simp) ?_
      refine AllReadyH.cons (o := ({ dst := some 47, op := .call { callee := .value (.func 22), args := #[.tmp 45, .tmp 46], argTypes := #[23, 23] }, type := 2, pos := "law.go:101", after := #[{ on := 0, ground := .data }, { on := 1, ground := .data }], guard := none } : Oper)) rfl (fun KK hK => ?_) AllReadyH.nil
      rw [if_pos (by rfl)]
      go_simp
      go_at_call 22; refine (G1.out _ (belowT B4 (by assumption))).mono ?_; rintro e w4 ⟨rfl, hb4⟩
      go_wp2_with fail
      refine hK.out _ _ ?_ (fun hHeld4 => ?_)
      · exact belowT (by assumption) hb4
      clear hK KK hb4
      try simp only [Act.put, List.setIfInBounds_toArray, List.set_cons_zero, List.set_cons_succ]
      refine wpAnyH_take (i := 3) (oi := ({ dst := some 48, op := .binOp .gtr 2 (.tmp 47) (.const (.int .i64 0)) 2, type := 4, pos := "law.go:101", after := #[{ on := 2, ground := .data }], guard := none } : Oper)) (v := ?vs7_3) rfl splits5_plain (by as_aux_lemma => kernel_rfl) (by as_aux_lemma => kernel_rfl) (fun _ _ _ h => h) (Or.inl ⟨by rfl, ?ys7_3⟩) (by assumption) ?rs7_3
      case ys7_3 => (intro w hSw; (try dsimp only at hSw); go_simp; try with_reducible rfl)
      try simp only [Act.put, List.setIfInBounds_toArray, List.set_cons_zero, List.set_cons_succ]
      refine wpAnyH_ready (rs := [5]) (by as_aux_lemma => kernel_rfl) (by simp) ?_
      refine AllReadyH.cons (o := ({ dst := some 50, op := .call { callee := .value (.func 10), args := #[.tmp 49], argTypes := #[23] }, type := 4, pos := "law.go:101", after := #[{ on := 4, ground := .data }, { on := 2, ground := .chain }], guard := none } : Oper)) rfl (fun KK hK => ?_) AllReadyH.nil
      rw [if_pos (by rfl)]
      go_simp
      go_at_call 10; refine (E1.out _).mono ?_; rintro e w5 ⟨rfl, hb5⟩
      go_wp2_with fail
      refine hK.out _ _ ?_ (fun hHeld5 => ?_)
      · exact belowT (by assumption) hb5
      clear hK KK hb5 hHeld4
      try simp only [Act.put, List.setIfInBounds_toArray, List.set_cons_zero, List.set_cons_succ]
      refine wpAnyH_take (i := 6) (oi := ({ dst := some 51, op := .unOp .not 4 (.tmp 50), type := 4, pos := "law.go:101", after := #[{ on := 5, ground := .data }], guard := none } : Oper)) (v := ?vs7_6) rfl splits5_plain (by as_aux_lemma => kernel_rfl) (by as_aux_lemma => kernel_rfl) (fun _ _ _ h => h) (Or.inl ⟨by rfl, ?ys7_6⟩) (by assumption) ?rs7_6
      case ys7_6 => (intro w hSw; (try dsimp only at hSw); go_simp; try with_reducible rfl)
      try simp only [Act.put, List.setIfInBounds_toArray, List.set_cons_zero, List.set_cons_succ]
      refine wpAnyH_take (i := 7) (oi := ({ dst := some 52, op := .move (.tmp 51), type := 4, pos := "law.go:101", after := #[{ on := 6, ground := .data }, { on := 5, ground := .chain }], guard := none } : Oper)) (v := ?vs7_7) rfl splits5_plain (by as_aux_lemma => kernel_rfl) (by as_aux_lemma => kernel_rfl) (fun _ _ _ h => h) (Or.inl ⟨by rfl, ?ys7_7⟩) (by assumption) ?rs7_7
      case ys7_7 => (intro w hSw; (try dsimp only at hSw); go_simp; try with_reducible rfl)
      try simp only [Act.put, List.setIfInBounds_toArray, List.set_cons_zero, List.set_cons_succ]
      refine wpAnyH_take (i := 8) (oi := ({ dst := some 53, op := .load 23 (.tmp 4), type := 23, pos := "law.go:101", after := #[{ on := 7, ground := .guard }], guard := some (7, true) } : Oper)) (v := ?vs7_8) rfl splits5_plain (by as_aux_lemma => kernel_rfl) (by as_aux_lemma => kernel_rfl) (fun _ _ _ h => h) (Or.inl ⟨by rfl, ?ys7_8⟩) (by assumption) ?rs7_8
      case ys7_8 => (intro w hSw; (try dsimp only at hSw); go_simp; try with_reducible rfl)
      try simp only [Act.put, List.setIfInBounds_toArray, List.set_cons_zero, List.set_cons_succ]
      refine wpAnyH_ready (rs := [9]) (by as_aux_lemma => kernel_rfl) (by simp) ?_
      refine AllReadyH.cons (o := ({ dst := some 54, op := .call { callee := .value (.func 10), args := #[.tmp 53], argTypes := #[23] }, type := 4, pos := "law.go:101", after := #[{ on := 8, ground := .data }, { on := 7, ground := .chain }, { on := 7, ground := .guard }], guard := some (7, true) } : Oper)) rfl (fun KK hK => ?_) AllReadyH.nil
      rw [if_pos (by rfl)]
      go_simp
      go_at_call 10; refine (E2.out _).mono ?_; rintro e w6 ⟨rfl, hb6⟩
      go_wp2_with fail
      refine hK.out _ _ ?_ (fun hHeld6 => ?_)
      · exact belowT (by assumption) hb6
      clear hK KK hb6 hHeld5
      try simp only [Act.put, List.setIfInBounds_toArray, List.set_cons_zero, List.set_cons_succ]
      refine wpAnyH_take (i := 10) (oi := ({ dst := some 55, op := .unOp .not 4 (.tmp 54), type := 4, pos := "law.go:101", after := #[{ on := 9, ground := .data }, { on := 7, ground := .guard }], guard := some (7, true) } : Oper)) (v := ?vs7_10) rfl splits5_plain (by as_aux_lemma => kernel_rfl) (by as_aux_lemma => kernel_rfl) (fun _ _ _ h => h) (Or.inl ⟨by rfl, ?ys7_10⟩) (by assumption) ?rs7_10
      case ys7_10 => (intro w hSw; (try dsimp only at hSw); go_simp; try with_reducible rfl)
      try simp only [Act.put, List.setIfInBounds_toArray, List.set_cons_zero, List.set_cons_succ]
      refine wpAnyH_take (i := 11) (oi := ({ dst := some 56, op := .pick (.tmp 52) (.tmp 55) (.const (.bool false)), type := 4, pos := "law.go:101", after := #[{ on := 7, ground := .data }, { on := 10, ground := .data }], guard := none } : Oper)) (v := ?vs7_11) rfl splits5_plain (by as_aux_lemma => kernel_rfl) (by as_aux_lemma => kernel_rfl) (fun _ _ _ h => h) (Or.inl ⟨by rfl, ?ys7_11⟩) (by assumption) ?rs7_11
      case ys7_11 => (intro w hSw; (try dsimp only at hSw); go_simp; try with_reducible rfl)
      try simp only [Act.put, List.setIfInBounds_toArray, List.set_cons_zero, List.set_cons_succ]
      refine wpAnyH_take (i := 12) (oi := ({ dst := some 57, op := .move (.tmp 56), type := 4, pos := "law.go:101", after := #[{ on := 11, ground := .data }, { on := 9, ground := .chain }], guard := none } : Oper)) (v := ?vs7_12) rfl splits5_plain (by as_aux_lemma => kernel_rfl) (by as_aux_lemma => kernel_rfl) (fun _ _ _ h => h) (Or.inl ⟨by rfl, ?ys7_12⟩) (by assumption) ?rs7_12
      case ys7_12 => (intro w hSw; (try dsimp only at hSw); go_simp; try with_reducible rfl)
      try simp only [Act.put, List.setIfInBounds_toArray, List.set_cons_zero, List.set_cons_succ]
      refine wpAnyH_take (i := 13) (oi := ({ dst := some 58, op := .load 23 (.tmp 3), type := 23, pos := "law.go:101", after := #[{ on := 12, ground := .guard }], guard := some (12, true) } : Oper)) (v := ?vs7_13) rfl splits5_plain (by as_aux_lemma => kernel_rfl) (by as_aux_lemma => kernel_rfl) (fun _ _ _ h => h) (Or.inl ⟨by rfl, ?ys7_13⟩) (by assumption) ?rs7_13
      case ys7_13 => (intro w hSw; (try dsimp only at hSw); go_simp; try with_reducible rfl)
      try simp only [Act.put, List.setIfInBounds_toArray, List.set_cons_zero, List.set_cons_succ]
      refine wpAnyH_take (i := 14) (oi := ({ dst := some 59, op := .load 23 (.tmp 4), type := 23, pos := "law.go:101", after := #[{ on := 12, ground := .guard }], guard := some (12, true) } : Oper)) (v := ?vs7_14) rfl splits5_plain (by as_aux_lemma => kernel_rfl) (by as_aux_lemma => kernel_rfl) (fun _ _ _ h => h) (Or.inl ⟨by rfl, ?ys7_14⟩) (by assumption) ?rs7_14
      case ys7_14 => (intro w hSw; (try dsimp only at hSw); go_simp; try with_reducible rfl)
      try simp only [Act.put, List.setIfInBounds_toArray, List.set_cons_zero, List.set_cons_succ]
      refine wpAnyH_ready (rs := [15]) (by as_aux_lemma => kernel_rfl) (by simp) ?_
      refine AllReadyH.cons (o := ({ dst := some 60, op := .call { callee := .value (.func 7), args := #[.tmp 58, .tmp 59], argTypes := #[23, 23] }, type := 23, pos := "law.go:101", after := #[{ on := 13, ground := .data }, { on := 14, ground := .data }, { on := 12, ground := .chain }, { on := 12, ground := .guard }], guard := some (12, true) } : Oper)) rfl (fun KK hK => ?_) AllReadyH.nil
      rw [if_pos (by rfl)]
      go_simp
      go_at_call 7; refine (M.out _ (belowT B4 (by assumption))).mono ?_; rintro e w7 ⟨rfl, hb7⟩
      go_wp2_with fail
      refine hK.out _ _ ?_ (fun hHeld7 => ?_)
      · exact belowT (by assumption) hb7
      clear hK KK hb7 hHeld6
      try simp only [Act.put, List.setIfInBounds_toArray, List.set_cons_zero, List.set_cons_succ]
      refine wpAnyH_ready (rs := [16]) (by as_aux_lemma => kernel_rfl) (by simp) ?_
      refine AllReadyH.cons (o := ({ dst := some 61, op := .call { callee := .value (.func 10), args := #[.tmp 60], argTypes := #[23] }, type := 4, pos := "law.go:101", after := #[{ on := 15, ground := .data }, { on := 15, ground := .chain }, { on := 12, ground := .guard }], guard := some (12, true) } : Oper)) rfl (fun KK hK => ?_) AllReadyH.nil
      rw [if_pos (by rfl)]
      go_simp
      go_at_call 10; refine (E3.out _).mono ?_; rintro e w8 ⟨rfl, hb8⟩
      go_wp2_with fail
      refine hK.out _ _ ?_ (fun hHeld8 => ?_)
      · exact belowT (by assumption) hb8
      clear hK KK hb8 hHeld7
      try simp only [Act.put, List.setIfInBounds_toArray, List.set_cons_zero, List.set_cons_succ]
      refine wpAnyH_take (i := 17) (oi := ({ dst := some 62, op := .pick (.tmp 57) (.tmp 61) (.const (.bool false)), type := 4, pos := "law.go:101", after := #[{ on := 12, ground := .data }, { on := 16, ground := .data }], guard := none } : Oper)) (v := ?vs7_17) rfl splits5_plain (by as_aux_lemma => kernel_rfl) (by as_aux_lemma => kernel_rfl) (fun _ _ _ h => h) (Or.inl ⟨by rfl, ?ys7_17⟩) (by assumption) ?rs7_17
      case ys7_17 => (intro w hSw; (try dsimp only at hSw); go_simp; try with_reducible rfl)
      try simp only [Act.put, List.setIfInBounds_toArray, List.set_cons_zero, List.set_cons_succ]
      refine wpAnyH_take (i := 18) (oi := ({ dst := some 63, op := .binOp .eql 4 (.tmp 48) (.tmp 62) 4, type := 4, pos := "law.go:101", after := #[{ on := 3, ground := .data }, { on := 17, ground := .data }], guard := none } : Oper)) (v := ?vs7_18) rfl splits5_plain (by as_aux_lemma => kernel_rfl) (by as_aux_lemma => kernel_rfl) (fun _ _ _ h => h) (Or.inl ⟨by rfl, ?ys7_18⟩) (by assumption) ?rs7_18
      case ys7_18 => (intro w hSw; (try dsimp only at hSw); go_simp; try with_reducible rfl)
      try simp only [Act.put, List.setIfInBounds_toArray, List.set_cons_zero, List.set_cons_succ]
      refine wpAnyH_take (i := 19) (oi := ({ dst := some 64, op := .move (.tmp 63), type := 4, pos := "law.go:101", after := #[{ on := 18, ground := .data }, { on := 16, ground := .chain }], guard := none } : Oper)) (v := ?vs7_19) rfl splits5_plain (by as_aux_lemma => kernel_rfl) (by as_aux_lemma => kernel_rfl) (fun _ _ _ h => h) (Or.inl ⟨by rfl, ?ys7_19⟩) (by assumption) ?rs7_19
      case ys7_19 => (intro w hSw; (try dsimp only at hSw); go_simp; try with_reducible rfl)
      try simp only [Act.put, List.setIfInBounds_toArray, List.set_cons_zero, List.set_cons_succ]
      refine wpAnyH_ready (rs := [20]) (by as_aux_lemma => kernel_rfl) (by simp) ?_
      refine AllReadyH.cons (o := ({ dst := some 65, op := .call { callee := .value (.func 11), args := #[], argTypes := #[] }, type := 4, pos := "law.go:101", after := #[{ on := 19, ground := .chain }, { on := 19, ground := .guard }], guard := some (19, true) } : Oper)) rfl (fun KK hK => ?_) AllReadyH.nil
      rw [if_pos (by rfl)]
      go_simp
      go_at_call 11; refine (AW.out _ (belowT B4 (by assumption))).mono ?_; rintro e w9 ⟨rfl, hb9⟩
      go_wp2_with fail
      refine hK.out _ _ ?_ (fun hHeld9 => ?_)
      · exact belowT (by assumption) hb9
      clear hK KK hb9 hHeld8
      try simp only [Act.put, List.setIfInBounds_toArray, List.set_cons_zero, List.set_cons_succ]
      refine wpAnyH_take (i := 21) (oi := ({ dst := some 66, op := .pick (.tmp 64) (.tmp 65) (.const (.bool false)), type := 4, pos := "law.go:101", after := #[{ on := 19, ground := .data }, { on := 20, ground := .data }], guard := none } : Oper)) (v := ?vs7_21) rfl splits5_plain (by as_aux_lemma => kernel_rfl) (by as_aux_lemma => kernel_rfl) (fun _ _ _ h => h) (Or.inl ⟨by rfl, ?ys7_21⟩) (by assumption) ?rs7_21
      case ys7_21 => (intro w hSw; (try dsimp only at hSw); go_simp; try with_reducible rfl)
      try simp only [Act.put, List.setIfInBounds_toArray, List.set_cons_zero, List.set_cons_succ]
      refine wpAnyH_take (i := 22) (oi := ({ dst := some 6, op := .assign (.tmp 66), type := 4, pos := "law.go:101", after := #[{ on := 21, ground := .data }, { on := 20, ground := .chain }, { on := 0, ground := .phase }, { on := 1, ground := .phase }, { on := 2, ground := .phase }, { on := 3, ground := .phase }, { on := 4, ground := .phase }, { on := 5, ground := .phase }, { on := 6, ground := .phase }, { on := 7, ground := .phase }, { on := 8, ground := .phase }, { on := 9, ground := .phase }, { on := 10, ground := .phase }, { on := 11, ground := .phase }, { on := 12, ground := .phase }, { on := 13, ground := .phase }, { on := 14, ground := .phase }, { on := 15, ground := .phase }, { on := 16, ground := .phase }, { on := 17, ground := .phase }, { on := 18, ground := .phase }, { on := 19, ground := .phase }, { on := 20, ground := .phase }, { on := 21, ground := .phase }], guard := none } : Oper)) (v := ?vs7_22) rfl splits5_plain (by as_aux_lemma => kernel_rfl) (by as_aux_lemma => kernel_rfl) (fun _ _ _ h => h) (Or.inl ⟨by rfl, ?ys7_22⟩) (by assumption) ?rs7_22
      case ys7_22 => (intro w hSw; (try dsimp only at hSw); go_simp; try with_reducible rfl)
      try simp only [Act.put, List.setIfInBounds_toArray, List.set_cons_zero, List.set_cons_succ]
      refine wpAnyH_done (by as_aux_lemma => kernel_rfl) ?_ _
      refine NoPanic.normal ?_
      go_wp2_with fail
      go_ret
      exact ⟨rfl, belowT B4 (by assumption)⟩

theorem splits_any (a b c d x : Int) (w : World) (n : NoneAt w) (ra : Fix.Room a) (rb : Fix.Room b) (rc : Fix.Room c) (rd : Fix.Room d) :
    Calls Tryd.prog 6 #[.agg #[.int .i64 a, .int .i64 b], .agg #[.int .i64 c, .int .i64 d], .int .i64 x] w fun e w' => e = .returned (.bool true) ∧ Below w.heap.size w w' := by
  refine splits_core a b c d x _ _ _ _ (Sp.gap a b c d) _ _ _ _ _ _ _ _ w (Lib.hid fun w' B => sSplit a b w' (n.keep B) ra rb) (Lib.hid fun w => Has_any _ _ x w) (Lib.hid fun w => Has_any _ _ x w) (Lib.hid fun w => Has_any a b x w)
    (Lib.hid fun w' B => sGap a b c d w' (n.keep B) ra rb rc rd) (Lib.hid fun w' B => ?_) (Lib.hid fun w => Empty_any a b w) (Lib.hid fun w => Empty_any c d w) (Lib.hid fun w' B => Meet_any a b c d w' (n.keep B)) (Lib.hid fun w => Empty_any _ _ w)
    (Lib.hid fun w' B => awake_any w' (n.keep B)) (Sp.split_has a b x) (Sp.gap_pos a b c d)
  have h := sGap c d a b w' (n.keep B) rc rd ra rb
  rw [Sp.gap_same] at h
  exact h

end Go.Proofs.YtdembidbaojldaaDoor
