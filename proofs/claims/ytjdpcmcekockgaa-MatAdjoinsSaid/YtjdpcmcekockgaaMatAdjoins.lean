/- MatAdjoins: the law's walk. -/
import Derived.Test.YtjdpcmcekockgaaMatAwake
namespace Go.Proofs.Ytjdpcmcekockgaa
open Go.RowKit
/-- The operations of a drawn region, as the translation has them. -/
def adjo2 : Array Oper := #[
  { dst := some 12, op := .load 25 (.tmp 2), type := 25, pos := "law.go:28", after := #[], guard := none },
  { dst := some 13, op := .load 25 (.tmp 2), type := 25, pos := "law.go:28", after := #[], guard := none },
  { dst := some 14, op := .call { callee := .value (.func 12), args := #[.tmp 13], argTypes := #[25] }, type := 25, pos := "law.go:28", after := #[{ on := 1, ground := .data }], guard := none },
  { dst := some 15, op := .call { callee := .value (.func 11), args := #[.tmp 12, .tmp 14], argTypes := #[25, 25] }, type := 25, pos := "law.go:28", after := #[{ on := 0, ground := .data }, { on := 2, ground := .data }, { on := 2, ground := .chain }], guard := none },
  { dst := some 16, op := .load 25 (.tmp 5), type := 25, pos := "law.go:28", after := #[], guard := none },
  { dst := some 17, op := .binOp .neq 25 (.tmp 15) (.tmp 16) 25, type := 4, pos := "law.go:28", after := #[{ on := 3, ground := .data }, { on := 4, ground := .data }], guard := none },
  { dst := some 18, op := .move (.tmp 17), type := 4, pos := "law.go:28", after := #[{ on := 5, ground := .data }, { on := 3, ground := .chain }], guard := none },
  { dst := some 19, op := .load 25 (.tmp 2), type := 25, pos := "law.go:28", after := #[{ on := 6, ground := .guard }], guard := some (6, false) },
  { dst := some 20, op := .call { callee := .value (.func 12), args := #[.tmp 19], argTypes := #[25] }, type := 25, pos := "law.go:28", after := #[{ on := 7, ground := .data }, { on := 6, ground := .chain }, { on := 6, ground := .guard }], guard := some (6, false) },
  { dst := some 21, op := .load 25 (.tmp 2), type := 25, pos := "law.go:28", after := #[{ on := 6, ground := .guard }], guard := some (6, false) },
  { dst := some 22, op := .call { callee := .value (.func 11), args := #[.tmp 20, .tmp 21], argTypes := #[25, 25] }, type := 25, pos := "law.go:28", after := #[{ on := 8, ground := .data }, { on := 9, ground := .data }, { on := 8, ground := .chain }, { on := 6, ground := .guard }], guard := some (6, false) },
  { dst := some 23, op := .load 25 (.tmp 5), type := 25, pos := "law.go:28", after := #[{ on := 6, ground := .guard }], guard := some (6, false) },
  { dst := some 24, op := .binOp .neq 25 (.tmp 22) (.tmp 23) 25, type := 4, pos := "law.go:28", after := #[{ on := 10, ground := .data }, { on := 11, ground := .data }, { on := 6, ground := .guard }], guard := some (6, false) },
  { dst := some 25, op := .pick (.tmp 18) (.const (.bool true)) (.tmp 24), type := 4, pos := "law.go:28", after := #[{ on := 6, ground := .data }, { on := 12, ground := .data }], guard := none }]
theorem adjo2_plain : Region.noSelect adjo2 = true := by kernel_rfl

/-- The operations of a drawn region, as the translation has them. -/
def adjo7 : Array Oper := #[
  { dst := some 41, op := .load 25 (.tmp 2), type := 25, pos := "law.go:35", after := #[], guard := none },
  { dst := some 42, op := .load 23 (.tmp 6), type := 23, pos := "law.go:35", after := #[], guard := none },
  { dst := some 43, op := .call { callee := .value (.func 15), args := #[.tmp 41, .tmp 42], argTypes := #[25, 23] }, type := 23, pos := "law.go:35", after := #[{ on := 0, ground := .data }, { on := 1, ground := .data }], guard := none },
  { dst := some 44, op := .load 23 (.tmp 3), type := 23, pos := "law.go:35", after := #[], guard := none },
  { dst := some 45, op := .move (.tmp 7), type := 2, pos := "law.go:35", after := #[], guard := none },
  { dst := some 46, op := .call { callee := .value (.func 16), args := #[.tmp 44, .tmp 45], argTypes := #[23, 2] }, type := 23, pos := "law.go:35", after := #[{ on := 3, ground := .data }, { on := 4, ground := .data }, { on := 2, ground := .chain }], guard := none },
  { dst := some 47, op := .binOp .eql 23 (.tmp 43) (.tmp 46) 23, type := 4, pos := "law.go:35", after := #[{ on := 2, ground := .data }, { on := 5, ground := .data }], guard := none },
  { dst := some 48, op := .move (.tmp 47), type := 4, pos := "law.go:35", after := #[{ on := 6, ground := .data }, { on := 5, ground := .chain }], guard := none },
  { dst := some 49, op := .call { callee := .value (.func 14), args := #[], argTypes := #[] }, type := 4, pos := "law.go:35", after := #[{ on := 7, ground := .chain }, { on := 7, ground := .guard }], guard := some (7, true) },
  { dst := some 50, op := .pick (.tmp 48) (.tmp 49) (.const (.bool false)), type := 4, pos := "law.go:35", after := #[{ on := 7, ground := .data }, { on := 8, ground := .data }], guard := none },
  { dst := some 4, op := .assign (.tmp 50), type := 4, pos := "law.go:35", after := #[{ on := 9, ground := .data }, { on := 8, ground := .chain }, { on := 0, ground := .phase }, { on := 1, ground := .phase }, { on := 2, ground := .phase }, { on := 3, ground := .phase }, { on := 4, ground := .phase }, { on := 5, ground := .phase }, { on := 6, ground := .phase }, { on := 7, ground := .phase }, { on := 8, ground := .phase }, { on := 9, ground := .phase }], guard := none }]
theorem adjo7_plain : Region.noSelect adjo7 = true := by kernel_rfl

set_option maxHeartbeats 16000000 in
set_option maxRecDepth 100000 in
theorem Adjoins_all (a : M3) (v : V3) (w : World) :
    Calls Try.prog 3 #[mv a, vv v] w fun e w' => e = .returned (.bool true) ∧ Below w.heap.size w w' := by
  have K1 := Lib.hid fun w => Own8.Det_any a w
  have K2 := Lib.hid fun w => Own8.Unit_any a.det w
  have K3 := Lib.hid fun w => Own8.Adj_any a w
  have k4 := fun w => Own8.Mul_any a a.adj w
  rw [mul_adj] at k4
  have k5 := fun w => Own8.Mul_any a.adj a w
  rw [adj_mul] at k5
  have K4 := Lib.hid k4; have K5 := Lib.hid k5
  have AW := Lib.hid Aw8.awake_any
  have ES := vec_same; have EM := mat_same
  have d0 := det_zero a.det
  have S0 := Lib.hid (((St.none w).more (ml a) 25).more (vl v) 23)
  have hcase : (a.det = 0 ∧ ∀ w, Calls Try.prog 13 #[mv a, vv v] w fun e w' => e = .returned (.tuple #[vv V3.zero, .int .i64 0, .int .i64 7]) ∧ Below w.heap.size w w') ∨
      (a.det ≠ 0 ∧ (∀ w, Calls Try.prog 13 #[mv a, vv v] w fun e w' => e = .returned (.tuple #[vv (a.adj.times v), .int .i64 a.det.toInt, .int .i64 0]) ∧ Below w.heap.size w w') ∧
        (∀ w, Calls Try.prog 15 #[mv a, vv (a.adj.times v)] w fun e w' => e = .returned (vv (v.scale a.det)) ∧ Below w.heap.size w w') ∧
        (∀ w, Calls Try.prog 16 #[vv v, .int .i64 a.det.toInt] w fun e w' => e = .returned (vv (v.scale a.det)) ∧ Below w.heap.size w w')) := by
    by_cases h : a.det = 0
    · exact Or.inl ⟨h, fun w => Own8.Solve_flat a v w h⟩
    · refine Or.inr ⟨h, fun w => Own8.Solve_firm a v w h, fun w => ?_, fun w => Own7.Scale_any v a.det w⟩
      have t := Own8.Times_any a (a.adj.times v) w
      rw [times_adj] at t
      exact t
  have HC := Lib.hid hcase
  clear k4 k5 hcase
  obtain ⟨D, hD⟩ : ∃ D, D = a.det := ⟨_, rfl⟩
  rw [← hD] at K1 K2 K4 K5 d0 HC
  clear hD
  generalize M3.unit D = u at *
  generalize a.adj.times v = y at *
  generalize a.adj = A at *
  generalize v.scale D = s at *
  go_enter Try.func3, Try.ntmps3
  go_wp2_with fail
  refine (K1.out _).mono ?_; rintro e w1 ⟨rfl, hb1⟩
  have S1 := Lib.hid (S0.out.keep hb1)
  clear hb1 S0
  go_wp2_with fail
  refine (K2.out _).mono ?_; rintro e w2 ⟨rfl, hb2⟩
  have S2 := Lib.hid ((S1.out.keep hb2).more (ml u) 25)
  clear hb2 S1
  go_upto_region 2 with fail
  obtain ⟨W0, hW0⟩ : ∃ W0, W0 = w2.alloc (.cells (ml u).toArray 25) := ⟨_, rfl⟩
  have S3 := S2.out
  rw [← hW0] at S3
  simp only [heap1] at S3
  have HW := Lib.hid hW0
  clear hW0 S2
  rw [← HW.out]
  clear HW
  have ma0 : ∀ w', Below W0.heap.size W0 w' → w'.cell? ⟨w.heap.size, 0, none⟩ = some (.int .i64 a.a.x.toInt) := fun w' h => (S3.keep h).at 0 rfl 0 rfl
  have ma1 : ∀ w', Below W0.heap.size W0 w' → w'.cell? ⟨w.heap.size, 1, none⟩ = some (.int .i64 a.a.y.toInt) := fun w' h => (S3.keep h).at 0 rfl 1 rfl
  have ma2 : ∀ w', Below W0.heap.size W0 w' → w'.cell? ⟨w.heap.size, 2, none⟩ = some (.int .i64 a.a.z.toInt) := fun w' h => (S3.keep h).at 0 rfl 2 rfl
  have ma3 : ∀ w', Below W0.heap.size W0 w' → w'.cell? ⟨w.heap.size, 3, none⟩ = some (.int .i64 a.b.x.toInt) := fun w' h => (S3.keep h).at 0 rfl 3 rfl
  have ma4 : ∀ w', Below W0.heap.size W0 w' → w'.cell? ⟨w.heap.size, 4, none⟩ = some (.int .i64 a.b.y.toInt) := fun w' h => (S3.keep h).at 0 rfl 4 rfl
  have ma5 : ∀ w', Below W0.heap.size W0 w' → w'.cell? ⟨w.heap.size, 5, none⟩ = some (.int .i64 a.b.z.toInt) := fun w' h => (S3.keep h).at 0 rfl 5 rfl
  have ma6 : ∀ w', Below W0.heap.size W0 w' → w'.cell? ⟨w.heap.size, 6, none⟩ = some (.int .i64 a.c.x.toInt) := fun w' h => (S3.keep h).at 0 rfl 6 rfl
  have ma7 : ∀ w', Below W0.heap.size W0 w' → w'.cell? ⟨w.heap.size, 7, none⟩ = some (.int .i64 a.c.y.toInt) := fun w' h => (S3.keep h).at 0 rfl 7 rfl
  have ma8 : ∀ w', Below W0.heap.size W0 w' → w'.cell? ⟨w.heap.size, 8, none⟩ = some (.int .i64 a.c.z.toInt) := fun w' h => (S3.keep h).at 0 rfl 8 rfl
  have mu0 : ∀ w', Below W0.heap.size W0 w' → w'.cell? ⟨w2.heap.size, 0, none⟩ = some (.int .i64 u.a.x.toInt) := fun w' h => (S3.keep h).at 2 rfl 0 rfl
  have mu1 : ∀ w', Below W0.heap.size W0 w' → w'.cell? ⟨w2.heap.size, 1, none⟩ = some (.int .i64 u.a.y.toInt) := fun w' h => (S3.keep h).at 2 rfl 1 rfl
  have mu2 : ∀ w', Below W0.heap.size W0 w' → w'.cell? ⟨w2.heap.size, 2, none⟩ = some (.int .i64 u.a.z.toInt) := fun w' h => (S3.keep h).at 2 rfl 2 rfl
  have mu3 : ∀ w', Below W0.heap.size W0 w' → w'.cell? ⟨w2.heap.size, 3, none⟩ = some (.int .i64 u.b.x.toInt) := fun w' h => (S3.keep h).at 2 rfl 3 rfl
  have mu4 : ∀ w', Below W0.heap.size W0 w' → w'.cell? ⟨w2.heap.size, 4, none⟩ = some (.int .i64 u.b.y.toInt) := fun w' h => (S3.keep h).at 2 rfl 4 rfl
  have mu5 : ∀ w', Below W0.heap.size W0 w' → w'.cell? ⟨w2.heap.size, 5, none⟩ = some (.int .i64 u.b.z.toInt) := fun w' h => (S3.keep h).at 2 rfl 5 rfl
  have mu6 : ∀ w', Below W0.heap.size W0 w' → w'.cell? ⟨w2.heap.size, 6, none⟩ = some (.int .i64 u.c.x.toInt) := fun w' h => (S3.keep h).at 2 rfl 6 rfl
  have mu7 : ∀ w', Below W0.heap.size W0 w' → w'.cell? ⟨w2.heap.size, 7, none⟩ = some (.int .i64 u.c.y.toInt) := fun w' h => (S3.keep h).at 2 rfl 7 rfl
  have mu8 : ∀ w', Below W0.heap.size W0 w' → w'.cell? ⟨w2.heap.size, 8, none⟩ = some (.int .i64 u.c.z.toInt) := fun w' h => (S3.keep h).at 2 rfl 8 rfl
  have H3 := Lib.hid S3
  clear S3
  change (Code.region 2 adjo2 true).wp Try.prog _ _ _
  refine wp_region_noPanic ?_
  refine wp_region_held_drew (S := fun w' => Below W0.heap.size W0 w') (by kernel_rfl) ((Below.refl _ _).drew) (fun hHeld => ?_)
  refine wpAnyH_take (i := 0) (oi := ({ dst := some 12, op := .load 25 (.tmp 2), type := 25, pos := "law.go:28", after := #[], guard := none } : Oper)) (v := ?vs2_0) rfl adjo2_plain (by as_aux_lemma => kernel_rfl) (by as_aux_lemma => kernel_rfl) (fun _ _ _ h => h) (Or.inl ⟨by rfl, ?ys2_0⟩) (by assumption) ?rs2_0
  case ys2_0 => (intro w hSw; (try dsimp only at hSw); go_simp; try with_reducible rfl)
  try simp only [Act.put, List.setIfInBounds_toArray, List.set_cons_zero, List.set_cons_succ]
  refine wpAnyH_take (i := 1) (oi := ({ dst := some 13, op := .load 25 (.tmp 2), type := 25, pos := "law.go:28", after := #[], guard := none } : Oper)) (v := ?vs2_1) rfl adjo2_plain (by as_aux_lemma => kernel_rfl) (by as_aux_lemma => kernel_rfl) (fun _ _ _ h => h) (Or.inl ⟨by rfl, ?ys2_1⟩) (by assumption) ?rs2_1
  case ys2_1 => (intro w hSw; (try dsimp only at hSw); go_simp; try with_reducible rfl)
  try simp only [Act.put, List.setIfInBounds_toArray, List.set_cons_zero, List.set_cons_succ]
  refine wpAnyH_take (i := 4) (oi := ({ dst := some 16, op := .load 25 (.tmp 5), type := 25, pos := "law.go:28", after := #[], guard := none } : Oper)) (v := ?vs2_4) rfl adjo2_plain (by as_aux_lemma => kernel_rfl) (by as_aux_lemma => kernel_rfl) (fun _ _ _ h => h) (Or.inl ⟨by rfl, ?ys2_4⟩) (by assumption) ?rs2_4
  case ys2_4 => (intro w hSw; (try dsimp only at hSw); go_simp; try with_reducible rfl)
  try simp only [Act.put, List.setIfInBounds_toArray, List.set_cons_zero, List.set_cons_succ]
  refine wpAnyH_ready (rs := [2]) (by as_aux_lemma => kernel_rfl) (by simp) ?_
  refine AllReadyH.cons (o := ({ dst := some 14, op := .call { callee := .value (.func 12), args := #[.tmp 13], argTypes := #[25] }, type := 25, pos := "law.go:28", after := #[{ on := 1, ground := .data }], guard := none } : Oper)) rfl (fun KK hK => ?_) AllReadyH.nil
  rw [if_pos (by rfl)]
  go_simp
  go_at_call 12; refine (K3.out _).mono ?_; rintro e w3 ⟨rfl, hb3⟩
  go_wp2_with fail
  refine hK.out _ _ ?_ (fun hHeld3 => ?_)
  · exact belowT (by assumption) hb3
  clear hK KK hb3
  try simp only [Act.put, List.setIfInBounds_toArray, List.set_cons_zero, List.set_cons_succ]
  refine wpAnyH_ready (rs := [3]) (by as_aux_lemma => kernel_rfl) (by simp) ?_
  refine AllReadyH.cons (o := ({ dst := some 15, op := .call { callee := .value (.func 11), args := #[.tmp 12, .tmp 14], argTypes := #[25, 25] }, type := 25, pos := "law.go:28", after := #[{ on := 0, ground := .data }, { on := 2, ground := .data }, { on := 2, ground := .chain }], guard := none } : Oper)) rfl (fun KK hK => ?_) AllReadyH.nil
  rw [if_pos (by rfl)]
  go_simp
  go_at_call 11; refine (K4.out _).mono ?_; rintro e w4 ⟨rfl, hb4⟩
  go_wp2_with fail
  refine hK.out _ _ ?_ (fun hHeld4 => ?_)
  · exact belowT (by assumption) hb4
  clear hK KK hb4 hHeld3
  try simp only [Act.put, List.setIfInBounds_toArray, List.set_cons_zero, List.set_cons_succ]
  refine wpAnyH_take (i := 5) (oi := ({ dst := some 17, op := .binOp .neq 25 (.tmp 15) (.tmp 16) 25, type := 4, pos := "law.go:28", after := #[{ on := 3, ground := .data }, { on := 4, ground := .data }], guard := none } : Oper)) (v := ?vs2_5) rfl adjo2_plain (by as_aux_lemma => kernel_rfl) (by as_aux_lemma => kernel_rfl) (fun _ _ _ h => h) (Or.inl ⟨by rfl, ?ys2_5⟩) (by assumption) ?rs2_5
  case ys2_5 => (intro w hSw; (try dsimp only at hSw); go_simp; try with_reducible rfl)
  try simp only [Act.put, List.setIfInBounds_toArray, List.set_cons_zero, List.set_cons_succ]
  refine wpAnyH_take (i := 6) (oi := ({ dst := some 18, op := .move (.tmp 17), type := 4, pos := "law.go:28", after := #[{ on := 5, ground := .data }, { on := 3, ground := .chain }], guard := none } : Oper)) (v := ?vs2_6) rfl adjo2_plain (by as_aux_lemma => kernel_rfl) (by as_aux_lemma => kernel_rfl) (fun _ _ _ h => h) (Or.inl ⟨by rfl, ?ys2_6⟩) (by assumption) ?rs2_6
  case ys2_6 => (intro w hSw; (try dsimp only at hSw); go_simp; try with_reducible rfl)
  try simp only [Act.put, List.setIfInBounds_toArray, List.set_cons_zero, List.set_cons_succ]
  refine wpAnyH_take (i := 7) (oi := ({ dst := some 19, op := .load 25 (.tmp 2), type := 25, pos := "law.go:28", after := #[{ on := 6, ground := .guard }], guard := some (6, false) } : Oper)) (v := ?vs2_7) rfl adjo2_plain (by as_aux_lemma => kernel_rfl) (by as_aux_lemma => kernel_rfl) (fun _ _ _ h => h) (Or.inl ⟨by rfl, ?ys2_7⟩) (by assumption) ?rs2_7
  case ys2_7 => (intro w hSw; (try dsimp only at hSw); go_simp; try with_reducible rfl)
  try simp only [Act.put, List.setIfInBounds_toArray, List.set_cons_zero, List.set_cons_succ]
  refine wpAnyH_take (i := 9) (oi := ({ dst := some 21, op := .load 25 (.tmp 2), type := 25, pos := "law.go:28", after := #[{ on := 6, ground := .guard }], guard := some (6, false) } : Oper)) (v := ?vs2_9) rfl adjo2_plain (by as_aux_lemma => kernel_rfl) (by as_aux_lemma => kernel_rfl) (fun _ _ _ h => h) (Or.inl ⟨by rfl, ?ys2_9⟩) (by assumption) ?rs2_9
  case ys2_9 => (intro w hSw; (try dsimp only at hSw); go_simp; try with_reducible rfl)
  try simp only [Act.put, List.setIfInBounds_toArray, List.set_cons_zero, List.set_cons_succ]
  refine wpAnyH_take (i := 11) (oi := ({ dst := some 23, op := .load 25 (.tmp 5), type := 25, pos := "law.go:28", after := #[{ on := 6, ground := .guard }], guard := some (6, false) } : Oper)) (v := ?vs2_11) rfl adjo2_plain (by as_aux_lemma => kernel_rfl) (by as_aux_lemma => kernel_rfl) (fun _ _ _ h => h) (Or.inl ⟨by rfl, ?ys2_11⟩) (by assumption) ?rs2_11
  case ys2_11 => (intro w hSw; (try dsimp only at hSw); go_simp; try with_reducible rfl)
  try simp only [Act.put, List.setIfInBounds_toArray, List.set_cons_zero, List.set_cons_succ]
  refine wpAnyH_ready (rs := [8]) (by as_aux_lemma => kernel_rfl) (by simp) ?_
  refine AllReadyH.cons (o := ({ dst := some 20, op := .call { callee := .value (.func 12), args := #[.tmp 19], argTypes := #[25] }, type := 25, pos := "law.go:28", after := #[{ on := 7, ground := .data }, { on := 6, ground := .chain }, { on := 6, ground := .guard }], guard := some (6, false) } : Oper)) rfl (fun KK hK => ?_) AllReadyH.nil
  rw [if_pos (by rfl)]
  go_simp
  go_at_call 12; refine (K3.out _).mono ?_; rintro e w5 ⟨rfl, hb5⟩
  go_wp2_with fail
  refine hK.out _ _ ?_ (fun hHeld5 => ?_)
  · exact belowT (by assumption) hb5
  clear hK KK hb5 hHeld4
  try simp only [Act.put, List.setIfInBounds_toArray, List.set_cons_zero, List.set_cons_succ]
  refine wpAnyH_ready (rs := [10]) (by as_aux_lemma => kernel_rfl) (by simp) ?_
  refine AllReadyH.cons (o := ({ dst := some 22, op := .call { callee := .value (.func 11), args := #[.tmp 20, .tmp 21], argTypes := #[25, 25] }, type := 25, pos := "law.go:28", after := #[{ on := 8, ground := .data }, { on := 9, ground := .data }, { on := 8, ground := .chain }, { on := 6, ground := .guard }], guard := some (6, false) } : Oper)) rfl (fun KK hK => ?_) AllReadyH.nil
  rw [if_pos (by rfl)]
  go_simp
  go_at_call 11; refine (K5.out _).mono ?_; rintro e w6 ⟨rfl, hb6⟩
  go_wp2_with fail
  refine hK.out _ _ ?_ (fun hHeld6 => ?_)
  · exact belowT (by assumption) hb6
  clear hK KK hb6 hHeld5
  try simp only [Act.put, List.setIfInBounds_toArray, List.set_cons_zero, List.set_cons_succ]
  refine wpAnyH_take (i := 12) (oi := ({ dst := some 24, op := .binOp .neq 25 (.tmp 22) (.tmp 23) 25, type := 4, pos := "law.go:28", after := #[{ on := 10, ground := .data }, { on := 11, ground := .data }, { on := 6, ground := .guard }], guard := some (6, false) } : Oper)) (v := ?vs2_12) rfl adjo2_plain (by as_aux_lemma => kernel_rfl) (by as_aux_lemma => kernel_rfl) (fun _ _ _ h => h) (Or.inl ⟨by rfl, ?ys2_12⟩) (by assumption) ?rs2_12
  case ys2_12 => (intro w hSw; (try dsimp only at hSw); go_simp; try with_reducible rfl)
  try simp only [Act.put, List.setIfInBounds_toArray, List.set_cons_zero, List.set_cons_succ]
  refine wpAnyH_take (i := 13) (oi := ({ dst := some 25, op := .pick (.tmp 18) (.const (.bool true)) (.tmp 24), type := 4, pos := "law.go:28", after := #[{ on := 6, ground := .data }, { on := 12, ground := .data }], guard := none } : Oper)) (v := ?vs2_13) rfl adjo2_plain (by as_aux_lemma => kernel_rfl) (by as_aux_lemma => kernel_rfl) (fun _ _ _ h => h) (Or.inl ⟨by rfl, ?ys2_13⟩) (by assumption) ?rs2_13
  case ys2_13 => (intro w hSw; (try dsimp only at hSw); go_simp; try with_reducible rfl)
  try simp only [Act.put, List.setIfInBounds_toArray, List.set_cons_zero, List.set_cons_succ]
  refine wpAnyH_done (by as_aux_lemma => kernel_rfl) ?_ _
  refine NoPanic.normal ?_
  have S6 := H3.out.keep (show Below W0.heap.size W0 w6 by assumption)
  clear H3
  have na0 := S6.at 0 rfl 0 (v := .int .i64 a.a.x.toInt) rfl
  have na1 := S6.at 0 rfl 1 (v := .int .i64 a.a.y.toInt) rfl
  have na2 := S6.at 0 rfl 2 (v := .int .i64 a.a.z.toInt) rfl
  have na3 := S6.at 0 rfl 3 (v := .int .i64 a.b.x.toInt) rfl
  have na4 := S6.at 0 rfl 4 (v := .int .i64 a.b.y.toInt) rfl
  have na5 := S6.at 0 rfl 5 (v := .int .i64 a.b.z.toInt) rfl
  have na6 := S6.at 0 rfl 6 (v := .int .i64 a.c.x.toInt) rfl
  have na7 := S6.at 0 rfl 7 (v := .int .i64 a.c.y.toInt) rfl
  have na8 := S6.at 0 rfl 8 (v := .int .i64 a.c.z.toInt) rfl
  have nv0 := S6.at 1 rfl 0 (v := .int .i64 v.x.toInt) rfl
  have nv1 := S6.at 1 rfl 1 (v := .int .i64 v.y.toInt) rfl
  have nv2 := S6.at 1 rfl 2 (v := .int .i64 v.z.toInt) rfl
  have H6 := Lib.hid S6
  clear S6
  clear ma0 ma1 ma2 ma3 ma4 ma5 ma6 ma7 ma8 mu0 mu1 mu2 mu3 mu4 mu5 mu6 mu7 mu8
  rcases HC.out with ⟨h0, KS⟩ | ⟨h0, KS, KT, KC⟩
  · have dz : (D.toInt == 0) = true := by rw [d0, decide_eq_true h0]
    have KSH := Lib.hid KS
    clear d0 h0 KS HC
    generalize D.toInt = d at *
    go_wp2_with fail
    refine (KSH.out _).mono ?_; rintro e w7 ⟨rfl, hb7⟩
    have S7 := (H6.out.keep hb7).more (vl V3.zero) 23
    have q0 := S7.at 0 rfl 0 (v := .int .i64 a.a.x.toInt) rfl
    have q1 := S7.at 0 rfl 1 (v := .int .i64 a.a.y.toInt) rfl
    have q2 := S7.at 0 rfl 2 (v := .int .i64 a.a.z.toInt) rfl
    have q3 := S7.at 0 rfl 3 (v := .int .i64 a.b.x.toInt) rfl
    have q4 := S7.at 0 rfl 4 (v := .int .i64 a.b.y.toInt) rfl
    have q5 := S7.at 0 rfl 5 (v := .int .i64 a.b.z.toInt) rfl
    have q6 := S7.at 0 rfl 6 (v := .int .i64 a.c.x.toInt) rfl
    have q7 := S7.at 0 rfl 7 (v := .int .i64 a.c.y.toInt) rfl
    have q8 := S7.at 0 rfl 8 (v := .int .i64 a.c.z.toInt) rfl
    have H7 := Lib.hid S7
    clear S7 hb7 H6
    go_wp2_with fail
    refine (K1.out _).mono ?_; rintro e w8 ⟨rfl, hb8⟩
    have H8 := Lib.hid (H7.out.keep hb8)
    clear hb8 H7
    go_wp2_with fail
    refine (AW.out _).mono ?_; rintro e w9 ⟨rfl, hb9⟩
    have H9 := Lib.hid (H8.out.keep hb9).below
    clear hb9 H8
    go_wp2_with fail
    go_ret
    exact ⟨rfl, H9.out⟩
  · have KSH := Lib.hid KS; have KTH := Lib.hid KT; have KCH := Lib.hid KC
    clear d0 h0 KS HC KT KC
    generalize D.toInt = d at *
    go_wp2_with fail
    refine (KSH.out _).mono ?_; rintro e w7 ⟨rfl, hb7⟩
    have H7 := Lib.hid ((H6.out.keep hb7).more (vl y) 23)
    clear hb7 H6
    go_upto_region 7 with fail
    obtain ⟨W0, hW0⟩ : ∃ W0, W0 = w7.alloc (.cells (vl y).toArray 23) := ⟨_, rfl⟩
    have S7 := H7.out
    rw [← hW0] at S7
    have HW := Lib.hid hW0
    clear hW0 H7
    rw [← HW.out]
    clear HW
    have oa0 : ∀ w', Below W0.heap.size W0 w' → w'.cell? ⟨w.heap.size, 0, none⟩ = some (.int .i64 a.a.x.toInt) := fun w' h => (S7.keep h).at 0 rfl 0 rfl
    have oa1 : ∀ w', Below W0.heap.size W0 w' → w'.cell? ⟨w.heap.size, 1, none⟩ = some (.int .i64 a.a.y.toInt) := fun w' h => (S7.keep h).at 0 rfl 1 rfl
    have oa2 : ∀ w', Below W0.heap.size W0 w' → w'.cell? ⟨w.heap.size, 2, none⟩ = some (.int .i64 a.a.z.toInt) := fun w' h => (S7.keep h).at 0 rfl 2 rfl
    have oa3 : ∀ w', Below W0.heap.size W0 w' → w'.cell? ⟨w.heap.size, 3, none⟩ = some (.int .i64 a.b.x.toInt) := fun w' h => (S7.keep h).at 0 rfl 3 rfl
    have oa4 : ∀ w', Below W0.heap.size W0 w' → w'.cell? ⟨w.heap.size, 4, none⟩ = some (.int .i64 a.b.y.toInt) := fun w' h => (S7.keep h).at 0 rfl 4 rfl
    have oa5 : ∀ w', Below W0.heap.size W0 w' → w'.cell? ⟨w.heap.size, 5, none⟩ = some (.int .i64 a.b.z.toInt) := fun w' h => (S7.keep h).at 0 rfl 5 rfl
    have oa6 : ∀ w', Below W0.heap.size W0 w' → w'.cell? ⟨w.heap.size, 6, none⟩ = some (.int .i64 a.c.x.toInt) := fun w' h => (S7.keep h).at 0 rfl 6 rfl
    have oa7 : ∀ w', Below W0.heap.size W0 w' → w'.cell? ⟨w.heap.size, 7, none⟩ = some (.int .i64 a.c.y.toInt) := fun w' h => (S7.keep h).at 0 rfl 7 rfl
    have oa8 : ∀ w', Below W0.heap.size W0 w' → w'.cell? ⟨w.heap.size, 8, none⟩ = some (.int .i64 a.c.z.toInt) := fun w' h => (S7.keep h).at 0 rfl 8 rfl
    have ov0 : ∀ w', Below W0.heap.size W0 w' → w'.cell? ⟨w.heap.size + 1, 0, none⟩ = some (.int .i64 v.x.toInt) := fun w' h => (S7.keep h).at 1 rfl 0 rfl
    have ov1 : ∀ w', Below W0.heap.size W0 w' → w'.cell? ⟨w.heap.size + 1, 1, none⟩ = some (.int .i64 v.y.toInt) := fun w' h => (S7.keep h).at 1 rfl 1 rfl
    have ov2 : ∀ w', Below W0.heap.size W0 w' → w'.cell? ⟨w.heap.size + 1, 2, none⟩ = some (.int .i64 v.z.toInt) := fun w' h => (S7.keep h).at 1 rfl 2 rfl
    have oy0 : ∀ w', Below W0.heap.size W0 w' → w'.cell? ⟨w7.heap.size, 0, none⟩ = some (.int .i64 y.x.toInt) := fun w' h => (S7.keep h).at 3 rfl 0 rfl
    have oy1 : ∀ w', Below W0.heap.size W0 w' → w'.cell? ⟨w7.heap.size, 1, none⟩ = some (.int .i64 y.y.toInt) := fun w' h => (S7.keep h).at 3 rfl 1 rfl
    have oy2 : ∀ w', Below W0.heap.size W0 w' → w'.cell? ⟨w7.heap.size, 2, none⟩ = some (.int .i64 y.z.toInt) := fun w' h => (S7.keep h).at 3 rfl 2 rfl
    have D7 := S7.below
    clear S7
    change (Code.region 7 adjo7 true).wp Try.prog _ _ _
    refine wp_region_noPanic ?_
    refine wp_region_held_drew (S := fun w' => Below W0.heap.size W0 w') (by kernel_rfl) ((Below.refl _ _).drew) (fun hHeld => ?_)
    refine wpAnyH_take (i := 0) (oi := ({ dst := some 41, op := .load 25 (.tmp 2), type := 25, pos := "law.go:35", after := #[], guard := none } : Oper)) (v := ?vs3_0) rfl adjo7_plain (by as_aux_lemma => kernel_rfl) (by as_aux_lemma => kernel_rfl) (fun _ _ _ h => h) (Or.inl ⟨by rfl, ?ys3_0⟩) (by assumption) ?rs3_0
    case ys3_0 => (intro w hSw; (try dsimp only at hSw); go_simp; try with_reducible rfl)
    try simp only [Act.put, List.setIfInBounds_toArray, List.set_cons_zero, List.set_cons_succ]
    refine wpAnyH_take (i := 1) (oi := ({ dst := some 42, op := .load 23 (.tmp 6), type := 23, pos := "law.go:35", after := #[], guard := none } : Oper)) (v := ?vs3_1) rfl adjo7_plain (by as_aux_lemma => kernel_rfl) (by as_aux_lemma => kernel_rfl) (fun _ _ _ h => h) (Or.inl ⟨by rfl, ?ys3_1⟩) (by assumption) ?rs3_1
    case ys3_1 => (intro w hSw; (try dsimp only at hSw); go_simp; try with_reducible rfl)
    try simp only [Act.put, List.setIfInBounds_toArray, List.set_cons_zero, List.set_cons_succ]
    refine wpAnyH_take (i := 3) (oi := ({ dst := some 44, op := .load 23 (.tmp 3), type := 23, pos := "law.go:35", after := #[], guard := none } : Oper)) (v := ?vs3_3) rfl adjo7_plain (by as_aux_lemma => kernel_rfl) (by as_aux_lemma => kernel_rfl) (fun _ _ _ h => h) (Or.inl ⟨by rfl, ?ys3_3⟩) (by assumption) ?rs3_3
    case ys3_3 => (intro w hSw; (try dsimp only at hSw); go_simp; try with_reducible rfl)
    try simp only [Act.put, List.setIfInBounds_toArray, List.set_cons_zero, List.set_cons_succ]
    refine wpAnyH_take (i := 4) (oi := ({ dst := some 45, op := .move (.tmp 7), type := 2, pos := "law.go:35", after := #[], guard := none } : Oper)) (v := ?vs3_4) rfl adjo7_plain (by as_aux_lemma => kernel_rfl) (by as_aux_lemma => kernel_rfl) (fun _ _ _ h => h) (Or.inl ⟨by rfl, ?ys3_4⟩) (by assumption) ?rs3_4
    case ys3_4 => (intro w hSw; (try dsimp only at hSw); go_simp; try with_reducible rfl)
    try simp only [Act.put, List.setIfInBounds_toArray, List.set_cons_zero, List.set_cons_succ]
    refine wpAnyH_ready (rs := [2]) (by as_aux_lemma => kernel_rfl) (by simp) ?_
    refine AllReadyH.cons (o := ({ dst := some 43, op := .call { callee := .value (.func 15), args := #[.tmp 41, .tmp 42], argTypes := #[25, 23] }, type := 23, pos := "law.go:35", after := #[{ on := 0, ground := .data }, { on := 1, ground := .data }], guard := none } : Oper)) rfl (fun KK hK => ?_) AllReadyH.nil
    rw [if_pos (by rfl)]
    go_simp
    go_at_call 15; refine (KTH.out _).mono ?_; rintro e w8 ⟨rfl, hb8⟩
    go_wp2_with fail
    refine hK.out _ _ ?_ (fun hHeld8 => ?_)
    · exact belowT (by assumption) hb8
    clear hK KK hb8
    try simp only [Act.put, List.setIfInBounds_toArray, List.set_cons_zero, List.set_cons_succ]
    refine wpAnyH_ready (rs := [5]) (by as_aux_lemma => kernel_rfl) (by simp) ?_
    refine AllReadyH.cons (o := ({ dst := some 46, op := .call { callee := .value (.func 16), args := #[.tmp 44, .tmp 45], argTypes := #[23, 2] }, type := 23, pos := "law.go:35", after := #[{ on := 3, ground := .data }, { on := 4, ground := .data }, { on := 2, ground := .chain }], guard := none } : Oper)) rfl (fun KK hK => ?_) AllReadyH.nil
    rw [if_pos (by rfl)]
    go_simp
    go_at_call 16; refine (KCH.out _).mono ?_; rintro e w9 ⟨rfl, hb9⟩
    go_wp2_with fail
    refine hK.out _ _ ?_ (fun hHeld9 => ?_)
    · exact belowT (by assumption) hb9
    clear hK KK hb9 hHeld8
    try simp only [Act.put, List.setIfInBounds_toArray, List.set_cons_zero, List.set_cons_succ]
    refine wpAnyH_take (i := 6) (oi := ({ dst := some 47, op := .binOp .eql 23 (.tmp 43) (.tmp 46) 23, type := 4, pos := "law.go:35", after := #[{ on := 2, ground := .data }, { on := 5, ground := .data }], guard := none } : Oper)) (v := ?vs3_6) rfl adjo7_plain (by as_aux_lemma => kernel_rfl) (by as_aux_lemma => kernel_rfl) (fun _ _ _ h => h) (Or.inl ⟨by rfl, ?ys3_6⟩) (by assumption) ?rs3_6
    case ys3_6 => (intro w hSw; (try dsimp only at hSw); go_simp; try with_reducible rfl)
    try simp only [Act.put, List.setIfInBounds_toArray, List.set_cons_zero, List.set_cons_succ]
    refine wpAnyH_take (i := 7) (oi := ({ dst := some 48, op := .move (.tmp 47), type := 4, pos := "law.go:35", after := #[{ on := 6, ground := .data }, { on := 5, ground := .chain }], guard := none } : Oper)) (v := ?vs3_7) rfl adjo7_plain (by as_aux_lemma => kernel_rfl) (by as_aux_lemma => kernel_rfl) (fun _ _ _ h => h) (Or.inl ⟨by rfl, ?ys3_7⟩) (by assumption) ?rs3_7
    case ys3_7 => (intro w hSw; (try dsimp only at hSw); go_simp; try with_reducible rfl)
    try simp only [Act.put, List.setIfInBounds_toArray, List.set_cons_zero, List.set_cons_succ]
    refine wpAnyH_ready (rs := [8]) (by as_aux_lemma => kernel_rfl) (by simp) ?_
    refine AllReadyH.cons (o := ({ dst := some 49, op := .call { callee := .value (.func 14), args := #[], argTypes := #[] }, type := 4, pos := "law.go:35", after := #[{ on := 7, ground := .chain }, { on := 7, ground := .guard }], guard := some (7, true) } : Oper)) rfl (fun KK hK => ?_) AllReadyH.nil
    rw [if_pos (by rfl)]
    go_simp
    go_at_call 14; refine (AW.out _).mono ?_; rintro e w10 ⟨rfl, hb10⟩
    go_wp2_with fail
    refine hK.out _ _ ?_ (fun hHeld10 => ?_)
    · exact belowT (by assumption) hb10
    clear hK KK hb10 hHeld9
    try simp only [Act.put, List.setIfInBounds_toArray, List.set_cons_zero, List.set_cons_succ]
    refine wpAnyH_take (i := 9) (oi := ({ dst := some 50, op := .pick (.tmp 48) (.tmp 49) (.const (.bool false)), type := 4, pos := "law.go:35", after := #[{ on := 7, ground := .data }, { on := 8, ground := .data }], guard := none } : Oper)) (v := ?vs3_9) rfl adjo7_plain (by as_aux_lemma => kernel_rfl) (by as_aux_lemma => kernel_rfl) (fun _ _ _ h => h) (Or.inl ⟨by rfl, ?ys3_9⟩) (by assumption) ?rs3_9
    case ys3_9 => (intro w hSw; (try dsimp only at hSw); go_simp; try with_reducible rfl)
    try simp only [Act.put, List.setIfInBounds_toArray, List.set_cons_zero, List.set_cons_succ]
    refine wpAnyH_take (i := 10) (oi := ({ dst := some 4, op := .assign (.tmp 50), type := 4, pos := "law.go:35", after := #[{ on := 9, ground := .data }, { on := 8, ground := .chain }, { on := 0, ground := .phase }, { on := 1, ground := .phase }, { on := 2, ground := .phase }, { on := 3, ground := .phase }, { on := 4, ground := .phase }, { on := 5, ground := .phase }, { on := 6, ground := .phase }, { on := 7, ground := .phase }, { on := 8, ground := .phase }, { on := 9, ground := .phase }], guard := none } : Oper)) (v := ?vs3_10) rfl adjo7_plain (by as_aux_lemma => kernel_rfl) (by as_aux_lemma => kernel_rfl) (fun _ _ _ h => h) (Or.inl ⟨by rfl, ?ys3_10⟩) (by assumption) ?rs3_10
    case ys3_10 => (intro w hSw; (try dsimp only at hSw); go_simp; try with_reducible rfl)
    try simp only [Act.put, List.setIfInBounds_toArray, List.set_cons_zero, List.set_cons_succ]
    refine wpAnyH_done (by as_aux_lemma => kernel_rfl) ?_ _
    refine NoPanic.normal ?_
    go_wp2_with fail
    go_ret
    exact ⟨rfl, belowT D7 (by assumption)⟩
end Go.Proofs.Ytjdpcmcekockgaa
