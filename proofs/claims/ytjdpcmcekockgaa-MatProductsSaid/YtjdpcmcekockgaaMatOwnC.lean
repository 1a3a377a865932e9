/- The landed mat's own contracts (commit f8f2e27): Char, Sum, Solve. -/
import Derived.Test.YtjdpcmcekockgaaMatOwnB
import Derived.Test.YtjdpcmcekockgaaMatChar
import Derived.Test.YtjdpcmcekockgaaMatSolve
import Derived.Test.YtjdpcmcekockgaaMatSum
import Derived.Test.YtjdpcmcekockgaaMatRank
namespace Go.Proofs.Ytjdpcmcekockgaa
open Go.RowKit
namespace Own8
/-- The operations of a drawn region, as the translation has them. -/
def ochar : Array Oper := #[
  { dst := some 3, op := .load 25 (.tmp 1), type := 25, pos := "mat.go:90", after := #[], guard := none },
  { dst := some 4, op := .call { callee := .value (.func 10), args := #[.tmp 3], argTypes := #[25] }, type := 2, pos := "mat.go:90", after := #[{ on := 0, ground := .data }], guard := none },
  { dst := some 5, op := .unOp .neg 2 (.tmp 4), type := 2, pos := "mat.go:90", after := #[{ on := 1, ground := .data }], guard := none },
  { dst := some 6, op := .load 25 (.tmp 1), type := 25, pos := "mat.go:90", after := #[], guard := none },
  { dst := some 7, op := .call { callee := .value (.func 12), args := #[.tmp 6], argTypes := #[25] }, type := 25, pos := "mat.go:90", after := #[{ on := 3, ground := .data }, { on := 1, ground := .chain }], guard := none },
  { dst := some 8, op := .call { callee := .value (.func 29), args := #[.tmp 7], argTypes := #[25] }, type := 2, pos := "mat.go:90", after := #[{ on := 4, ground := .data }, { on := 4, ground := .chain }], guard := none },
  { dst := some 9, op := .load 25 (.tmp 1), type := 25, pos := "mat.go:90", after := #[], guard := none },
  { dst := some 10, op := .call { callee := .value (.func 29), args := #[.tmp 9], argTypes := #[25] }, type := 2, pos := "mat.go:90", after := #[{ on := 6, ground := .data }, { on := 5, ground := .chain }], guard := none },
  { dst := some 11, op := .unOp .neg 2 (.tmp 10), type := 2, pos := "mat.go:90", after := #[{ on := 7, ground := .data }], guard := none },
  { dst := some 12, op := .build 22 #[(0, .tmp 5), (1, .tmp 8), (2, .tmp 11)], type := 22, pos := "mat.go:90", after := #[{ on := 2, ground := .data }, { on := 5, ground := .data }, { on := 8, ground := .data }], guard := none },
  { dst := none, op := .store 22 (.tmp 2) (.tmp 12), type := 0, pos := "mat.go:90", after := #[{ on := 9, ground := .data }, { on := 7, ground := .chain }, { on := 0, ground := .phase }, { on := 1, ground := .phase }, { on := 2, ground := .phase }, { on := 3, ground := .phase }, { on := 4, ground := .phase }, { on := 5, ground := .phase }, { on := 6, ground := .phase }, { on := 7, ground := .phase }, { on := 8, ground := .phase }, { on := 9, ground := .phase }], guard := none }]
theorem ochar_plain : Region.noSelect ochar = true := by kernel_rfl

set_option maxHeartbeats 8000000 in
set_option maxRecDepth 100000 in
theorem Char_any (m : M3) (w : World) :
    Calls Try.prog 17 #[mv m] w fun e w' => e = .returned (vv m.char) ∧ Below w.heap.size w w' := by
  have n0 : ∀ x : BitVec 64, IntKind.i64.wrap (-x.toInt) = (-x).toInt := fun x => by have h := v_neg x; unfold wrap64 at h; rw [IntKind.wrap_i64]; exact h
  have n1 := n0 m.trace; replace n0 := n0 m.det
  have DE := Lib.hid fun w => Det_any m w; have AD := Lib.hid fun w => Adj_any m w; have TA := Lib.hid fun w => Trace_any m.adj w; have TR := Lib.hid fun w => Trace_any m w
  have hS1 := ((Sp.none w).more [.int .i64 m.a.x.toInt, .int .i64 m.a.y.toInt, .int .i64 m.a.z.toInt, .int .i64 m.b.x.toInt, .int .i64 m.b.y.toInt, .int .i64 m.b.z.toInt, .int .i64 m.c.x.toInt, .int .i64 m.c.y.toInt, .int .i64 m.c.z.toInt] 25).more [.int .i64 0, .int .i64 0, .int .i64 0] 22
  simp only [heap1] at hS1
  have HS1 := Lib.hid hS1
  clear hS1
  rw [show vv m.char = .agg #[.int .i64 (-m.det).toInt, .int .i64 m.adj.trace.toInt, .int .i64 (-m.trace).toInt] from rfl]
  generalize (-m.det).toInt = d1 at *; generalize (-m.trace).toInt = t1 at *
  generalize m.det.toInt = d0 at *; generalize m.trace.toInt = t0 at *; generalize m.adj.trace.toInt = a0 at *; generalize m.adj = a at *
  go_enter Try.func17, Try.ntmps17
  go_upto_region 1 with fail
  have hS2 := (HS1.out).forget 1 rfl 0
  have HS2 := Lib.hid hS2
  clear hS2 HS1
  have hS3 := (HS2.out).forget 1 rfl 1
  have HS3 := Lib.hid hS3
  clear hS3 HS2
  have hS4 := (HS3.out).forget 1 rfl 2
  have HS4 := Lib.hid hS4
  clear hS4 HS3
  obtain ⟨bs1, hbs⟩ : ∃ bs : List (Nat × List (Option Value)), bs = [(w.heap.size, [some (.int .i64 m.a.x.toInt), some (.int .i64 m.a.y.toInt), some (.int .i64 m.a.z.toInt), some (.int .i64 m.b.x.toInt), some (.int .i64 m.b.y.toInt), some (.int .i64 m.b.z.toInt), some (.int .i64 m.c.x.toInt), some (.int .i64 m.c.y.toInt), some (.int .i64 m.c.z.toInt)]), (w.heap.size + 1, [none, none, none])] := ⟨_, rfl⟩
  have hT := (HS4.out).cast hbs
  have c0_0 : ∀ w', Sp w bs1 w' → w'.cell? ⟨w.heap.size, 0, none⟩ = some (.int .i64 m.a.x.toInt) := by rw [hbs]; exact fun w' h => h.at 0 rfl 0 rfl
  have c0_1 : ∀ w', Sp w bs1 w' → w'.cell? ⟨w.heap.size, 1, none⟩ = some (.int .i64 m.a.y.toInt) := by rw [hbs]; exact fun w' h => h.at 0 rfl 1 rfl
  have c0_2 : ∀ w', Sp w bs1 w' → w'.cell? ⟨w.heap.size, 2, none⟩ = some (.int .i64 m.a.z.toInt) := by rw [hbs]; exact fun w' h => h.at 0 rfl 2 rfl
  have c0_3 : ∀ w', Sp w bs1 w' → w'.cell? ⟨w.heap.size, 3, none⟩ = some (.int .i64 m.b.x.toInt) := by rw [hbs]; exact fun w' h => h.at 0 rfl 3 rfl
  have c0_4 : ∀ w', Sp w bs1 w' → w'.cell? ⟨w.heap.size, 4, none⟩ = some (.int .i64 m.b.y.toInt) := by rw [hbs]; exact fun w' h => h.at 0 rfl 4 rfl
  have c0_5 : ∀ w', Sp w bs1 w' → w'.cell? ⟨w.heap.size, 5, none⟩ = some (.int .i64 m.b.z.toInt) := by rw [hbs]; exact fun w' h => h.at 0 rfl 5 rfl
  have c0_6 : ∀ w', Sp w bs1 w' → w'.cell? ⟨w.heap.size, 6, none⟩ = some (.int .i64 m.c.x.toInt) := by rw [hbs]; exact fun w' h => h.at 0 rfl 6 rfl
  have c0_7 : ∀ w', Sp w bs1 w' → w'.cell? ⟨w.heap.size, 7, none⟩ = some (.int .i64 m.c.y.toInt) := by rw [hbs]; exact fun w' h => h.at 0 rfl 7 rfl
  have c0_8 : ∀ w', Sp w bs1 w' → w'.cell? ⟨w.heap.size, 8, none⟩ = some (.int .i64 m.c.z.toInt) := by rw [hbs]; exact fun w' h => h.at 0 rfl 8 rfl
  have o1_0 : ∀ w', Sp w bs1 w' → ∃ z, w'.cell? ⟨w.heap.size + 1, 0, none⟩ = some z ∧ w'.frozen? ⟨w.heap.size + 1, 0, none⟩ = false := by rw [hbs]; exact fun w' h => h.there 1 rfl 0 rfl
  have s1_0 : ∀ w' z, Sp w bs1 w' → Sp w bs1 (w'.setCell ⟨w.heap.size + 1, 0, none⟩ z) := by rw [hbs]; exact fun w' z h => h.hit 1 rfl 0 rfl z
  have o1_1 : ∀ w', Sp w bs1 w' → ∃ z, w'.cell? ⟨w.heap.size + 1, 1, none⟩ = some z ∧ w'.frozen? ⟨w.heap.size + 1, 1, none⟩ = false := by rw [hbs]; exact fun w' h => h.there 1 rfl 1 rfl
  have s1_1 : ∀ w' z, Sp w bs1 w' → Sp w bs1 (w'.setCell ⟨w.heap.size + 1, 1, none⟩ z) := by rw [hbs]; exact fun w' z h => h.hit 1 rfl 1 rfl z
  have o1_2 : ∀ w', Sp w bs1 w' → ∃ z, w'.cell? ⟨w.heap.size + 1, 2, none⟩ = some z ∧ w'.frozen? ⟨w.heap.size + 1, 2, none⟩ = false := by rw [hbs]; exact fun w' h => h.there 1 rfl 2 rfl
  have s1_2 : ∀ w' z, Sp w bs1 w' → Sp w bs1 (w'.setCell ⟨w.heap.size + 1, 2, none⟩ z) := by rw [hbs]; exact fun w' z h => h.hit 1 rfl 2 rfl z
  have nx : ∀ w', Sp w bs1 w' → Sp w [(w.heap.size, [some (.int .i64 m.a.x.toInt), some (.int .i64 m.a.y.toInt), some (.int .i64 m.a.z.toInt), some (.int .i64 m.b.x.toInt), some (.int .i64 m.b.y.toInt), some (.int .i64 m.b.z.toInt), some (.int .i64 m.c.x.toInt), some (.int .i64 m.c.y.toInt), some (.int .i64 m.c.z.toInt)]), (w.heap.size + 1, [some (.int .i64 d1), some (.int .i64 a0), some (.int .i64 t1)])] (((w'.setCell ⟨w.heap.size + 1, 0, none⟩ (.int .i64 d1)).setCell ⟨w.heap.size + 1, 1, none⟩ (.int .i64 a0)).setCell ⟨w.heap.size + 1, 2, none⟩ (.int .i64 t1)) := by rw [hbs]; exact fun w' h => (((h.put 1 rfl 0 _).put 1 rfl 1 _).put 1 rfl 2 _)
  have kS : ∀ w1 w2, Sp w bs1 w1 → Below w1.heap.size w1 w2 → Sp w bs1 w2 := fun _ _ h hb => h.keep hb
  clear hbs HS4
  change (Code.region 1 ochar true).wp Try.prog _ _ _
  refine wp_region_noPanic ?_
  refine wp_region_held_drew (S := (Sp w bs1)) (by kernel_rfl) (hT.drew) (fun hHeld => ?_)
  refine wpAnyH_take (i := 0) (oi := ({ dst := some 3, op := .load 25 (.tmp 1), type := 25, pos := "mat.go:90", after := #[], guard := none } : Oper)) (v := ?vs2_0) rfl ochar_plain (by as_aux_lemma => kernel_rfl) (by as_aux_lemma => kernel_rfl) (fun _ _ _ h => h) (Or.inl ⟨by rfl, ?ys2_0⟩) (by assumption) ?rs2_0
  case ys2_0 => (intro w hSw; (try dsimp only at hSw); go_simp; try with_reducible rfl)
  try simp only [Act.put, List.setIfInBounds_toArray, List.set_cons_zero, List.set_cons_succ]
  refine wpAnyH_take (i := 3) (oi := ({ dst := some 6, op := .load 25 (.tmp 1), type := 25, pos := "mat.go:90", after := #[], guard := none } : Oper)) (v := ?vs2_3) rfl ochar_plain (by as_aux_lemma => kernel_rfl) (by as_aux_lemma => kernel_rfl) (fun _ _ _ h => h) (Or.inl ⟨by rfl, ?ys2_3⟩) (by assumption) ?rs2_3
  case ys2_3 => (intro w hSw; (try dsimp only at hSw); go_simp; try with_reducible rfl)
  try simp only [Act.put, List.setIfInBounds_toArray, List.set_cons_zero, List.set_cons_succ]
  refine wpAnyH_take (i := 6) (oi := ({ dst := some 9, op := .load 25 (.tmp 1), type := 25, pos := "mat.go:90", after := #[], guard := none } : Oper)) (v := ?vs2_6) rfl ochar_plain (by as_aux_lemma => kernel_rfl) (by as_aux_lemma => kernel_rfl) (fun _ _ _ h => h) (Or.inl ⟨by rfl, ?ys2_6⟩) (by assumption) ?rs2_6
  case ys2_6 => (intro w hSw; (try dsimp only at hSw); go_simp; try with_reducible rfl)
  try simp only [Act.put, List.setIfInBounds_toArray, List.set_cons_zero, List.set_cons_succ]
  refine wpAnyH_ready (rs := [1]) (by as_aux_lemma => kernel_rfl) (by simp) ?_
  refine AllReadyH.cons (o := ({ dst := some 4, op := .call { callee := .value (.func 10), args := #[.tmp 3], argTypes := #[25] }, type := 2, pos := "mat.go:90", after := #[{ on := 0, ground := .data }], guard := none } : Oper)) rfl (fun KK hK => ?_) AllReadyH.nil
  rw [if_pos (by rfl)]
  go_simp
  go_at_call 10; refine (DE.out _).mono ?_; rintro e w1 ⟨rfl, hb1⟩
  go_wp2_with fail
  refine hK.out _ _ ?_ (fun hHeld1 => ?_)
  · exact kS _ _ (by assumption) hb1
  clear hK KK hb1
  try simp only [Act.put, List.setIfInBounds_toArray, List.set_cons_zero, List.set_cons_succ]
  refine wpAnyH_take (i := 2) (oi := ({ dst := some 5, op := .unOp .neg 2 (.tmp 4), type := 2, pos := "mat.go:90", after := #[{ on := 1, ground := .data }], guard := none } : Oper)) (v := ?vs2_2) rfl ochar_plain (by as_aux_lemma => kernel_rfl) (by as_aux_lemma => kernel_rfl) (fun _ _ _ h => h) (Or.inl ⟨by rfl, ?ys2_2⟩) (by assumption) ?rs2_2
  case ys2_2 => (intro w hSw; (try dsimp only at hSw); go_simp; try with_reducible rfl)
  try simp only [Act.put, List.setIfInBounds_toArray, List.set_cons_zero, List.set_cons_succ]
  refine wpAnyH_ready (rs := [4]) (by as_aux_lemma => kernel_rfl) (by simp) ?_
  refine AllReadyH.cons (o := ({ dst := some 7, op := .call { callee := .value (.func 12), args := #[.tmp 6], argTypes := #[25] }, type := 25, pos := "mat.go:90", after := #[{ on := 3, ground := .data }, { on := 1, ground := .chain }], guard := none } : Oper)) rfl (fun KK hK => ?_) AllReadyH.nil
  rw [if_pos (by rfl)]
  go_simp
  go_at_call 12; refine (AD.out _).mono ?_; rintro e w2 ⟨rfl, hb2⟩
  go_wp2_with fail
  refine hK.out _ _ ?_ (fun hHeld2 => ?_)
  · exact kS _ _ (by assumption) hb2
  clear hK KK hb2 hHeld1
  try simp only [Act.put, List.setIfInBounds_toArray, List.set_cons_zero, List.set_cons_succ]
  refine wpAnyH_ready (rs := [5]) (by as_aux_lemma => kernel_rfl) (by simp) ?_
  refine AllReadyH.cons (o := ({ dst := some 8, op := .call { callee := .value (.func 29), args := #[.tmp 7], argTypes := #[25] }, type := 2, pos := "mat.go:90", after := #[{ on := 4, ground := .data }, { on := 4, ground := .chain }], guard := none } : Oper)) rfl (fun KK hK => ?_) AllReadyH.nil
  rw [if_pos (by rfl)]
  go_simp
  go_at_call 29; refine (TA.out _).mono ?_; rintro e w3 ⟨rfl, hb3⟩
  go_wp2_with fail
  refine hK.out _ _ ?_ (fun hHeld3 => ?_)
  · exact kS _ _ (by assumption) hb3
  clear hK KK hb3 hHeld2
  try simp only [Act.put, List.setIfInBounds_toArray, List.set_cons_zero, List.set_cons_succ]
  refine wpAnyH_ready (rs := [7]) (by as_aux_lemma => kernel_rfl) (by simp) ?_
  refine AllReadyH.cons (o := ({ dst := some 10, op := .call { callee := .value (.func 29), args := #[.tmp 9], argTypes := #[25] }, type := 2, pos := "mat.go:90", after := #[{ on := 6, ground := .data }, { on := 5, ground := .chain }], guard := none } : Oper)) rfl (fun KK hK => ?_) AllReadyH.nil
  rw [if_pos (by rfl)]
  go_simp
  go_at_call 29; refine (TR.out _).mono ?_; rintro e w4 ⟨rfl, hb4⟩
  go_wp2_with fail
  refine hK.out _ _ ?_ (fun hHeld4 => ?_)
  · exact kS _ _ (by assumption) hb4
  clear hK KK hb4 hHeld3
  try simp only [Act.put, List.setIfInBounds_toArray, List.set_cons_zero, List.set_cons_succ]
  refine wpAnyH_take (i := 8) (oi := ({ dst := some 11, op := .unOp .neg 2 (.tmp 10), type := 2, pos := "mat.go:90", after := #[{ on := 7, ground := .data }], guard := none } : Oper)) (v := ?vs2_8) rfl ochar_plain (by as_aux_lemma => kernel_rfl) (by as_aux_lemma => kernel_rfl) (fun _ _ _ h => h) (Or.inl ⟨by rfl, ?ys2_8⟩) (by assumption) ?rs2_8
  case ys2_8 => (intro w hSw; (try dsimp only at hSw); go_simp; try with_reducible rfl)
  try simp only [Act.put, List.setIfInBounds_toArray, List.set_cons_zero, List.set_cons_succ]
  refine wpAnyH_take (i := 9) (oi := ({ dst := some 12, op := .build 22 #[(0, .tmp 5), (1, .tmp 8), (2, .tmp 11)], type := 22, pos := "mat.go:90", after := #[{ on := 2, ground := .data }, { on := 5, ground := .data }, { on := 8, ground := .data }], guard := none } : Oper)) (v := ?vs2_9) rfl ochar_plain (by as_aux_lemma => kernel_rfl) (by as_aux_lemma => kernel_rfl) (fun _ _ _ h => h) (Or.inl ⟨by rfl, ?ys2_9⟩) (by assumption) ?rs2_9
  case ys2_9 => (intro w hSw; (try dsimp only at hSw); go_simp; try with_reducible rfl)
  try simp only [Act.put, List.setIfInBounds_toArray, List.set_cons_zero, List.set_cons_succ]
  refine wpAnyH_ready (rs := [10]) (by as_aux_lemma => kernel_rfl) (by simp) ?_
  refine AllReadyH.cons (o := ({ dst := none, op := .store 22 (.tmp 2) (.tmp 12), type := 0, pos := "mat.go:90", after := #[{ on := 9, ground := .data }, { on := 7, ground := .chain }, { on := 0, ground := .phase }, { on := 1, ground := .phase }, { on := 2, ground := .phase }, { on := 3, ground := .phase }, { on := 4, ground := .phase }, { on := 5, ground := .phase }, { on := 6, ground := .phase }, { on := 7, ground := .phase }, { on := 8, ground := .phase }, { on := 9, ground := .phase }], guard := none } : Oper)) rfl (fun KK hK => ?_) AllReadyH.nil
  rw [if_pos (by rfl)]
  obtain ⟨z1_0, k1_0, f1_0⟩ := o1_0 _ hHeld4
  obtain ⟨z1_1, k1_1, f1_1⟩ := o1_1 _ hHeld4
  obtain ⟨z1_2, k1_2, f1_2⟩ := o1_2 _ hHeld4
  have N1 := nx _ hHeld4
  go_simp
  refine hK.out _ _ ?_ (fun hHeldS0 => ?_)
  · exact (s1_2 _ _ (s1_1 _ _ (s1_0 _ _ hHeld4)))
  clear hK KK
  try simp only [Act.put, List.setIfInBounds_toArray, List.set_cons_zero, List.set_cons_succ]
  refine wpAnyH_done (by as_aux_lemma => kernel_rfl) ?_ _
  refine NoPanic.normal ?_
  have HS5 := Lib.hid N1
  clear c0_0 c0_1 c0_2 c0_3 c0_4 c0_5 c0_6 c0_7 c0_8 o1_0 s1_0 o1_1 s1_1 o1_2 s1_2 nx kS hT N1 k1_0 f1_0 k1_1 f1_1 k1_2 f1_2
  have r1_0 := (HS5.out).at 1 rfl 0 (v := .int .i64 d1) rfl
  have r1_1 := (HS5.out).at 1 rfl 1 (v := .int .i64 a0) rfl
  have r1_2 := (HS5.out).at 1 rfl 2 (v := .int .i64 t1) rfl
  have BH := Lib.hid HS5.out.below
  clear HS5
  go_wp2_with fail
  exact bodyPost_ret (v := .agg #[.int .i64 d1, .int .i64 a0, .int .i64 t1]) (by simp [results, Try.results17, go_sem, *]) rfl ⟨rfl, BH.out⟩
/-- The operations of a drawn region, as the translation has them. -/
def osum : Array Oper := #[
  { dst := some 15, op := .move (.tmp 8), type := 3, pos := "mat.go:141", after := #[], guard := none },
  { dst := some 16, op := .load 23 (.tmp 9), type := 23, pos := "mat.go:141", after := #[], guard := none },
  { dst := some 17, op := .move (.tmp 8), type := 3, pos := "mat.go:141", after := #[], guard := none },
  { dst := some 18, op := .indexAddr 25 (.tmp 5) (.tmp 17), type := 0, pos := "mat.go:141", after := #[{ on := 2, ground := .data }], guard := none },
  { dst := some 19, op := .load 23 (.tmp 18), type := 23, pos := "mat.go:141", after := #[{ on := 3, ground := .data }], guard := none },
  { dst := some 20, op := .move (.tmp 1), type := 2, pos := "mat.go:141", after := #[], guard := none },
  { dst := some 21, op := .call { callee := .value (.func 16), args := #[.tmp 19, .tmp 20], argTypes := #[23, 2] }, type := 23, pos := "mat.go:141", after := #[{ on := 4, ground := .data }, { on := 5, ground := .data }], guard := none },
  { dst := some 22, op := .call { callee := .value (.func 20), args := #[.tmp 16, .tmp 21], argTypes := #[23, 23] }, type := 23, pos := "mat.go:141", after := #[{ on := 1, ground := .data }, { on := 6, ground := .data }, { on := 6, ground := .chain }], guard := none },
  { dst := some 23, op := .indexAddr 25 (.tmp 7) (.tmp 15), type := 0, pos := "mat.go:141", after := #[{ on := 0, ground := .data }, { on := 0, ground := .phase }, { on := 1, ground := .phase }, { on := 2, ground := .phase }, { on := 3, ground := .phase }, { on := 4, ground := .phase }, { on := 5, ground := .phase }, { on := 6, ground := .phase }, { on := 7, ground := .phase }], guard := none },
  { dst := none, op := .store 23 (.tmp 23) (.tmp 22), type := 0, pos := "mat.go:141", after := #[{ on := 8, ground := .data }, { on := 7, ground := .data }, { on := 7, ground := .chain }, { on := 0, ground := .phase }, { on := 1, ground := .phase }, { on := 2, ground := .phase }, { on := 3, ground := .phase }, { on := 4, ground := .phase }, { on := 5, ground := .phase }, { on := 6, ground := .phase }, { on := 7, ground := .phase }], guard := none }]
theorem osum_plain : Region.noSelect osum = true := by kernel_rfl

set_option maxHeartbeats 8000000 in
set_option maxRecDepth 100000 in
theorem Sum_any (a : M3) (k : BitVec 64) (b : M3) (w : World) :
    Calls Try.prog 18 #[mv a, .int .i64 k.toInt, mv b] w fun e w' => e = .returned (mv (a.sum k b)) ∧ Below w.heap.size w w' := by
  obtain ⟨i0, i1, i2⟩ := mat_at a
  have Ca := Lib.hid fun w => Own7.Scale_any b.a k w; have Da := Lib.hid fun w => Own7.Add_any a.a (b.a.scale k) w
  have Cb := Lib.hid fun w => Own7.Scale_any b.b k w; have Db := Lib.hid fun w => Own7.Add_any a.b (b.b.scale k) w
  have Cc := Lib.hid fun w => Own7.Scale_any b.c k w; have Dc := Lib.hid fun w => Own7.Add_any a.c (b.c.scale k) w
  have hS1 := ((((Sp.none w).more [.int .i64 a.a.x.toInt, .int .i64 a.a.y.toInt, .int .i64 a.a.z.toInt, .int .i64 a.b.x.toInt, .int .i64 a.b.y.toInt, .int .i64 a.b.z.toInt, .int .i64 a.c.x.toInt, .int .i64 a.c.y.toInt, .int .i64 a.c.z.toInt] 25).more [.int .i64 b.a.x.toInt, .int .i64 b.a.y.toInt, .int .i64 b.a.z.toInt, .int .i64 b.b.x.toInt, .int .i64 b.b.y.toInt, .int .i64 b.b.z.toInt, .int .i64 b.c.x.toInt, .int .i64 b.c.y.toInt, .int .i64 b.c.z.toInt] 25).more [.int .i64 0, .int .i64 0, .int .i64 0, .int .i64 0, .int .i64 0, .int .i64 0, .int .i64 0, .int .i64 0, .int .i64 0] 25).more [.int .i64 0, .int .i64 0, .int .i64 0, .int .i64 0, .int .i64 0, .int .i64 0, .int .i64 0, .int .i64 0, .int .i64 0] 25
  simp only [heap1] at hS1
  have HS1 := Lib.hid hS1
  clear hS1
  unfold M3.sum
  generalize a.a.add (b.a.scale k) = ra at *; generalize b.a.scale k = ta at *
  generalize a.b.add (b.b.scale k) = rb at *; generalize b.b.scale k = tb at *
  generalize a.c.add (b.c.scale k) = rc at *; generalize b.c.scale k = tc at *
  go_enter Try.func18, Try.ntmps18
  go_upto_region 2 with fail
  obtain ⟨w1, hX, hS⟩ := (HS1.out).named
  rw [← hX]
  clear hX HS1
  have HS2 := Lib.hid hS
  clear hS
  have m0_0 := (HS2.out).at 0 rfl 0 (v := .int .i64 a.a.x.toInt) rfl
  have m0_1 := (HS2.out).at 0 rfl 1 (v := .int .i64 a.a.y.toInt) rfl
  have m0_2 := (HS2.out).at 0 rfl 2 (v := .int .i64 a.a.z.toInt) rfl
  have m0_3 := (HS2.out).at 0 rfl 3 (v := .int .i64 a.b.x.toInt) rfl
  have m0_4 := (HS2.out).at 0 rfl 4 (v := .int .i64 a.b.y.toInt) rfl
  have m0_5 := (HS2.out).at 0 rfl 5 (v := .int .i64 a.b.z.toInt) rfl
  have m0_6 := (HS2.out).at 0 rfl 6 (v := .int .i64 a.c.x.toInt) rfl
  have m0_7 := (HS2.out).at 0 rfl 7 (v := .int .i64 a.c.y.toInt) rfl
  have m0_8 := (HS2.out).at 0 rfl 8 (v := .int .i64 a.c.z.toInt) rfl
  go_wp2_with fail
  refine wp_loop_rounds 4 ?_
  rw [rounds_succ]
  go_upto_region 5 with fail
  have hS3 := (HS2.out).more [.int .i64 a.a.x.toInt, .int .i64 a.a.y.toInt, .int .i64 a.a.z.toInt] 23
  have HS3 := Lib.hid hS3
  clear hS3 HS2
  obtain ⟨w2, hX, hS⟩ := (HS3.out).named
  rw [← hX]
  clear hX HS3 m0_0 m0_1 m0_2 m0_3 m0_4 m0_5 m0_6 m0_7 m0_8
  have HS4 := Lib.hid hS
  clear hS
  have hS5 := (HS4.out).forget 3 rfl 0
  have HS5 := Lib.hid hS5
  clear hS5 HS4
  have hS6 := (HS5.out).forget 3 rfl 1
  have HS6 := Lib.hid hS6
  clear hS6 HS5
  have hS7 := (HS6.out).forget 3 rfl 2
  have HS7 := Lib.hid hS7
  clear hS7 HS6
  obtain ⟨bs1, hbs⟩ : ∃ bs : List (Nat × List (Option Value)), bs = [(w.heap.size, [some (.int .i64 a.a.x.toInt), some (.int .i64 a.a.y.toInt), some (.int .i64 a.a.z.toInt), some (.int .i64 a.b.x.toInt), some (.int .i64 a.b.y.toInt), some (.int .i64 a.b.z.toInt), some (.int .i64 a.c.x.toInt), some (.int .i64 a.c.y.toInt), some (.int .i64 a.c.z.toInt)]), (w.heap.size + 1, [some (.int .i64 b.a.x.toInt), some (.int .i64 b.a.y.toInt), some (.int .i64 b.a.z.toInt), some (.int .i64 b.b.x.toInt), some (.int .i64 b.b.y.toInt), some (.int .i64 b.b.z.toInt), some (.int .i64 b.c.x.toInt), some (.int .i64 b.c.y.toInt), some (.int .i64 b.c.z.toInt)]), (w.heap.size + 1 + 1, [some (.int .i64 0), some (.int .i64 0), some (.int .i64 0), some (.int .i64 0), some (.int .i64 0), some (.int .i64 0), some (.int .i64 0), some (.int .i64 0), some (.int .i64 0)]), (w.heap.size + 1 + 1 + 1, [none, none, none, some (.int .i64 0), some (.int .i64 0), some (.int .i64 0), some (.int .i64 0), some (.int .i64 0), some (.int .i64 0)]), (w1.heap.size, [some (.int .i64 a.a.x.toInt), some (.int .i64 a.a.y.toInt), some (.int .i64 a.a.z.toInt)])] := ⟨_, rfl⟩
  have hT := (HS7.out).cast hbs
  have c1_0 : ∀ w', Sp w bs1 w' → w'.cell? ⟨w.heap.size + 1, 0, none⟩ = some (.int .i64 b.a.x.toInt) := by rw [hbs]; exact fun w' h => h.at 1 rfl 0 rfl
  have c1_1 : ∀ w', Sp w bs1 w' → w'.cell? ⟨w.heap.size + 1, 1, none⟩ = some (.int .i64 b.a.y.toInt) := by rw [hbs]; exact fun w' h => h.at 1 rfl 1 rfl
  have c1_2 : ∀ w', Sp w bs1 w' → w'.cell? ⟨w.heap.size + 1, 2, none⟩ = some (.int .i64 b.a.z.toInt) := by rw [hbs]; exact fun w' h => h.at 1 rfl 2 rfl
  have c4_0 : ∀ w', Sp w bs1 w' → w'.cell? ⟨w1.heap.size, 0, none⟩ = some (.int .i64 a.a.x.toInt) := by rw [hbs]; exact fun w' h => h.at 4 rfl 0 rfl
  have c4_1 : ∀ w', Sp w bs1 w' → w'.cell? ⟨w1.heap.size, 1, none⟩ = some (.int .i64 a.a.y.toInt) := by rw [hbs]; exact fun w' h => h.at 4 rfl 1 rfl
  have c4_2 : ∀ w', Sp w bs1 w' → w'.cell? ⟨w1.heap.size, 2, none⟩ = some (.int .i64 a.a.z.toInt) := by rw [hbs]; exact fun w' h => h.at 4 rfl 2 rfl
  have o3_0 : ∀ w', Sp w bs1 w' → ∃ z, w'.cell? ⟨w.heap.size + 1 + 1 + 1, 0, none⟩ = some z ∧ w'.frozen? ⟨w.heap.size + 1 + 1 + 1, 0, none⟩ = false := by rw [hbs]; exact fun w' h => h.there 3 rfl 0 rfl
  have s3_0 : ∀ w' z, Sp w bs1 w' → Sp w bs1 (w'.setCell ⟨w.heap.size + 1 + 1 + 1, 0, none⟩ z) := by rw [hbs]; exact fun w' z h => h.hit 3 rfl 0 rfl z
  have o3_1 : ∀ w', Sp w bs1 w' → ∃ z, w'.cell? ⟨w.heap.size + 1 + 1 + 1, 1, none⟩ = some z ∧ w'.frozen? ⟨w.heap.size + 1 + 1 + 1, 1, none⟩ = false := by rw [hbs]; exact fun w' h => h.there 3 rfl 1 rfl
  have s3_1 : ∀ w' z, Sp w bs1 w' → Sp w bs1 (w'.setCell ⟨w.heap.size + 1 + 1 + 1, 1, none⟩ z) := by rw [hbs]; exact fun w' z h => h.hit 3 rfl 1 rfl z
  have o3_2 : ∀ w', Sp w bs1 w' → ∃ z, w'.cell? ⟨w.heap.size + 1 + 1 + 1, 2, none⟩ = some z ∧ w'.frozen? ⟨w.heap.size + 1 + 1 + 1, 2, none⟩ = false := by rw [hbs]; exact fun w' h => h.there 3 rfl 2 rfl
  have s3_2 : ∀ w' z, Sp w bs1 w' → Sp w bs1 (w'.setCell ⟨w.heap.size + 1 + 1 + 1, 2, none⟩ z) := by rw [hbs]; exact fun w' z h => h.hit 3 rfl 2 rfl z
  have nx : ∀ w', Sp w bs1 w' → Sp w [(w.heap.size, [some (.int .i64 a.a.x.toInt), some (.int .i64 a.a.y.toInt), some (.int .i64 a.a.z.toInt), some (.int .i64 a.b.x.toInt), some (.int .i64 a.b.y.toInt), some (.int .i64 a.b.z.toInt), some (.int .i64 a.c.x.toInt), some (.int .i64 a.c.y.toInt), some (.int .i64 a.c.z.toInt)]), (w.heap.size + 1, [some (.int .i64 b.a.x.toInt), some (.int .i64 b.a.y.toInt), some (.int .i64 b.a.z.toInt), some (.int .i64 b.b.x.toInt), some (.int .i64 b.b.y.toInt), some (.int .i64 b.b.z.toInt), some (.int .i64 b.c.x.toInt), some (.int .i64 b.c.y.toInt), some (.int .i64 b.c.z.toInt)]), (w.heap.size + 1 + 1, [some (.int .i64 0), some (.int .i64 0), some (.int .i64 0), some (.int .i64 0), some (.int .i64 0), some (.int .i64 0), some (.int .i64 0), some (.int .i64 0), some (.int .i64 0)]), (w.heap.size + 1 + 1 + 1, [some (.int .i64 ra.x.toInt), some (.int .i64 ra.y.toInt), some (.int .i64 ra.z.toInt), some (.int .i64 0), some (.int .i64 0), some (.int .i64 0), some (.int .i64 0), some (.int .i64 0), some (.int .i64 0)]), (w1.heap.size, [some (.int .i64 a.a.x.toInt), some (.int .i64 a.a.y.toInt), some (.int .i64 a.a.z.toInt)])] (((w'.setCell ⟨w.heap.size + 1 + 1 + 1, 0, none⟩ (.int .i64 ra.x.toInt)).setCell ⟨w.heap.size + 1 + 1 + 1, 1, none⟩ (.int .i64 ra.y.toInt)).setCell ⟨w.heap.size + 1 + 1 + 1, 2, none⟩ (.int .i64 ra.z.toInt)) := by rw [hbs]; exact fun w' h => (((h.put 3 rfl 0 _).put 3 rfl 1 _).put 3 rfl 2 _)
  have kS : ∀ w1 w2, Sp w bs1 w1 → Below w1.heap.size w1 w2 → Sp w bs1 w2 := fun _ _ h hb => h.keep hb
  clear hbs HS7
  change (Code.region 5 osum true).wp Try.prog _ _ _
  refine wp_region_noPanic ?_
  refine wp_region_held_drew (S := (Sp w bs1)) (by kernel_rfl) (hT.drew) (fun hHeld => ?_)
  refine wpAnyH_take (i := 0) (oi := ({ dst := some 15, op := .move (.tmp 8), type := 3, pos := "mat.go:141", after := #[], guard := none } : Oper)) (v := ?vs3_0) rfl osum_plain (by as_aux_lemma => kernel_rfl) (by as_aux_lemma => kernel_rfl) (fun _ _ _ h => h) (Or.inl ⟨by rfl, ?ys3_0⟩) (by assumption) ?rs3_0
  case ys3_0 => (intro w hSw; (try dsimp only at hSw); go_simp; try with_reducible rfl)
  try simp only [Act.put, List.setIfInBounds_toArray, List.set_cons_zero, List.set_cons_succ]
  refine wpAnyH_take (i := 1) (oi := ({ dst := some 16, op := .load 23 (.tmp 9), type := 23, pos := "mat.go:141", after := #[], guard := none } : Oper)) (v := ?vs3_1) rfl osum_plain (by as_aux_lemma => kernel_rfl) (by as_aux_lemma => kernel_rfl) (fun _ _ _ h => h) (Or.inl ⟨by rfl, ?ys3_1⟩) (by assumption) ?rs3_1
  case ys3_1 => (intro w hSw; (try dsimp only at hSw); go_simp; try with_reducible rfl)
  try simp only [Act.put, List.setIfInBounds_toArray, List.set_cons_zero, List.set_cons_succ]
  refine wpAnyH_take (i := 2) (oi := ({ dst := some 17, op := .move (.tmp 8), type := 3, pos := "mat.go:141", after := #[], guard := none } : Oper)) (v := ?vs3_2) rfl osum_plain (by as_aux_lemma => kernel_rfl) (by as_aux_lemma => kernel_rfl) (fun _ _ _ h => h) (Or.inl ⟨by rfl, ?ys3_2⟩) (by assumption) ?rs3_2
  case ys3_2 => (intro w hSw; (try dsimp only at hSw); go_simp; try with_reducible rfl)
  try simp only [Act.put, List.setIfInBounds_toArray, List.set_cons_zero, List.set_cons_succ]
  refine wpAnyH_take (i := 3) (oi := ({ dst := some 18, op := .indexAddr 25 (.tmp 5) (.tmp 17), type := 0, pos := "mat.go:141", after := #[{ on := 2, ground := .data }], guard := none } : Oper)) (v := ?vs3_3) rfl osum_plain (by as_aux_lemma => kernel_rfl) (by as_aux_lemma => kernel_rfl) (fun _ _ _ h => h) (Or.inl ⟨by rfl, ?ys3_3⟩) (by assumption) ?rs3_3
  case ys3_3 => (intro w hSw; (try dsimp only at hSw); go_simp; try with_reducible rfl)
  try simp only [Act.put, List.setIfInBounds_toArray, List.set_cons_zero, List.set_cons_succ]
  refine wpAnyH_take (i := 4) (oi := ({ dst := some 19, op := .load 23 (.tmp 18), type := 23, pos := "mat.go:141", after := #[{ on := 3, ground := .data }], guard := none } : Oper)) (v := ?vs3_4) rfl osum_plain (by as_aux_lemma => kernel_rfl) (by as_aux_lemma => kernel_rfl) (fun _ _ _ h => h) (Or.inl ⟨by rfl, ?ys3_4⟩) (by assumption) ?rs3_4
  case ys3_4 => (intro w hSw; (try dsimp only at hSw); go_simp; try with_reducible rfl)
  try simp only [Act.put, List.setIfInBounds_toArray, List.set_cons_zero, List.set_cons_succ]
  refine wpAnyH_take (i := 5) (oi := ({ dst := some 20, op := .move (.tmp 1), type := 2, pos := "mat.go:141", after := #[], guard := none } : Oper)) (v := ?vs3_5) rfl osum_plain (by as_aux_lemma => kernel_rfl) (by as_aux_lemma => kernel_rfl) (fun _ _ _ h => h) (Or.inl ⟨by rfl, ?ys3_5⟩) (by assumption) ?rs3_5
  case ys3_5 => (intro w hSw; (try dsimp only at hSw); go_simp; try with_reducible rfl)
  try simp only [Act.put, List.setIfInBounds_toArray, List.set_cons_zero, List.set_cons_succ]
  refine wpAnyH_ready (rs := [6]) (by as_aux_lemma => kernel_rfl) (by simp) ?_
  refine AllReadyH.cons (o := ({ dst := some 21, op := .call { callee := .value (.func 16), args := #[.tmp 19, .tmp 20], argTypes := #[23, 2] }, type := 23, pos := "mat.go:141", after := #[{ on := 4, ground := .data }, { on := 5, ground := .data }], guard := none } : Oper)) rfl (fun KK hK => ?_) AllReadyH.nil
  rw [if_pos (by rfl)]
  go_simp
  go_at_call 16; refine (Ca.out _).mono ?_; rintro e w3 ⟨rfl, hb3⟩
  go_wp2_with fail
  refine hK.out _ _ ?_ (fun hHeld3 => ?_)
  · exact kS _ _ (by assumption) hb3
  clear hK KK hb3
  try simp only [Act.put, List.setIfInBounds_toArray, List.set_cons_zero, List.set_cons_succ]
  refine wpAnyH_ready (rs := [7]) (by as_aux_lemma => kernel_rfl) (by simp) ?_
  refine AllReadyH.cons (o := ({ dst := some 22, op := .call { callee := .value (.func 20), args := #[.tmp 16, .tmp 21], argTypes := #[23, 23] }, type := 23, pos := "mat.go:141", after := #[{ on := 1, ground := .data }, { on := 6, ground := .data }, { on := 6, ground := .chain }], guard := none } : Oper)) rfl (fun KK hK => ?_) AllReadyH.nil
  rw [if_pos (by rfl)]
  go_simp
  go_at_call 20; refine (Da.out _).mono ?_; rintro e w4 ⟨rfl, hb4⟩
  go_wp2_with fail
  refine hK.out _ _ ?_ (fun hHeld4 => ?_)
  · exact kS _ _ (by assumption) hb4
  clear hK KK hb4 hHeld3
  try simp only [Act.put, List.setIfInBounds_toArray, List.set_cons_zero, List.set_cons_succ]
  refine wpAnyH_take (i := 8) (oi := ({ dst := some 23, op := .indexAddr 25 (.tmp 7) (.tmp 15), type := 0, pos := "mat.go:141", after := #[{ on := 0, ground := .data }, { on := 0, ground := .phase }, { on := 1, ground := .phase }, { on := 2, ground := .phase }, { on := 3, ground := .phase }, { on := 4, ground := .phase }, { on := 5, ground := .phase }, { on := 6, ground := .phase }, { on := 7, ground := .phase }], guard := none } : Oper)) (v := ?vs3_8) rfl osum_plain (by as_aux_lemma => kernel_rfl) (by as_aux_lemma => kernel_rfl) (fun _ _ _ h => h) (Or.inl ⟨by rfl, ?ys3_8⟩) (by assumption) ?rs3_8
  case ys3_8 => (intro w hSw; (try dsimp only at hSw); go_simp; try with_reducible rfl)
  try simp only [Act.put, List.setIfInBounds_toArray, List.set_cons_zero, List.set_cons_succ]
  refine wpAnyH_ready (rs := [9]) (by as_aux_lemma => kernel_rfl) (by simp) ?_
  refine AllReadyH.cons (o := ({ dst := none, op := .store 23 (.tmp 23) (.tmp 22), type := 0, pos := "mat.go:141", after := #[{ on := 8, ground := .data }, { on := 7, ground := .data }, { on := 7, ground := .chain }, { on := 0, ground := .phase }, { on := 1, ground := .phase }, { on := 2, ground := .phase }, { on := 3, ground := .phase }, { on := 4, ground := .phase }, { on := 5, ground := .phase }, { on := 6, ground := .phase }, { on := 7, ground := .phase }], guard := none } : Oper)) rfl (fun KK hK => ?_) AllReadyH.nil
  rw [if_pos (by rfl)]
  obtain ⟨z3_0, k3_0, f3_0⟩ := o3_0 _ hHeld4
  obtain ⟨z3_1, k3_1, f3_1⟩ := o3_1 _ hHeld4
  obtain ⟨z3_2, k3_2, f3_2⟩ := o3_2 _ hHeld4
  have N1 := nx _ hHeld4
  go_simp
  refine hK.out _ _ ?_ (fun hHeldS0 => ?_)
  · exact (s3_2 _ _ (s3_1 _ _ (s3_0 _ _ hHeld4)))
  clear hK KK
  try simp only [Act.put, List.setIfInBounds_toArray, List.set_cons_zero, List.set_cons_succ]
  refine wpAnyH_done (by as_aux_lemma => kernel_rfl) ?_ _
  refine NoPanic.normal ?_
  have HS8 := Lib.hid N1
  clear c1_0 c1_1 c1_2 c4_0 c4_1 c4_2 o3_0 s3_0 o3_1 s3_1 o3_2 s3_2 nx kS hT N1 k3_0 f3_0 k3_1 f3_1 k3_2 f3_2
  obtain ⟨w5, hX, hS⟩ := (HS8.out).named
  rw [← hX]
  clear hX HS8
  have HS9 := Lib.hid hS
  clear hS
  have k3_0 := (HS9.out).at 3 rfl 0 (v := .int .i64 ra.x.toInt) rfl
  have k3_1 := (HS9.out).at 3 rfl 1 (v := .int .i64 ra.y.toInt) rfl
  have k3_2 := (HS9.out).at 3 rfl 2 (v := .int .i64 ra.z.toInt) rfl
  have k3_3 := (HS9.out).at 3 rfl 3 (v := .int .i64 0) rfl
  have k3_4 := (HS9.out).at 3 rfl 4 (v := .int .i64 0) rfl
  have k3_5 := (HS9.out).at 3 rfl 5 (v := .int .i64 0) rfl
  have k3_6 := (HS9.out).at 3 rfl 6 (v := .int .i64 0) rfl
  have k3_7 := (HS9.out).at 3 rfl 7 (v := .int .i64 0) rfl
  have k3_8 := (HS9.out).at 3 rfl 8 (v := .int .i64 0) rfl
  have k2_0 := (HS9.out).at 2 rfl 0 (v := .int .i64 0) rfl
  have k2_1 := (HS9.out).at 2 rfl 1 (v := .int .i64 0) rfl
  have k2_2 := (HS9.out).at 2 rfl 2 (v := .int .i64 0) rfl
  have k2_3 := (HS9.out).at 2 rfl 3 (v := .int .i64 0) rfl
  have k2_4 := (HS9.out).at 2 rfl 4 (v := .int .i64 0) rfl
  have k2_5 := (HS9.out).at 2 rfl 5 (v := .int .i64 0) rfl
  have k2_6 := (HS9.out).at 2 rfl 6 (v := .int .i64 0) rfl
  have k2_7 := (HS9.out).at 2 rfl 7 (v := .int .i64 0) rfl
  have k2_8 := (HS9.out).at 2 rfl 8 (v := .int .i64 0) rfl
  have f3_0 := (HS9.out).free 3 rfl 0 rfl
  have f3_1 := (HS9.out).free 3 rfl 1 rfl
  have f3_2 := (HS9.out).free 3 rfl 2 rfl
  have f3_3 := (HS9.out).free 3 rfl 3 rfl
  have f3_4 := (HS9.out).free 3 rfl 4 rfl
  have f3_5 := (HS9.out).free 3 rfl 5 rfl
  have f3_6 := (HS9.out).free 3 rfl 6 rfl
  have f3_7 := (HS9.out).free 3 rfl 7 rfl
  have f3_8 := (HS9.out).free 3 rfl 8 rfl
  have f2_0 := (HS9.out).free 2 rfl 0 rfl
  have f2_1 := (HS9.out).free 2 rfl 1 rfl
  have f2_2 := (HS9.out).free 2 rfl 2 rfl
  have f2_3 := (HS9.out).free 2 rfl 3 rfl
  have f2_4 := (HS9.out).free 2 rfl 4 rfl
  have f2_5 := (HS9.out).free 2 rfl 5 rfl
  have f2_6 := (HS9.out).free 2 rfl 6 rfl
  have f2_7 := (HS9.out).free 2 rfl 7 rfl
  have f2_8 := (HS9.out).free 2 rfl 8 rfl
  go_wp2_with fail
  rw [rounds_succ]
  go_upto_region 5 with fail
  have hS10 := (HS9.out).more [.int .i64 a.b.x.toInt, .int .i64 a.b.y.toInt, .int .i64 a.b.z.toInt] 23
  have HS10 := Lib.hid hS10
  clear hS10 HS9
  obtain ⟨w6, hX, hS⟩ := (HS10.out).named
  rw [← hX]
  clear hX HS10 k3_0 k3_1 k3_2 k3_3 k3_4 k3_5 k3_6 k3_7 k3_8 k2_0 k2_1 k2_2 k2_3 k2_4 k2_5 k2_6 k2_7 k2_8 f3_0 f3_1 f3_2 f3_3 f3_4 f3_5 f3_6 f3_7 f3_8 f2_0 f2_1 f2_2 f2_3 f2_4 f2_5 f2_6 f2_7 f2_8
  have HS11 := Lib.hid hS
  clear hS
  have hS12 := (HS11.out).forget 3 rfl 3
  have HS12 := Lib.hid hS12
  clear hS12 HS11
  have hS13 := (HS12.out).forget 3 rfl 4
  have HS13 := Lib.hid hS13
  clear hS13 HS12
  have hS14 := (HS13.out).forget 3 rfl 5
  have HS14 := Lib.hid hS14
  clear hS14 HS13
  obtain ⟨bs2, hbs⟩ : ∃ bs : List (Nat × List (Option Value)), bs = [(w.heap.size, [some (.int .i64 a.a.x.toInt), some (.int .i64 a.a.y.toInt), some (.int .i64 a.a.z.toInt), some (.int .i64 a.b.x.toInt), some (.int .i64 a.b.y.toInt), some (.int .i64 a.b.z.toInt), some (.int .i64 a.c.x.toInt), some (.int .i64 a.c.y.toInt), some (.int .i64 a.c.z.toInt)]), (w.heap.size + 1, [some (.int .i64 b.a.x.toInt), some (.int .i64 b.a.y.toInt), some (.int .i64 b.a.z.toInt), some (.int .i64 b.b.x.toInt), some (.int .i64 b.b.y.toInt), some (.int .i64 b.b.z.toInt), some (.int .i64 b.c.x.toInt), some (.int .i64 b.c.y.toInt), some (.int .i64 b.c.z.toInt)]), (w.heap.size + 1 + 1, [some (.int .i64 0), some (.int .i64 0), some (.int .i64 0), some (.int .i64 0), some (.int .i64 0), some (.int .i64 0), some (.int .i64 0), some (.int .i64 0), some (.int .i64 0)]), (w.heap.size + 1 + 1 + 1, [some (.int .i64 ra.x.toInt), some (.int .i64 ra.y.toInt), some (.int .i64 ra.z.toInt), none, none, none, some (.int .i64 0), some (.int .i64 0), some (.int .i64 0)]), (w1.heap.size, [some (.int .i64 a.a.x.toInt), some (.int .i64 a.a.y.toInt), some (.int .i64 a.a.z.toInt)]), (w5.heap.size, [some (.int .i64 a.b.x.toInt), some (.int .i64 a.b.y.toInt), some (.int .i64 a.b.z.toInt)])] := ⟨_, rfl⟩
  have hT := (HS14.out).cast hbs
  have c1_3 : ∀ w', Sp w bs2 w' → w'.cell? ⟨w.heap.size + 1, 3, none⟩ = some (.int .i64 b.b.x.toInt) := by rw [hbs]; exact fun w' h => h.at 1 rfl 3 rfl
  have c1_4 : ∀ w', Sp w bs2 w' → w'.cell? ⟨w.heap.size + 1, 4, none⟩ = some (.int .i64 b.b.y.toInt) := by rw [hbs]; exact fun w' h => h.at 1 rfl 4 rfl
  have c1_5 : ∀ w', Sp w bs2 w' → w'.cell? ⟨w.heap.size + 1, 5, none⟩ = some (.int .i64 b.b.z.toInt) := by rw [hbs]; exact fun w' h => h.at 1 rfl 5 rfl
  have c5_0 : ∀ w', Sp w bs2 w' → w'.cell? ⟨w5.heap.size, 0, none⟩ = some (.int .i64 a.b.x.toInt) := by rw [hbs]; exact fun w' h => h.at 5 rfl 0 rfl
  have c5_1 : ∀ w', Sp w bs2 w' → w'.cell? ⟨w5.heap.size, 1, none⟩ = some (.int .i64 a.b.y.toInt) := by rw [hbs]; exact fun w' h => h.at 5 rfl 1 rfl
  have c5_2 : ∀ w', Sp w bs2 w' → w'.cell? ⟨w5.heap.size, 2, none⟩ = some (.int .i64 a.b.z.toInt) := by rw [hbs]; exact fun w' h => h.at 5 rfl 2 rfl
  have o3_3 : ∀ w', Sp w bs2 w' → ∃ z, w'.cell? ⟨w.heap.size + 1 + 1 + 1, 3, none⟩ = some z ∧ w'.frozen? ⟨w.heap.size + 1 + 1 + 1, 3, none⟩ = false := by rw [hbs]; exact fun w' h => h.there 3 rfl 3 rfl
  have s3_3 : ∀ w' z, Sp w bs2 w' → Sp w bs2 (w'.setCell ⟨w.heap.size + 1 + 1 + 1, 3, none⟩ z) := by rw [hbs]; exact fun w' z h => h.hit 3 rfl 3 rfl z
  have o3_4 : ∀ w', Sp w bs2 w' → ∃ z, w'.cell? ⟨w.heap.size + 1 + 1 + 1, 4, none⟩ = some z ∧ w'.frozen? ⟨w.heap.size + 1 + 1 + 1, 4, none⟩ = false := by rw [hbs]; exact fun w' h => h.there 3 rfl 4 rfl
  have s3_4 : ∀ w' z, Sp w bs2 w' → Sp w bs2 (w'.setCell ⟨w.heap.size + 1 + 1 + 1, 4, none⟩ z) := by rw [hbs]; exact fun w' z h => h.hit 3 rfl 4 rfl z
  have o3_5 : ∀ w', Sp w bs2 w' → ∃ z, w'.cell? ⟨w.heap.size + 1 + 1 + 1, 5, none⟩ = some z ∧ w'.frozen? ⟨w.heap.size + 1 + 1 + 1, 5, none⟩ = false := by rw [hbs]; exact fun w' h => h.there 3 rfl 5 rfl
  have s3_5 : ∀ w' z, Sp w bs2 w' → Sp w bs2 (w'.setCell ⟨w.heap.size + 1 + 1 + 1, 5, none⟩ z) := by rw [hbs]; exact fun w' z h => h.hit 3 rfl 5 rfl z
  have nx : ∀ w', Sp w bs2 w' → Sp w [(w.heap.size, [some (.int .i64 a.a.x.toInt), some (.int .i64 a.a.y.toInt), some (.int .i64 a.a.z.toInt), some (.int .i64 a.b.x.toInt), some (.int .i64 a.b.y.toInt), some (.int .i64 a.b.z.toInt), some (.int .i64 a.c.x.toInt), some (.int .i64 a.c.y.toInt), some (.int .i64 a.c.z.toInt)]), (w.heap.size + 1, [some (.int .i64 b.a.x.toInt), some (.int .i64 b.a.y.toInt), some (.int .i64 b.a.z.toInt), some (.int .i64 b.b.x.toInt), some (.int .i64 b.b.y.toInt), some (.int .i64 b.b.z.toInt), some (.int .i64 b.c.x.toInt), some (.int .i64 b.c.y.toInt), some (.int .i64 b.c.z.toInt)]), (w.heap.size + 1 + 1, [some (.int .i64 0), some (.int .i64 0), some (.int .i64 0), some (.int .i64 0), some (.int .i64 0), some (.int .i64 0), some (.int .i64 0), some (.int .i64 0), some (.int .i64 0)]), (w.heap.size + 1 + 1 + 1, [some (.int .i64 ra.x.toInt), some (.int .i64 ra.y.toInt), some (.int .i64 ra.z.toInt), some (.int .i64 rb.x.toInt), some (.int .i64 rb.y.toInt), some (.int .i64 rb.z.toInt), some (.int .i64 0), some (.int .i64 0), some (.int .i64 0)]), (w1.heap.size, [some (.int .i64 a.a.x.toInt), some (.int .i64 a.a.y.toInt), some (.int .i64 a.a.z.toInt)]), (w5.heap.size, [some (.int .i64 a.b.x.toInt), some (.int .i64 a.b.y.toInt), some (.int .i64 a.b.z.toInt)])] (((w'.setCell ⟨w.heap.size + 1 + 1 + 1, 3, none⟩ (.int .i64 rb.x.toInt)).setCell ⟨w.heap.size + 1 + 1 + 1, 4, none⟩ (.int .i64 rb.y.toInt)).setCell ⟨w.heap.size + 1 + 1 + 1, 5, none⟩ (.int .i64 rb.z.toInt)) := by rw [hbs]; exact fun w' h => (((h.put 3 rfl 3 _).put 3 rfl 4 _).put 3 rfl 5 _)
  have kS : ∀ w1 w2, Sp w bs2 w1 → Below w1.heap.size w1 w2 → Sp w bs2 w2 := fun _ _ h hb => h.keep hb
  clear hbs HS14
  change (Code.region 5 osum true).wp Try.prog _ _ _
  refine wp_region_noPanic ?_
  refine wp_region_held_drew (S := (Sp w bs2)) (by kernel_rfl) (hT.drew) (fun hHeld => ?_)
  refine wpAnyH_take (i := 0) (oi := ({ dst := some 15, op := .move (.tmp 8), type := 3, pos := "mat.go:141", after := #[], guard := none } : Oper)) (v := ?vs4_0) rfl osum_plain (by as_aux_lemma => kernel_rfl) (by as_aux_lemma => kernel_rfl) (fun _ _ _ h => h) (Or.inl ⟨by rfl, ?ys4_0⟩) (by assumption) ?rs4_0
  case ys4_0 => (intro w hSw; (try dsimp only at hSw); go_simp; try with_reducible rfl)
  try simp only [Act.put, List.setIfInBounds_toArray, List.set_cons_zero, List.set_cons_succ]
  refine wpAnyH_take (i := 1) (oi := ({ dst := some 16, op := .load 23 (.tmp 9), type := 23, pos := "mat.go:141", after := #[], guard := none } : Oper)) (v := ?vs4_1) rfl osum_plain (by as_aux_lemma => kernel_rfl) (by as_aux_lemma => kernel_rfl) (fun _ _ _ h => h) (Or.inl ⟨by rfl, ?ys4_1⟩) (by assumption) ?rs4_1
  case ys4_1 => (intro w hSw; (try dsimp only at hSw); go_simp; try with_reducible rfl)
  try simp only [Act.put, List.setIfInBounds_toArray, List.set_cons_zero, List.set_cons_succ]
  refine wpAnyH_take (i := 2) (oi := ({ dst := some 17, op := .move (.tmp 8), type := 3, pos := "mat.go:141", after := #[], guard := none } : Oper)) (v := ?vs4_2) rfl osum_plain (by as_aux_lemma => kernel_rfl) (by as_aux_lemma => kernel_rfl) (fun _ _ _ h => h) (Or.inl ⟨by rfl, ?ys4_2⟩) (by assumption) ?rs4_2
  case ys4_2 => (intro w hSw; (try dsimp only at hSw); go_simp; try with_reducible rfl)
  try simp only [Act.put, List.setIfInBounds_toArray, List.set_cons_zero, List.set_cons_succ]
  refine wpAnyH_take (i := 3) (oi := ({ dst := some 18, op := .indexAddr 25 (.tmp 5) (.tmp 17), type := 0, pos := "mat.go:141", after := #[{ on := 2, ground := .data }], guard := none } : Oper)) (v := ?vs4_3) rfl osum_plain (by as_aux_lemma => kernel_rfl) (by as_aux_lemma => kernel_rfl) (fun _ _ _ h => h) (Or.inl ⟨by rfl, ?ys4_3⟩) (by assumption) ?rs4_3
  case ys4_3 => (intro w hSw; (try dsimp only at hSw); go_simp; try with_reducible rfl)
  try simp only [Act.put, List.setIfInBounds_toArray, List.set_cons_zero, List.set_cons_succ]
  refine wpAnyH_take (i := 4) (oi := ({ dst := some 19, op := .load 23 (.tmp 18), type := 23, pos := "mat.go:141", after := #[{ on := 3, ground := .data }], guard := none } : Oper)) (v := ?vs4_4) rfl osum_plain (by as_aux_lemma => kernel_rfl) (by as_aux_lemma => kernel_rfl) (fun _ _ _ h => h) (Or.inl ⟨by rfl, ?ys4_4⟩) (by assumption) ?rs4_4
  case ys4_4 => (intro w hSw; (try dsimp only at hSw); go_simp; try with_reducible rfl)
  try simp only [Act.put, List.setIfInBounds_toArray, List.set_cons_zero, List.set_cons_succ]
  refine wpAnyH_take (i := 5) (oi := ({ dst := some 20, op := .move (.tmp 1), type := 2, pos := "mat.go:141", after := #[], guard := none } : Oper)) (v := ?vs4_5) rfl osum_plain (by as_aux_lemma => kernel_rfl) (by as_aux_lemma => kernel_rfl) (fun _ _ _ h => h) (Or.inl ⟨by rfl, ?ys4_5⟩) (by assumption) ?rs4_5
  case ys4_5 => (intro w hSw; (try dsimp only at hSw); go_simp; try with_reducible rfl)
  try simp only [Act.put, List.setIfInBounds_toArray, List.set_cons_zero, List.set_cons_succ]
  refine wpAnyH_ready (rs := [6]) (by as_aux_lemma => kernel_rfl) (by simp) ?_
  refine AllReadyH.cons (o := ({ dst := some 21, op := .call { callee := .value (.func 16), args := #[.tmp 19, .tmp 20], argTypes := #[23, 2] }, type := 23, pos := "mat.go:141", after := #[{ on := 4, ground := .data }, { on := 5, ground := .data }], guard := none } : Oper)) rfl (fun KK hK => ?_) AllReadyH.nil
  rw [if_pos (by rfl)]
  go_simp
  go_at_call 16; refine (Cb.out _).mono ?_; rintro e w7 ⟨rfl, hb7⟩
  go_wp2_with fail
  refine hK.out _ _ ?_ (fun hHeld7 => ?_)
  · exact kS _ _ (by assumption) hb7
  clear hK KK hb7
  try simp only [Act.put, List.setIfInBounds_toArray, List.set_cons_zero, List.set_cons_succ]
  refine wpAnyH_ready (rs := [7]) (by as_aux_lemma => kernel_rfl) (by simp) ?_
  refine AllReadyH.cons (o := ({ dst := some 22, op := .call { callee := .value (.func 20), args := #[.tmp 16, .tmp 21], argTypes := #[23, 23] }, type := 23, pos := "mat.go:141", after := #[{ on := 1, ground := .data }, { on := 6, ground := .data }, { on := 6, ground := .chain }], guard := none } : Oper)) rfl (fun KK hK => ?_) AllReadyH.nil
  rw [if_pos (by rfl)]
  go_simp
  go_at_call 20; refine (Db.out _).mono ?_; rintro e w8 ⟨rfl, hb8⟩
  go_wp2_with fail
  refine hK.out _ _ ?_ (fun hHeld8 => ?_)
  · exact kS _ _ (by assumption) hb8
  clear hK KK hb8 hHeld7
  try simp only [Act.put, List.setIfInBounds_toArray, List.set_cons_zero, List.set_cons_succ]
  refine wpAnyH_take (i := 8) (oi := ({ dst := some 23, op := .indexAddr 25 (.tmp 7) (.tmp 15), type := 0, pos := "mat.go:141", after := #[{ on := 0, ground := .data }, { on := 0, ground := .phase }, { on := 1, ground := .phase }, { on := 2, ground := .phase }, { on := 3, ground := .phase }, { on := 4, ground := .phase }, { on := 5, ground := .phase }, { on := 6, ground := .phase }, { on := 7, ground := .phase }], guard := none } : Oper)) (v := ?vs4_8) rfl osum_plain (by as_aux_lemma => kernel_rfl) (by as_aux_lemma => kernel_rfl) (fun _ _ _ h => h) (Or.inl ⟨by rfl, ?ys4_8⟩) (by assumption) ?rs4_8
  case ys4_8 => (intro w hSw; (try dsimp only at hSw); go_simp; try with_reducible rfl)
  try simp only [Act.put, List.setIfInBounds_toArray, List.set_cons_zero, List.set_cons_succ]
  refine wpAnyH_ready (rs := [9]) (by as_aux_lemma => kernel_rfl) (by simp) ?_
  refine AllReadyH.cons (o := ({ dst := none, op := .store 23 (.tmp 23) (.tmp 22), type := 0, pos := "mat.go:141", after := #[{ on := 8, ground := .data }, { on := 7, ground := .data }, { on := 7, ground := .chain }, { on := 0, ground := .phase }, { on := 1, ground := .phase }, { on := 2, ground := .phase }, { on := 3, ground := .phase }, { on := 4, ground := .phase }, { on := 5, ground := .phase }, { on := 6, ground := .phase }, { on := 7, ground := .phase }], guard := none } : Oper)) rfl (fun KK hK => ?_) AllReadyH.nil
  rw [if_pos (by rfl)]
  obtain ⟨z3_3, k3_3, f3_3⟩ := o3_3 _ hHeld8
  obtain ⟨z3_4, k3_4, f3_4⟩ := o3_4 _ hHeld8
  obtain ⟨z3_5, k3_5, f3_5⟩ := o3_5 _ hHeld8
  have N1 := nx _ hHeld8
  go_simp
  refine hK.out _ _ ?_ (fun hHeldS0 => ?_)
  · exact (s3_5 _ _ (s3_4 _ _ (s3_3 _ _ hHeld8)))
  clear hK KK
  try simp only [Act.put, List.setIfInBounds_toArray, List.set_cons_zero, List.set_cons_succ]
  refine wpAnyH_done (by as_aux_lemma => kernel_rfl) ?_ _
  refine NoPanic.normal ?_
  have HS15 := Lib.hid N1
  clear c1_3 c1_4 c1_5 c5_0 c5_1 c5_2 o3_3 s3_3 o3_4 s3_4 o3_5 s3_5 nx kS hT N1 k3_3 f3_3 k3_4 f3_4 k3_5 f3_5
  obtain ⟨w9, hX, hS⟩ := (HS15.out).named
  rw [← hX]
  clear hX HS15
  have HS16 := Lib.hid hS
  clear hS
  have k3_0 := (HS16.out).at 3 rfl 0 (v := .int .i64 ra.x.toInt) rfl
  have k3_1 := (HS16.out).at 3 rfl 1 (v := .int .i64 ra.y.toInt) rfl
  have k3_2 := (HS16.out).at 3 rfl 2 (v := .int .i64 ra.z.toInt) rfl
  have k3_3 := (HS16.out).at 3 rfl 3 (v := .int .i64 rb.x.toInt) rfl
  have k3_4 := (HS16.out).at 3 rfl 4 (v := .int .i64 rb.y.toInt) rfl
  have k3_5 := (HS16.out).at 3 rfl 5 (v := .int .i64 rb.z.toInt) rfl
  have k3_6 := (HS16.out).at 3 rfl 6 (v := .int .i64 0) rfl
  have k3_7 := (HS16.out).at 3 rfl 7 (v := .int .i64 0) rfl
  have k3_8 := (HS16.out).at 3 rfl 8 (v := .int .i64 0) rfl
  have k2_0 := (HS16.out).at 2 rfl 0 (v := .int .i64 0) rfl
  have k2_1 := (HS16.out).at 2 rfl 1 (v := .int .i64 0) rfl
  have k2_2 := (HS16.out).at 2 rfl 2 (v := .int .i64 0) rfl
  have k2_3 := (HS16.out).at 2 rfl 3 (v := .int .i64 0) rfl
  have k2_4 := (HS16.out).at 2 rfl 4 (v := .int .i64 0) rfl
  have k2_5 := (HS16.out).at 2 rfl 5 (v := .int .i64 0) rfl
  have k2_6 := (HS16.out).at 2 rfl 6 (v := .int .i64 0) rfl
  have k2_7 := (HS16.out).at 2 rfl 7 (v := .int .i64 0) rfl
  have k2_8 := (HS16.out).at 2 rfl 8 (v := .int .i64 0) rfl
  have f3_0 := (HS16.out).free 3 rfl 0 rfl
  have f3_1 := (HS16.out).free 3 rfl 1 rfl
  have f3_2 := (HS16.out).free 3 rfl 2 rfl
  have f3_3 := (HS16.out).free 3 rfl 3 rfl
  have f3_4 := (HS16.out).free 3 rfl 4 rfl
  have f3_5 := (HS16.out).free 3 rfl 5 rfl
  have f3_6 := (HS16.out).free 3 rfl 6 rfl
  have f3_7 := (HS16.out).free 3 rfl 7 rfl
  have f3_8 := (HS16.out).free 3 rfl 8 rfl
  have f2_0 := (HS16.out).free 2 rfl 0 rfl
  have f2_1 := (HS16.out).free 2 rfl 1 rfl
  have f2_2 := (HS16.out).free 2 rfl 2 rfl
  have f2_3 := (HS16.out).free 2 rfl 3 rfl
  have f2_4 := (HS16.out).free 2 rfl 4 rfl
  have f2_5 := (HS16.out).free 2 rfl 5 rfl
  have f2_6 := (HS16.out).free 2 rfl 6 rfl
  have f2_7 := (HS16.out).free 2 rfl 7 rfl
  have f2_8 := (HS16.out).free 2 rfl 8 rfl
  go_wp2_with fail
  rw [rounds_succ]
  go_upto_region 5 with fail
  have hS17 := (HS16.out).more [.int .i64 a.c.x.toInt, .int .i64 a.c.y.toInt, .int .i64 a.c.z.toInt] 23
  have HS17 := Lib.hid hS17
  clear hS17 HS16
  obtain ⟨w10, hX, hS⟩ := (HS17.out).named
  rw [← hX]
  clear hX HS17 k3_0 k3_1 k3_2 k3_3 k3_4 k3_5 k3_6 k3_7 k3_8 k2_0 k2_1 k2_2 k2_3 k2_4 k2_5 k2_6 k2_7 k2_8 f3_0 f3_1 f3_2 f3_3 f3_4 f3_5 f3_6 f3_7 f3_8 f2_0 f2_1 f2_2 f2_3 f2_4 f2_5 f2_6 f2_7 f2_8
  have HS18 := Lib.hid hS
  clear hS
  have hS19 := (HS18.out).forget 3 rfl 6
  have HS19 := Lib.hid hS19
  clear hS19 HS18
  have hS20 := (HS19.out).forget 3 rfl 7
  have HS20 := Lib.hid hS20
  clear hS20 HS19
  have hS21 := (HS20.out).forget 3 rfl 8
  have HS21 := Lib.hid hS21
  clear hS21 HS20
  obtain ⟨bs3, hbs⟩ : ∃ bs : List (Nat × List (Option Value)), bs = [(w.heap.size, [some (.int .i64 a.a.x.toInt), some (.int .i64 a.a.y.toInt), some (.int .i64 a.a.z.toInt), some (.int .i64 a.b.x.toInt), some (.int .i64 a.b.y.toInt), some (.int .i64 a.b.z.toInt), some (.int .i64 a.c.x.toInt), some (.int .i64 a.c.y.toInt), some (.int .i64 a.c.z.toInt)]), (w.heap.size + 1, [some (.int .i64 b.a.x.toInt), some (.int .i64 b.a.y.toInt), some (.int .i64 b.a.z.toInt), some (.int .i64 b.b.x.toInt), some (.int .i64 b.b.y.toInt), some (.int .i64 b.b.z.toInt), some (.int .i64 b.c.x.toInt), some (.int .i64 b.c.y.toInt), some (.int .i64 b.c.z.toInt)]), (w.heap.size + 1 + 1, [some (.int .i64 0), some (.int .i64 0), some (.int .i64 0), some (.int .i64 0), some (.int .i64 0), some (.int .i64 0), some (.int .i64 0), some (.int .i64 0), some (.int .i64 0)]), (w.heap.size + 1 + 1 + 1, [some (.int .i64 ra.x.toInt), some (.int .i64 ra.y.toInt), some (.int .i64 ra.z.toInt), some (.int .i64 rb.x.toInt), some (.int .i64 rb.y.toInt), some (.int .i64 rb.z.toInt), none, none, none]), (w1.heap.size, [some (.int .i64 a.a.x.toInt), some (.int .i64 a.a.y.toInt), some (.int .i64 a.a.z.toInt)]), (w5.heap.size, [some (.int .i64 a.b.x.toInt), some (.int .i64 a.b.y.toInt), some (.int .i64 a.b.z.toInt)]), (w9.heap.size, [some (.int .i64 a.c.x.toInt), some (.int .i64 a.c.y.toInt), some (.int .i64 a.c.z.toInt)])] := ⟨_, rfl⟩
  have hT := (HS21.out).cast hbs
  have c1_6 : ∀ w', Sp w bs3 w' → w'.cell? ⟨w.heap.size + 1, 6, none⟩ = some (.int .i64 b.c.x.toInt) := by rw [hbs]; exact fun w' h => h.at 1 rfl 6 rfl
  have c1_7 : ∀ w', Sp w bs3 w' → w'.cell? ⟨w.heap.size + 1, 7, none⟩ = some (.int .i64 b.c.y.toInt) := by rw [hbs]; exact fun w' h => h.at 1 rfl 7 rfl
  have c1_8 : ∀ w', Sp w bs3 w' → w'.cell? ⟨w.heap.size + 1, 8, none⟩ = some (.int .i64 b.c.z.toInt) := by rw [hbs]; exact fun w' h => h.at 1 rfl 8 rfl
  have c6_0 : ∀ w', Sp w bs3 w' → w'.cell? ⟨w9.heap.size, 0, none⟩ = some (.int .i64 a.c.x.toInt) := by rw [hbs]; exact fun w' h => h.at 6 rfl 0 rfl
  have c6_1 : ∀ w', Sp w bs3 w' → w'.cell? ⟨w9.heap.size, 1, none⟩ = some (.int .i64 a.c.y.toInt) := by rw [hbs]; exact fun w' h => h.at 6 rfl 1 rfl
  have c6_2 : ∀ w', Sp w bs3 w' → w'.cell? ⟨w9.heap.size, 2, none⟩ = some (.int .i64 a.c.z.toInt) := by rw [hbs]; exact fun w' h => h.at 6 rfl 2 rfl
  have o3_6 : ∀ w', Sp w bs3 w' → ∃ z, w'.cell? ⟨w.heap.size + 1 + 1 + 1, 6, none⟩ = some z ∧ w'.frozen? ⟨w.heap.size + 1 + 1 + 1, 6, none⟩ = false := by rw [hbs]; exact fun w' h => h.there 3 rfl 6 rfl
  have s3_6 : ∀ w' z, Sp w bs3 w' → Sp w bs3 (w'.setCell ⟨w.heap.size + 1 + 1 + 1, 6, none⟩ z) := by rw [hbs]; exact fun w' z h => h.hit 3 rfl 6 rfl z
  have o3_7 : ∀ w', Sp w bs3 w' → ∃ z, w'.cell? ⟨w.heap.size + 1 + 1 + 1, 7, none⟩ = some z ∧ w'.frozen? ⟨w.heap.size + 1 + 1 + 1, 7, none⟩ = false := by rw [hbs]; exact fun w' h => h.there 3 rfl 7 rfl
  have s3_7 : ∀ w' z, Sp w bs3 w' → Sp w bs3 (w'.setCell ⟨w.heap.size + 1 + 1 + 1, 7, none⟩ z) := by rw [hbs]; exact fun w' z h => h.hit 3 rfl 7 rfl z
  have o3_8 : ∀ w', Sp w bs3 w' → ∃ z, w'.cell? ⟨w.heap.size + 1 + 1 + 1, 8, none⟩ = some z ∧ w'.frozen? ⟨w.heap.size + 1 + 1 + 1, 8, none⟩ = false := by rw [hbs]; exact fun w' h => h.there 3 rfl 8 rfl
  have s3_8 : ∀ w' z, Sp w bs3 w' → Sp w bs3 (w'.setCell ⟨w.heap.size + 1 + 1 + 1, 8, none⟩ z) := by rw [hbs]; exact fun w' z h => h.hit 3 rfl 8 rfl z
  have nx : ∀ w', Sp w bs3 w' → Sp w [(w.heap.size, [some (.int .i64 a.a.x.toInt), some (.int .i64 a.a.y.toInt), some (.int .i64 a.a.z.toInt), some (.int .i64 a.b.x.toInt), some (.int .i64 a.b.y.toInt), some (.int .i64 a.b.z.toInt), some (.int .i64 a.c.x.toInt), some (.int .i64 a.c.y.toInt), some (.int .i64 a.c.z.toInt)]), (w.heap.size + 1, [some (.int .i64 b.a.x.toInt), some (.int .i64 b.a.y.toInt), some (.int .i64 b.a.z.toInt), some (.int .i64 b.b.x.toInt), some (.int .i64 b.b.y.toInt), some (.int .i64 b.b.z.toInt), some (.int .i64 b.c.x.toInt), some (.int .i64 b.c.y.toInt), some (.int .i64 b.c.z.toInt)]), (w.heap.size + 1 + 1, [some (.int .i64 0), some (.int .i64 0), some (.int .i64 0), some (.int .i64 0), some (.int .i64 0), some (.int .i64 0), some (.int .i64 0), some (.int .i64 0), some (.int .i64 0)]), (w.heap.size + 1 + 1 + 1, [some (.int .i64 ra.x.toInt), some (.int .i64 ra.y.toInt), some (.int .i64 ra.z.toInt), some (.int .i64 rb.x.toInt), some (.int .i64 rb.y.toInt), some (.int .i64 rb.z.toInt), some (.int .i64 rc.x.toInt), some (.int .i64 rc.y.toInt), some (.int .i64 rc.z.toInt)]), (w1.heap.size, [some (.int .i64 a.a.x.toInt), some (.int .i64 a.a.y.toInt), some (.int .i64 a.a.z.toInt)]), (w5.heap.size, [some (.int .i64 a.b.x.toInt), some (.int .i64 a.b.y.toInt), some (.int .i64 a.b.z.toInt)]), (w9.heap.size, [some (.int .i64 a.c.x.toInt), some (.int .i64 a.c.y.toInt), some (.int .i64 a.c.z.toInt)])] (((w'.setCell ⟨w.heap.size + 1 + 1 + 1, 6, none⟩ (.int .i64 rc.x.toInt)).setCell ⟨w.heap.size + 1 + 1 + 1, 7, none⟩ (.int .i64 rc.y.toInt)).setCell ⟨w.heap.size + 1 + 1 + 1, 8, none⟩ (.int .i64 rc.z.toInt)) := by rw [hbs]; exact fun w' h => (((h.put 3 rfl 6 _).put 3 rfl 7 _).put 3 rfl 8 _)
  have kS : ∀ w1 w2, Sp w bs3 w1 → Below w1.heap.size w1 w2 → Sp w bs3 w2 := fun _ _ h hb => h.keep hb
  clear hbs HS21
  change (Code.region 5 osum true).wp Try.prog _ _ _
  refine wp_region_noPanic ?_
  refine wp_region_held_drew (S := (Sp w bs3)) (by kernel_rfl) (hT.drew) (fun hHeld => ?_)
  refine wpAnyH_take (i := 0) (oi := ({ dst := some 15, op := .move (.tmp 8), type := 3, pos := "mat.go:141", after := #[], guard := none } : Oper)) (v := ?vs5_0) rfl osum_plain (by as_aux_lemma => kernel_rfl) (by as_aux_lemma => kernel_rfl) (fun _ _ _ h => h) (Or.inl ⟨by rfl, ?ys5_0⟩) (by assumption) ?rs5_0
  case ys5_0 => (intro w hSw; (try dsimp only at hSw); go_simp; try with_reducible rfl)
  try simp only [Act.put, List.setIfInBounds_toArray, List.set_cons_zero, List.set_cons_succ]
  refine wpAnyH_take (i := 1) (oi := ({ dst := some 16, op := .load 23 (.tmp 9), type := 23, pos := "mat.go:141", after := #[], guard := none } : Oper)) (v := ?vs5_1) rfl osum_plain (by as_aux_lemma => kernel_rfl) (by as_aux_lemma => kernel_rfl) (fun _ _ _ h => h) (Or.inl ⟨by rfl, ?ys5_1⟩) (by assumption) ?rs5_1
  case ys5_1 => (intro w hSw; (try dsimp only at hSw); go_simp; try with_reducible rfl)
  try simp only [Act.put, List.setIfInBounds_toArray, List.set_cons_zero, List.set_cons_succ]
  refine wpAnyH_take (i := 2) (oi := ({ dst := some 17, op := .move (.tmp 8), type := 3, pos := "mat.go:141", after := #[], guard := none } : Oper)) (v := ?vs5_2) rfl osum_plain (by as_aux_lemma => kernel_rfl) (by as_aux_lemma => kernel_rfl) (fun _ _ _ h => h) (Or.inl ⟨by rfl, ?ys5_2⟩) (by assumption) ?rs5_2
  case ys5_2 => (intro w hSw; (try dsimp only at hSw); go_simp; try with_reducible rfl)
  try simp only [Act.put, List.setIfInBounds_toArray, List.set_cons_zero, List.set_cons_succ]
  refine wpAnyH_take (i := 3) (oi := ({ dst := some 18, op := .indexAddr 25 (.tmp 5) (.tmp 17), type := 0, pos := "mat.go:141", after := #[{ on := 2, ground := .data }], guard := none } : Oper)) (v := ?vs5_3) rfl osum_plain (by as_aux_lemma => kernel_rfl) (by as_aux_lemma => kernel_rfl) (fun _ _ _ h => h) (Or.inl ⟨by rfl, ?ys5_3⟩) (by assumption) ?rs5_3
  case ys5_3 => (intro w hSw; (try dsimp only at hSw); go_simp; try with_reducible rfl)
  try simp only [Act.put, List.setIfInBounds_toArray, List.set_cons_zero, List.set_cons_succ]
  refine wpAnyH_take (i := 4) (oi := ({ dst := some 19, op := .load 23 (.tmp 18), type := 23, pos := "mat.go:141", after := #[{ on := 3, ground := .data }], guard := none } : Oper)) (v := ?vs5_4) rfl osum_plain (by as_aux_lemma => kernel_rfl) (by as_aux_lemma => kernel_rfl) (fun _ _ _ h => h) (Or.inl ⟨by rfl, ?ys5_4⟩) (by assumption) ?rs5_4
  case ys5_4 => (intro w hSw; (try dsimp only at hSw); go_simp; try with_reducible rfl)
  try simp only [Act.put, List.setIfInBounds_toArray, List.set_cons_zero, List.set_cons_succ]
  refine wpAnyH_take (i := 5) (oi := ({ dst := some 20, op := .move (.tmp 1), type := 2, pos := "mat.go:141", after := #[], guard := none } : Oper)) (v := ?vs5_5) rfl osum_plain (by as_aux_lemma => kernel_rfl) (by as_aux_lemma => kernel_rfl) (fun _ _ _ h => h) (Or.inl ⟨by rfl, ?ys5_5⟩) (by assumption) ?rs5_5
  case ys5_5 => (intro w hSw; (try dsimp only at hSw); go_simp; try with_reducible rfl)
  try simp only [Act.put, List.setIfInBounds_toArray, List.set_cons_zero, List.set_cons_succ]
  refine wpAnyH_ready (rs := [6]) (by as_aux_lemma => kernel_rfl) (by simp) ?_
  refine AllReadyH.cons (o := ({ dst := some 21, op := .call { callee := .value (.func 16), args := #[.tmp 19, .tmp 20], argTypes := #[23, 2] }, type := 23, pos := "mat.go:141", after := #[{ on := 4, ground := .data }, { on := 5, ground := .data }], guard := none } : Oper)) rfl (fun KK hK => ?_) AllReadyH.nil
  rw [if_pos (by rfl)]
  go_simp
  go_at_call 16; refine (Cc.out _).mono ?_; rintro e w11 ⟨rfl, hb11⟩
  go_wp2_with fail
  refine hK.out _ _ ?_ (fun hHeld11 => ?_)
  · exact kS _ _ (by assumption) hb11
  clear hK KK hb11
  try simp only [Act.put, List.setIfInBounds_toArray, List.set_cons_zero, List.set_cons_succ]
  refine wpAnyH_ready (rs := [7]) (by as_aux_lemma => kernel_rfl) (by simp) ?_
  refine AllReadyH.cons (o := ({ dst := some 22, op := .call { callee := .value (.func 20), args := #[.tmp 16, .tmp 21], argTypes := #[23, 23] }, type := 23, pos := "mat.go:141", after := #[{ on := 1, ground := .data }, { on := 6, ground := .data }, { on := 6, ground := .chain }], guard := none } : Oper)) rfl (fun KK hK => ?_) AllReadyH.nil
  rw [if_pos (by rfl)]
  go_simp
  go_at_call 20; refine (Dc.out _).mono ?_; rintro e w12 ⟨rfl, hb12⟩
  go_wp2_with fail
  refine hK.out _ _ ?_ (fun hHeld12 => ?_)
  · exact kS _ _ (by assumption) hb12
  clear hK KK hb12 hHeld11
  try simp only [Act.put, List.setIfInBounds_toArray, List.set_cons_zero, List.set_cons_succ]
  refine wpAnyH_take (i := 8) (oi := ({ dst := some 23, op := .indexAddr 25 (.tmp 7) (.tmp 15), type := 0, pos := "mat.go:141", after := #[{ on := 0, ground := .data }, { on := 0, ground := .phase }, { on := 1, ground := .phase }, { on := 2, ground := .phase }, { on := 3, ground := .phase }, { on := 4, ground := .phase }, { on := 5, ground := .phase }, { on := 6, ground := .phase }, { on := 7, ground := .phase }], guard := none } : Oper)) (v := ?vs5_8) rfl osum_plain (by as_aux_lemma => kernel_rfl) (by as_aux_lemma => kernel_rfl) (fun _ _ _ h => h) (Or.inl ⟨by rfl, ?ys5_8⟩) (by assumption) ?rs5_8
  case ys5_8 => (intro w hSw; (try dsimp only at hSw); go_simp; try with_reducible rfl)
  try simp only [Act.put, List.setIfInBounds_toArray, List.set_cons_zero, List.set_cons_succ]
  refine wpAnyH_ready (rs := [9]) (by as_aux_lemma => kernel_rfl) (by simp) ?_
  refine AllReadyH.cons (o := ({ dst := none, op := .store 23 (.tmp 23) (.tmp 22), type := 0, pos := "mat.go:141", after := #[{ on := 8, ground := .data }, { on := 7, ground := .data }, { on := 7, ground := .chain }, { on := 0, ground := .phase }, { on := 1, ground := .phase }, { on := 2, ground := .phase }, { on := 3, ground := .phase }, { on := 4, ground := .phase }, { on := 5, ground := .phase }, { on := 6, ground := .phase }, { on := 7, ground := .phase }], guard := none } : Oper)) rfl (fun KK hK => ?_) AllReadyH.nil
  rw [if_pos (by rfl)]
  obtain ⟨z3_6, k3_6, f3_6⟩ := o3_6 _ hHeld12
  obtain ⟨z3_7, k3_7, f3_7⟩ := o3_7 _ hHeld12
  obtain ⟨z3_8, k3_8, f3_8⟩ := o3_8 _ hHeld12
  have N1 := nx _ hHeld12
  go_simp
  refine hK.out _ _ ?_ (fun hHeldS0 => ?_)
  · exact (s3_8 _ _ (s3_7 _ _ (s3_6 _ _ hHeld12)))
  clear hK KK
  try simp only [Act.put, List.setIfInBounds_toArray, List.set_cons_zero, List.set_cons_succ]
  refine wpAnyH_done (by as_aux_lemma => kernel_rfl) ?_ _
  refine NoPanic.normal ?_
  have HS22 := Lib.hid N1
  clear c1_6 c1_7 c1_8 c6_0 c6_1 c6_2 o3_6 s3_6 o3_7 s3_7 o3_8 s3_8 nx kS hT N1 k3_6 f3_6 k3_7 f3_7 k3_8 f3_8
  obtain ⟨w13, hX, hS⟩ := (HS22.out).named
  rw [← hX]
  clear hX HS22
  have HS23 := Lib.hid hS
  clear hS
  have k3_0 := (HS23.out).at 3 rfl 0 (v := .int .i64 ra.x.toInt) rfl
  have k3_1 := (HS23.out).at 3 rfl 1 (v := .int .i64 ra.y.toInt) rfl
  have k3_2 := (HS23.out).at 3 rfl 2 (v := .int .i64 ra.z.toInt) rfl
  have k3_3 := (HS23.out).at 3 rfl 3 (v := .int .i64 rb.x.toInt) rfl
  have k3_4 := (HS23.out).at 3 rfl 4 (v := .int .i64 rb.y.toInt) rfl
  have k3_5 := (HS23.out).at 3 rfl 5 (v := .int .i64 rb.z.toInt) rfl
  have k3_6 := (HS23.out).at 3 rfl 6 (v := .int .i64 rc.x.toInt) rfl
  have k3_7 := (HS23.out).at 3 rfl 7 (v := .int .i64 rc.y.toInt) rfl
  have k3_8 := (HS23.out).at 3 rfl 8 (v := .int .i64 rc.z.toInt) rfl
  have k2_0 := (HS23.out).at 2 rfl 0 (v := .int .i64 0) rfl
  have k2_1 := (HS23.out).at 2 rfl 1 (v := .int .i64 0) rfl
  have k2_2 := (HS23.out).at 2 rfl 2 (v := .int .i64 0) rfl
  have k2_3 := (HS23.out).at 2 rfl 3 (v := .int .i64 0) rfl
  have k2_4 := (HS23.out).at 2 rfl 4 (v := .int .i64 0) rfl
  have k2_5 := (HS23.out).at 2 rfl 5 (v := .int .i64 0) rfl
  have k2_6 := (HS23.out).at 2 rfl 6 (v := .int .i64 0) rfl
  have k2_7 := (HS23.out).at 2 rfl 7 (v := .int .i64 0) rfl
  have k2_8 := (HS23.out).at 2 rfl 8 (v := .int .i64 0) rfl
  have f3_0 := (HS23.out).free 3 rfl 0 rfl
  have f3_1 := (HS23.out).free 3 rfl 1 rfl
  have f3_2 := (HS23.out).free 3 rfl 2 rfl
  have f3_3 := (HS23.out).free 3 rfl 3 rfl
  have f3_4 := (HS23.out).free 3 rfl 4 rfl
  have f3_5 := (HS23.out).free 3 rfl 5 rfl
  have f3_6 := (HS23.out).free 3 rfl 6 rfl
  have f3_7 := (HS23.out).free 3 rfl 7 rfl
  have f3_8 := (HS23.out).free 3 rfl 8 rfl
  have f2_0 := (HS23.out).free 2 rfl 0 rfl
  have f2_1 := (HS23.out).free 2 rfl 1 rfl
  have f2_2 := (HS23.out).free 2 rfl 2 rfl
  have f2_3 := (HS23.out).free 2 rfl 3 rfl
  have f2_4 := (HS23.out).free 2 rfl 4 rfl
  have f2_5 := (HS23.out).free 2 rfl 5 rfl
  have f2_6 := (HS23.out).free 2 rfl 6 rfl
  have f2_7 := (HS23.out).free 2 rfl 7 rfl
  have f2_8 := (HS23.out).free 2 rfl 8 rfl
  go_wp2_with fail
  rw [rounds_succ]
  have BH := Lib.hid HS23.out.below
  clear HS23
  go_wp2_with fail
  refine bodyPost_ret (v := mv ⟨ra, rb, rc⟩) (by simp [results, Try.results18, go_sem, *]) rfl ⟨rfl, ?_⟩
  iterate 9 refine Below.setCell (p := ⟨w.heap.size + 1 + 1, _, none⟩) ?_ (show w.heap.size ≤ w.heap.size + 1 + 1 by omega) _
  exact BH.out
set_option maxHeartbeats 8000000 in
set_option maxRecDepth 100000 in
theorem Solve_flat (m : M3) (v : V3) (w : World) (h : m.det = 0) :
    Calls Try.prog 13 #[mv m, vv v] w fun e w' => e = .returned (.tuple #[vv V3.zero, .int .i64 0, .int .i64 7]) ∧ Below w.heap.size w w' := by
  have DE := Lib.hid fun w => Det_any m w
  have d0 := det_zero m.det
  rw [decide_eq_true h] at d0
  have hS1 := (((Sp.none w).more [.int .i64 m.a.x.toInt, .int .i64 m.a.y.toInt, .int .i64 m.a.z.toInt, .int .i64 m.b.x.toInt, .int .i64 m.b.y.toInt, .int .i64 m.b.z.toInt, .int .i64 m.c.x.toInt, .int .i64 m.c.y.toInt, .int .i64 m.c.z.toInt] 25).more [.int .i64 v.x.toInt, .int .i64 v.y.toInt, .int .i64 v.z.toInt] 23).more [.int .i64 0, .int .i64 0, .int .i64 0] 23
  simp only [heap1] at hS1
  have HS1 := Lib.hid hS1
  clear hS1
  clear h
  generalize m.det.toInt = d at *
  rw [show vv V3.zero = .agg #[.int .i64 0, .int .i64 0, .int .i64 0] by simp [V3.zero]]
  go_enter Try.func13, Try.ntmps13
  go_wp2_with fail
  refine (DE.out _).mono ?_; rintro e w1 ⟨rfl, hb1⟩
  have hS2 := (HS1.out).keep hb1
  have HS2 := Lib.hid hS2
  clear hS2 HS1
  clear hb1
  have k2_0 := (HS2.out).at 2 rfl 0 (v := .int .i64 0) rfl
  have k2_1 := (HS2.out).at 2 rfl 1 (v := .int .i64 0) rfl
  have k2_2 := (HS2.out).at 2 rfl 2 (v := .int .i64 0) rfl
  have f2_0 := (HS2.out).free 2 rfl 0 rfl
  have f2_1 := (HS2.out).free 2 rfl 1 rfl
  have f2_2 := (HS2.out).free 2 rfl 2 rfl
  have BH := Lib.hid HS2.out.below
  clear HS2
  go_wp2_with fail
  refine bodyPost_ret (v := .tuple #[.agg #[.int .i64 0, .int .i64 0, .int .i64 0], .int .i64 0, .int .i64 7]) (by simp [results, Try.results13, go_sem, *]) rfl ⟨rfl, ?_⟩
  iterate 3 refine Below.setCell (p := ⟨w.heap.size + 1 + 1, _, none⟩) ?_ (show w.heap.size ≤ w.heap.size + 1 + 1 by omega) _
  exact BH.out
/-- The operations of a drawn region, as the translation has them. -/
def osolve : Array Oper := #[
  { dst := some 13, op := .load 25 (.tmp 2), type := 25, pos := "mat.go:76", after := #[], guard := none },
  { dst := some 14, op := .call { callee := .value (.func 12), args := #[.tmp 13], argTypes := #[25] }, type := 25, pos := "mat.go:76", after := #[{ on := 0, ground := .data }], guard := none },
  { dst := some 15, op := .load 23 (.tmp 3), type := 23, pos := "mat.go:76", after := #[], guard := none },
  { dst := some 16, op := .call { callee := .value (.func 15), args := #[.tmp 14, .tmp 15], argTypes := #[25, 23] }, type := 23, pos := "mat.go:76", after := #[{ on := 1, ground := .data }, { on := 2, ground := .data }, { on := 1, ground := .chain }], guard := none },
  { dst := some 17, op := .move (.tmp 7), type := 2, pos := "mat.go:76", after := #[{ on := 5, ground := .gcOnly Go.Departure.lateStores }], guard := none },
  { dst := none, op := .store 23 (.tmp 4) (.tmp 16), type := 0, pos := "mat.go:76", after := #[{ on := 3, ground := .data }, { on := 3, ground := .chain }, { on := 0, ground := .phase }, { on := 1, ground := .phase }, { on := 2, ground := .phase }, { on := 3, ground := .phase }, { on := 4, ground := .textOnly Go.Departure.lateStores }], guard := none },
  { dst := some 5, op := .assign (.tmp 17), type := 2, pos := "mat.go:76", after := #[{ on := 4, ground := .data }, { on := 5, ground := .chain }, { on := 0, ground := .phase }, { on := 1, ground := .phase }, { on := 2, ground := .phase }, { on := 3, ground := .phase }, { on := 4, ground := .phase }, { on := 5, ground := .phase }], guard := none },
  { dst := some 6, op := .assign (.const (.int .i64 0)), type := 30, pos := "mat.go:76", after := #[{ on := 6, ground := .chain }, { on := 0, ground := .phase }, { on := 1, ground := .phase }, { on := 2, ground := .phase }, { on := 3, ground := .phase }, { on := 4, ground := .phase }, { on := 5, ground := .phase }, { on := 6, ground := .phase }], guard := none }]
theorem osolve_plain : Region.noSelect osolve = true := by kernel_rfl

set_option maxHeartbeats 8000000 in
set_option maxRecDepth 100000 in
theorem Solve_firm (m : M3) (v : V3) (w : World) (h : m.det ≠ 0) :
    Calls Try.prog 13 #[mv m, vv v] w fun e w' => e = .returned (.tuple #[vv (m.adj.times v), .int .i64 m.det.toInt, .int .i64 0]) ∧ Below w.heap.size w w' := by
  have DE := Lib.hid fun w => Det_any m w
  have d0 := det_zero m.det
  rw [decide_eq_false h] at d0
  have AD := Lib.hid fun w => Adj_any m w; have TI := Lib.hid fun w => Times_any m.adj v w
  have hS1 := (((Sp.none w).more [.int .i64 m.a.x.toInt, .int .i64 m.a.y.toInt, .int .i64 m.a.z.toInt, .int .i64 m.b.x.toInt, .int .i64 m.b.y.toInt, .int .i64 m.b.z.toInt, .int .i64 m.c.x.toInt, .int .i64 m.c.y.toInt, .int .i64 m.c.z.toInt] 25).more [.int .i64 v.x.toInt, .int .i64 v.y.toInt, .int .i64 v.z.toInt] 23).more [.int .i64 0, .int .i64 0, .int .i64 0] 23
  simp only [heap1] at hS1
  have HS1 := Lib.hid hS1
  clear hS1
  clear h
  generalize m.det.toInt = d at *
  generalize m.adj.times v = r at *; generalize m.adj = a at *
  go_enter Try.func13, Try.ntmps13
  go_wp2_with fail
  refine (DE.out _).mono ?_; rintro e w1 ⟨rfl, hb1⟩
  have hS2 := (HS1.out).keep hb1
  have HS2 := Lib.hid hS2
  clear hS2 HS1
  clear hb1
  go_upto_region 4 with fail
  have hS3 := (HS2.out).forget 2 rfl 0
  have HS3 := Lib.hid hS3
  clear hS3 HS2
  have hS4 := (HS3.out).forget 2 rfl 1
  have HS4 := Lib.hid hS4
  clear hS4 HS3
  have hS5 := (HS4.out).forget 2 rfl 2
  have HS5 := Lib.hid hS5
  clear hS5 HS4
  obtain ⟨bs1, hbs⟩ : ∃ bs : List (Nat × List (Option Value)), bs = [(w.heap.size, [some (.int .i64 m.a.x.toInt), some (.int .i64 m.a.y.toInt), some (.int .i64 m.a.z.toInt), some (.int .i64 m.b.x.toInt), some (.int .i64 m.b.y.toInt), some (.int .i64 m.b.z.toInt), some (.int .i64 m.c.x.toInt), some (.int .i64 m.c.y.toInt), some (.int .i64 m.c.z.toInt)]), (w.heap.size + 1, [some (.int .i64 v.x.toInt), some (.int .i64 v.y.toInt), some (.int .i64 v.z.toInt)]), (w.heap.size + 1 + 1, [none, none, none])] := ⟨_, rfl⟩
  have hT := (HS5.out).cast hbs
  have c0_0 : ∀ w', Sp w bs1 w' → w'.cell? ⟨w.heap.size, 0, none⟩ = some (.int .i64 m.a.x.toInt) := by rw [hbs]; exact fun w' h => h.at 0 rfl 0 rfl
  have c0_1 : ∀ w', Sp w bs1 w' → w'.cell? ⟨w.heap.size, 1, none⟩ = some (.int .i64 m.a.y.toInt) := by rw [hbs]; exact fun w' h => h.at 0 rfl 1 rfl
  have c0_2 : ∀ w', Sp w bs1 w' → w'.cell? ⟨w.heap.size, 2, none⟩ = some (.int .i64 m.a.z.toInt) := by rw [hbs]; exact fun w' h => h.at 0 rfl 2 rfl
  have c0_3 : ∀ w', Sp w bs1 w' → w'.cell? ⟨w.heap.size, 3, none⟩ = some (.int .i64 m.b.x.toInt) := by rw [hbs]; exact fun w' h => h.at 0 rfl 3 rfl
  have c0_4 : ∀ w', Sp w bs1 w' → w'.cell? ⟨w.heap.size, 4, none⟩ = some (.int .i64 m.b.y.toInt) := by rw [hbs]; exact fun w' h => h.at 0 rfl 4 rfl
  have c0_5 : ∀ w', Sp w bs1 w' → w'.cell? ⟨w.heap.size, 5, none⟩ = some (.int .i64 m.b.z.toInt) := by rw [hbs]; exact fun w' h => h.at 0 rfl 5 rfl
  have c0_6 : ∀ w', Sp w bs1 w' → w'.cell? ⟨w.heap.size, 6, none⟩ = some (.int .i64 m.c.x.toInt) := by rw [hbs]; exact fun w' h => h.at 0 rfl 6 rfl
  have c0_7 : ∀ w', Sp w bs1 w' → w'.cell? ⟨w.heap.size, 7, none⟩ = some (.int .i64 m.c.y.toInt) := by rw [hbs]; exact fun w' h => h.at 0 rfl 7 rfl
  have c0_8 : ∀ w', Sp w bs1 w' → w'.cell? ⟨w.heap.size, 8, none⟩ = some (.int .i64 m.c.z.toInt) := by rw [hbs]; exact fun w' h => h.at 0 rfl 8 rfl
  have c1_0 : ∀ w', Sp w bs1 w' → w'.cell? ⟨w.heap.size + 1, 0, none⟩ = some (.int .i64 v.x.toInt) := by rw [hbs]; exact fun w' h => h.at 1 rfl 0 rfl
  have c1_1 : ∀ w', Sp w bs1 w' → w'.cell? ⟨w.heap.size + 1, 1, none⟩ = some (.int .i64 v.y.toInt) := by rw [hbs]; exact fun w' h => h.at 1 rfl 1 rfl
  have c1_2 : ∀ w', Sp w bs1 w' → w'.cell? ⟨w.heap.size + 1, 2, none⟩ = some (.int .i64 v.z.toInt) := by rw [hbs]; exact fun w' h => h.at 1 rfl 2 rfl
  have o2_0 : ∀ w', Sp w bs1 w' → ∃ z, w'.cell? ⟨w.heap.size + 1 + 1, 0, none⟩ = some z ∧ w'.frozen? ⟨w.heap.size + 1 + 1, 0, none⟩ = false := by rw [hbs]; exact fun w' h => h.there 2 rfl 0 rfl
  have s2_0 : ∀ w' z, Sp w bs1 w' → Sp w bs1 (w'.setCell ⟨w.heap.size + 1 + 1, 0, none⟩ z) := by rw [hbs]; exact fun w' z h => h.hit 2 rfl 0 rfl z
  have o2_1 : ∀ w', Sp w bs1 w' → ∃ z, w'.cell? ⟨w.heap.size + 1 + 1, 1, none⟩ = some z ∧ w'.frozen? ⟨w.heap.size + 1 + 1, 1, none⟩ = false := by rw [hbs]; exact fun w' h => h.there 2 rfl 1 rfl
  have s2_1 : ∀ w' z, Sp w bs1 w' → Sp w bs1 (w'.setCell ⟨w.heap.size + 1 + 1, 1, none⟩ z) := by rw [hbs]; exact fun w' z h => h.hit 2 rfl 1 rfl z
  have o2_2 : ∀ w', Sp w bs1 w' → ∃ z, w'.cell? ⟨w.heap.size + 1 + 1, 2, none⟩ = some z ∧ w'.frozen? ⟨w.heap.size + 1 + 1, 2, none⟩ = false := by rw [hbs]; exact fun w' h => h.there 2 rfl 2 rfl
  have s2_2 : ∀ w' z, Sp w bs1 w' → Sp w bs1 (w'.setCell ⟨w.heap.size + 1 + 1, 2, none⟩ z) := by rw [hbs]; exact fun w' z h => h.hit 2 rfl 2 rfl z
  have nx : ∀ w', Sp w bs1 w' → Sp w [(w.heap.size, [some (.int .i64 m.a.x.toInt), some (.int .i64 m.a.y.toInt), some (.int .i64 m.a.z.toInt), some (.int .i64 m.b.x.toInt), some (.int .i64 m.b.y.toInt), some (.int .i64 m.b.z.toInt), some (.int .i64 m.c.x.toInt), some (.int .i64 m.c.y.toInt), some (.int .i64 m.c.z.toInt)]), (w.heap.size + 1, [some (.int .i64 v.x.toInt), some (.int .i64 v.y.toInt), some (.int .i64 v.z.toInt)]), (w.heap.size + 1 + 1, [some (.int .i64 r.x.toInt), some (.int .i64 r.y.toInt), some (.int .i64 r.z.toInt)])] (((w'.setCell ⟨w.heap.size + 1 + 1, 0, none⟩ (.int .i64 r.x.toInt)).setCell ⟨w.heap.size + 1 + 1, 1, none⟩ (.int .i64 r.y.toInt)).setCell ⟨w.heap.size + 1 + 1, 2, none⟩ (.int .i64 r.z.toInt)) := by rw [hbs]; exact fun w' h => (((h.put 2 rfl 0 _).put 2 rfl 1 _).put 2 rfl 2 _)
  have kS : ∀ w1 w2, Sp w bs1 w1 → Below w1.heap.size w1 w2 → Sp w bs1 w2 := fun _ _ h hb => h.keep hb
  clear hbs HS5
  change (Code.region 4 osolve true).wp Try.prog _ _ _
  refine wp_region_noPanic ?_
  refine wp_region_held_drew (S := (Sp w bs1)) (by kernel_rfl) (hT.drew) (fun hHeld => ?_)
  refine wpAnyH_take (i := 0) (oi := ({ dst := some 13, op := .load 25 (.tmp 2), type := 25, pos := "mat.go:76", after := #[], guard := none } : Oper)) (v := ?vs6_0) rfl osolve_plain (by as_aux_lemma => kernel_rfl) (by as_aux_lemma => kernel_rfl) (fun _ _ _ h => h) (Or.inl ⟨by rfl, ?ys6_0⟩) (by assumption) ?rs6_0
  case ys6_0 => (intro w hSw; (try dsimp only at hSw); go_simp; try with_reducible rfl)
  try simp only [Act.put, List.setIfInBounds_toArray, List.set_cons_zero, List.set_cons_succ]
  refine wpAnyH_take (i := 2) (oi := ({ dst := some 15, op := .load 23 (.tmp 3), type := 23, pos := "mat.go:76", after := #[], guard := none } : Oper)) (v := ?vs6_2) rfl osolve_plain (by as_aux_lemma => kernel_rfl) (by as_aux_lemma => kernel_rfl) (fun _ _ _ h => h) (Or.inl ⟨by rfl, ?ys6_2⟩) (by assumption) ?rs6_2
  case ys6_2 => (intro w hSw; (try dsimp only at hSw); go_simp; try with_reducible rfl)
  try simp only [Act.put, List.setIfInBounds_toArray, List.set_cons_zero, List.set_cons_succ]
  refine wpAnyH_take (i := 4) (oi := ({ dst := some 17, op := .move (.tmp 7), type := 2, pos := "mat.go:76", after := #[{ on := 5, ground := .gcOnly Go.Departure.lateStores }], guard := none } : Oper)) (v := ?vs6_4) rfl osolve_plain (by as_aux_lemma => kernel_rfl) (by as_aux_lemma => kernel_rfl) (fun _ _ _ h => h) (Or.inl ⟨by rfl, ?ys6_4⟩) (by assumption) ?rs6_4
  case ys6_4 => (intro w hSw; (try dsimp only at hSw); go_simp; try with_reducible rfl)
  try simp only [Act.put, List.setIfInBounds_toArray, List.set_cons_zero, List.set_cons_succ]
  refine wpAnyH_ready (rs := [1]) (by as_aux_lemma => kernel_rfl) (by simp) ?_
  refine AllReadyH.cons (o := ({ dst := some 14, op := .call { callee := .value (.func 12), args := #[.tmp 13], argTypes := #[25] }, type := 25, pos := "mat.go:76", after := #[{ on := 0, ground := .data }], guard := none } : Oper)) rfl (fun KK hK => ?_) AllReadyH.nil
  rw [if_pos (by rfl)]
  go_simp
  go_at_call 12; refine (AD.out _).mono ?_; rintro e w2 ⟨rfl, hb2⟩
  go_wp2_with fail
  refine hK.out _ _ ?_ (fun hHeld2 => ?_)
  · exact kS _ _ (by assumption) hb2
  clear hK KK hb2
  try simp only [Act.put, List.setIfInBounds_toArray, List.set_cons_zero, List.set_cons_succ]
  refine wpAnyH_ready (rs := [3]) (by as_aux_lemma => kernel_rfl) (by simp) ?_
  refine AllReadyH.cons (o := ({ dst := some 16, op := .call { callee := .value (.func 15), args := #[.tmp 14, .tmp 15], argTypes := #[25, 23] }, type := 23, pos := "mat.go:76", after := #[{ on := 1, ground := .data }, { on := 2, ground := .data }, { on := 1, ground := .chain }], guard := none } : Oper)) rfl (fun KK hK => ?_) AllReadyH.nil
  rw [if_pos (by rfl)]
  go_simp
  go_at_call 15; refine (TI.out _).mono ?_; rintro e w3 ⟨rfl, hb3⟩
  go_wp2_with fail
  refine hK.out _ _ ?_ (fun hHeld3 => ?_)
  · exact kS _ _ (by assumption) hb3
  clear hK KK hb3 hHeld2
  try simp only [Act.put, List.setIfInBounds_toArray, List.set_cons_zero, List.set_cons_succ]
  refine wpAnyH_ready (rs := [5]) (by as_aux_lemma => kernel_rfl) (by simp) ?_
  refine AllReadyH.cons (o := ({ dst := none, op := .store 23 (.tmp 4) (.tmp 16), type := 0, pos := "mat.go:76", after := #[{ on := 3, ground := .data }, { on := 3, ground := .chain }, { on := 0, ground := .phase }, { on := 1, ground := .phase }, { on := 2, ground := .phase }, { on := 3, ground := .phase }, { on := 4, ground := .textOnly Go.Departure.lateStores }], guard := none } : Oper)) rfl (fun KK hK => ?_) AllReadyH.nil
  rw [if_pos (by rfl)]
  obtain ⟨z2_0, k2_0, f2_0⟩ := o2_0 _ hHeld3
  obtain ⟨z2_1, k2_1, f2_1⟩ := o2_1 _ hHeld3
  obtain ⟨z2_2, k2_2, f2_2⟩ := o2_2 _ hHeld3
  have N1 := nx _ hHeld3
  go_simp
  refine hK.out _ _ ?_ (fun hHeldS0 => ?_)
  · exact (s2_2 _ _ (s2_1 _ _ (s2_0 _ _ hHeld3)))
  clear hK KK
  try simp only [Act.put, List.setIfInBounds_toArray, List.set_cons_zero, List.set_cons_succ]
  refine wpAnyH_take (i := 6) (oi := ({ dst := some 5, op := .assign (.tmp 17), type := 2, pos := "mat.go:76", after := #[{ on := 4, ground := .data }, { on := 5, ground := .chain }, { on := 0, ground := .phase }, { on := 1, ground := .phase }, { on := 2, ground := .phase }, { on := 3, ground := .phase }, { on := 4, ground := .phase }, { on := 5, ground := .phase }], guard := none } : Oper)) (v := ?vs6_6) rfl osolve_plain (by as_aux_lemma => kernel_rfl) (by as_aux_lemma => kernel_rfl) (fun _ _ _ h => h) (Or.inl ⟨by rfl, ?ys6_6⟩) (by assumption) ?rs6_6
  case ys6_6 => (intro w hSw; (try dsimp only at hSw); go_simp; try with_reducible rfl)
  try simp only [Act.put, List.setIfInBounds_toArray, List.set_cons_zero, List.set_cons_succ]
  refine wpAnyH_take (i := 7) (oi := ({ dst := some 6, op := .assign (.const (.int .i64 0)), type := 30, pos := "mat.go:76", after := #[{ on := 6, ground := .chain }, { on := 0, ground := .phase }, { on := 1, ground := .phase }, { on := 2, ground := .phase }, { on := 3, ground := .phase }, { on := 4, ground := .phase }, { on := 5, ground := .phase }, { on := 6, ground := .phase }], guard := none } : Oper)) (v := ?vs6_7) rfl osolve_plain (by as_aux_lemma => kernel_rfl) (by as_aux_lemma => kernel_rfl) (fun _ _ _ h => h) (Or.inl ⟨by rfl, ?ys6_7⟩) (by assumption) ?rs6_7
  case ys6_7 => (intro w hSw; (try dsimp only at hSw); go_simp; try with_reducible rfl)
  try simp only [Act.put, List.setIfInBounds_toArray, List.set_cons_zero, List.set_cons_succ]
  refine wpAnyH_done (by as_aux_lemma => kernel_rfl) ?_ _
  refine NoPanic.normal ?_
  have HS6 := Lib.hid N1
  clear c0_0 c0_1 c0_2 c0_3 c0_4 c0_5 c0_6 c0_7 c0_8 c1_0 c1_1 c1_2 o2_0 s2_0 o2_1 s2_1 o2_2 s2_2 nx kS hT N1 k2_0 f2_0 k2_1 f2_1 k2_2 f2_2
  have r2_0 := (HS6.out).at 2 rfl 0 (v := .int .i64 r.x.toInt) rfl
  have r2_1 := (HS6.out).at 2 rfl 1 (v := .int .i64 r.y.toInt) rfl
  have r2_2 := (HS6.out).at 2 rfl 2 (v := .int .i64 r.z.toInt) rfl
  have BH := Lib.hid HS6.out.below
  clear HS6
  go_wp2_with fail
  exact bodyPost_ret (v := .tuple #[vv r, .int .i64 d, .int .i64 0]) (by simp [results, Try.results13, go_sem, *]) rfl ⟨rfl, BH.out⟩
end Own8
end Go.Proofs.Ytjdpcmcekockgaa
