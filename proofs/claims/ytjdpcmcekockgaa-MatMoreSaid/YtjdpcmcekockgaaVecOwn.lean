/- The landed vec's own Cross, Scale, Det, One, Dot, Add (commit 476a53b): their contracts. -/
import Derived.Test.YtjdpcmcekockgaaVecRef
import Derived.Test.YtjdpcmcekockgaaSt
import Derived.LoopTactic
namespace Go.Proofs.Ytjdpcmcekockgaa
open Go.RowKit
namespace Own7
theorem vec_at (x y z : Int) : (∀ w, (Instr.index 23 (.agg #[.int .i64 x, .int .i64 y, .int .i64 z]) (.int .i64 0)).run Try.prog w = .ok (.int .i64 x) w) ∧ (∀ w, (Instr.index 23 (.agg #[.int .i64 x, .int .i64 y, .int .i64 z]) (.int .i64 1)).run Try.prog w = .ok (.int .i64 y) w) ∧ (∀ w, (Instr.index 23 (.agg #[.int .i64 x, .int .i64 y, .int .i64 z]) (.int .i64 2)).run Try.prog w = .ok (.int .i64 z) w) := ⟨fun _ => by kernel_rfl, fun _ => by kernel_rfl, fun _ => by kernel_rfl⟩
set_option maxHeartbeats 4000000 in
theorem Cross_any (a b : V3) (w : World) :
    Calls Try.prog 39 #[vv a, vv b] w fun e w' => e = .returned (vv (a.cross b)) ∧ Below w.heap.size w w' := by
  have p0 := v_mul a.y b.z; have p1 := v_mul a.z b.y; have p2 := v_mul a.z b.x; have p3 := v_mul a.x b.z; have p4 := v_mul a.x b.y; have p5 := v_mul a.y b.x
  have s0 := v_sub (a.y * b.z) (a.z * b.y); have s1 := v_sub (a.z * b.x) (a.x * b.z); have s2 := v_sub (a.x * b.y) (a.y * b.x)
  unfold V3.cross vv
  simp only
  generalize (a.y * b.z - a.z * b.y).toInt = r0 at *; generalize (a.z * b.x - a.x * b.z).toInt = r1 at *; generalize (a.x * b.y - a.y * b.x).toInt = r2 at *
  generalize (a.y * b.z).toInt = q0 at *; generalize (a.z * b.y).toInt = q1 at *; generalize (a.z * b.x).toInt = q2 at *
  generalize (a.x * b.z).toInt = q3 at *; generalize (a.x * b.y).toInt = q4 at *; generalize (a.y * b.x).toInt = q5 at *
  generalize a.x.toInt = a0 at *; generalize a.y.toInt = a1 at *; generalize a.z.toInt = a2 at *
  generalize b.x.toInt = b0 at *; generalize b.y.toInt = b1 at *; generalize b.z.toInt = b2 at *
  go_enter Try.func39, Try.ntmps39
  go_wp2
  exact bodyPost_ret (v := .agg #[.int .i64 r0, .int .i64 r1, .int .i64 r2]) (by simp [results, Try.results39, go_sem, *]) rfl ⟨rfl, below3 w _ _ _⟩

set_option maxHeartbeats 4000000 in
theorem Scale_any (a : V3) (k : BitVec 64) (w : World) :
    Calls Try.prog 16 #[vv a, .int .i64 k.toInt] w fun e w' => e = .returned (vv (a.scale k)) ∧ Below w.heap.size w w' := by
  have p0 := v_mul a.x k; have p1 := v_mul a.y k; have p2 := v_mul a.z k
  unfold V3.scale vv
  simp only
  generalize (a.x * k).toInt = q0 at *; generalize (a.y * k).toInt = q1 at *; generalize (a.z * k).toInt = q2 at *
  generalize a.x.toInt = a0 at *; generalize a.y.toInt = a1 at *; generalize a.z.toInt = a2 at *
  generalize k.toInt = kk at *
  go_enter Try.func16, Try.ntmps16
  go_wp2
  refine wp_loop_rounds 4 ?_
  iterate 4 (rw [rounds_succ]; go_wp2)
  exact bodyPost_ret (v := .agg #[.int .i64 q0, .int .i64 q1, .int .i64 q2]) (by simp [results, Try.results16, go_sem, *]) rfl ⟨rfl, below2 w _ _⟩

set_option maxHeartbeats 4000000 in
theorem Dot_any (a b : V3) (w : World) :
    Calls Try.prog 40 #[vv a, vv b] w fun e w' => e = .returned (.int .i64 (a.dot b).toInt) ∧ Below w.heap.size w w' := by
  have p0 := v_mul a.x b.x; have p1 := v_mul a.y b.y; have p2 := v_mul a.z b.z
  have s : wrap64 ((a.x * b.x).toInt) = (a.x * b.x).toInt := by
    have := v_rng (a.x * b.x)
    unfold wrap64; omega
  have s0 := v_add (a.x * b.x) (a.y * b.y); have s1 := v_add (a.x * b.x + a.y * b.y) (a.z * b.z)
  unfold V3.dot vv
  generalize (a.x * b.x + a.y * b.y + a.z * b.z).toInt = r1 at *
  generalize (a.x * b.x + a.y * b.y).toInt = r0 at *
  generalize (a.x * b.x).toInt = q0 at *
  generalize (a.y * b.y).toInt = q1 at *
  generalize (a.z * b.z).toInt = q2 at *
  generalize a.x.toInt = a0 at *; generalize a.y.toInt = a1 at *; generalize a.z.toInt = a2 at *
  generalize b.x.toInt = b0 at *; generalize b.y.toInt = b1 at *; generalize b.z.toInt = b2 at *
  obtain ⟨i0, i1, i2⟩ := vec_at a0 a1 a2
  go_enter Try.func40, Try.ntmps40
  go_wp2
  refine wp_loop_rounds 4 ?_
  iterate 4 (rw [rounds_succ]; go_wp2)
  go_ret
  refine ⟨?_, below2 w _ _⟩
  simp [s0, s1]

set_option maxHeartbeats 4000000 in
theorem Add_any (a b : V3) (w : World) :
    Calls Try.prog 20 #[vv a, vv b] w fun e w' => e = .returned (vv (a.add b)) ∧ Below w.heap.size w w' := by
  have p0 := v_add a.x b.x; have p1 := v_add a.y b.y; have p2 := v_add a.z b.z
  unfold V3.add vv
  simp only
  generalize (a.x + b.x).toInt = q0 at *; generalize (a.y + b.y).toInt = q1 at *; generalize (a.z + b.z).toInt = q2 at *
  generalize a.x.toInt = a0 at *; generalize a.y.toInt = a1 at *; generalize a.z.toInt = a2 at *
  generalize b.x.toInt = b0 at *; generalize b.y.toInt = b1 at *; generalize b.z.toInt = b2 at *
  obtain ⟨i0, i1, i2⟩ := vec_at b0 b1 b2
  go_enter Try.func20, Try.ntmps20
  go_wp2
  refine wp_loop_rounds 4 ?_
  iterate 4 (rw [rounds_succ]; go_wp2)
  exact bodyPost_ret (v := .agg #[.int .i64 q0, .int .i64 q1, .int .i64 q2]) (by simp [results, Try.results20, go_sem, *]) rfl ⟨rfl, below3 w _ _ _⟩

/-- The operations of a drawn region, as the translation has them. -/
def odet1 : Array Oper := #[
  { dst := some 7, op := .load 23 (.tmp 3), type := 23, pos := "vec.go:32", after := #[], guard := none },
  { dst := some 8, op := .load 23 (.tmp 4), type := 23, pos := "vec.go:32", after := #[], guard := none },
  { dst := some 9, op := .load 23 (.tmp 5), type := 23, pos := "vec.go:32", after := #[], guard := none },
  { dst := some 10, op := .call { callee := .value (.func 39), args := #[.tmp 8, .tmp 9], argTypes := #[23, 23] }, type := 23, pos := "vec.go:32", after := #[{ on := 1, ground := .data }, { on := 2, ground := .data }], guard := none },
  { dst := some 11, op := .call { callee := .value (.func 40), args := #[.tmp 7, .tmp 10], argTypes := #[23, 23] }, type := 2, pos := "vec.go:32", after := #[{ on := 0, ground := .data }, { on := 3, ground := .data }, { on := 3, ground := .chain }], guard := none },
  { dst := some 6, op := .assign (.tmp 11), type := 2, pos := "vec.go:32", after := #[{ on := 4, ground := .data }, { on := 4, ground := .chain }, { on := 0, ground := .phase }, { on := 1, ground := .phase }, { on := 2, ground := .phase }, { on := 3, ground := .phase }, { on := 4, ground := .phase }], guard := none }]
theorem odet1_plain : Region.noSelect odet1 = true := by kernel_rfl

set_option maxHeartbeats 4000000 in
theorem Det_any (a b c : V3) (w : World) :
    Calls Try.prog 38 #[vv a, vv b, vv c] w fun e w' => e = .returned (.int .i64 (a.dot (b.cross c)).toInt) ∧ Below w.heap.size w w' := by
  have CR := Lib.hid (Cross_any b c)
  have DO := Lib.hid (Dot_any a (b.cross c))
  obtain ⟨W0, hW0⟩ : ∃ W0, W0 = ((w.alloc (.cells #[.int .i64 a.x.toInt, .int .i64 a.y.toInt, .int .i64 a.z.toInt] 23)).alloc (.cells #[.int .i64 b.x.toInt, .int .i64 b.y.toInt, .int .i64 b.z.toInt] 23)).alloc (.cells #[.int .i64 c.x.toInt, .int .i64 c.y.toInt, .int .i64 c.z.toInt] 23) := ⟨_, rfl⟩
  have D3 := below3 w (.cells #[.int .i64 a.x.toInt, .int .i64 a.y.toInt, .int .i64 a.z.toInt] 23) (.cells #[.int .i64 b.x.toInt, .int .i64 b.y.toInt, .int .i64 b.z.toInt] 23) (.cells #[.int .i64 c.x.toInt, .int .i64 c.y.toInt, .int .i64 c.z.toInt] 23)
  have HA : Has3 (((w.alloc (.cells #[.int .i64 a.x.toInt, .int .i64 a.y.toInt, .int .i64 a.z.toInt] 23)).alloc (.cells #[.int .i64 b.x.toInt, .int .i64 b.y.toInt, .int .i64 b.z.toInt] 23)).alloc (.cells #[.int .i64 c.x.toInt, .int .i64 c.y.toInt, .int .i64 c.z.toInt] 23)) w.heap.size (.int .i64 a.x.toInt) (.int .i64 a.y.toInt) (.int .i64 a.z.toInt) := ((has3 w _ _ _ _).more _).more _
  have HB : Has3 (((w.alloc (.cells #[.int .i64 a.x.toInt, .int .i64 a.y.toInt, .int .i64 a.z.toInt] 23)).alloc (.cells #[.int .i64 b.x.toInt, .int .i64 b.y.toInt, .int .i64 b.z.toInt] 23)).alloc (.cells #[.int .i64 c.x.toInt, .int .i64 c.y.toInt, .int .i64 c.z.toInt] 23)) (w.heap.size + 1) (.int .i64 b.x.toInt) (.int .i64 b.y.toInt) (.int .i64 b.z.toInt) := (has3b w _ _ _ _ _).more _
  have HC : Has3 (((w.alloc (.cells #[.int .i64 a.x.toInt, .int .i64 a.y.toInt, .int .i64 a.z.toInt] 23)).alloc (.cells #[.int .i64 b.x.toInt, .int .i64 b.y.toInt, .int .i64 b.z.toInt] 23)).alloc (.cells #[.int .i64 c.x.toInt, .int .i64 c.y.toInt, .int .i64 c.z.toInt] 23)) (w.heap.size + 1 + 1) (.int .i64 c.x.toInt) (.int .i64 c.y.toInt) (.int .i64 c.z.toInt) := has3c w _ _ _ _ _ _
  rw [← hW0] at D3 HA HB HC
  have HW := Lib.hid hW0
  clear hW0
  generalize (a.dot (b.cross c)).toInt = r at *
  generalize b.cross c = x at *
  go_enter Try.func38, Try.ntmps38
  go_upto_region 1 with fail
  rw [← HW.out]
  have a0 : ∀ w', Below W0.heap.size W0 w' → w'.cell? ⟨w.heap.size, 0, none⟩ = some (.int .i64 a.x.toInt) := fun w' h => (HA.keep h).c0
  have a1 : ∀ w', Below W0.heap.size W0 w' → w'.cell? ⟨w.heap.size, 1, none⟩ = some (.int .i64 a.y.toInt) := fun w' h => (HA.keep h).c1
  have a2 : ∀ w', Below W0.heap.size W0 w' → w'.cell? ⟨w.heap.size, 2, none⟩ = some (.int .i64 a.z.toInt) := fun w' h => (HA.keep h).c2
  have b0 : ∀ w', Below W0.heap.size W0 w' → w'.cell? ⟨w.heap.size + 1, 0, none⟩ = some (.int .i64 b.x.toInt) := fun w' h => (HB.keep h).c0
  have b1 : ∀ w', Below W0.heap.size W0 w' → w'.cell? ⟨w.heap.size + 1, 1, none⟩ = some (.int .i64 b.y.toInt) := fun w' h => (HB.keep h).c1
  have b2 : ∀ w', Below W0.heap.size W0 w' → w'.cell? ⟨w.heap.size + 1, 2, none⟩ = some (.int .i64 b.z.toInt) := fun w' h => (HB.keep h).c2
  have c0 : ∀ w', Below W0.heap.size W0 w' → w'.cell? ⟨w.heap.size + 1 + 1, 0, none⟩ = some (.int .i64 c.x.toInt) := fun w' h => (HC.keep h).c0
  have c1 : ∀ w', Below W0.heap.size W0 w' → w'.cell? ⟨w.heap.size + 1 + 1, 1, none⟩ = some (.int .i64 c.y.toInt) := fun w' h => (HC.keep h).c1
  have c2 : ∀ w', Below W0.heap.size W0 w' → w'.cell? ⟨w.heap.size + 1 + 1, 2, none⟩ = some (.int .i64 c.z.toInt) := fun w' h => (HC.keep h).c2
  clear HA HB HC HW
  change (Code.region 1 odet1 true).wp Try.prog _ _ _
  refine wp_region_noPanic ?_
  refine wp_region_held_drew (S := fun w' => Below W0.heap.size W0 w') (by kernel_rfl) ((Below.refl _ _).drew) (fun hHeld => ?_)
  refine wpAnyH_take (i := 0) (oi := ({ dst := some 7, op := .load 23 (.tmp 3), type := 23, pos := "vec.go:32", after := #[], guard := none } : Oper)) (v := ?vs3_0) rfl odet1_plain (by as_aux_lemma => kernel_rfl) (by as_aux_lemma => kernel_rfl) (fun _ _ _ h => h) (Or.inl ⟨by rfl, ?ys3_0⟩) (by assumption) ?rs3_0
  case ys3_0 => (intro w hSw; (try dsimp only at hSw); go_simp; try with_reducible rfl)
  try simp only [Act.put, List.setIfInBounds_toArray, List.set_cons_zero, List.set_cons_succ]
  refine wpAnyH_take (i := 1) (oi := ({ dst := some 8, op := .load 23 (.tmp 4), type := 23, pos := "vec.go:32", after := #[], guard := none } : Oper)) (v := ?vs3_1) rfl odet1_plain (by as_aux_lemma => kernel_rfl) (by as_aux_lemma => kernel_rfl) (fun _ _ _ h => h) (Or.inl ⟨by rfl, ?ys3_1⟩) (by assumption) ?rs3_1
  case ys3_1 => (intro w hSw; (try dsimp only at hSw); go_simp; try with_reducible rfl)
  try simp only [Act.put, List.setIfInBounds_toArray, List.set_cons_zero, List.set_cons_succ]
  refine wpAnyH_take (i := 2) (oi := ({ dst := some 9, op := .load 23 (.tmp 5), type := 23, pos := "vec.go:32", after := #[], guard := none } : Oper)) (v := ?vs3_2) rfl odet1_plain (by as_aux_lemma => kernel_rfl) (by as_aux_lemma => kernel_rfl) (fun _ _ _ h => h) (Or.inl ⟨by rfl, ?ys3_2⟩) (by assumption) ?rs3_2
  case ys3_2 => (intro w hSw; (try dsimp only at hSw); go_simp; try with_reducible rfl)
  try simp only [Act.put, List.setIfInBounds_toArray, List.set_cons_zero, List.set_cons_succ]
  refine wpAnyH_ready (rs := [3]) (by as_aux_lemma => kernel_rfl) (by simp) ?_
  refine AllReadyH.cons (o := ({ dst := some 10, op := .call { callee := .value (.func 39), args := #[.tmp 8, .tmp 9], argTypes := #[23, 23] }, type := 23, pos := "vec.go:32", after := #[{ on := 1, ground := .data }, { on := 2, ground := .data }], guard := none } : Oper)) rfl (fun KK hK => ?_) AllReadyH.nil
  rw [if_pos (by rfl)]
  go_simp
  go_at_call 39; refine (CR.out _).mono ?_; rintro e w1 ⟨rfl, hb1⟩
  go_wp2_with fail
  refine hK.out _ _ ?_ (fun hHeld1 => ?_)
  · exact belowT (by assumption) hb1
  clear hK KK hb1
  try simp only [Act.put, List.setIfInBounds_toArray, List.set_cons_zero, List.set_cons_succ]
  refine wpAnyH_ready (rs := [4]) (by as_aux_lemma => kernel_rfl) (by simp) ?_
  refine AllReadyH.cons (o := ({ dst := some 11, op := .call { callee := .value (.func 40), args := #[.tmp 7, .tmp 10], argTypes := #[23, 23] }, type := 2, pos := "vec.go:32", after := #[{ on := 0, ground := .data }, { on := 3, ground := .data }, { on := 3, ground := .chain }], guard := none } : Oper)) rfl (fun KK hK => ?_) AllReadyH.nil
  rw [if_pos (by rfl)]
  go_simp
  go_at_call 40; refine (DO.out _).mono ?_; rintro e w2 ⟨rfl, hb2⟩
  go_wp2_with fail
  refine hK.out _ _ ?_ (fun hHeld2 => ?_)
  · exact belowT (by assumption) hb2
  clear hK KK hb2 hHeld1
  try simp only [Act.put, List.setIfInBounds_toArray, List.set_cons_zero, List.set_cons_succ]
  refine wpAnyH_take (i := 5) (oi := ({ dst := some 6, op := .assign (.tmp 11), type := 2, pos := "vec.go:32", after := #[{ on := 4, ground := .data }, { on := 4, ground := .chain }, { on := 0, ground := .phase }, { on := 1, ground := .phase }, { on := 2, ground := .phase }, { on := 3, ground := .phase }, { on := 4, ground := .phase }], guard := none } : Oper)) (v := ?vs3_5) rfl odet1_plain (by as_aux_lemma => kernel_rfl) (by as_aux_lemma => kernel_rfl) (fun _ _ _ h => h) (Or.inl ⟨by rfl, ?ys3_5⟩) (by assumption) ?rs3_5
  case ys3_5 => (intro w hSw; (try dsimp only at hSw); go_simp; try with_reducible rfl)
  try simp only [Act.put, List.setIfInBounds_toArray, List.set_cons_zero, List.set_cons_succ]
  refine wpAnyH_done (by as_aux_lemma => kernel_rfl) ?_ _
  refine NoPanic.normal ?_
  go_wp2_with fail
  go_ret
  exact ⟨rfl, belowT D3 (by assumption)⟩

set_option maxHeartbeats 4000000 in
theorem One_any (i : Int) (w : World) :
    Calls Try.prog 42 #[.int .i64 i] w fun e w' => e = .returned (vv (V3.one i)) ∧ Below w.heap.size w w' := by
  by_cases h0 : i = 0
  · subst h0
    go_enter Try.func42, Try.ntmps42
    go_wp2
    exact bodyPost_ret (v := .agg #[.int .i64 1, .int .i64 0, .int .i64 0]) (by simp [results, Try.results42, go_sem]) rfl ⟨rfl, below2 w _ _⟩
  by_cases h1 : i = 1
  · subst h1
    go_enter Try.func42, Try.ntmps42
    go_wp2
    exact bodyPost_ret (v := .agg #[.int .i64 0, .int .i64 1, .int .i64 0]) (by simp [results, Try.results42, go_sem]) rfl ⟨rfl, below2 w _ _⟩
  by_cases h2 : i = 2
  · subst h2
    go_enter Try.func42, Try.ntmps42
    go_wp2
    exact bodyPost_ret (v := .agg #[.int .i64 0, .int .i64 0, .int .i64 1]) (by simp [results, Try.results42, go_sem]) rfl ⟨rfl, below2 w _ _⟩
  have e : V3.one i = ⟨0, 0, 0⟩ := by unfold V3.one; rw [if_neg h0, if_neg h1, if_neg h2]
  rw [e]
  by_cases hn : 0 ≤ i
  · have d : decide (i < 3) = false := decide_eq_false (by omega)
    go_enter Try.func42, Try.ntmps42
    go_wp2
    exact bodyPost_ret (v := .agg #[.int .i64 0, .int .i64 0, .int .i64 0]) (by simp [results, Try.results42, go_sem]) rfl ⟨rfl, below2 w _ _⟩
  · have d : decide (0 ≤ i) = false := decide_eq_false hn
    go_enter Try.func42, Try.ntmps42
    go_wp2
    exact bodyPost_ret (v := .agg #[.int .i64 0, .int .i64 0, .int .i64 0]) (by simp [results, Try.results42, go_sem]) rfl ⟨rfl, below2 w _ _⟩
end Own7
end Go.Proofs.Ytjdpcmcekockgaa
