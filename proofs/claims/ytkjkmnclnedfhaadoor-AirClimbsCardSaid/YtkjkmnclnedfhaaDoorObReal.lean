/- Layer 29's law: a tick of what is (Real), over the contracts of what it calls. -/
import Derived.Test.YtkjkmnclnedfhaaDoorObTick
import Derived.BigRegion
namespace Go.Proofs.YtkjkmnclnedfhaaDoor
open Go.RowKit Obs

/-- The operations of a drawn region, as the translation has them. -/
def oreal1 : Array Oper := #[
  { dst := some 15, op := .move (.tmp 2), type := 2, pos := "law.go:49", after := #[], guard := none },
  { dst := some 16, op := .fieldAddr 39 (.tmp 6) 0, type := 0, pos := "law.go:49", after := #[], guard := none },
  { dst := some 17, op := .load 2 (.tmp 16), type := 2, pos := "law.go:49", after := #[{ on := 1, ground := .data }], guard := none },
  { dst := some 18, op := .fieldAddr 25 (.tmp 5) 4, type := 0, pos := "law.go:49", after := #[], guard := none },
  { dst := some 19, op := .load 2 (.tmp 18), type := 2, pos := "law.go:49", after := #[{ on := 3, ground := .data }], guard := none },
  { dst := some 20, op := .call { callee := .value (.func 6), args := #[.tmp 17, .tmp 19], argTypes := #[2, 2] }, type := 2, pos := "law.go:49", after := #[{ on := 2, ground := .data }, { on := 4, ground := .data }], guard := none },
  { dst := some 21, op := .binOp .add 2 (.tmp 15) (.tmp 20) 2, type := 2, pos := "law.go:49", after := #[{ on := 0, ground := .data }, { on := 5, ground := .data }], guard := none },
  { dst := some 22, op := .fieldAddr 25 (.tmp 5) 5, type := 0, pos := "law.go:49", after := #[], guard := none },
  { dst := some 23, op := .load 2 (.tmp 22), type := 2, pos := "law.go:49", after := #[{ on := 7, ground := .data }], guard := none },
  { dst := some 24, op := .unOp .neg 2 (.tmp 23), type := 2, pos := "law.go:49", after := #[{ on := 8, ground := .data }], guard := none },
  { dst := some 25, op := .fieldAddr 25 (.tmp 5) 5, type := 0, pos := "law.go:49", after := #[], guard := none },
  { dst := some 26, op := .load 2 (.tmp 25), type := 2, pos := "law.go:49", after := #[{ on := 10, ground := .data }], guard := none },
  { dst := some 27, op := .call { callee := .value (.func 22), args := #[.tmp 21, .tmp 24, .tmp 26], argTypes := #[2, 2, 2] }, type := 2, pos := "law.go:49", after := #[{ on := 6, ground := .data }, { on := 9, ground := .data }, { on := 11, ground := .data }, { on := 5, ground := .chain }], guard := none },
  { dst := some 2, op := .assign (.tmp 27), type := 2, pos := "law.go:49", after := #[{ on := 12, ground := .data }, { on := 12, ground := .chain }, { on := 0, ground := .phase }, { on := 1, ground := .phase }, { on := 2, ground := .phase }, { on := 3, ground := .phase }, { on := 4, ground := .phase }, { on := 5, ground := .phase }, { on := 6, ground := .phase }, { on := 7, ground := .phase }, { on := 8, ground := .phase }, { on := 9, ground := .phase }, { on := 10, ground := .phase }, { on := 11, ground := .phase }, { on := 12, ground := .phase }], guard := none }]
theorem oreal1_plain : Region.noSelect oreal1 = true := by kernel_rfl

/-- The operations of a drawn region, as the translation has them. -/
def oreal2 : Array Oper := #[
  { dst := some 28, op := .move (.tmp 3), type := 2, pos := "law.go:50", after := #[], guard := none },
  { dst := some 29, op := .fieldAddr 39 (.tmp 6) 1, type := 0, pos := "law.go:50", after := #[], guard := none },
  { dst := some 30, op := .load 2 (.tmp 29), type := 2, pos := "law.go:50", after := #[{ on := 1, ground := .data }], guard := none },
  { dst := some 31, op := .fieldAddr 25 (.tmp 5) 3, type := 0, pos := "law.go:50", after := #[], guard := none },
  { dst := some 32, op := .load 2 (.tmp 31), type := 2, pos := "law.go:50", after := #[{ on := 3, ground := .data }], guard := none },
  { dst := some 33, op := .call { callee := .value (.func 6), args := #[.tmp 30, .tmp 32], argTypes := #[2, 2] }, type := 2, pos := "law.go:50", after := #[{ on := 2, ground := .data }, { on := 4, ground := .data }], guard := none },
  { dst := some 34, op := .binOp .add 2 (.tmp 28) (.tmp 33) 2, type := 2, pos := "law.go:50", after := #[{ on := 0, ground := .data }, { on := 5, ground := .data }], guard := none },
  { dst := some 35, op := .fieldAddr 25 (.tmp 5) 2, type := 0, pos := "law.go:50", after := #[], guard := none },
  { dst := some 36, op := .load 2 (.tmp 35), type := 2, pos := "law.go:50", after := #[{ on := 7, ground := .data }], guard := none },
  { dst := some 37, op := .unOp .neg 2 (.tmp 36), type := 2, pos := "law.go:50", after := #[{ on := 8, ground := .data }], guard := none },
  { dst := some 38, op := .fieldAddr 25 (.tmp 5) 2, type := 0, pos := "law.go:50", after := #[], guard := none },
  { dst := some 39, op := .load 2 (.tmp 38), type := 2, pos := "law.go:50", after := #[{ on := 10, ground := .data }], guard := none },
  { dst := some 40, op := .call { callee := .value (.func 22), args := #[.tmp 34, .tmp 37, .tmp 39], argTypes := #[2, 2, 2] }, type := 2, pos := "law.go:50", after := #[{ on := 6, ground := .data }, { on := 9, ground := .data }, { on := 11, ground := .data }, { on := 5, ground := .chain }], guard := none },
  { dst := some 3, op := .assign (.tmp 40), type := 2, pos := "law.go:50", after := #[{ on := 12, ground := .data }, { on := 12, ground := .chain }, { on := 0, ground := .phase }, { on := 1, ground := .phase }, { on := 2, ground := .phase }, { on := 3, ground := .phase }, { on := 4, ground := .phase }, { on := 5, ground := .phase }, { on := 6, ground := .phase }, { on := 7, ground := .phase }, { on := 8, ground := .phase }, { on := 9, ground := .phase }, { on := 10, ground := .phase }, { on := 11, ground := .phase }, { on := 12, ground := .phase }], guard := none }]
theorem oreal2_plain : Region.noSelect oreal2 = true := by kernel_rfl

/-- The operations of a drawn region, as the translation has them. -/
def oreal7 : Array Oper := #[
  { dst := some 44, op := .move (.tmp 14), type := 3, pos := "law.go:53", after := #[], guard := none },
  { dst := some 45, op := .move (.tmp 2), type := 2, pos := "law.go:53", after := #[], guard := none },
  { dst := some 46, op := .move (.tmp 14), type := 3, pos := "law.go:53", after := #[], guard := none },
  { dst := some 47, op := .fieldAddr 39 (.tmp 6) 2, type := 0, pos := "law.go:53", after := #[], guard := none },
  { dst := some 48, op := .indexAddr 22 (.tmp 47) (.tmp 46), type := 0, pos := "law.go:53", after := #[{ on := 3, ground := .data }, { on := 2, ground := .data }], guard := none },
  { dst := some 49, op := .load 2 (.tmp 48), type := 2, pos := "law.go:53", after := #[{ on := 4, ground := .data }], guard := none },
  { dst := some 50, op := .move (.tmp 14), type := 3, pos := "law.go:53", after := #[], guard := none },
  { dst := some 51, op := .fieldAddr 25 (.tmp 5) 0, type := 0, pos := "law.go:53", after := #[], guard := none },
  { dst := some 52, op := .indexAddr 22 (.tmp 51) (.tmp 50), type := 0, pos := "law.go:53", after := #[{ on := 7, ground := .data }, { on := 6, ground := .data }], guard := none },
  { dst := some 53, op := .load 2 (.tmp 52), type := 2, pos := "law.go:53", after := #[{ on := 8, ground := .data }], guard := none },
  { dst := some 54, op := .call { callee := .value (.func 6), args := #[.tmp 49, .tmp 53], argTypes := #[2, 2] }, type := 2, pos := "law.go:53", after := #[{ on := 5, ground := .data }, { on := 9, ground := .data }], guard := none },
  { dst := some 55, op := .binOp .add 2 (.tmp 45) (.tmp 54) 2, type := 2, pos := "law.go:53", after := #[{ on := 1, ground := .data }, { on := 10, ground := .data }], guard := none },
  { dst := some 56, op := .indexAddr 22 (.tmp 13) (.tmp 44), type := 0, pos := "law.go:53", after := #[{ on := 0, ground := .data }, { on := 0, ground := .phase }, { on := 1, ground := .phase }, { on := 2, ground := .phase }, { on := 3, ground := .phase }, { on := 4, ground := .phase }, { on := 5, ground := .phase }, { on := 6, ground := .phase }, { on := 7, ground := .phase }, { on := 8, ground := .phase }, { on := 9, ground := .phase }, { on := 10, ground := .phase }, { on := 11, ground := .phase }], guard := none },
  { dst := none, op := .store 2 (.tmp 56) (.tmp 55), type := 0, pos := "law.go:53", after := #[{ on := 12, ground := .data }, { on := 11, ground := .data }, { on := 10, ground := .chain }, { on := 0, ground := .phase }, { on := 1, ground := .phase }, { on := 2, ground := .phase }, { on := 3, ground := .phase }, { on := 4, ground := .phase }, { on := 5, ground := .phase }, { on := 6, ground := .phase }, { on := 7, ground := .phase }, { on := 8, ground := .phase }, { on := 9, ground := .phase }, { on := 10, ground := .phase }, { on := 11, ground := .phase }], guard := none }]
theorem oreal7_plain : Region.noSelect oreal7 = true := by kernel_rfl

set_option maxHeartbeats 40000000 in
set_option maxRecDepth 100000 in
theorem Real_core (a : Ai) (t : Tk) (v b bad dm dc sv0 sb0 nm nb0 nv nb d0 s0 g0 c0 y0 d1 s1 g1 c1 y1 d2 s2 g2 c2 y2 : Int) (w : World)
    (WM : Hid (∀ w', Calls Tryd.prog 6 #[.int .i64 t.move, .int .i64 a.move] w' fun e w'' => e = .returned (.int .i64 dm) ∧ Below w'.heap.size w' w''))
    (WC : Hid (∀ w', Calls Tryd.prog 6 #[.int .i64 t.change, .int .i64 a.change] w' fun e w'' => e = .returned (.int .i64 dc) ∧ Below w'.heap.size w' w''))
    (CV : Hid (∀ w', Calls Tryd.prog 22 #[.int .i64 sv0, .int .i64 nm, .int .i64 a.most] w' fun e w'' => e = .returned (.int .i64 nv) ∧ Below w'.heap.size w' w''))
    (CB : Hid (∀ w', Calls Tryd.prog 22 #[.int .i64 sb0, .int .i64 nb0, .int .i64 a.bias] w' fun e w'' => e = .returned (.int .i64 nb) ∧ Below w'.heap.size w' w''))
    (q1 : IntKind.i64.wrap (v + dm) = sv0) (q2 : IntKind.i64.wrap (-a.most) = nm) (q3 : IntKind.i64.wrap (b + dc) = sb0) (q4 : IntKind.i64.wrap (-a.bias) = nb0)
    (W0 : Hid (∀ w', Calls Tryd.prog 6 #[.int .i64 t.o0, .int .i64 a.e0] w' fun e w'' => e = .returned (.int .i64 d0) ∧ Below w'.heap.size w' w''))
    (G0 : Hid (∀ w', Calls Tryd.prog 6 #[.int .i64 t.o0, .int .i64 1073741824] w' fun e w'' => e = .returned (.int .i64 g0) ∧ w' = w''))
    (p0 : Hid (IntKind.i64.wrap (nv + d0) = s0)) (r0 : Hid (IntKind.i64.wrap (s0 + nb) = c0))
    (Yg0 : Hid (bad = 0 → y0 = g0)) (Yc0 : Hid (¬ bad = 0 → a.b0 = true → y0 = c0)) (Ys0 : Hid (¬ bad = 0 → a.b0 = false → y0 = s0))
    (W1 : Hid (∀ w', Calls Tryd.prog 6 #[.int .i64 t.o1, .int .i64 a.e1] w' fun e w'' => e = .returned (.int .i64 d1) ∧ Below w'.heap.size w' w''))
    (G1 : Hid (∀ w', Calls Tryd.prog 6 #[.int .i64 t.o1, .int .i64 1073741824] w' fun e w'' => e = .returned (.int .i64 g1) ∧ w' = w''))
    (p1 : Hid (IntKind.i64.wrap (nv + d1) = s1)) (r1 : Hid (IntKind.i64.wrap (s1 + nb) = c1))
    (Yg1 : Hid (bad = 1 → y1 = g1)) (Yc1 : Hid (¬ bad = 1 → a.b1 = true → y1 = c1)) (Ys1 : Hid (¬ bad = 1 → a.b1 = false → y1 = s1))
    (W2 : Hid (∀ w', Calls Tryd.prog 6 #[.int .i64 t.o2, .int .i64 a.e2] w' fun e w'' => e = .returned (.int .i64 d2) ∧ Below w'.heap.size w' w''))
    (G2 : Hid (∀ w', Calls Tryd.prog 6 #[.int .i64 t.o2, .int .i64 1073741824] w' fun e w'' => e = .returned (.int .i64 g2) ∧ w' = w''))
    (p2 : Hid (IntKind.i64.wrap (nv + d2) = s2)) (r2 : Hid (IntKind.i64.wrap (s2 + nb) = c2))
    (Yg2 : Hid (bad = 2 → y2 = g2)) (Yc2 : Hid (¬ bad = 2 → a.b2 = true → y2 = c2)) (Ys2 : Hid (¬ bad = 2 → a.b2 = false → y2 = s2))
    : Calls Tryd.prog 8 #[av a, tv t, .int .i64 v, .int .i64 b, .int .i64 bad] w fun e w' => e = .returned (.tuple #[.int .i64 nv, .int .i64 nb, .agg #[.int .i64 y0, .int .i64 y1, .int .i64 y2]]) ∧ Below w.heap.size w w' := by
  have hS1 := (((Sp.none w).more [.int .i64 a.e0, .int .i64 a.e1, .int .i64 a.e2, .bool a.b0, .bool a.b1, .bool a.b2, .int .i64 a.bias, .int .i64 a.change, .int .i64 a.move, .int .i64 a.most] 25).more [.int .i64 t.move, .int .i64 t.change, .int .i64 t.o0, .int .i64 t.o1, .int .i64 t.o2, .bool t.t0, .bool t.t1, .bool t.t2] 39).more [.int .i64 0, .int .i64 0, .int .i64 0] 22
  simp only [heap1] at hS1
  have HS1 := Lib.hid hS1
  clear hS1
  go_enter Tryd.func8, Tryd.ntmps8
  go_upto_region 1 with fail
  obtain ⟨w1, hX, hS⟩ := (HS1.out).named
  rw [← hX]
  clear hX HS1
  have HS2 := Lib.hid hS
  clear hS
  obtain ⟨bs1, hbs⟩ : ∃ bs : List (Nat × List (Option Value)), bs = [(w.heap.size, [some (.int .i64 a.e0), some (.int .i64 a.e1), some (.int .i64 a.e2), some (.bool a.b0), some (.bool a.b1), some (.bool a.b2), some (.int .i64 a.bias), some (.int .i64 a.change), some (.int .i64 a.move), some (.int .i64 a.most)]), (w.heap.size + 1, [some (.int .i64 t.move), some (.int .i64 t.change), some (.int .i64 t.o0), some (.int .i64 t.o1), some (.int .i64 t.o2), some (.bool t.t0), some (.bool t.t1), some (.bool t.t2)]), (w.heap.size + 1 + 1, [some (.int .i64 0), some (.int .i64 0), some (.int .i64 0)])] := ⟨_, rfl⟩
  have hT := (HS2.out).cast hbs
  have c1_0 : ∀ w', Sp w bs1 w' → w'.cell? ⟨w.heap.size + 1, 0, none⟩ = some (.int .i64 t.move) := by rw [hbs]; exact fun w' h => h.at 1 rfl 0 rfl
  have c0_8 : ∀ w', Sp w bs1 w' → w'.cell? ⟨w.heap.size, 8, none⟩ = some (.int .i64 a.move) := by rw [hbs]; exact fun w' h => h.at 0 rfl 8 rfl
  have c0_9 : ∀ w', Sp w bs1 w' → w'.cell? ⟨w.heap.size, 9, none⟩ = some (.int .i64 a.most) := by rw [hbs]; exact fun w' h => h.at 0 rfl 9 rfl
  have nx : ∀ w', Sp w bs1 w' → Sp w [(w.heap.size, [some (.int .i64 a.e0), some (.int .i64 a.e1), some (.int .i64 a.e2), some (.bool a.b0), some (.bool a.b1), some (.bool a.b2), some (.int .i64 a.bias), some (.int .i64 a.change), some (.int .i64 a.move), some (.int .i64 a.most)]), (w.heap.size + 1, [some (.int .i64 t.move), some (.int .i64 t.change), some (.int .i64 t.o0), some (.int .i64 t.o1), some (.int .i64 t.o2), some (.bool t.t0), some (.bool t.t1), some (.bool t.t2)]), (w.heap.size + 1 + 1, [some (.int .i64 0), some (.int .i64 0), some (.int .i64 0)])] w' := by rw [hbs]; exact fun w' h => h
  have kS : ∀ w1 w2, Sp w bs1 w1 → Below w1.heap.size w1 w2 → Sp w bs1 w2 := fun _ _ h hb => h.keep hb
  clear hbs HS2
  change (Code.region 1 oreal1 true).wp Tryd.prog _ _ _
  refine wp_region_noPanic ?_
  refine wp_region_held_drew (S := (Sp w bs1)) (by kernel_rfl) (hT.drew) (fun hHeld => ?_)
  refine wpAnyH_take (i := 0) (oi := ({ dst := some 15, op := .move (.tmp 2), type := 2, pos := "law.go:49", after := #[], guard := none } : Oper)) (v := ?vs1_0) rfl oreal1_plain (by as_aux_lemma => kernel_rfl) (by as_aux_lemma => kernel_rfl) (fun _ _ _ h => h) (Or.inl ⟨by rfl, ?ys1_0⟩) (by assumption) ?rs1_0
  case ys1_0 => (intro w hSw; (try dsimp only at hSw); go_simp; try with_reducible rfl)
  try simp only [Act.put, List.setIfInBounds_toArray, List.set_cons_zero, List.set_cons_succ]
  refine wpAnyH_take (i := 1) (oi := ({ dst := some 16, op := .fieldAddr 39 (.tmp 6) 0, type := 0, pos := "law.go:49", after := #[], guard := none } : Oper)) (v := ?vs1_1) rfl oreal1_plain (by as_aux_lemma => kernel_rfl) (by as_aux_lemma => kernel_rfl) (fun _ _ _ h => h) (Or.inl ⟨by rfl, ?ys1_1⟩) (by assumption) ?rs1_1
  case ys1_1 => (intro w hSw; (try dsimp only at hSw); go_simp; try with_reducible rfl)
  try simp only [Act.put, List.setIfInBounds_toArray, List.set_cons_zero, List.set_cons_succ]
  refine wpAnyH_take (i := 2) (oi := ({ dst := some 17, op := .load 2 (.tmp 16), type := 2, pos := "law.go:49", after := #[{ on := 1, ground := .data }], guard := none } : Oper)) (v := ?vs1_2) rfl oreal1_plain (by as_aux_lemma => kernel_rfl) (by as_aux_lemma => kernel_rfl) (fun _ _ _ h => h) (Or.inl ⟨by rfl, ?ys1_2⟩) (by assumption) ?rs1_2
  case ys1_2 => (intro w hSw; (try dsimp only at hSw); go_simp; try with_reducible rfl)
  try simp only [Act.put, List.setIfInBounds_toArray, List.set_cons_zero, List.set_cons_succ]
  refine wpAnyH_take (i := 3) (oi := ({ dst := some 18, op := .fieldAddr 25 (.tmp 5) 4, type := 0, pos := "law.go:49", after := #[], guard := none } : Oper)) (v := ?vs1_3) rfl oreal1_plain (by as_aux_lemma => kernel_rfl) (by as_aux_lemma => kernel_rfl) (fun _ _ _ h => h) (Or.inl ⟨by rfl, ?ys1_3⟩) (by assumption) ?rs1_3
  case ys1_3 => (intro w hSw; (try dsimp only at hSw); go_simp; try with_reducible rfl)
  try simp only [Act.put, List.setIfInBounds_toArray, List.set_cons_zero, List.set_cons_succ]
  refine wpAnyH_take (i := 4) (oi := ({ dst := some 19, op := .load 2 (.tmp 18), type := 2, pos := "law.go:49", after := #[{ on := 3, ground := .data }], guard := none } : Oper)) (v := ?vs1_4) rfl oreal1_plain (by as_aux_lemma => kernel_rfl) (by as_aux_lemma => kernel_rfl) (fun _ _ _ h => h) (Or.inl ⟨by rfl, ?ys1_4⟩) (by assumption) ?rs1_4
  case ys1_4 => (intro w hSw; (try dsimp only at hSw); go_simp; try with_reducible rfl)
  try simp only [Act.put, List.setIfInBounds_toArray, List.set_cons_zero, List.set_cons_succ]
  refine wpAnyH_take (i := 7) (oi := ({ dst := some 22, op := .fieldAddr 25 (.tmp 5) 5, type := 0, pos := "law.go:49", after := #[], guard := none } : Oper)) (v := ?vs1_7) rfl oreal1_plain (by as_aux_lemma => kernel_rfl) (by as_aux_lemma => kernel_rfl) (fun _ _ _ h => h) (Or.inl ⟨by rfl, ?ys1_7⟩) (by assumption) ?rs1_7
  case ys1_7 => (intro w hSw; (try dsimp only at hSw); go_simp; try with_reducible rfl)
  try simp only [Act.put, List.setIfInBounds_toArray, List.set_cons_zero, List.set_cons_succ]
  refine wpAnyH_take (i := 8) (oi := ({ dst := some 23, op := .load 2 (.tmp 22), type := 2, pos := "law.go:49", after := #[{ on := 7, ground := .data }], guard := none } : Oper)) (v := ?vs1_8) rfl oreal1_plain (by as_aux_lemma => kernel_rfl) (by as_aux_lemma => kernel_rfl) (fun _ _ _ h => h) (Or.inl ⟨by rfl, ?ys1_8⟩) (by assumption) ?rs1_8
  case ys1_8 => (intro w hSw; (try dsimp only at hSw); go_simp; try with_reducible rfl)
  try simp only [Act.put, List.setIfInBounds_toArray, List.set_cons_zero, List.set_cons_succ]
  refine wpAnyH_take (i := 9) (oi := ({ dst := some 24, op := .unOp .neg 2 (.tmp 23), type := 2, pos := "law.go:49", after := #[{ on := 8, ground := .data }], guard := none } : Oper)) (v := ?vs1_9) rfl oreal1_plain (by as_aux_lemma => kernel_rfl) (by as_aux_lemma => kernel_rfl) (fun _ _ _ h => h) (Or.inl ⟨by rfl, ?ys1_9⟩) (by assumption) ?rs1_9
  case ys1_9 => (intro w hSw; (try dsimp only at hSw); go_simp; try with_reducible rfl)
  try simp only [Act.put, List.setIfInBounds_toArray, List.set_cons_zero, List.set_cons_succ]
  refine wpAnyH_take (i := 10) (oi := ({ dst := some 25, op := .fieldAddr 25 (.tmp 5) 5, type := 0, pos := "law.go:49", after := #[], guard := none } : Oper)) (v := ?vs1_10) rfl oreal1_plain (by as_aux_lemma => kernel_rfl) (by as_aux_lemma => kernel_rfl) (fun _ _ _ h => h) (Or.inl ⟨by rfl, ?ys1_10⟩) (by assumption) ?rs1_10
  case ys1_10 => (intro w hSw; (try dsimp only at hSw); go_simp; try with_reducible rfl)
  try simp only [Act.put, List.setIfInBounds_toArray, List.set_cons_zero, List.set_cons_succ]
  refine wpAnyH_take (i := 11) (oi := ({ dst := some 26, op := .load 2 (.tmp 25), type := 2, pos := "law.go:49", after := #[{ on := 10, ground := .data }], guard := none } : Oper)) (v := ?vs1_11) rfl oreal1_plain (by as_aux_lemma => kernel_rfl) (by as_aux_lemma => kernel_rfl) (fun _ _ _ h => h) (Or.inl ⟨by rfl, ?ys1_11⟩) (by assumption) ?rs1_11
  case ys1_11 => (intro w hSw; (try dsimp only at hSw); go_simp; try with_reducible rfl)
  try simp only [Act.put, List.setIfInBounds_toArray, List.set_cons_zero, List.set_cons_succ]
  refine wpAnyH_ready (rs := [5]) (by as_aux_lemma => kernel_rfl) (by simp) ?_
  refine AllReadyH.cons (o := ({ dst := some 20, op := .call { callee := .value (.func 6), args := #[.tmp 17, .tmp 19], argTypes := #[2, 2] }, type := 2, pos := "law.go:49", after := #[{ on := 2, ground := .data }, { on := 4, ground := .data }], guard := none } : Oper)) rfl (fun KK hK => ?_) AllReadyH.nil
  rw [if_pos (by rfl)]
  go_simp
  go_at_call 6; refine (WM.out _).mono ?_; rintro e w2 ⟨rfl, hb2⟩
  go_wp2_with fail
  refine hK.out _ _ ?_ (fun hHeld2 => ?_)
  · exact kS _ _ (by assumption) hb2
  clear hK KK hb2
  try simp only [Act.put, List.setIfInBounds_toArray, List.set_cons_zero, List.set_cons_succ]
  refine wpAnyH_take (i := 6) (oi := ({ dst := some 21, op := .binOp .add 2 (.tmp 15) (.tmp 20) 2, type := 2, pos := "law.go:49", after := #[{ on := 0, ground := .data }, { on := 5, ground := .data }], guard := none } : Oper)) (v := ?vs1_6) rfl oreal1_plain (by as_aux_lemma => kernel_rfl) (by as_aux_lemma => kernel_rfl) (fun _ _ _ h => h) (Or.inl ⟨by rfl, ?ys1_6⟩) (by assumption) ?rs1_6
  case ys1_6 => (intro w hSw; (try dsimp only at hSw); go_simp; try with_reducible rfl)
  try simp only [Act.put, List.setIfInBounds_toArray, List.set_cons_zero, List.set_cons_succ]
  refine wpAnyH_ready (rs := [12]) (by as_aux_lemma => kernel_rfl) (by simp) ?_
  refine AllReadyH.cons (o := ({ dst := some 27, op := .call { callee := .value (.func 22), args := #[.tmp 21, .tmp 24, .tmp 26], argTypes := #[2, 2, 2] }, type := 2, pos := "law.go:49", after := #[{ on := 6, ground := .data }, { on := 9, ground := .data }, { on := 11, ground := .data }, { on := 5, ground := .chain }], guard := none } : Oper)) rfl (fun KK hK => ?_) AllReadyH.nil
  rw [if_pos (by rfl)]
  go_simp
  go_at_call 22; refine (CV.out _).mono ?_; rintro e w3 ⟨rfl, hb3⟩
  go_wp2_with fail
  refine hK.out _ _ ?_ (fun hHeld3 => ?_)
  · exact kS _ _ (by assumption) hb3
  clear hK KK hb3 hHeld2
  try simp only [Act.put, List.setIfInBounds_toArray, List.set_cons_zero, List.set_cons_succ]
  refine wpAnyH_take (i := 13) (oi := ({ dst := some 2, op := .assign (.tmp 27), type := 2, pos := "law.go:49", after := #[{ on := 12, ground := .data }, { on := 12, ground := .chain }, { on := 0, ground := .phase }, { on := 1, ground := .phase }, { on := 2, ground := .phase }, { on := 3, ground := .phase }, { on := 4, ground := .phase }, { on := 5, ground := .phase }, { on := 6, ground := .phase }, { on := 7, ground := .phase }, { on := 8, ground := .phase }, { on := 9, ground := .phase }, { on := 10, ground := .phase }, { on := 11, ground := .phase }, { on := 12, ground := .phase }], guard := none } : Oper)) (v := ?vs1_13) rfl oreal1_plain (by as_aux_lemma => kernel_rfl) (by as_aux_lemma => kernel_rfl) (fun _ _ _ h => h) (Or.inl ⟨by rfl, ?ys1_13⟩) (by assumption) ?rs1_13
  case ys1_13 => (intro w hSw; (try dsimp only at hSw); go_simp; try with_reducible rfl)
  try simp only [Act.put, List.setIfInBounds_toArray, List.set_cons_zero, List.set_cons_succ]
  refine wpAnyH_done (by as_aux_lemma => kernel_rfl) ?_ _
  refine NoPanic.normal ?_
  have N1 := nx _ hHeld3
  have HS3 := Lib.hid N1
  clear c1_0 c0_8 c0_9 nx kS hT N1
  clear WM CV q1 q2
  obtain ⟨bs2, hbs⟩ : ∃ bs : List (Nat × List (Option Value)), bs = [(w.heap.size, [some (.int .i64 a.e0), some (.int .i64 a.e1), some (.int .i64 a.e2), some (.bool a.b0), some (.bool a.b1), some (.bool a.b2), some (.int .i64 a.bias), some (.int .i64 a.change), some (.int .i64 a.move), some (.int .i64 a.most)]), (w.heap.size + 1, [some (.int .i64 t.move), some (.int .i64 t.change), some (.int .i64 t.o0), some (.int .i64 t.o1), some (.int .i64 t.o2), some (.bool t.t0), some (.bool t.t1), some (.bool t.t2)]), (w.heap.size + 1 + 1, [some (.int .i64 0), some (.int .i64 0), some (.int .i64 0)])] := ⟨_, rfl⟩
  have hT := (HS3.out).cast hbs
  have c1_1 : ∀ w', Sp w bs2 w' → w'.cell? ⟨w.heap.size + 1, 1, none⟩ = some (.int .i64 t.change) := by rw [hbs]; exact fun w' h => h.at 1 rfl 1 rfl
  have c0_7 : ∀ w', Sp w bs2 w' → w'.cell? ⟨w.heap.size, 7, none⟩ = some (.int .i64 a.change) := by rw [hbs]; exact fun w' h => h.at 0 rfl 7 rfl
  have c0_6 : ∀ w', Sp w bs2 w' → w'.cell? ⟨w.heap.size, 6, none⟩ = some (.int .i64 a.bias) := by rw [hbs]; exact fun w' h => h.at 0 rfl 6 rfl
  have nx : ∀ w', Sp w bs2 w' → Sp w [(w.heap.size, [some (.int .i64 a.e0), some (.int .i64 a.e1), some (.int .i64 a.e2), some (.bool a.b0), some (.bool a.b1), some (.bool a.b2), some (.int .i64 a.bias), some (.int .i64 a.change), some (.int .i64 a.move), some (.int .i64 a.most)]), (w.heap.size + 1, [some (.int .i64 t.move), some (.int .i64 t.change), some (.int .i64 t.o0), some (.int .i64 t.o1), some (.int .i64 t.o2), some (.bool t.t0), some (.bool t.t1), some (.bool t.t2)]), (w.heap.size + 1 + 1, [some (.int .i64 0), some (.int .i64 0), some (.int .i64 0)])] w' := by rw [hbs]; exact fun w' h => h
  have kS : ∀ w1 w2, Sp w bs2 w1 → Below w1.heap.size w1 w2 → Sp w bs2 w2 := fun _ _ h hb => h.keep hb
  clear hbs HS3
  go_upto_region 2 with fail
  change (Code.region 2 oreal2 true).wp Tryd.prog _ _ _
  refine wp_region_noPanic ?_
  refine wp_region_held_drew (S := (Sp w bs2)) (by kernel_rfl) (hT.drew) (fun hHeld => ?_)
  refine wpAnyH_take (i := 0) (oi := ({ dst := some 28, op := .move (.tmp 3), type := 2, pos := "law.go:50", after := #[], guard := none } : Oper)) (v := ?vs2_0) rfl oreal2_plain (by as_aux_lemma => kernel_rfl) (by as_aux_lemma => kernel_rfl) (fun _ _ _ h => h) (Or.inl ⟨by rfl, ?ys2_0⟩) (by assumption) ?rs2_0
  case ys2_0 => (intro w hSw; (try dsimp only at hSw); go_simp; try with_reducible rfl)
  try simp only [Act.put, List.setIfInBounds_toArray, List.set_cons_zero, List.set_cons_succ]
  refine wpAnyH_take (i := 1) (oi := ({ dst := some 29, op := .fieldAddr 39 (.tmp 6) 1, type := 0, pos := "law.go:50", after := #[], guard := none } : Oper)) (v := ?vs2_1) rfl oreal2_plain (by as_aux_lemma => kernel_rfl) (by as_aux_lemma => kernel_rfl) (fun _ _ _ h => h) (Or.inl ⟨by rfl, ?ys2_1⟩) (by assumption) ?rs2_1
  case ys2_1 => (intro w hSw; (try dsimp only at hSw); go_simp; try with_reducible rfl)
  try simp only [Act.put, List.setIfInBounds_toArray, List.set_cons_zero, List.set_cons_succ]
  refine wpAnyH_take (i := 2) (oi := ({ dst := some 30, op := .load 2 (.tmp 29), type := 2, pos := "law.go:50", after := #[{ on := 1, ground := .data }], guard := none } : Oper)) (v := ?vs2_2) rfl oreal2_plain (by as_aux_lemma => kernel_rfl) (by as_aux_lemma => kernel_rfl) (fun _ _ _ h => h) (Or.inl ⟨by rfl, ?ys2_2⟩) (by assumption) ?rs2_2
  case ys2_2 => (intro w hSw; (try dsimp only at hSw); go_simp; try with_reducible rfl)
  try simp only [Act.put, List.setIfInBounds_toArray, List.set_cons_zero, List.set_cons_succ]
  refine wpAnyH_take (i := 3) (oi := ({ dst := some 31, op := .fieldAddr 25 (.tmp 5) 3, type := 0, pos := "law.go:50", after := #[], guard := none } : Oper)) (v := ?vs2_3) rfl oreal2_plain (by as_aux_lemma => kernel_rfl) (by as_aux_lemma => kernel_rfl) (fun _ _ _ h => h) (Or.inl ⟨by rfl, ?ys2_3⟩) (by assumption) ?rs2_3
  case ys2_3 => (intro w hSw; (try dsimp only at hSw); go_simp; try with_reducible rfl)
  try simp only [Act.put, List.setIfInBounds_toArray, List.set_cons_zero, List.set_cons_succ]
  refine wpAnyH_take (i := 4) (oi := ({ dst := some 32, op := .load 2 (.tmp 31), type := 2, pos := "law.go:50", after := #[{ on := 3, ground := .data }], guard := none } : Oper)) (v := ?vs2_4) rfl oreal2_plain (by as_aux_lemma => kernel_rfl) (by as_aux_lemma => kernel_rfl) (fun _ _ _ h => h) (Or.inl ⟨by rfl, ?ys2_4⟩) (by assumption) ?rs2_4
  case ys2_4 => (intro w hSw; (try dsimp only at hSw); go_simp; try with_reducible rfl)
  try simp only [Act.put, List.setIfInBounds_toArray, List.set_cons_zero, List.set_cons_succ]
  refine wpAnyH_take (i := 7) (oi := ({ dst := some 35, op := .fieldAddr 25 (.tmp 5) 2, type := 0, pos := "law.go:50", after := #[], guard := none } : Oper)) (v := ?vs2_7) rfl oreal2_plain (by as_aux_lemma => kernel_rfl) (by as_aux_lemma => kernel_rfl) (fun _ _ _ h => h) (Or.inl ⟨by rfl, ?ys2_7⟩) (by assumption) ?rs2_7
  case ys2_7 => (intro w hSw; (try dsimp only at hSw); go_simp; try with_reducible rfl)
  try simp only [Act.put, List.setIfInBounds_toArray, List.set_cons_zero, List.set_cons_succ]
  refine wpAnyH_take (i := 8) (oi := ({ dst := some 36, op := .load 2 (.tmp 35), type := 2, pos := "law.go:50", after := #[{ on := 7, ground := .data }], guard := none } : Oper)) (v := ?vs2_8) rfl oreal2_plain (by as_aux_lemma => kernel_rfl) (by as_aux_lemma => kernel_rfl) (fun _ _ _ h => h) (Or.inl ⟨by rfl, ?ys2_8⟩) (by assumption) ?rs2_8
  case ys2_8 => (intro w hSw; (try dsimp only at hSw); go_simp; try with_reducible rfl)
  try simp only [Act.put, List.setIfInBounds_toArray, List.set_cons_zero, List.set_cons_succ]
  refine wpAnyH_take (i := 9) (oi := ({ dst := some 37, op := .unOp .neg 2 (.tmp 36), type := 2, pos := "law.go:50", after := #[{ on := 8, ground := .data }], guard := none } : Oper)) (v := ?vs2_9) rfl oreal2_plain (by as_aux_lemma => kernel_rfl) (by as_aux_lemma => kernel_rfl) (fun _ _ _ h => h) (Or.inl ⟨by rfl, ?ys2_9⟩) (by assumption) ?rs2_9
  case ys2_9 => (intro w hSw; (try dsimp only at hSw); go_simp; try with_reducible rfl)
  try simp only [Act.put, List.setIfInBounds_toArray, List.set_cons_zero, List.set_cons_succ]
  refine wpAnyH_take (i := 10) (oi := ({ dst := some 38, op := .fieldAddr 25 (.tmp 5) 2, type := 0, pos := "law.go:50", after := #[], guard := none } : Oper)) (v := ?vs2_10) rfl oreal2_plain (by as_aux_lemma => kernel_rfl) (by as_aux_lemma => kernel_rfl) (fun _ _ _ h => h) (Or.inl ⟨by rfl, ?ys2_10⟩) (by assumption) ?rs2_10
  case ys2_10 => (intro w hSw; (try dsimp only at hSw); go_simp; try with_reducible rfl)
  try simp only [Act.put, List.setIfInBounds_toArray, List.set_cons_zero, List.set_cons_succ]
  refine wpAnyH_take (i := 11) (oi := ({ dst := some 39, op := .load 2 (.tmp 38), type := 2, pos := "law.go:50", after := #[{ on := 10, ground := .data }], guard := none } : Oper)) (v := ?vs2_11) rfl oreal2_plain (by as_aux_lemma => kernel_rfl) (by as_aux_lemma => kernel_rfl) (fun _ _ _ h => h) (Or.inl ⟨by rfl, ?ys2_11⟩) (by assumption) ?rs2_11
  case ys2_11 => (intro w hSw; (try dsimp only at hSw); go_simp; try with_reducible rfl)
  try simp only [Act.put, List.setIfInBounds_toArray, List.set_cons_zero, List.set_cons_succ]
  refine wpAnyH_ready (rs := [5]) (by as_aux_lemma => kernel_rfl) (by simp) ?_
  refine AllReadyH.cons (o := ({ dst := some 33, op := .call { callee := .value (.func 6), args := #[.tmp 30, .tmp 32], argTypes := #[2, 2] }, type := 2, pos := "law.go:50", after := #[{ on := 2, ground := .data }, { on := 4, ground := .data }], guard := none } : Oper)) rfl (fun KK hK => ?_) AllReadyH.nil
  rw [if_pos (by rfl)]
  go_simp
  go_at_call 6; refine (WC.out _).mono ?_; rintro e w4 ⟨rfl, hb4⟩
  go_wp2_with fail
  refine hK.out _ _ ?_ (fun hHeld4 => ?_)
  · exact kS _ _ (by assumption) hb4
  clear hK KK hb4
  try simp only [Act.put, List.setIfInBounds_toArray, List.set_cons_zero, List.set_cons_succ]
  refine wpAnyH_take (i := 6) (oi := ({ dst := some 34, op := .binOp .add 2 (.tmp 28) (.tmp 33) 2, type := 2, pos := "law.go:50", after := #[{ on := 0, ground := .data }, { on := 5, ground := .data }], guard := none } : Oper)) (v := ?vs2_6) rfl oreal2_plain (by as_aux_lemma => kernel_rfl) (by as_aux_lemma => kernel_rfl) (fun _ _ _ h => h) (Or.inl ⟨by rfl, ?ys2_6⟩) (by assumption) ?rs2_6
  case ys2_6 => (intro w hSw; (try dsimp only at hSw); go_simp; try with_reducible rfl)
  try simp only [Act.put, List.setIfInBounds_toArray, List.set_cons_zero, List.set_cons_succ]
  refine wpAnyH_ready (rs := [12]) (by as_aux_lemma => kernel_rfl) (by simp) ?_
  refine AllReadyH.cons (o := ({ dst := some 40, op := .call { callee := .value (.func 22), args := #[.tmp 34, .tmp 37, .tmp 39], argTypes := #[2, 2, 2] }, type := 2, pos := "law.go:50", after := #[{ on := 6, ground := .data }, { on := 9, ground := .data }, { on := 11, ground := .data }, { on := 5, ground := .chain }], guard := none } : Oper)) rfl (fun KK hK => ?_) AllReadyH.nil
  rw [if_pos (by rfl)]
  go_simp
  go_at_call 22; refine (CB.out _).mono ?_; rintro e w5 ⟨rfl, hb5⟩
  go_wp2_with fail
  refine hK.out _ _ ?_ (fun hHeld5 => ?_)
  · exact kS _ _ (by assumption) hb5
  clear hK KK hb5 hHeld4
  try simp only [Act.put, List.setIfInBounds_toArray, List.set_cons_zero, List.set_cons_succ]
  refine wpAnyH_take (i := 13) (oi := ({ dst := some 3, op := .assign (.tmp 40), type := 2, pos := "law.go:50", after := #[{ on := 12, ground := .data }, { on := 12, ground := .chain }, { on := 0, ground := .phase }, { on := 1, ground := .phase }, { on := 2, ground := .phase }, { on := 3, ground := .phase }, { on := 4, ground := .phase }, { on := 5, ground := .phase }, { on := 6, ground := .phase }, { on := 7, ground := .phase }, { on := 8, ground := .phase }, { on := 9, ground := .phase }, { on := 10, ground := .phase }, { on := 11, ground := .phase }, { on := 12, ground := .phase }], guard := none } : Oper)) (v := ?vs2_13) rfl oreal2_plain (by as_aux_lemma => kernel_rfl) (by as_aux_lemma => kernel_rfl) (fun _ _ _ h => h) (Or.inl ⟨by rfl, ?ys2_13⟩) (by assumption) ?rs2_13
  case ys2_13 => (intro w hSw; (try dsimp only at hSw); go_simp; try with_reducible rfl)
  try simp only [Act.put, List.setIfInBounds_toArray, List.set_cons_zero, List.set_cons_succ]
  refine wpAnyH_done (by as_aux_lemma => kernel_rfl) ?_ _
  refine NoPanic.normal ?_
  have N1 := nx _ hHeld5
  have HS4 := Lib.hid N1
  clear c1_1 c0_7 c0_6 nx kS hT N1
  clear WC CB q3 q4
  go_upto_region 4 with fail
  have hS5 := (HS4.out).more [.int .i64 0, .int .i64 0, .int .i64 0] 22
  have HS5 := Lib.hid hS5
  clear hS5 HS4
  obtain ⟨w6, hX, hS⟩ := (HS5.out).named
  rw [← hX]
  clear hX HS5
  have HS6 := Lib.hid hS
  clear hS
  go_wp2_with fail
  go_loopw [41] (fun i wr => ∃ j : Nat, j ≤ 3 ∧ i = .int .i64 j ∧ Sp w [(w.heap.size, [some (.int .i64 a.e0), some (.int .i64 a.e1), some (.int .i64 a.e2), some (.bool a.b0), some (.bool a.b1), some (.bool a.b2), some (.int .i64 a.bias), some (.int .i64 a.change), some (.int .i64 a.move), some (.int .i64 a.most)]), (w.heap.size + 1, [some (.int .i64 t.move), some (.int .i64 t.change), some (.int .i64 t.o0), some (.int .i64 t.o1), some (.int .i64 t.o2), some (.bool t.t0), some (.bool t.t1), some (.bool t.t2)]), (w.heap.size + 1 + 1, [some (.int .i64 0), some (.int .i64 0), some (.int .i64 0)]), (w5.heap.size, x3 y0 y1 y2 j)] wr) (fun i _ => 3 - (intOf i).toNat)
  case atStart => exact ⟨0, by omega, rfl, HS6.out⟩
  case round =>
    clear HS6
    obtain ⟨j, hj, rfl, hS⟩ := hrel
    rcases (show j = 0 ∨ j = 1 ∨ j = 2 ∨ j = 3 by omega) with rfl | rfl | rfl | rfl
    · skip
      have HS7 : Hid (Sp w [(w.heap.size, [some (.int .i64 a.e0), some (.int .i64 a.e1), some (.int .i64 a.e2), some (.bool a.b0), some (.bool a.b1), some (.bool a.b2), some (.int .i64 a.bias), some (.int .i64 a.change), some (.int .i64 a.move), some (.int .i64 a.most)]), (w.heap.size + 1, [some (.int .i64 t.move), some (.int .i64 t.change), some (.int .i64 t.o0), some (.int .i64 t.o1), some (.int .i64 t.o2), some (.bool t.t0), some (.bool t.t1), some (.bool t.t2)]), (w.heap.size + 1 + 1, [some (.int .i64 0), some (.int .i64 0), some (.int .i64 0)]), (w5.heap.size, [some (.int .i64 0), some (.int .i64 0), some (.int .i64 0)])] _) := Lib.hid hS
      clear hS hj
      have q1 := p0.out
      have q2 := r0.out
      go_upto_region 7 with fail
      have hS8 := (HS7.out).forget 3 rfl 0
      have HS8 := Lib.hid hS8
      clear hS8 HS7
      obtain ⟨bs3, hbs⟩ : ∃ bs : List (Nat × List (Option Value)), bs = [(w.heap.size, [some (.int .i64 a.e0), some (.int .i64 a.e1), some (.int .i64 a.e2), some (.bool a.b0), some (.bool a.b1), some (.bool a.b2), some (.int .i64 a.bias), some (.int .i64 a.change), some (.int .i64 a.move), some (.int .i64 a.most)]), (w.heap.size + 1, [some (.int .i64 t.move), some (.int .i64 t.change), some (.int .i64 t.o0), some (.int .i64 t.o1), some (.int .i64 t.o2), some (.bool t.t0), some (.bool t.t1), some (.bool t.t2)]), (w.heap.size + 1 + 1, [some (.int .i64 0), some (.int .i64 0), some (.int .i64 0)]), (w5.heap.size, [none, some (.int .i64 0), some (.int .i64 0)])] := ⟨_, rfl⟩
      have hT := (HS8.out).cast hbs
      have c1_2 : ∀ w', Sp w bs3 w' → w'.cell? ⟨w.heap.size + 1, 2, none⟩ = some (.int .i64 t.o0) := by rw [hbs]; exact fun w' h => h.at 1 rfl 2 rfl
      have c0_0 : ∀ w', Sp w bs3 w' → w'.cell? ⟨w.heap.size, 0, none⟩ = some (.int .i64 a.e0) := by rw [hbs]; exact fun w' h => h.at 0 rfl 0 rfl
      have o3_0 : ∀ w', Sp w bs3 w' → ∃ z, w'.cell? ⟨w5.heap.size, 0, none⟩ = some z ∧ w'.frozen? ⟨w5.heap.size, 0, none⟩ = false := by rw [hbs]; exact fun w' h => h.there 3 rfl 0 rfl
      have s3_0 : ∀ w' z, Sp w bs3 w' → Sp w bs3 (w'.setCell ⟨w5.heap.size, 0, none⟩ z) := by rw [hbs]; exact fun w' z h => h.hit 3 rfl 0 rfl z
      have nx : ∀ w', Sp w bs3 w' → Sp w [(w.heap.size, [some (.int .i64 a.e0), some (.int .i64 a.e1), some (.int .i64 a.e2), some (.bool a.b0), some (.bool a.b1), some (.bool a.b2), some (.int .i64 a.bias), some (.int .i64 a.change), some (.int .i64 a.move), some (.int .i64 a.most)]), (w.heap.size + 1, [some (.int .i64 t.move), some (.int .i64 t.change), some (.int .i64 t.o0), some (.int .i64 t.o1), some (.int .i64 t.o2), some (.bool t.t0), some (.bool t.t1), some (.bool t.t2)]), (w.heap.size + 1 + 1, [some (.int .i64 0), some (.int .i64 0), some (.int .i64 0)]), (w5.heap.size, [some (.int .i64 s0), some (.int .i64 0), some (.int .i64 0)])] (w'.setCell ⟨w5.heap.size, 0, none⟩ (.int .i64 s0)) := by rw [hbs]; exact fun w' h => (h.put 3 rfl 0 _)
      have kS : ∀ w1 w2, Sp w bs3 w1 → Below w1.heap.size w1 w2 → Sp w bs3 w2 := fun _ _ h hb => h.keep hb
      clear hbs HS8
      change (Code.region 7 oreal7 true).wp Tryd.prog _ _ _
      refine wp_region_noPanic ?_
      refine wp_region_held_drew (S := (Sp w bs3)) (by kernel_rfl) (hT.drew) (fun hHeld => ?_)
      refine wpAnyH_take (i := 0) (oi := ({ dst := some 44, op := .move (.tmp 14), type := 3, pos := "law.go:53", after := #[], guard := none } : Oper)) (v := ?vs3_0) rfl oreal7_plain (by as_aux_lemma => kernel_rfl) (by as_aux_lemma => kernel_rfl) (fun _ _ _ h => h) (Or.inl ⟨by rfl, ?ys3_0⟩) (by assumption) ?rs3_0
      case ys3_0 => (intro w hSw; (try dsimp only at hSw); go_simp; try with_reducible rfl)
      try simp only [Act.put, List.setIfInBounds_toArray, List.set_cons_zero, List.set_cons_succ]
      refine wpAnyH_take (i := 1) (oi := ({ dst := some 45, op := .move (.tmp 2), type := 2, pos := "law.go:53", after := #[], guard := none } : Oper)) (v := ?vs3_1) rfl oreal7_plain (by as_aux_lemma => kernel_rfl) (by as_aux_lemma => kernel_rfl) (fun _ _ _ h => h) (Or.inl ⟨by rfl, ?ys3_1⟩) (by assumption) ?rs3_1
      case ys3_1 => (intro w hSw; (try dsimp only at hSw); go_simp; try with_reducible rfl)
      try simp only [Act.put, List.setIfInBounds_toArray, List.set_cons_zero, List.set_cons_succ]
      refine wpAnyH_take (i := 2) (oi := ({ dst := some 46, op := .move (.tmp 14), type := 3, pos := "law.go:53", after := #[], guard := none } : Oper)) (v := ?vs3_2) rfl oreal7_plain (by as_aux_lemma => kernel_rfl) (by as_aux_lemma => kernel_rfl) (fun _ _ _ h => h) (Or.inl ⟨by rfl, ?ys3_2⟩) (by assumption) ?rs3_2
      case ys3_2 => (intro w hSw; (try dsimp only at hSw); go_simp; try with_reducible rfl)
      try simp only [Act.put, List.setIfInBounds_toArray, List.set_cons_zero, List.set_cons_succ]
      refine wpAnyH_take (i := 3) (oi := ({ dst := some 47, op := .fieldAddr 39 (.tmp 6) 2, type := 0, pos := "law.go:53", after := #[], guard := none } : Oper)) (v := ?vs3_3) rfl oreal7_plain (by as_aux_lemma => kernel_rfl) (by as_aux_lemma => kernel_rfl) (fun _ _ _ h => h) (Or.inl ⟨by rfl, ?ys3_3⟩) (by assumption) ?rs3_3
      case ys3_3 => (intro w hSw; (try dsimp only at hSw); go_simp; try with_reducible rfl)
      try simp only [Act.put, List.setIfInBounds_toArray, List.set_cons_zero, List.set_cons_succ]
      refine wpAnyH_take (i := 4) (oi := ({ dst := some 48, op := .indexAddr 22 (.tmp 47) (.tmp 46), type := 0, pos := "law.go:53", after := #[{ on := 3, ground := .data }, { on := 2, ground := .data }], guard := none } : Oper)) (v := ?vs3_4) rfl oreal7_plain (by as_aux_lemma => kernel_rfl) (by as_aux_lemma => kernel_rfl) (fun _ _ _ h => h) (Or.inl ⟨by rfl, ?ys3_4⟩) (by assumption) ?rs3_4
      case ys3_4 => (intro w hSw; (try dsimp only at hSw); go_simp; try with_reducible rfl)
      try simp only [Act.put, List.setIfInBounds_toArray, List.set_cons_zero, List.set_cons_succ]
      refine wpAnyH_take (i := 5) (oi := ({ dst := some 49, op := .load 2 (.tmp 48), type := 2, pos := "law.go:53", after := #[{ on := 4, ground := .data }], guard := none } : Oper)) (v := ?vs3_5) rfl oreal7_plain (by as_aux_lemma => kernel_rfl) (by as_aux_lemma => kernel_rfl) (fun _ _ _ h => h) (Or.inl ⟨by rfl, ?ys3_5⟩) (by assumption) ?rs3_5
      case ys3_5 => (intro w hSw; (try dsimp only at hSw); go_simp; try with_reducible rfl)
      try simp only [Act.put, List.setIfInBounds_toArray, List.set_cons_zero, List.set_cons_succ]
      refine wpAnyH_take (i := 6) (oi := ({ dst := some 50, op := .move (.tmp 14), type := 3, pos := "law.go:53", after := #[], guard := none } : Oper)) (v := ?vs3_6) rfl oreal7_plain (by as_aux_lemma => kernel_rfl) (by as_aux_lemma => kernel_rfl) (fun _ _ _ h => h) (Or.inl ⟨by rfl, ?ys3_6⟩) (by assumption) ?rs3_6
      case ys3_6 => (intro w hSw; (try dsimp only at hSw); go_simp; try with_reducible rfl)
      try simp only [Act.put, List.setIfInBounds_toArray, List.set_cons_zero, List.set_cons_succ]
      refine wpAnyH_take (i := 7) (oi := ({ dst := some 51, op := .fieldAddr 25 (.tmp 5) 0, type := 0, pos := "law.go:53", after := #[], guard := none } : Oper)) (v := ?vs3_7) rfl oreal7_plain (by as_aux_lemma => kernel_rfl) (by as_aux_lemma => kernel_rfl) (fun _ _ _ h => h) (Or.inl ⟨by rfl, ?ys3_7⟩) (by assumption) ?rs3_7
      case ys3_7 => (intro w hSw; (try dsimp only at hSw); go_simp; try with_reducible rfl)
      try simp only [Act.put, List.setIfInBounds_toArray, List.set_cons_zero, List.set_cons_succ]
      refine wpAnyH_take (i := 8) (oi := ({ dst := some 52, op := .indexAddr 22 (.tmp 51) (.tmp 50), type := 0, pos := "law.go:53", after := #[{ on := 7, ground := .data }, { on := 6, ground := .data }], guard := none } : Oper)) (v := ?vs3_8) rfl oreal7_plain (by as_aux_lemma => kernel_rfl) (by as_aux_lemma => kernel_rfl) (fun _ _ _ h => h) (Or.inl ⟨by rfl, ?ys3_8⟩) (by assumption) ?rs3_8
      case ys3_8 => (intro w hSw; (try dsimp only at hSw); go_simp; try with_reducible rfl)
      try simp only [Act.put, List.setIfInBounds_toArray, List.set_cons_zero, List.set_cons_succ]
      refine wpAnyH_take (i := 9) (oi := ({ dst := some 53, op := .load 2 (.tmp 52), type := 2, pos := "law.go:53", after := #[{ on := 8, ground := .data }], guard := none } : Oper)) (v := ?vs3_9) rfl oreal7_plain (by as_aux_lemma => kernel_rfl) (by as_aux_lemma => kernel_rfl) (fun _ _ _ h => h) (Or.inl ⟨by rfl, ?ys3_9⟩) (by assumption) ?rs3_9
      case ys3_9 => (intro w hSw; (try dsimp only at hSw); go_simp; try with_reducible rfl)
      try simp only [Act.put, List.setIfInBounds_toArray, List.set_cons_zero, List.set_cons_succ]
      refine wpAnyH_ready (rs := [10]) (by as_aux_lemma => kernel_rfl) (by simp) ?_
      refine AllReadyH.cons (o := ({ dst := some 54, op := .call { callee := .value (.func 6), args := #[.tmp 49, .tmp 53], argTypes := #[2, 2] }, type := 2, pos := "law.go:53", after := #[{ on := 5, ground := .data }, { on := 9, ground := .data }], guard := none } : Oper)) rfl (fun KK hK => ?_) AllReadyH.nil
      rw [if_pos (by rfl)]
      go_simp
      go_at_call 6; refine (W0.out _).mono ?_; rintro e w7 ⟨rfl, hb7⟩
      go_wp2_with fail
      refine hK.out _ _ ?_ (fun hHeld7 => ?_)
      · exact kS _ _ (by assumption) hb7
      clear hK KK hb7
      try simp only [Act.put, List.setIfInBounds_toArray, List.set_cons_zero, List.set_cons_succ]
      refine wpAnyH_take (i := 11) (oi := ({ dst := some 55, op := .binOp .add 2 (.tmp 45) (.tmp 54) 2, type := 2, pos := "law.go:53", after := #[{ on := 1, ground := .data }, { on := 10, ground := .data }], guard := none } : Oper)) (v := ?vs3_11) rfl oreal7_plain (by as_aux_lemma => kernel_rfl) (by as_aux_lemma => kernel_rfl) (fun _ _ _ h => h) (Or.inl ⟨by rfl, ?ys3_11⟩) (by assumption) ?rs3_11
      case ys3_11 => (intro w hSw; (try dsimp only at hSw); go_simp; try with_reducible rfl)
      try simp only [Act.put, List.setIfInBounds_toArray, List.set_cons_zero, List.set_cons_succ]
      refine wpAnyH_take (i := 12) (oi := ({ dst := some 56, op := .indexAddr 22 (.tmp 13) (.tmp 44), type := 0, pos := "law.go:53", after := #[{ on := 0, ground := .data }, { on := 0, ground := .phase }, { on := 1, ground := .phase }, { on := 2, ground := .phase }, { on := 3, ground := .phase }, { on := 4, ground := .phase }, { on := 5, ground := .phase }, { on := 6, ground := .phase }, { on := 7, ground := .phase }, { on := 8, ground := .phase }, { on := 9, ground := .phase }, { on := 10, ground := .phase }, { on := 11, ground := .phase }], guard := none } : Oper)) (v := ?vs3_12) rfl oreal7_plain (by as_aux_lemma => kernel_rfl) (by as_aux_lemma => kernel_rfl) (fun _ _ _ h => h) (Or.inl ⟨by rfl, ?ys3_12⟩) (by assumption) ?rs3_12
      case ys3_12 => (intro w hSw; (try dsimp only at hSw); go_simp; try with_reducible rfl)
      try simp only [Act.put, List.setIfInBounds_toArray, List.set_cons_zero, List.set_cons_succ]
      refine wpAnyH_ready (rs := [13]) (by as_aux_lemma => kernel_rfl) (by simp) ?_
      refine AllReadyH.cons (o := ({ dst := none, op := .store 2 (.tmp 56) (.tmp 55), type := 0, pos := "law.go:53", after := #[{ on := 12, ground := .data }, { on := 11, ground := .data }, { on := 10, ground := .chain }, { on := 0, ground := .phase }, { on := 1, ground := .phase }, { on := 2, ground := .phase }, { on := 3, ground := .phase }, { on := 4, ground := .phase }, { on := 5, ground := .phase }, { on := 6, ground := .phase }, { on := 7, ground := .phase }, { on := 8, ground := .phase }, { on := 9, ground := .phase }, { on := 10, ground := .phase }, { on := 11, ground := .phase }], guard := none } : Oper)) rfl (fun KK hK => ?_) AllReadyH.nil
      rw [if_pos (by rfl)]
      obtain ⟨z3_0, k3_0, f3_0⟩ := o3_0 _ hHeld7
      have N1 := nx _ hHeld7
      go_simp
      refine hK.out _ _ ?_ (fun hHeldS0 => ?_)
      · exact (s3_0 _ _ hHeld7)
      clear hK KK
      try simp only [Act.put, List.setIfInBounds_toArray, List.set_cons_zero, List.set_cons_succ]
      refine wpAnyH_done (by as_aux_lemma => kernel_rfl) ?_ _
      refine NoPanic.normal ?_
      have HS9 := Lib.hid N1
      clear c1_2 c0_0 o3_0 s3_0 nx kS hT N1 k3_0 f3_0
      obtain ⟨w8, hX, hS⟩ := (HS9.out).named
      rw [← hX]
      clear hX HS9
      have HS10 := Lib.hid hS
      clear hS
      clear q1
      have b0_3 := (HS10.out).at 0 rfl 3 (v := .bool a.b0) rfl
      have k3_0 := (HS10.out).at 3 rfl 0 (v := .int .i64 s0) rfl
      have f3_0 := (HS10.out).free 3 rfl 0 rfl
      have o1_2 := (HS10.out).at 1 rfl 2 (v := .int .i64 t.o0) rfl
      rcases Bool.eq_false_or_eq_true a.b0 with cb | cb
      · rw [cb] at b0_3
        have HC := Lib.hid cb
        clear cb
        have hS11 := (HS10.out).put 3 rfl 0 (.int .i64 c0)
        have HS11 := Lib.hid hS11
        clear hS11 HS10
        by_cases cd : bad = 0
        · have HE := Lib.hid (Yg0.out cd)
          subst cd
          go_wp2_with fail
          refine (G0.out _).mono ?_; rintro e wz ⟨rfl, rfl⟩
          have hS12 := (HS11.out).put 3 rfl 0 (.int .i64 g0)
          have HS12 := Lib.hid hS12
          clear hS12 HS11
          have HN := HS12.out
          go_wp2_with fail
          go_roundw
          case rel => first | exact ⟨1, by omega, rfl, by rw [HE.out]; exact HN⟩ | ((repeat apply Exists.intro); exact ⟨⟨1, by omega, rfl, by rw [HE.out]; exact HN⟩, rfl⟩)
          case measure => simp [intOf]
        · have HE := Lib.hid (Yc0.out cd HC.out)
          have d0 : ((0 : Int) == bad) = false := by simpa using Ne.symm cd
          have d1 : (bad == (0 : Int)) = false := by simpa using cd
          have d2 : ¬ (0 : Int) = bad := Ne.symm cd
          have HN := HS11.out
          go_wp2_with fail
          go_roundw
          case rel => first | exact ⟨1, by omega, rfl, by rw [HE.out]; exact HN⟩ | ((repeat apply Exists.intro); exact ⟨⟨1, by omega, rfl, by rw [HE.out]; exact HN⟩, rfl⟩)
          case measure => simp [intOf]
      · rw [cb] at b0_3
        have HC := Lib.hid cb
        clear cb
        by_cases cd : bad = 0
        · have HE := Lib.hid (Yg0.out cd)
          subst cd
          go_wp2_with fail
          refine (G0.out _).mono ?_; rintro e wz ⟨rfl, rfl⟩
          have hS11 := (HS10.out).put 3 rfl 0 (.int .i64 g0)
          have HS11 := Lib.hid hS11
          clear hS11 HS10
          have HN := HS11.out
          go_wp2_with fail
          go_roundw
          case rel => first | exact ⟨1, by omega, rfl, by rw [HE.out]; exact HN⟩ | ((repeat apply Exists.intro); exact ⟨⟨1, by omega, rfl, by rw [HE.out]; exact HN⟩, rfl⟩)
          case measure => simp [intOf]
        · have HE := Lib.hid (Ys0.out cd HC.out)
          have d0 : ((0 : Int) == bad) = false := by simpa using Ne.symm cd
          have d1 : (bad == (0 : Int)) = false := by simpa using cd
          have d2 : ¬ (0 : Int) = bad := Ne.symm cd
          have HN := HS10.out
          go_wp2_with fail
          go_roundw
          case rel => first | exact ⟨1, by omega, rfl, by rw [HE.out]; exact HN⟩ | ((repeat apply Exists.intro); exact ⟨⟨1, by omega, rfl, by rw [HE.out]; exact HN⟩, rfl⟩)
          case measure => simp [intOf]
    · skip
      have HS8 : Hid (Sp w [(w.heap.size, [some (.int .i64 a.e0), some (.int .i64 a.e1), some (.int .i64 a.e2), some (.bool a.b0), some (.bool a.b1), some (.bool a.b2), some (.int .i64 a.bias), some (.int .i64 a.change), some (.int .i64 a.move), some (.int .i64 a.most)]), (w.heap.size + 1, [some (.int .i64 t.move), some (.int .i64 t.change), some (.int .i64 t.o0), some (.int .i64 t.o1), some (.int .i64 t.o2), some (.bool t.t0), some (.bool t.t1), some (.bool t.t2)]), (w.heap.size + 1 + 1, [some (.int .i64 0), some (.int .i64 0), some (.int .i64 0)]), (w5.heap.size, [some (.int .i64 y0), some (.int .i64 0), some (.int .i64 0)])] _) := Lib.hid hS
      clear hS hj
      have q1 := p1.out
      have q2 := r1.out
      go_upto_region 7 with fail
      have hS9 := (HS8.out).forget 3 rfl 1
      have HS9 := Lib.hid hS9
      clear hS9 HS8
      obtain ⟨bs4, hbs⟩ : ∃ bs : List (Nat × List (Option Value)), bs = [(w.heap.size, [some (.int .i64 a.e0), some (.int .i64 a.e1), some (.int .i64 a.e2), some (.bool a.b0), some (.bool a.b1), some (.bool a.b2), some (.int .i64 a.bias), some (.int .i64 a.change), some (.int .i64 a.move), some (.int .i64 a.most)]), (w.heap.size + 1, [some (.int .i64 t.move), some (.int .i64 t.change), some (.int .i64 t.o0), some (.int .i64 t.o1), some (.int .i64 t.o2), some (.bool t.t0), some (.bool t.t1), some (.bool t.t2)]), (w.heap.size + 1 + 1, [some (.int .i64 0), some (.int .i64 0), some (.int .i64 0)]), (w5.heap.size, [some (.int .i64 y0), none, some (.int .i64 0)])] := ⟨_, rfl⟩
      have hT := (HS9.out).cast hbs
      have c1_3 : ∀ w', Sp w bs4 w' → w'.cell? ⟨w.heap.size + 1, 3, none⟩ = some (.int .i64 t.o1) := by rw [hbs]; exact fun w' h => h.at 1 rfl 3 rfl
      have c0_1 : ∀ w', Sp w bs4 w' → w'.cell? ⟨w.heap.size, 1, none⟩ = some (.int .i64 a.e1) := by rw [hbs]; exact fun w' h => h.at 0 rfl 1 rfl
      have o3_1 : ∀ w', Sp w bs4 w' → ∃ z, w'.cell? ⟨w5.heap.size, 1, none⟩ = some z ∧ w'.frozen? ⟨w5.heap.size, 1, none⟩ = false := by rw [hbs]; exact fun w' h => h.there 3 rfl 1 rfl
      have s3_1 : ∀ w' z, Sp w bs4 w' → Sp w bs4 (w'.setCell ⟨w5.heap.size, 1, none⟩ z) := by rw [hbs]; exact fun w' z h => h.hit 3 rfl 1 rfl z
      have nx : ∀ w', Sp w bs4 w' → Sp w [(w.heap.size, [some (.int .i64 a.e0), some (.int .i64 a.e1), some (.int .i64 a.e2), some (.bool a.b0), some (.bool a.b1), some (.bool a.b2), some (.int .i64 a.bias), some (.int .i64 a.change), some (.int .i64 a.move), some (.int .i64 a.most)]), (w.heap.size + 1, [some (.int .i64 t.move), some (.int .i64 t.change), some (.int .i64 t.o0), some (.int .i64 t.o1), some (.int .i64 t.o2), some (.bool t.t0), some (.bool t.t1), some (.bool t.t2)]), (w.heap.size + 1 + 1, [some (.int .i64 0), some (.int .i64 0), some (.int .i64 0)]), (w5.heap.size, [some (.int .i64 y0), some (.int .i64 s1), some (.int .i64 0)])] (w'.setCell ⟨w5.heap.size, 1, none⟩ (.int .i64 s1)) := by rw [hbs]; exact fun w' h => (h.put 3 rfl 1 _)
      have kS : ∀ w1 w2, Sp w bs4 w1 → Below w1.heap.size w1 w2 → Sp w bs4 w2 := fun _ _ h hb => h.keep hb
      clear hbs HS9
      change (Code.region 7 oreal7 true).wp Tryd.prog _ _ _
      refine wp_region_noPanic ?_
      refine wp_region_held_drew (S := (Sp w bs4)) (by kernel_rfl) (hT.drew) (fun hHeld => ?_)
      refine wpAnyH_take (i := 0) (oi := ({ dst := some 44, op := .move (.tmp 14), type := 3, pos := "law.go:53", after := #[], guard := none } : Oper)) (v := ?vs4_0) rfl oreal7_plain (by as_aux_lemma => kernel_rfl) (by as_aux_lemma => kernel_rfl) (fun _ _ _ h => h) (Or.inl ⟨by rfl, ?ys4_0⟩) (by assumption) ?rs4_0
      case ys4_0 => (intro w hSw; (try dsimp only at hSw); go_simp; try with_reducible rfl)
      try simp only [Act.put, List.setIfInBounds_toArray, List.set_cons_zero, List.set_cons_succ]
      refine wpAnyH_take (i := 1) (oi := ({ dst := some 45, op := .move (.tmp 2), type := 2, pos := "law.go:53", after := #[], guard := none } : Oper)) (v := ?vs4_1) rfl oreal7_plain (by as_aux_lemma => kernel_rfl) (by as_aux_lemma => kernel_rfl) (fun _ _ _ h => h) (Or.inl ⟨by rfl, ?ys4_1⟩) (by assumption) ?rs4_1
      case ys4_1 => (intro w hSw; (try dsimp only at hSw); go_simp; try with_reducible rfl)
      try simp only [Act.put, List.setIfInBounds_toArray, List.set_cons_zero, List.set_cons_succ]
      refine wpAnyH_take (i := 2) (oi := ({ dst := some 46, op := .move (.tmp 14), type := 3, pos := "law.go:53", after := #[], guard := none } : Oper)) (v := ?vs4_2) rfl oreal7_plain (by as_aux_lemma => kernel_rfl) (by as_aux_lemma => kernel_rfl) (fun _ _ _ h => h) (Or.inl ⟨by rfl, ?ys4_2⟩) (by assumption) ?rs4_2
      case ys4_2 => (intro w hSw; (try dsimp only at hSw); go_simp; try with_reducible rfl)
      try simp only [Act.put, List.setIfInBounds_toArray, List.set_cons_zero, List.set_cons_succ]
      refine wpAnyH_take (i := 3) (oi := ({ dst := some 47, op := .fieldAddr 39 (.tmp 6) 2, type := 0, pos := "law.go:53", after := #[], guard := none } : Oper)) (v := ?vs4_3) rfl oreal7_plain (by as_aux_lemma => kernel_rfl) (by as_aux_lemma => kernel_rfl) (fun _ _ _ h => h) (Or.inl ⟨by rfl, ?ys4_3⟩) (by assumption) ?rs4_3
      case ys4_3 => (intro w hSw; (try dsimp only at hSw); go_simp; try with_reducible rfl)
      try simp only [Act.put, List.setIfInBounds_toArray, List.set_cons_zero, List.set_cons_succ]
      refine wpAnyH_take (i := 4) (oi := ({ dst := some 48, op := .indexAddr 22 (.tmp 47) (.tmp 46), type := 0, pos := "law.go:53", after := #[{ on := 3, ground := .data }, { on := 2, ground := .data }], guard := none } : Oper)) (v := ?vs4_4) rfl oreal7_plain (by as_aux_lemma => kernel_rfl) (by as_aux_lemma => kernel_rfl) (fun _ _ _ h => h) (Or.inl ⟨by rfl, ?ys4_4⟩) (by assumption) ?rs4_4
      case ys4_4 => (intro w hSw; (try dsimp only at hSw); go_simp; try with_reducible rfl)
      try simp only [Act.put, List.setIfInBounds_toArray, List.set_cons_zero, List.set_cons_succ]
      refine wpAnyH_take (i := 5) (oi := ({ dst := some 49, op := .load 2 (.tmp 48), type := 2, pos := "law.go:53", after := #[{ on := 4, ground := .data }], guard := none } : Oper)) (v := ?vs4_5) rfl oreal7_plain (by as_aux_lemma => kernel_rfl) (by as_aux_lemma => kernel_rfl) (fun _ _ _ h => h) (Or.inl ⟨by rfl, ?ys4_5⟩) (by assumption) ?rs4_5
      case ys4_5 => (intro w hSw; (try dsimp only at hSw); go_simp; try with_reducible rfl)
      try simp only [Act.put, List.setIfInBounds_toArray, List.set_cons_zero, List.set_cons_succ]
      refine wpAnyH_take (i := 6) (oi := ({ dst := some 50, op := .move (.tmp 14), type := 3, pos := "law.go:53", after := #[], guard := none } : Oper)) (v := ?vs4_6) rfl oreal7_plain (by as_aux_lemma => kernel_rfl) (by as_aux_lemma => kernel_rfl) (fun _ _ _ h => h) (Or.inl ⟨by rfl, ?ys4_6⟩) (by assumption) ?rs4_6
      case ys4_6 => (intro w hSw; (try dsimp only at hSw); go_simp; try with_reducible rfl)
      try simp only [Act.put, List.setIfInBounds_toArray, List.set_cons_zero, List.set_cons_succ]
      refine wpAnyH_take (i := 7) (oi := ({ dst := some 51, op := .fieldAddr 25 (.tmp 5) 0, type := 0, pos := "law.go:53", after := #[], guard := none } : Oper)) (v := ?vs4_7) rfl oreal7_plain (by as_aux_lemma => kernel_rfl) (by as_aux_lemma => kernel_rfl) (fun _ _ _ h => h) (Or.inl ⟨by rfl, ?ys4_7⟩) (by assumption) ?rs4_7
      case ys4_7 => (intro w hSw; (try dsimp only at hSw); go_simp; try with_reducible rfl)
      try simp only [Act.put, List.setIfInBounds_toArray, List.set_cons_zero, List.set_cons_succ]
      refine wpAnyH_take (i := 8) (oi := ({ dst := some 52, op := .indexAddr 22 (.tmp 51) (.tmp 50), type := 0, pos := "law.go:53", after := #[{ on := 7, ground := .data }, { on := 6, ground := .data }], guard := none } : Oper)) (v := ?vs4_8) rfl oreal7_plain (by as_aux_lemma => kernel_rfl) (by as_aux_lemma => kernel_rfl) (fun _ _ _ h => h) (Or.inl ⟨by rfl, ?ys4_8⟩) (by assumption) ?rs4_8
      case ys4_8 => (intro w hSw; (try dsimp only at hSw); go_simp; try with_reducible rfl)
      try simp only [Act.put, List.setIfInBounds_toArray, List.set_cons_zero, List.set_cons_succ]
      refine wpAnyH_take (i := 9) (oi := ({ dst := some 53, op := .load 2 (.tmp 52), type := 2, pos := "law.go:53", after := #[{ on := 8, ground := .data }], guard := none } : Oper)) (v := ?vs4_9) rfl oreal7_plain (by as_aux_lemma => kernel_rfl) (by as_aux_lemma => kernel_rfl) (fun _ _ _ h => h) (Or.inl ⟨by rfl, ?ys4_9⟩) (by assumption) ?rs4_9
      case ys4_9 => (intro w hSw; (try dsimp only at hSw); go_simp; try with_reducible rfl)
      try simp only [Act.put, List.setIfInBounds_toArray, List.set_cons_zero, List.set_cons_succ]
      refine wpAnyH_ready (rs := [10]) (by as_aux_lemma => kernel_rfl) (by simp) ?_
      refine AllReadyH.cons (o := ({ dst := some 54, op := .call { callee := .value (.func 6), args := #[.tmp 49, .tmp 53], argTypes := #[2, 2] }, type := 2, pos := "law.go:53", after := #[{ on := 5, ground := .data }, { on := 9, ground := .data }], guard := none } : Oper)) rfl (fun KK hK => ?_) AllReadyH.nil
      rw [if_pos (by rfl)]
      go_simp
      go_at_call 6; refine (W1.out _).mono ?_; rintro e w9 ⟨rfl, hb9⟩
      go_wp2_with fail
      refine hK.out _ _ ?_ (fun hHeld9 => ?_)
      · exact kS _ _ (by assumption) hb9
      clear hK KK hb9
      try simp only [Act.put, List.setIfInBounds_toArray, List.set_cons_zero, List.set_cons_succ]
      refine wpAnyH_take (i := 11) (oi := ({ dst := some 55, op := .binOp .add 2 (.tmp 45) (.tmp 54) 2, type := 2, pos := "law.go:53", after := #[{ on := 1, ground := .data }, { on := 10, ground := .data }], guard := none } : Oper)) (v := ?vs4_11) rfl oreal7_plain (by as_aux_lemma => kernel_rfl) (by as_aux_lemma => kernel_rfl) (fun _ _ _ h => h) (Or.inl ⟨by rfl, ?ys4_11⟩) (by assumption) ?rs4_11
      case ys4_11 => (intro w hSw; (try dsimp only at hSw); go_simp; try with_reducible rfl)
      try simp only [Act.put, List.setIfInBounds_toArray, List.set_cons_zero, List.set_cons_succ]
      refine wpAnyH_take (i := 12) (oi := ({ dst := some 56, op := .indexAddr 22 (.tmp 13) (.tmp 44), type := 0, pos := "law.go:53", after := #[{ on := 0, ground := .data }, { on := 0, ground := .phase }, { on := 1, ground := .phase }, { on := 2, ground := .phase }, { on := 3, ground := .phase }, { on := 4, ground := .phase }, { on := 5, ground := .phase }, { on := 6, ground := .phase }, { on := 7, ground := .phase }, { on := 8, ground := .phase }, { on := 9, ground := .phase }, { on := 10, ground := .phase }, { on := 11, ground := .phase }], guard := none } : Oper)) (v := ?vs4_12) rfl oreal7_plain (by as_aux_lemma => kernel_rfl) (by as_aux_lemma => kernel_rfl) (fun _ _ _ h => h) (Or.inl ⟨by rfl, ?ys4_12⟩) (by assumption) ?rs4_12
      case ys4_12 => (intro w hSw; (try dsimp only at hSw); go_simp; try with_reducible rfl)
      try simp only [Act.put, List.setIfInBounds_toArray, List.set_cons_zero, List.set_cons_succ]
      refine wpAnyH_ready (rs := [13]) (by as_aux_lemma => kernel_rfl) (by simp) ?_
      refine AllReadyH.cons (o := ({ dst := none, op := .store 2 (.tmp 56) (.tmp 55), type := 0, pos := "law.go:53", after := #[{ on := 12, ground := .data }, { on := 11, ground := .data }, { on := 10, ground := .chain }, { on := 0, ground := .phase }, { on := 1, ground := .phase }, { on := 2, ground := .phase }, { on := 3, ground := .phase }, { on := 4, ground := .phase }, { on := 5, ground := .phase }, { on := 6, ground := .phase }, { on := 7, ground := .phase }, { on := 8, ground := .phase }, { on := 9, ground := .phase }, { on := 10, ground := .phase }, { on := 11, ground := .phase }], guard := none } : Oper)) rfl (fun KK hK => ?_) AllReadyH.nil
      rw [if_pos (by rfl)]
      obtain ⟨z3_1, k3_1, f3_1⟩ := o3_1 _ hHeld9
      have N1 := nx _ hHeld9
      go_simp
      refine hK.out _ _ ?_ (fun hHeldS0 => ?_)
      · exact (s3_1 _ _ hHeld9)
      clear hK KK
      try simp only [Act.put, List.setIfInBounds_toArray, List.set_cons_zero, List.set_cons_succ]
      refine wpAnyH_done (by as_aux_lemma => kernel_rfl) ?_ _
      refine NoPanic.normal ?_
      have HS10 := Lib.hid N1
      clear c1_3 c0_1 o3_1 s3_1 nx kS hT N1 k3_1 f3_1
      obtain ⟨w10, hX, hS⟩ := (HS10.out).named
      rw [← hX]
      clear hX HS10
      have HS11 := Lib.hid hS
      clear hS
      clear q1
      have b0_4 := (HS11.out).at 0 rfl 4 (v := .bool a.b1) rfl
      have k3_1 := (HS11.out).at 3 rfl 1 (v := .int .i64 s1) rfl
      have f3_1 := (HS11.out).free 3 rfl 1 rfl
      have o1_3 := (HS11.out).at 1 rfl 3 (v := .int .i64 t.o1) rfl
      rcases Bool.eq_false_or_eq_true a.b1 with cb | cb
      · rw [cb] at b0_4
        have HC := Lib.hid cb
        clear cb
        have hS12 := (HS11.out).put 3 rfl 1 (.int .i64 c1)
        have HS12 := Lib.hid hS12
        clear hS12 HS11
        by_cases cd : bad = 1
        · have HE := Lib.hid (Yg1.out cd)
          subst cd
          go_wp2_with fail
          refine (G1.out _).mono ?_; rintro e wz ⟨rfl, rfl⟩
          have hS13 := (HS12.out).put 3 rfl 1 (.int .i64 g1)
          have HS13 := Lib.hid hS13
          clear hS13 HS12
          have HN := HS13.out
          go_wp2_with fail
          go_roundw
          case rel => first | exact ⟨2, by omega, rfl, by rw [HE.out]; exact HN⟩ | ((repeat apply Exists.intro); exact ⟨⟨2, by omega, rfl, by rw [HE.out]; exact HN⟩, rfl⟩)
          case measure => simp [intOf]
        · have HE := Lib.hid (Yc1.out cd HC.out)
          have d0 : ((1 : Int) == bad) = false := by simpa using Ne.symm cd
          have d1 : (bad == (1 : Int)) = false := by simpa using cd
          have d2 : ¬ (1 : Int) = bad := Ne.symm cd
          have HN := HS12.out
          go_wp2_with fail
          go_roundw
          case rel => first | exact ⟨2, by omega, rfl, by rw [HE.out]; exact HN⟩ | ((repeat apply Exists.intro); exact ⟨⟨2, by omega, rfl, by rw [HE.out]; exact HN⟩, rfl⟩)
          case measure => simp [intOf]
      · rw [cb] at b0_4
        have HC := Lib.hid cb
        clear cb
        by_cases cd : bad = 1
        · have HE := Lib.hid (Yg1.out cd)
          subst cd
          go_wp2_with fail
          refine (G1.out _).mono ?_; rintro e wz ⟨rfl, rfl⟩
          have hS12 := (HS11.out).put 3 rfl 1 (.int .i64 g1)
          have HS12 := Lib.hid hS12
          clear hS12 HS11
          have HN := HS12.out
          go_wp2_with fail
          go_roundw
          case rel => first | exact ⟨2, by omega, rfl, by rw [HE.out]; exact HN⟩ | ((repeat apply Exists.intro); exact ⟨⟨2, by omega, rfl, by rw [HE.out]; exact HN⟩, rfl⟩)
          case measure => simp [intOf]
        · have HE := Lib.hid (Ys1.out cd HC.out)
          have d0 : ((1 : Int) == bad) = false := by simpa using Ne.symm cd
          have d1 : (bad == (1 : Int)) = false := by simpa using cd
          have d2 : ¬ (1 : Int) = bad := Ne.symm cd
          have HN := HS11.out
          go_wp2_with fail
          go_roundw
          case rel => first | exact ⟨2, by omega, rfl, by rw [HE.out]; exact HN⟩ | ((repeat apply Exists.intro); exact ⟨⟨2, by omega, rfl, by rw [HE.out]; exact HN⟩, rfl⟩)
          case measure => simp [intOf]
    · skip
      have HS9 : Hid (Sp w [(w.heap.size, [some (.int .i64 a.e0), some (.int .i64 a.e1), some (.int .i64 a.e2), some (.bool a.b0), some (.bool a.b1), some (.bool a.b2), some (.int .i64 a.bias), some (.int .i64 a.change), some (.int .i64 a.move), some (.int .i64 a.most)]), (w.heap.size + 1, [some (.int .i64 t.move), some (.int .i64 t.change), some (.int .i64 t.o0), some (.int .i64 t.o1), some (.int .i64 t.o2), some (.bool t.t0), some (.bool t.t1), some (.bool t.t2)]), (w.heap.size + 1 + 1, [some (.int .i64 0), some (.int .i64 0), some (.int .i64 0)]), (w5.heap.size, [some (.int .i64 y0), some (.int .i64 y1), some (.int .i64 0)])] _) := Lib.hid hS
      clear hS hj
      have q1 := p2.out
      have q2 := r2.out
      go_upto_region 7 with fail
      have hS10 := (HS9.out).forget 3 rfl 2
      have HS10 := Lib.hid hS10
      clear hS10 HS9
      obtain ⟨bs5, hbs⟩ : ∃ bs : List (Nat × List (Option Value)), bs = [(w.heap.size, [some (.int .i64 a.e0), some (.int .i64 a.e1), some (.int .i64 a.e2), some (.bool a.b0), some (.bool a.b1), some (.bool a.b2), some (.int .i64 a.bias), some (.int .i64 a.change), some (.int .i64 a.move), some (.int .i64 a.most)]), (w.heap.size + 1, [some (.int .i64 t.move), some (.int .i64 t.change), some (.int .i64 t.o0), some (.int .i64 t.o1), some (.int .i64 t.o2), some (.bool t.t0), some (.bool t.t1), some (.bool t.t2)]), (w.heap.size + 1 + 1, [some (.int .i64 0), some (.int .i64 0), some (.int .i64 0)]), (w5.heap.size, [some (.int .i64 y0), some (.int .i64 y1), none])] := ⟨_, rfl⟩
      have hT := (HS10.out).cast hbs
      have c1_4 : ∀ w', Sp w bs5 w' → w'.cell? ⟨w.heap.size + 1, 4, none⟩ = some (.int .i64 t.o2) := by rw [hbs]; exact fun w' h => h.at 1 rfl 4 rfl
      have c0_2 : ∀ w', Sp w bs5 w' → w'.cell? ⟨w.heap.size, 2, none⟩ = some (.int .i64 a.e2) := by rw [hbs]; exact fun w' h => h.at 0 rfl 2 rfl
      have o3_2 : ∀ w', Sp w bs5 w' → ∃ z, w'.cell? ⟨w5.heap.size, 2, none⟩ = some z ∧ w'.frozen? ⟨w5.heap.size, 2, none⟩ = false := by rw [hbs]; exact fun w' h => h.there 3 rfl 2 rfl
      have s3_2 : ∀ w' z, Sp w bs5 w' → Sp w bs5 (w'.setCell ⟨w5.heap.size, 2, none⟩ z) := by rw [hbs]; exact fun w' z h => h.hit 3 rfl 2 rfl z
      have nx : ∀ w', Sp w bs5 w' → Sp w [(w.heap.size, [some (.int .i64 a.e0), some (.int .i64 a.e1), some (.int .i64 a.e2), some (.bool a.b0), some (.bool a.b1), some (.bool a.b2), some (.int .i64 a.bias), some (.int .i64 a.change), some (.int .i64 a.move), some (.int .i64 a.most)]), (w.heap.size + 1, [some (.int .i64 t.move), some (.int .i64 t.change), some (.int .i64 t.o0), some (.int .i64 t.o1), some (.int .i64 t.o2), some (.bool t.t0), some (.bool t.t1), some (.bool t.t2)]), (w.heap.size + 1 + 1, [some (.int .i64 0), some (.int .i64 0), some (.int .i64 0)]), (w5.heap.size, [some (.int .i64 y0), some (.int .i64 y1), some (.int .i64 s2)])] (w'.setCell ⟨w5.heap.size, 2, none⟩ (.int .i64 s2)) := by rw [hbs]; exact fun w' h => (h.put 3 rfl 2 _)
      have kS : ∀ w1 w2, Sp w bs5 w1 → Below w1.heap.size w1 w2 → Sp w bs5 w2 := fun _ _ h hb => h.keep hb
      clear hbs HS10
      change (Code.region 7 oreal7 true).wp Tryd.prog _ _ _
      refine wp_region_noPanic ?_
      refine wp_region_held_drew (S := (Sp w bs5)) (by kernel_rfl) (hT.drew) (fun hHeld => ?_)
      refine wpAnyH_take (i := 0) (oi := ({ dst := some 44, op := .move (.tmp 14), type := 3, pos := "law.go:53", after := #[], guard := none } : Oper)) (v := ?vs5_0) rfl oreal7_plain (by as_aux_lemma => kernel_rfl) (by as_aux_lemma => kernel_rfl) (fun _ _ _ h => h) (Or.inl ⟨by rfl, ?ys5_0⟩) (by assumption) ?rs5_0
      case ys5_0 => (intro w hSw; (try dsimp only at hSw); go_simp; try with_reducible rfl)
      try simp only [Act.put, List.setIfInBounds_toArray, List.set_cons_zero, List.set_cons_succ]
      refine wpAnyH_take (i := 1) (oi := ({ dst := some 45, op := .move (.tmp 2), type := 2, pos := "law.go:53", after := #[], guard := none } : Oper)) (v := ?vs5_1) rfl oreal7_plain (by as_aux_lemma => kernel_rfl) (by as_aux_lemma => kernel_rfl) (fun _ _ _ h => h) (Or.inl ⟨by rfl, ?ys5_1⟩) (by assumption) ?rs5_1
      case ys5_1 => (intro w hSw; (try dsimp only at hSw); go_simp; try with_reducible rfl)
      try simp only [Act.put, List.setIfInBounds_toArray, List.set_cons_zero, List.set_cons_succ]
      refine wpAnyH_take (i := 2) (oi := ({ dst := some 46, op := .move (.tmp 14), type := 3, pos := "law.go:53", after := #[], guard := none } : Oper)) (v := ?vs5_2) rfl oreal7_plain (by as_aux_lemma => kernel_rfl) (by as_aux_lemma => kernel_rfl) (fun _ _ _ h => h) (Or.inl ⟨by rfl, ?ys5_2⟩) (by assumption) ?rs5_2
      case ys5_2 => (intro w hSw; (try dsimp only at hSw); go_simp; try with_reducible rfl)
      try simp only [Act.put, List.setIfInBounds_toArray, List.set_cons_zero, List.set_cons_succ]
      refine wpAnyH_take (i := 3) (oi := ({ dst := some 47, op := .fieldAddr 39 (.tmp 6) 2, type := 0, pos := "law.go:53", after := #[], guard := none } : Oper)) (v := ?vs5_3) rfl oreal7_plain (by as_aux_lemma => kernel_rfl) (by as_aux_lemma => kernel_rfl) (fun _ _ _ h => h) (Or.inl ⟨by rfl, ?ys5_3⟩) (by assumption) ?rs5_3
      case ys5_3 => (intro w hSw; (try dsimp only at hSw); go_simp; try with_reducible rfl)
      try simp only [Act.put, List.setIfInBounds_toArray, List.set_cons_zero, List.set_cons_succ]
      refine wpAnyH_take (i := 4) (oi := ({ dst := some 48, op := .indexAddr 22 (.tmp 47) (.tmp 46), type := 0, pos := "law.go:53", after := #[{ on := 3, ground := .data }, { on := 2, ground := .data }], guard := none } : Oper)) (v := ?vs5_4) rfl oreal7_plain (by as_aux_lemma => kernel_rfl) (by as_aux_lemma => kernel_rfl) (fun _ _ _ h => h) (Or.inl ⟨by rfl, ?ys5_4⟩) (by assumption) ?rs5_4
      case ys5_4 => (intro w hSw; (try dsimp only at hSw); go_simp; try with_reducible rfl)
      try simp only [Act.put, List.setIfInBounds_toArray, List.set_cons_zero, List.set_cons_succ]
      refine wpAnyH_take (i := 5) (oi := ({ dst := some 49, op := .load 2 (.tmp 48), type := 2, pos := "law.go:53", after := #[{ on := 4, ground := .data }], guard := none } : Oper)) (v := ?vs5_5) rfl oreal7_plain (by as_aux_lemma => kernel_rfl) (by as_aux_lemma => kernel_rfl) (fun _ _ _ h => h) (Or.inl ⟨by rfl, ?ys5_5⟩) (by assumption) ?rs5_5
      case ys5_5 => (intro w hSw; (try dsimp only at hSw); go_simp; try with_reducible rfl)
      try simp only [Act.put, List.setIfInBounds_toArray, List.set_cons_zero, List.set_cons_succ]
      refine wpAnyH_take (i := 6) (oi := ({ dst := some 50, op := .move (.tmp 14), type := 3, pos := "law.go:53", after := #[], guard := none } : Oper)) (v := ?vs5_6) rfl oreal7_plain (by as_aux_lemma => kernel_rfl) (by as_aux_lemma => kernel_rfl) (fun _ _ _ h => h) (Or.inl ⟨by rfl, ?ys5_6⟩) (by assumption) ?rs5_6
      case ys5_6 => (intro w hSw; (try dsimp only at hSw); go_simp; try with_reducible rfl)
      try simp only [Act.put, List.setIfInBounds_toArray, List.set_cons_zero, List.set_cons_succ]
      refine wpAnyH_take (i := 7) (oi := ({ dst := some 51, op := .fieldAddr 25 (.tmp 5) 0, type := 0, pos := "law.go:53", after := #[], guard := none } : Oper)) (v := ?vs5_7) rfl oreal7_plain (by as_aux_lemma => kernel_rfl) (by as_aux_lemma => kernel_rfl) (fun _ _ _ h => h) (Or.inl ⟨by rfl, ?ys5_7⟩) (by assumption) ?rs5_7
      case ys5_7 => (intro w hSw; (try dsimp only at hSw); go_simp; try with_reducible rfl)
      try simp only [Act.put, List.setIfInBounds_toArray, List.set_cons_zero, List.set_cons_succ]
      refine wpAnyH_take (i := 8) (oi := ({ dst := some 52, op := .indexAddr 22 (.tmp 51) (.tmp 50), type := 0, pos := "law.go:53", after := #[{ on := 7, ground := .data }, { on := 6, ground := .data }], guard := none } : Oper)) (v := ?vs5_8) rfl oreal7_plain (by as_aux_lemma => kernel_rfl) (by as_aux_lemma => kernel_rfl) (fun _ _ _ h => h) (Or.inl ⟨by rfl, ?ys5_8⟩) (by assumption) ?rs5_8
      case ys5_8 => (intro w hSw; (try dsimp only at hSw); go_simp; try with_reducible rfl)
      try simp only [Act.put, List.setIfInBounds_toArray, List.set_cons_zero, List.set_cons_succ]
      refine wpAnyH_take (i := 9) (oi := ({ dst := some 53, op := .load 2 (.tmp 52), type := 2, pos := "law.go:53", after := #[{ on := 8, ground := .data }], guard := none } : Oper)) (v := ?vs5_9) rfl oreal7_plain (by as_aux_lemma => kernel_rfl) (by as_aux_lemma => kernel_rfl) (fun _ _ _ h => h) (Or.inl ⟨by rfl, ?ys5_9⟩) (by assumption) ?rs5_9
      case ys5_9 => (intro w hSw; (try dsimp only at hSw); go_simp; try with_reducible rfl)
      try simp only [Act.put, List.setIfInBounds_toArray, List.set_cons_zero, List.set_cons_succ]
      refine wpAnyH_ready (rs := [10]) (by as_aux_lemma => kernel_rfl) (by simp) ?_
      refine AllReadyH.cons (o := ({ dst := some 54, op := .call { callee := .value (.func 6), args := #[.tmp 49, .tmp 53], argTypes := #[2, 2] }, type := 2, pos := "law.go:53", after := #[{ on := 5, ground := .data }, { on := 9, ground := .data }], guard := none } : Oper)) rfl (fun KK hK => ?_) AllReadyH.nil
      rw [if_pos (by rfl)]
      go_simp
      go_at_call 6; refine (W2.out _).mono ?_; rintro e w11 ⟨rfl, hb11⟩
      go_wp2_with fail
      refine hK.out _ _ ?_ (fun hHeld11 => ?_)
      · exact kS _ _ (by assumption) hb11
      clear hK KK hb11
      try simp only [Act.put, List.setIfInBounds_toArray, List.set_cons_zero, List.set_cons_succ]
      refine wpAnyH_take (i := 11) (oi := ({ dst := some 55, op := .binOp .add 2 (.tmp 45) (.tmp 54) 2, type := 2, pos := "law.go:53", after := #[{ on := 1, ground := .data }, { on := 10, ground := .data }], guard := none } : Oper)) (v := ?vs5_11) rfl oreal7_plain (by as_aux_lemma => kernel_rfl) (by as_aux_lemma => kernel_rfl) (fun _ _ _ h => h) (Or.inl ⟨by rfl, ?ys5_11⟩) (by assumption) ?rs5_11
      case ys5_11 => (intro w hSw; (try dsimp only at hSw); go_simp; try with_reducible rfl)
      try simp only [Act.put, List.setIfInBounds_toArray, List.set_cons_zero, List.set_cons_succ]
      refine wpAnyH_take (i := 12) (oi := ({ dst := some 56, op := .indexAddr 22 (.tmp 13) (.tmp 44), type := 0, pos := "law.go:53", after := #[{ on := 0, ground := .data }, { on := 0, ground := .phase }, { on := 1, ground := .phase }, { on := 2, ground := .phase }, { on := 3, ground := .phase }, { on := 4, ground := .phase }, { on := 5, ground := .phase }, { on := 6, ground := .phase }, { on := 7, ground := .phase }, { on := 8, ground := .phase }, { on := 9, ground := .phase }, { on := 10, ground := .phase }, { on := 11, ground := .phase }], guard := none } : Oper)) (v := ?vs5_12) rfl oreal7_plain (by as_aux_lemma => kernel_rfl) (by as_aux_lemma => kernel_rfl) (fun _ _ _ h => h) (Or.inl ⟨by rfl, ?ys5_12⟩) (by assumption) ?rs5_12
      case ys5_12 => (intro w hSw; (try dsimp only at hSw); go_simp; try with_reducible rfl)
      try simp only [Act.put, List.setIfInBounds_toArray, List.set_cons_zero, List.set_cons_succ]
      refine wpAnyH_ready (rs := [13]) (by as_aux_lemma => kernel_rfl) (by simp) ?_
      refine AllReadyH.cons (o := ({ dst := none, op := .store 2 (.tmp 56) (.tmp 55), type := 0, pos := "law.go:53", after := #[{ on := 12, ground := .data }, { on := 11, ground := .data }, { on := 10, ground := .chain }, { on := 0, ground := .phase }, { on := 1, ground := .phase }, { on := 2, ground := .phase }, { on := 3, ground := .phase }, { on := 4, ground := .phase }, { on := 5, ground := .phase }, { on := 6, ground := .phase }, { on := 7, ground := .phase }, { on := 8, ground := .phase }, { on := 9, ground := .phase }, { on := 10, ground := .phase }, { on := 11, ground := .phase }], guard := none } : Oper)) rfl (fun KK hK => ?_) AllReadyH.nil
      rw [if_pos (by rfl)]
      obtain ⟨z3_2, k3_2, f3_2⟩ := o3_2 _ hHeld11
      have N1 := nx _ hHeld11
      go_simp
      refine hK.out _ _ ?_ (fun hHeldS0 => ?_)
      · exact (s3_2 _ _ hHeld11)
      clear hK KK
      try simp only [Act.put, List.setIfInBounds_toArray, List.set_cons_zero, List.set_cons_succ]
      refine wpAnyH_done (by as_aux_lemma => kernel_rfl) ?_ _
      refine NoPanic.normal ?_
      have HS11 := Lib.hid N1
      clear c1_4 c0_2 o3_2 s3_2 nx kS hT N1 k3_2 f3_2
      obtain ⟨w12, hX, hS⟩ := (HS11.out).named
      rw [← hX]
      clear hX HS11
      have HS12 := Lib.hid hS
      clear hS
      clear q1
      have b0_5 := (HS12.out).at 0 rfl 5 (v := .bool a.b2) rfl
      have k3_2 := (HS12.out).at 3 rfl 2 (v := .int .i64 s2) rfl
      have f3_2 := (HS12.out).free 3 rfl 2 rfl
      have o1_4 := (HS12.out).at 1 rfl 4 (v := .int .i64 t.o2) rfl
      rcases Bool.eq_false_or_eq_true a.b2 with cb | cb
      · rw [cb] at b0_5
        have HC := Lib.hid cb
        clear cb
        have hS13 := (HS12.out).put 3 rfl 2 (.int .i64 c2)
        have HS13 := Lib.hid hS13
        clear hS13 HS12
        by_cases cd : bad = 2
        · have HE := Lib.hid (Yg2.out cd)
          subst cd
          go_wp2_with fail
          refine (G2.out _).mono ?_; rintro e wz ⟨rfl, rfl⟩
          have hS14 := (HS13.out).put 3 rfl 2 (.int .i64 g2)
          have HS14 := Lib.hid hS14
          clear hS14 HS13
          have HN := HS14.out
          go_wp2_with fail
          go_roundw
          case rel => first | exact ⟨3, by omega, rfl, by rw [HE.out]; exact HN⟩ | ((repeat apply Exists.intro); exact ⟨⟨3, by omega, rfl, by rw [HE.out]; exact HN⟩, rfl⟩)
          case measure => simp [intOf]
        · have HE := Lib.hid (Yc2.out cd HC.out)
          have d0 : ((2 : Int) == bad) = false := by simpa using Ne.symm cd
          have d1 : (bad == (2 : Int)) = false := by simpa using cd
          have d2 : ¬ (2 : Int) = bad := Ne.symm cd
          have HN := HS13.out
          go_wp2_with fail
          go_roundw
          case rel => first | exact ⟨3, by omega, rfl, by rw [HE.out]; exact HN⟩ | ((repeat apply Exists.intro); exact ⟨⟨3, by omega, rfl, by rw [HE.out]; exact HN⟩, rfl⟩)
          case measure => simp [intOf]
      · rw [cb] at b0_5
        have HC := Lib.hid cb
        clear cb
        by_cases cd : bad = 2
        · have HE := Lib.hid (Yg2.out cd)
          subst cd
          go_wp2_with fail
          refine (G2.out _).mono ?_; rintro e wz ⟨rfl, rfl⟩
          have hS13 := (HS12.out).put 3 rfl 2 (.int .i64 g2)
          have HS13 := Lib.hid hS13
          clear hS13 HS12
          have HN := HS13.out
          go_wp2_with fail
          go_roundw
          case rel => first | exact ⟨3, by omega, rfl, by rw [HE.out]; exact HN⟩ | ((repeat apply Exists.intro); exact ⟨⟨3, by omega, rfl, by rw [HE.out]; exact HN⟩, rfl⟩)
          case measure => simp [intOf]
        · have HE := Lib.hid (Ys2.out cd HC.out)
          have d0 : ((2 : Int) == bad) = false := by simpa using Ne.symm cd
          have d1 : (bad == (2 : Int)) = false := by simpa using cd
          have d2 : ¬ (2 : Int) = bad := Ne.symm cd
          have HN := HS12.out
          go_wp2_with fail
          go_roundw
          case rel => first | exact ⟨3, by omega, rfl, by rw [HE.out]; exact HN⟩ | ((repeat apply Exists.intro); exact ⟨⟨3, by omega, rfl, by rw [HE.out]; exact HN⟩, rfl⟩)
          case measure => simp [intOf]
    · skip
      have HS10 : Hid (Sp w [(w.heap.size, [some (.int .i64 a.e0), some (.int .i64 a.e1), some (.int .i64 a.e2), some (.bool a.b0), some (.bool a.b1), some (.bool a.b2), some (.int .i64 a.bias), some (.int .i64 a.change), some (.int .i64 a.move), some (.int .i64 a.most)]), (w.heap.size + 1, [some (.int .i64 t.move), some (.int .i64 t.change), some (.int .i64 t.o0), some (.int .i64 t.o1), some (.int .i64 t.o2), some (.bool t.t0), some (.bool t.t1), some (.bool t.t2)]), (w.heap.size + 1 + 1, [some (.int .i64 0), some (.int .i64 0), some (.int .i64 0)]), (w5.heap.size, [some (.int .i64 y0), some (.int .i64 y1), some (.int .i64 y2)])] _) := Lib.hid hS
      clear hS hj
      have k3_0 := (HS10.out).at 3 rfl 0 (v := .int .i64 y0) rfl
      have k3_1 := (HS10.out).at 3 rfl 1 (v := .int .i64 y1) rfl
      have k3_2 := (HS10.out).at 3 rfl 2 (v := .int .i64 y2) rfl
      have k2_0 := (HS10.out).at 2 rfl 0 (v := .int .i64 0) rfl
      have k2_1 := (HS10.out).at 2 rfl 1 (v := .int .i64 0) rfl
      have k2_2 := (HS10.out).at 2 rfl 2 (v := .int .i64 0) rfl
      have f2_0 := (HS10.out).free 2 rfl 0 rfl
      have f2_1 := (HS10.out).free 2 rfl 1 rfl
      have f2_2 := (HS10.out).free 2 rfl 2 rfl
      have BH := Lib.hid HS10.out.below
      clear HS10
      go_upto_region 13 with fail
      go_region
      go_wp2_with fail
      refine bodyPost_ret (v := .tuple #[.int .i64 nv, .int .i64 nb, .agg #[.int .i64 y0, .int .i64 y1, .int .i64 y2]]) (by simp [results, Tryd.results8, go_sem, *]) rfl ⟨rfl, ?_⟩
      refine Below.drew ?_
      iterate 3 refine Below.setCell (p := ⟨w.heap.size + 1 + 1, _, none⟩) ?_ (show w.heap.size ≤ w.heap.size + 1 + 1 by omega) _
      exact BH.out
end Go.Proofs.YtkjkmnclnedfhaaDoor
