/- CusumSays. -/
import Derived.Test.YtlfpmeflddimfaaCusAwake
import Derived.Test.YtlfpmeflddimfaaCusRef
import Derived.Deep.Cut
import Derived.Deep.CutBlock
import Derived.Deep.CutRange
import Derived.Deep.RegionHeld3
namespace Go.Proofs.Ytlfpmeflddimfaa
open Go.RowKit

/-- The operations of a drawn region, as the translation has them. -/
def says5 : Array Oper := #[
  { dst := some 29, op := .indexAddr 23 (.tmp 3) (.const (.int .i64 0)), type := 0, pos := "law.go:24", after := #[], guard := none },
  { dst := some 30, op := .load 2 (.tmp 29), type := 2, pos := "law.go:24", after := #[{ on := 0, ground := .data }], guard := none },
  { dst := some 31, op := .indexAddr 23 (.tmp 3) (.const (.int .i64 1)), type := 0, pos := "law.go:24", after := #[], guard := none },
  { dst := some 32, op := .load 2 (.tmp 31), type := 2, pos := "law.go:24", after := #[{ on := 2, ground := .data }], guard := none },
  { dst := some 33, op := .indexAddr 23 (.tmp 3) (.const (.int .i64 2)), type := 0, pos := "law.go:24", after := #[], guard := none },
  { dst := some 34, op := .load 2 (.tmp 33), type := 2, pos := "law.go:24", after := #[{ on := 4, ground := .data }], guard := none },
  { dst := some 35, op := .call { callee := .value (.func 10), args := #[.tmp 30, .tmp 32, .tmp 34], argTypes := #[2, 2, 2] }, type := 2, pos := "law.go:24", after := #[{ on := 1, ground := .data }, { on := 3, ground := .data }, { on := 5, ground := .data }], guard := none },
  { dst := some 36, op := .indexAddr 23 (.tmp 3) (.const (.int .i64 0)), type := 0, pos := "law.go:24", after := #[], guard := none },
  { dst := some 37, op := .load 2 (.tmp 36), type := 2, pos := "law.go:24", after := #[{ on := 7, ground := .data }], guard := none },
  { dst := some 38, op := .indexAddr 23 (.tmp 3) (.const (.int .i64 1)), type := 0, pos := "law.go:24", after := #[], guard := none },
  { dst := some 39, op := .load 2 (.tmp 38), type := 2, pos := "law.go:24", after := #[{ on := 9, ground := .data }], guard := none },
  { dst := some 40, op := .indexAddr 23 (.tmp 3) (.const (.int .i64 2)), type := 0, pos := "law.go:24", after := #[], guard := none },
  { dst := some 41, op := .load 2 (.tmp 40), type := 2, pos := "law.go:24", after := #[{ on := 11, ground := .data }], guard := none },
  { dst := some 42, op := .call { callee := .value (.func 11), args := #[.tmp 37, .tmp 39, .tmp 41], argTypes := #[2, 2, 2] }, type := 2, pos := "law.go:24", after := #[{ on := 8, ground := .data }, { on := 10, ground := .data }, { on := 12, ground := .data }, { on := 6, ground := .chain }], guard := none },
  { dst := some 43, op := .binOp .eql 2 (.tmp 35) (.tmp 42) 2, type := 4, pos := "law.go:24", after := #[{ on := 6, ground := .data }, { on := 13, ground := .data }], guard := none },
  { dst := some 44, op := .move (.tmp 43), type := 4, pos := "law.go:24", after := #[{ on := 14, ground := .data }, { on := 13, ground := .chain }], guard := none },
  { dst := some 45, op := .indexAddr 23 (.tmp 3) (.const (.int .i64 3)), type := 0, pos := "law.go:24", after := #[{ on := 15, ground := .guard }], guard := some (15, true) },
  { dst := some 46, op := .load 2 (.tmp 45), type := 2, pos := "law.go:24", after := #[{ on := 16, ground := .data }, { on := 15, ground := .guard }], guard := some (15, true) },
  { dst := some 47, op := .indexAddr 23 (.tmp 3) (.const (.int .i64 2)), type := 0, pos := "law.go:24", after := #[{ on := 15, ground := .guard }], guard := some (15, true) },
  { dst := some 48, op := .load 2 (.tmp 47), type := 2, pos := "law.go:24", after := #[{ on := 18, ground := .data }, { on := 15, ground := .guard }], guard := some (15, true) },
  { dst := some 49, op := .move (.tmp 0), type := 22, pos := "law.go:24", after := #[{ on := 15, ground := .guard }], guard := some (15, true) },
  { dst := some 50, op := .call { callee := .value (.func 12), args := #[.tmp 46, .tmp 48, .tmp 49], argTypes := #[2, 2, 22] }, type := 2, pos := "law.go:24", after := #[{ on := 17, ground := .data }, { on := 19, ground := .data }, { on := 20, ground := .data }, { on := 15, ground := .chain }, { on := 15, ground := .guard }], guard := some (15, true) },
  { dst := some 51, op := .indexAddr 23 (.tmp 3) (.const (.int .i64 3)), type := 0, pos := "law.go:24", after := #[{ on := 15, ground := .guard }], guard := some (15, true) },
  { dst := some 52, op := .load 2 (.tmp 51), type := 2, pos := "law.go:24", after := #[{ on := 22, ground := .data }, { on := 15, ground := .guard }], guard := some (15, true) },
  { dst := some 53, op := .indexAddr 23 (.tmp 3) (.const (.int .i64 2)), type := 0, pos := "law.go:24", after := #[{ on := 15, ground := .guard }], guard := some (15, true) },
  { dst := some 54, op := .load 2 (.tmp 53), type := 2, pos := "law.go:24", after := #[{ on := 24, ground := .data }, { on := 15, ground := .guard }], guard := some (15, true) },
  { dst := some 55, op := .move (.tmp 0), type := 22, pos := "law.go:24", after := #[{ on := 15, ground := .guard }], guard := some (15, true) },
  { dst := some 56, op := .call { callee := .value (.func 13), args := #[.tmp 52, .tmp 54, .tmp 55], argTypes := #[2, 2, 22] }, type := 2, pos := "law.go:24", after := #[{ on := 23, ground := .data }, { on := 25, ground := .data }, { on := 26, ground := .data }, { on := 21, ground := .chain }, { on := 15, ground := .guard }], guard := some (15, true) },
  { dst := some 57, op := .binOp .eql 2 (.tmp 50) (.tmp 56) 2, type := 4, pos := "law.go:24", after := #[{ on := 21, ground := .data }, { on := 27, ground := .data }, { on := 15, ground := .guard }], guard := some (15, true) },
  { dst := some 58, op := .pick (.tmp 44) (.tmp 57) (.const (.bool false)), type := 4, pos := "law.go:24", after := #[{ on := 15, ground := .data }, { on := 28, ground := .data }], guard := none },
  { dst := some 59, op := .move (.tmp 58), type := 4, pos := "law.go:24", after := #[{ on := 29, ground := .data }, { on := 27, ground := .chain }], guard := none },
  { dst := some 60, op := .move (.tmp 5), type := 2, pos := "law.go:24", after := #[{ on := 30, ground := .guard }], guard := some (30, true) },
  { dst := some 61, op := .move (.tmp 7), type := 2, pos := "law.go:24", after := #[{ on := 30, ground := .guard }], guard := some (30, true) },
  { dst := some 62, op := .binOp .eql 2 (.tmp 60) (.tmp 61) 2, type := 4, pos := "law.go:24", after := #[{ on := 31, ground := .data }, { on := 32, ground := .data }, { on := 30, ground := .guard }], guard := some (30, true) },
  { dst := some 63, op := .pick (.tmp 59) (.tmp 62) (.const (.bool false)), type := 4, pos := "law.go:24", after := #[{ on := 30, ground := .data }, { on := 33, ground := .data }], guard := none },
  { dst := some 64, op := .move (.tmp 63), type := 4, pos := "law.go:24", after := #[{ on := 34, ground := .data }, { on := 30, ground := .chain }], guard := none },
  { dst := some 65, op := .move (.tmp 6), type := 25, pos := "law.go:24", after := #[{ on := 35, ground := .guard }], guard := some (35, true) },
  { dst := some 66, op := .move (.tmp 8), type := 25, pos := "law.go:24", after := #[{ on := 35, ground := .guard }], guard := some (35, true) },
  { dst := some 67, op := .binOp .eql 25 (.tmp 65) (.tmp 66) 25, type := 4, pos := "law.go:24", after := #[{ on := 36, ground := .data }, { on := 37, ground := .data }, { on := 35, ground := .guard }], guard := some (35, true) },
  { dst := some 68, op := .pick (.tmp 64) (.tmp 67) (.const (.bool false)), type := 4, pos := "law.go:24", after := #[{ on := 35, ground := .data }, { on := 38, ground := .data }], guard := none },
  { dst := some 69, op := .move (.tmp 68), type := 4, pos := "law.go:24", after := #[{ on := 39, ground := .data }, { on := 35, ground := .chain }], guard := none },
  { dst := some 70, op := .indexAddr 23 (.tmp 3) (.const (.int .i64 0)), type := 0, pos := "law.go:24", after := #[{ on := 40, ground := .guard }], guard := some (40, true) },
  { dst := some 71, op := .load 2 (.tmp 70), type := 2, pos := "law.go:24", after := #[{ on := 41, ground := .data }, { on := 40, ground := .guard }], guard := some (40, true) },
  { dst := some 72, op := .indexAddr 23 (.tmp 3) (.const (.int .i64 2)), type := 0, pos := "law.go:24", after := #[{ on := 40, ground := .guard }], guard := some (40, true) },
  { dst := some 73, op := .load 2 (.tmp 72), type := 2, pos := "law.go:24", after := #[{ on := 43, ground := .data }, { on := 40, ground := .guard }], guard := some (40, true) },
  { dst := some 74, op := .move (.tmp 0), type := 22, pos := "law.go:24", after := #[{ on := 40, ground := .guard }], guard := some (40, true) },
  { dst := some 75, op := .call { callee := .value (.func 14), args := #[.tmp 71, .tmp 73, .tmp 74], argTypes := #[2, 2, 22] }, type := 3, pos := "law.go:24", after := #[{ on := 42, ground := .data }, { on := 44, ground := .data }, { on := 45, ground := .data }, { on := 40, ground := .chain }, { on := 40, ground := .guard }], guard := some (40, true) },
  { dst := some 76, op := .indexAddr 23 (.tmp 3) (.const (.int .i64 0)), type := 0, pos := "law.go:24", after := #[{ on := 40, ground := .guard }], guard := some (40, true) },
  { dst := some 77, op := .load 2 (.tmp 76), type := 2, pos := "law.go:24", after := #[{ on := 47, ground := .data }, { on := 40, ground := .guard }], guard := some (40, true) },
  { dst := some 78, op := .indexAddr 23 (.tmp 3) (.const (.int .i64 2)), type := 0, pos := "law.go:24", after := #[{ on := 40, ground := .guard }], guard := some (40, true) },
  { dst := some 79, op := .load 2 (.tmp 78), type := 2, pos := "law.go:24", after := #[{ on := 49, ground := .data }, { on := 40, ground := .guard }], guard := some (40, true) },
  { dst := some 80, op := .move (.tmp 0), type := 22, pos := "law.go:24", after := #[{ on := 40, ground := .guard }], guard := some (40, true) },
  { dst := some 81, op := .call { callee := .value (.func 15), args := #[.tmp 77, .tmp 79, .tmp 80], argTypes := #[2, 2, 22] }, type := 3, pos := "law.go:24", after := #[{ on := 48, ground := .data }, { on := 50, ground := .data }, { on := 51, ground := .data }, { on := 46, ground := .chain }, { on := 40, ground := .guard }], guard := some (40, true) },
  { dst := some 82, op := .binOp .eql 3 (.tmp 75) (.tmp 81) 3, type := 4, pos := "law.go:24", after := #[{ on := 46, ground := .data }, { on := 52, ground := .data }, { on := 40, ground := .guard }], guard := some (40, true) },
  { dst := some 83, op := .pick (.tmp 69) (.tmp 82) (.const (.bool false)), type := 4, pos := "law.go:24", after := #[{ on := 40, ground := .data }, { on := 53, ground := .data }], guard := none },
  { dst := some 84, op := .move (.tmp 83), type := 4, pos := "law.go:24", after := #[{ on := 54, ground := .data }, { on := 52, ground := .chain }], guard := none },
  { dst := some 85, op := .call { callee := .value (.func 7), args := #[], argTypes := #[] }, type := 4, pos := "law.go:24", after := #[{ on := 55, ground := .chain }, { on := 55, ground := .guard }], guard := some (55, true) },
  { dst := some 86, op := .pick (.tmp 84) (.tmp 85) (.const (.bool false)), type := 4, pos := "law.go:24", after := #[{ on := 55, ground := .data }, { on := 56, ground := .data }], guard := none },
  { dst := some 4, op := .assign (.tmp 86), type := 4, pos := "law.go:24", after := #[{ on := 57, ground := .data }, { on := 56, ground := .chain }, { on := 0, ground := .phase }, { on := 1, ground := .phase }, { on := 2, ground := .phase }, { on := 3, ground := .phase }, { on := 4, ground := .phase }, { on := 5, ground := .phase }, { on := 6, ground := .phase }, { on := 7, ground := .phase }, { on := 8, ground := .phase }, { on := 9, ground := .phase }, { on := 10, ground := .phase }, { on := 11, ground := .phase }, { on := 12, ground := .phase }, { on := 13, ground := .phase }, { on := 14, ground := .phase }, { on := 15, ground := .phase }, { on := 16, ground := .phase }, { on := 17, ground := .phase }, { on := 18, ground := .phase }, { on := 19, ground := .phase }, { on := 20, ground := .phase }, { on := 21, ground := .phase }, { on := 22, ground := .phase }, { on := 23, ground := .phase }, { on := 24, ground := .phase }, { on := 25, ground := .phase }, { on := 26, ground := .phase }, { on := 27, ground := .phase }, { on := 28, ground := .phase }, { on := 29, ground := .phase }, { on := 30, ground := .phase }, { on := 31, ground := .phase }, { on := 32, ground := .phase }, { on := 33, ground := .phase }, { on := 34, ground := .phase }, { on := 35, ground := .phase }, { on := 36, ground := .phase }, { on := 37, ground := .phase }, { on := 38, ground := .phase }, { on := 39, ground := .phase }, { on := 40, ground := .phase }, { on := 41, ground := .phase }, { on := 42, ground := .phase }, { on := 43, ground := .phase }, { on := 44, ground := .phase }, { on := 45, ground := .phase }, { on := 46, ground := .phase }, { on := 47, ground := .phase }, { on := 48, ground := .phase }, { on := 49, ground := .phase }, { on := 50, ground := .phase }, { on := 51, ground := .phase }, { on := 52, ground := .phase }, { on := 53, ground := .phase }, { on := 54, ground := .phase }, { on := 55, ground := .phase }, { on := 56, ground := .phase }, { on := 57, ground := .phase }], guard := none }]
theorem says5_plain : Region.noSelect says5 = true := by kernel_rfl


theorem says_long (ba : Option Addr) (cap n : Nat) (n0 n1 n2 n3 : Int) (w : World) (h : (200 : Int) < n) :
    Calls Try.prog 3 #[.slice ba n cap, .agg #[.int .i64 n0, .int .i64 n1, .int .i64 n2, .int .i64 n3]] w fun e w' => e = .returned (.bool true) ∧ Below w.heap.size w w' := by
  have AW := Lib.hid awake_any
  go_enter Try.func3, Try.ntmps3
  go_wp2_with fail
  refine (AW.out _).mono ?_; rintro e w1 ⟨rfl, hb1⟩
  go_wp2_with fail
  go_ret
  exact ⟨rfl, belowT (below1 w _) hb1⟩

theorem flat {P : Program} {f : Nat} {xs : Array Value} {w : World} {v : Value} (h : Calls P f xs w fun e w' => e = .returned v ∧ w = w') : Calls P f xs w fun e w' => e = .returned v ∧ Below w.heap.size w w' :=
  h.mono fun e w' ⟨h1, h2⟩ => ⟨h1, by rw [← h2]; exact Below.refl _ _⟩

set_option maxHeartbeats 8000000 in
set_option maxRecDepth 100000 in
theorem says_core {w : World} {ba : Option Addr} {cap : Nat} {l : List Int} (C : Came6 w ba cap l) (n0 n1 n2 n3 : Int) (h : ¬ (200 : Int) < l.length)
    (h0 : Fix.Room n0) (h1 : Fix.Room n1) (h3 : Fix.Room n3) :
    Calls Try.prog 3 #[.slice ba l.length cap, .agg #[.int .i64 n0, .int .i64 n1, .int .i64 n2, .int .i64 n3]] w fun e w' => e = .returned (.bool true) ∧ Below w.heap.size w w' := by
  have AW := Lib.hid awake_any
  have T1 := Lib.hid fun w => Lan21.Ticks_any n0 n1 w h0 h1
  have T2 := Lib.hid fun w => Ref21.Ticks_any n0 n1 w h0 h1
  have P1 := Lib.hid fun w => flat (Lan21.Step_any n0 n1 n2 w h0 h1)
  have P2 := Lib.hid fun w => flat (Ref21.Step_any n0 n1 n2 w h0 h1)
  have S1 := Lib.hid fun (w' : World) (hb : Below w.heap.size w w') => flat (Lan21.Steps_came (C.keep hb) n3 n2 h3)
  have S2 := Lib.hid fun (w' : World) (hb : Below w.heap.size w w') => flat (Ref21.Steps_came (C.keep hb) n3 n2 h3)
  have R1 := Lib.hid fun (w' : World) (hb : Below w.heap.size w w') => flat (Lan21.Reach_came (C.keep hb) n0 n2)
  have R2 := Lib.hid fun (w' : World) (hb : Below w.heap.size w w') => flat (Ref21.Reach_came (C.keep hb) n0 n2)
  have hn : (l.length : Int) ≤ 200 := by omega
  have d200 : decide ((200 : Int) < l.length) = false := decide_eq_false h
  clear C h h0 h1 h3
  generalize Lan21.tickV n0 n1 = V at *
  generalize Lan21.tickE n0 n1 = E at *
  generalize Cus.step n0 n1 n2 = p at *
  generalize Cus.steps n3 n2 l = s at *
  generalize Cus.reach n0 n2 0 0 l = r at *
  generalize l.length = len at *
  go_enter Try.func3, Try.ntmps3
  go_wp2_with fail
  obtain ⟨W1, hW1⟩ : ∃ W1, W1 = w.alloc (.cells #[.int .i64 n0, .int .i64 n1, .int .i64 n2, .int .i64 n3] 23) := ⟨_, rfl⟩
  have k0 : W1.cell? ⟨w.heap.size, 0, none⟩ = some (.int .i64 n0) := by rw [hW1]; simp
  have k1 : W1.cell? ⟨w.heap.size, 1, none⟩ = some (.int .i64 n1) := by rw [hW1]; simp
  have k2 : W1.cell? ⟨w.heap.size, 2, none⟩ = some (.int .i64 n2) := by rw [hW1]; simp
  have k3 : W1.cell? ⟨w.heap.size, 3, none⟩ = some (.int .i64 n3) := by rw [hW1]; simp
  have B1 : Below w.heap.size w W1 := by rw [hW1]; exact below1 _ _
  rw [← hW1]
  clear hW1
  refine (T1.out _).mono ?_; rintro e w2 ⟨rfl, m, hw2⟩
  have b2 : Below W1.heap.size W1 w2 := by rw [hw2]; exact belowN (Below.refl _ _) _
  have j0 := keepc b2 k0
  have j1 := keepc b2 k1
  clear hw2 T1
  go_wp2_with fail
  refine (T2.out _).mono ?_; rintro e W0 ⟨rfl, m, hw3⟩
  have b3 : Below W1.heap.size W1 W0 := by rw [hw3]; exact belowN b2 _
  clear hw3 T2 j0 j1 b2
  have B0 : Below w.heap.size w W0 := belowT B1 b3
  have q0 : ∀ w', Below W0.heap.size W0 w' → w'.cell? ⟨w.heap.size, 0, none⟩ = some (.int .i64 n0) := fun w' h => keepc (belowT b3 h) k0
  have q1 : ∀ w', Below W0.heap.size W0 w' → w'.cell? ⟨w.heap.size, 1, none⟩ = some (.int .i64 n1) := fun w' h => keepc (belowT b3 h) k1
  have q2 : ∀ w', Below W0.heap.size W0 w' → w'.cell? ⟨w.heap.size, 2, none⟩ = some (.int .i64 n2) := fun w' h => keepc (belowT b3 h) k2
  have q3 : ∀ w', Below W0.heap.size W0 w' → w'.cell? ⟨w.heap.size, 3, none⟩ = some (.int .i64 n3) := fun w' h => keepc (belowT b3 h) k3
  clear k0 k1 k2 k3 B1 b3
  go_upto_region 5 with fail
  try simp only [List.append_eq, List.cons_append, List.nil_append]
  change (Code.region 5 says5 true).wp Try.prog _ _ _
  refine wp_region_noPanic ?_
  refine wp_region_held_drew (S := fun w' => Below W0.heap.size W0 w') (by kernel_rfl) ((Below.refl _ _).drew) (fun hHeld => ?_)
  refine wpAnyH_take (i := 0) (oi := ({ dst := some 29, op := .indexAddr 23 (.tmp 3) (.const (.int .i64 0)), type := 0, pos := "law.go:24", after := #[], guard := none } : Oper)) (v := ?vs1_0) rfl says5_plain (by as_aux_lemma => kernel_rfl) (by as_aux_lemma => kernel_rfl) (fun _ _ _ h => h) (Or.inl ⟨by rfl, ?ys1_0⟩) (by assumption) ?rs1_0
  case ys1_0 => (intro w hSw; (try dsimp only at hSw); go_simp; try with_reducible rfl)
  try simp only [Act.put, List.setIfInBounds_toArray, List.set_cons_zero, List.set_cons_succ]
  refine wpAnyH_take (i := 1) (oi := ({ dst := some 30, op := .load 2 (.tmp 29), type := 2, pos := "law.go:24", after := #[{ on := 0, ground := .data }], guard := none } : Oper)) (v := ?vs1_1) rfl says5_plain (by as_aux_lemma => kernel_rfl) (by as_aux_lemma => kernel_rfl) (fun _ _ _ h => h) (Or.inl ⟨by rfl, ?ys1_1⟩) (by assumption) ?rs1_1
  case ys1_1 => (intro w hSw; (try dsimp only at hSw); go_simp; try with_reducible rfl)
  try simp only [Act.put, List.setIfInBounds_toArray, List.set_cons_zero, List.set_cons_succ]
  refine wpAnyH_take (i := 2) (oi := ({ dst := some 31, op := .indexAddr 23 (.tmp 3) (.const (.int .i64 1)), type := 0, pos := "law.go:24", after := #[], guard := none } : Oper)) (v := ?vs1_2) rfl says5_plain (by as_aux_lemma => kernel_rfl) (by as_aux_lemma => kernel_rfl) (fun _ _ _ h => h) (Or.inl ⟨by rfl, ?ys1_2⟩) (by assumption) ?rs1_2
  case ys1_2 => (intro w hSw; (try dsimp only at hSw); go_simp; try with_reducible rfl)
  try simp only [Act.put, List.setIfInBounds_toArray, List.set_cons_zero, List.set_cons_succ]
  refine wpAnyH_take (i := 3) (oi := ({ dst := some 32, op := .load 2 (.tmp 31), type := 2, pos := "law.go:24", after := #[{ on := 2, ground := .data }], guard := none } : Oper)) (v := ?vs1_3) rfl says5_plain (by as_aux_lemma => kernel_rfl) (by as_aux_lemma => kernel_rfl) (fun _ _ _ h => h) (Or.inl ⟨by rfl, ?ys1_3⟩) (by assumption) ?rs1_3
  case ys1_3 => (intro w hSw; (try dsimp only at hSw); go_simp; try with_reducible rfl)
  try simp only [Act.put, List.setIfInBounds_toArray, List.set_cons_zero, List.set_cons_succ]
  refine wpAnyH_take (i := 4) (oi := ({ dst := some 33, op := .indexAddr 23 (.tmp 3) (.const (.int .i64 2)), type := 0, pos := "law.go:24", after := #[], guard := none } : Oper)) (v := ?vs1_4) rfl says5_plain (by as_aux_lemma => kernel_rfl) (by as_aux_lemma => kernel_rfl) (fun _ _ _ h => h) (Or.inl ⟨by rfl, ?ys1_4⟩) (by assumption) ?rs1_4
  case ys1_4 => (intro w hSw; (try dsimp only at hSw); go_simp; try with_reducible rfl)
  try simp only [Act.put, List.setIfInBounds_toArray, List.set_cons_zero, List.set_cons_succ]
  refine wpAnyH_take (i := 5) (oi := ({ dst := some 34, op := .load 2 (.tmp 33), type := 2, pos := "law.go:24", after := #[{ on := 4, ground := .data }], guard := none } : Oper)) (v := ?vs1_5) rfl says5_plain (by as_aux_lemma => kernel_rfl) (by as_aux_lemma => kernel_rfl) (fun _ _ _ h => h) (Or.inl ⟨by rfl, ?ys1_5⟩) (by assumption) ?rs1_5
  case ys1_5 => (intro w hSw; (try dsimp only at hSw); go_simp; try with_reducible rfl)
  try simp only [Act.put, List.setIfInBounds_toArray, List.set_cons_zero, List.set_cons_succ]
  refine wpAnyH_take (i := 7) (oi := ({ dst := some 36, op := .indexAddr 23 (.tmp 3) (.const (.int .i64 0)), type := 0, pos := "law.go:24", after := #[], guard := none } : Oper)) (v := ?vs1_7) rfl says5_plain (by as_aux_lemma => kernel_rfl) (by as_aux_lemma => kernel_rfl) (fun _ _ _ h => h) (Or.inl ⟨by rfl, ?ys1_7⟩) (by assumption) ?rs1_7
  case ys1_7 => (intro w hSw; (try dsimp only at hSw); go_simp; try with_reducible rfl)
  try simp only [Act.put, List.setIfInBounds_toArray, List.set_cons_zero, List.set_cons_succ]
  refine wpAnyH_take (i := 8) (oi := ({ dst := some 37, op := .load 2 (.tmp 36), type := 2, pos := "law.go:24", after := #[{ on := 7, ground := .data }], guard := none } : Oper)) (v := ?vs1_8) rfl says5_plain (by as_aux_lemma => kernel_rfl) (by as_aux_lemma => kernel_rfl) (fun _ _ _ h => h) (Or.inl ⟨by rfl, ?ys1_8⟩) (by assumption) ?rs1_8
  case ys1_8 => (intro w hSw; (try dsimp only at hSw); go_simp; try with_reducible rfl)
  try simp only [Act.put, List.setIfInBounds_toArray, List.set_cons_zero, List.set_cons_succ]
  refine wpAnyH_take (i := 9) (oi := ({ dst := some 38, op := .indexAddr 23 (.tmp 3) (.const (.int .i64 1)), type := 0, pos := "law.go:24", after := #[], guard := none } : Oper)) (v := ?vs1_9) rfl says5_plain (by as_aux_lemma => kernel_rfl) (by as_aux_lemma => kernel_rfl) (fun _ _ _ h => h) (Or.inl ⟨by rfl, ?ys1_9⟩) (by assumption) ?rs1_9
  case ys1_9 => (intro w hSw; (try dsimp only at hSw); go_simp; try with_reducible rfl)
  try simp only [Act.put, List.setIfInBounds_toArray, List.set_cons_zero, List.set_cons_succ]
  refine wpAnyH_take (i := 10) (oi := ({ dst := some 39, op := .load 2 (.tmp 38), type := 2, pos := "law.go:24", after := #[{ on := 9, ground := .data }], guard := none } : Oper)) (v := ?vs1_10) rfl says5_plain (by as_aux_lemma => kernel_rfl) (by as_aux_lemma => kernel_rfl) (fun _ _ _ h => h) (Or.inl ⟨by rfl, ?ys1_10⟩) (by assumption) ?rs1_10
  case ys1_10 => (intro w hSw; (try dsimp only at hSw); go_simp; try with_reducible rfl)
  try simp only [Act.put, List.setIfInBounds_toArray, List.set_cons_zero, List.set_cons_succ]
  refine wpAnyH_take (i := 11) (oi := ({ dst := some 40, op := .indexAddr 23 (.tmp 3) (.const (.int .i64 2)), type := 0, pos := "law.go:24", after := #[], guard := none } : Oper)) (v := ?vs1_11) rfl says5_plain (by as_aux_lemma => kernel_rfl) (by as_aux_lemma => kernel_rfl) (fun _ _ _ h => h) (Or.inl ⟨by rfl, ?ys1_11⟩) (by assumption) ?rs1_11
  case ys1_11 => (intro w hSw; (try dsimp only at hSw); go_simp; try with_reducible rfl)
  try simp only [Act.put, List.setIfInBounds_toArray, List.set_cons_zero, List.set_cons_succ]
  refine wpAnyH_take (i := 12) (oi := ({ dst := some 41, op := .load 2 (.tmp 40), type := 2, pos := "law.go:24", after := #[{ on := 11, ground := .data }], guard := none } : Oper)) (v := ?vs1_12) rfl says5_plain (by as_aux_lemma => kernel_rfl) (by as_aux_lemma => kernel_rfl) (fun _ _ _ h => h) (Or.inl ⟨by rfl, ?ys1_12⟩) (by assumption) ?rs1_12
  case ys1_12 => (intro w hSw; (try dsimp only at hSw); go_simp; try with_reducible rfl)
  try simp only [Act.put, List.setIfInBounds_toArray, List.set_cons_zero, List.set_cons_succ]
  refine wpAnyH_ready (rs := [6]) (by as_aux_lemma => kernel_rfl) (by simp) ?_
  refine AllReadyH.cons (o := ({ dst := some 35, op := .call { callee := .value (.func 10), args := #[.tmp 30, .tmp 32, .tmp 34], argTypes := #[2, 2, 2] }, type := 2, pos := "law.go:24", after := #[{ on := 1, ground := .data }, { on := 3, ground := .data }, { on := 5, ground := .data }], guard := none } : Oper)) rfl (fun KK hK => ?_) AllReadyH.nil
  rw [if_pos (by rfl)]
  go_simp
  go_at_call 10; refine (P1.out _).mono ?_; rintro e w4 ⟨rfl, hb4⟩
  go_wp2_with fail
  refine hK.out _ _ ?_ (fun hHeld4 => ?_)
  · exact belowT (by assumption) hb4
  clear hK KK hb4
  try simp only [Act.put, List.setIfInBounds_toArray, List.set_cons_zero, List.set_cons_succ]
  refine wpAnyH_ready (rs := [13]) (by as_aux_lemma => kernel_rfl) (by simp) ?_
  refine AllReadyH.cons (o := ({ dst := some 42, op := .call { callee := .value (.func 11), args := #[.tmp 37, .tmp 39, .tmp 41], argTypes := #[2, 2, 2] }, type := 2, pos := "law.go:24", after := #[{ on := 8, ground := .data }, { on := 10, ground := .data }, { on := 12, ground := .data }, { on := 6, ground := .chain }], guard := none } : Oper)) rfl (fun KK hK => ?_) AllReadyH.nil
  rw [if_pos (by rfl)]
  go_simp
  go_at_call 11; refine (P2.out _).mono ?_; rintro e w5 ⟨rfl, hb5⟩
  go_wp2_with fail
  refine hK.out _ _ ?_ (fun hHeld5 => ?_)
  · exact belowT (by assumption) hb5
  clear hK KK hb5 hHeld4
  try simp only [Act.put, List.setIfInBounds_toArray, List.set_cons_zero, List.set_cons_succ]
  refine wpAnyH_take (i := 14) (oi := ({ dst := some 43, op := .binOp .eql 2 (.tmp 35) (.tmp 42) 2, type := 4, pos := "law.go:24", after := #[{ on := 6, ground := .data }, { on := 13, ground := .data }], guard := none } : Oper)) (v := ?vs1_14) rfl says5_plain (by as_aux_lemma => kernel_rfl) (by as_aux_lemma => kernel_rfl) (fun _ _ _ h => h) (Or.inl ⟨by rfl, ?ys1_14⟩) (by assumption) ?rs1_14
  case ys1_14 => (intro w hSw; (try dsimp only at hSw); go_simp; try with_reducible rfl)
  try simp only [Act.put, List.setIfInBounds_toArray, List.set_cons_zero, List.set_cons_succ]
  refine wpAnyH_take (i := 15) (oi := ({ dst := some 44, op := .move (.tmp 43), type := 4, pos := "law.go:24", after := #[{ on := 14, ground := .data }, { on := 13, ground := .chain }], guard := none } : Oper)) (v := ?vs1_15) rfl says5_plain (by as_aux_lemma => kernel_rfl) (by as_aux_lemma => kernel_rfl) (fun _ _ _ h => h) (Or.inl ⟨by rfl, ?ys1_15⟩) (by assumption) ?rs1_15
  case ys1_15 => (intro w hSw; (try dsimp only at hSw); go_simp; try with_reducible rfl)
  try simp only [Act.put, List.setIfInBounds_toArray, List.set_cons_zero, List.set_cons_succ]
  refine wpAnyH_take (i := 16) (oi := ({ dst := some 45, op := .indexAddr 23 (.tmp 3) (.const (.int .i64 3)), type := 0, pos := "law.go:24", after := #[{ on := 15, ground := .guard }], guard := some (15, true) } : Oper)) (v := ?vs1_16) rfl says5_plain (by as_aux_lemma => kernel_rfl) (by as_aux_lemma => kernel_rfl) (fun _ _ _ h => h) (Or.inl ⟨by rfl, ?ys1_16⟩) (by assumption) ?rs1_16
  case ys1_16 => (intro w hSw; (try dsimp only at hSw); go_simp; try with_reducible rfl)
  try simp only [Act.put, List.setIfInBounds_toArray, List.set_cons_zero, List.set_cons_succ]
  refine wpAnyH_take (i := 17) (oi := ({ dst := some 46, op := .load 2 (.tmp 45), type := 2, pos := "law.go:24", after := #[{ on := 16, ground := .data }, { on := 15, ground := .guard }], guard := some (15, true) } : Oper)) (v := ?vs1_17) rfl says5_plain (by as_aux_lemma => kernel_rfl) (by as_aux_lemma => kernel_rfl) (fun _ _ _ h => h) (Or.inl ⟨by rfl, ?ys1_17⟩) (by assumption) ?rs1_17
  case ys1_17 => (intro w hSw; (try dsimp only at hSw); go_simp; try with_reducible rfl)
  try simp only [Act.put, List.setIfInBounds_toArray, List.set_cons_zero, List.set_cons_succ]
  refine wpAnyH_take (i := 18) (oi := ({ dst := some 47, op := .indexAddr 23 (.tmp 3) (.const (.int .i64 2)), type := 0, pos := "law.go:24", after := #[{ on := 15, ground := .guard }], guard := some (15, true) } : Oper)) (v := ?vs1_18) rfl says5_plain (by as_aux_lemma => kernel_rfl) (by as_aux_lemma => kernel_rfl) (fun _ _ _ h => h) (Or.inl ⟨by rfl, ?ys1_18⟩) (by assumption) ?rs1_18
  case ys1_18 => (intro w hSw; (try dsimp only at hSw); go_simp; try with_reducible rfl)
  try simp only [Act.put, List.setIfInBounds_toArray, List.set_cons_zero, List.set_cons_succ]
  refine wpAnyH_take (i := 19) (oi := ({ dst := some 48, op := .load 2 (.tmp 47), type := 2, pos := "law.go:24", after := #[{ on := 18, ground := .data }, { on := 15, ground := .guard }], guard := some (15, true) } : Oper)) (v := ?vs1_19) rfl says5_plain (by as_aux_lemma => kernel_rfl) (by as_aux_lemma => kernel_rfl) (fun _ _ _ h => h) (Or.inl ⟨by rfl, ?ys1_19⟩) (by assumption) ?rs1_19
  case ys1_19 => (intro w hSw; (try dsimp only at hSw); go_simp; try with_reducible rfl)
  try simp only [Act.put, List.setIfInBounds_toArray, List.set_cons_zero, List.set_cons_succ]
  refine wpAnyH_take (i := 20) (oi := ({ dst := some 49, op := .move (.tmp 0), type := 22, pos := "law.go:24", after := #[{ on := 15, ground := .guard }], guard := some (15, true) } : Oper)) (v := ?vs1_20) rfl says5_plain (by as_aux_lemma => kernel_rfl) (by as_aux_lemma => kernel_rfl) (fun _ _ _ h => h) (Or.inl ⟨by rfl, ?ys1_20⟩) (by assumption) ?rs1_20
  case ys1_20 => (intro w hSw; (try dsimp only at hSw); go_simp; try with_reducible rfl)
  try simp only [Act.put, List.setIfInBounds_toArray, List.set_cons_zero, List.set_cons_succ]
  refine wpAnyH_take (i := 22) (oi := ({ dst := some 51, op := .indexAddr 23 (.tmp 3) (.const (.int .i64 3)), type := 0, pos := "law.go:24", after := #[{ on := 15, ground := .guard }], guard := some (15, true) } : Oper)) (v := ?vs1_22) rfl says5_plain (by as_aux_lemma => kernel_rfl) (by as_aux_lemma => kernel_rfl) (fun _ _ _ h => h) (Or.inl ⟨by rfl, ?ys1_22⟩) (by assumption) ?rs1_22
  case ys1_22 => (intro w hSw; (try dsimp only at hSw); go_simp; try with_reducible rfl)
  try simp only [Act.put, List.setIfInBounds_toArray, List.set_cons_zero, List.set_cons_succ]
  refine wpAnyH_take (i := 23) (oi := ({ dst := some 52, op := .load 2 (.tmp 51), type := 2, pos := "law.go:24", after := #[{ on := 22, ground := .data }, { on := 15, ground := .guard }], guard := some (15, true) } : Oper)) (v := ?vs1_23) rfl says5_plain (by as_aux_lemma => kernel_rfl) (by as_aux_lemma => kernel_rfl) (fun _ _ _ h => h) (Or.inl ⟨by rfl, ?ys1_23⟩) (by assumption) ?rs1_23
  case ys1_23 => (intro w hSw; (try dsimp only at hSw); go_simp; try with_reducible rfl)
  try simp only [Act.put, List.setIfInBounds_toArray, List.set_cons_zero, List.set_cons_succ]
  refine wpAnyH_take (i := 24) (oi := ({ dst := some 53, op := .indexAddr 23 (.tmp 3) (.const (.int .i64 2)), type := 0, pos := "law.go:24", after := #[{ on := 15, ground := .guard }], guard := some (15, true) } : Oper)) (v := ?vs1_24) rfl says5_plain (by as_aux_lemma => kernel_rfl) (by as_aux_lemma => kernel_rfl) (fun _ _ _ h => h) (Or.inl ⟨by rfl, ?ys1_24⟩) (by assumption) ?rs1_24
  case ys1_24 => (intro w hSw; (try dsimp only at hSw); go_simp; try with_reducible rfl)
  try simp only [Act.put, List.setIfInBounds_toArray, List.set_cons_zero, List.set_cons_succ]
  refine wpAnyH_take (i := 25) (oi := ({ dst := some 54, op := .load 2 (.tmp 53), type := 2, pos := "law.go:24", after := #[{ on := 24, ground := .data }, { on := 15, ground := .guard }], guard := some (15, true) } : Oper)) (v := ?vs1_25) rfl says5_plain (by as_aux_lemma => kernel_rfl) (by as_aux_lemma => kernel_rfl) (fun _ _ _ h => h) (Or.inl ⟨by rfl, ?ys1_25⟩) (by assumption) ?rs1_25
  case ys1_25 => (intro w hSw; (try dsimp only at hSw); go_simp; try with_reducible rfl)
  try simp only [Act.put, List.setIfInBounds_toArray, List.set_cons_zero, List.set_cons_succ]
  refine wpAnyH_take (i := 26) (oi := ({ dst := some 55, op := .move (.tmp 0), type := 22, pos := "law.go:24", after := #[{ on := 15, ground := .guard }], guard := some (15, true) } : Oper)) (v := ?vs1_26) rfl says5_plain (by as_aux_lemma => kernel_rfl) (by as_aux_lemma => kernel_rfl) (fun _ _ _ h => h) (Or.inl ⟨by rfl, ?ys1_26⟩) (by assumption) ?rs1_26
  case ys1_26 => (intro w hSw; (try dsimp only at hSw); go_simp; try with_reducible rfl)
  try simp only [Act.put, List.setIfInBounds_toArray, List.set_cons_zero, List.set_cons_succ]
  refine wpAnyH_ready (rs := [21]) (by as_aux_lemma => kernel_rfl) (by simp) ?_
  refine AllReadyH.cons (o := ({ dst := some 50, op := .call { callee := .value (.func 12), args := #[.tmp 46, .tmp 48, .tmp 49], argTypes := #[2, 2, 22] }, type := 2, pos := "law.go:24", after := #[{ on := 17, ground := .data }, { on := 19, ground := .data }, { on := 20, ground := .data }, { on := 15, ground := .chain }, { on := 15, ground := .guard }], guard := some (15, true) } : Oper)) rfl (fun KK hK => ?_) AllReadyH.nil
  rw [if_pos (by rfl)]
  go_simp
  go_at_call 12; refine (S1.out _ (belowT B0 (by assumption))).mono ?_; rintro e w6 ⟨rfl, hb6⟩
  go_wp2_with fail
  refine hK.out _ _ ?_ (fun hHeld6 => ?_)
  · exact belowT (by assumption) hb6
  clear hK KK hb6 hHeld5
  try simp only [Act.put, List.setIfInBounds_toArray, List.set_cons_zero, List.set_cons_succ]
  refine wpAnyH_ready (rs := [27]) (by as_aux_lemma => kernel_rfl) (by simp) ?_
  refine AllReadyH.cons (o := ({ dst := some 56, op := .call { callee := .value (.func 13), args := #[.tmp 52, .tmp 54, .tmp 55], argTypes := #[2, 2, 22] }, type := 2, pos := "law.go:24", after := #[{ on := 23, ground := .data }, { on := 25, ground := .data }, { on := 26, ground := .data }, { on := 21, ground := .chain }, { on := 15, ground := .guard }], guard := some (15, true) } : Oper)) rfl (fun KK hK => ?_) AllReadyH.nil
  rw [if_pos (by rfl)]
  go_simp
  go_at_call 13; refine (S2.out _ (belowT B0 (by assumption))).mono ?_; rintro e w7 ⟨rfl, hb7⟩
  go_wp2_with fail
  refine hK.out _ _ ?_ (fun hHeld7 => ?_)
  · exact belowT (by assumption) hb7
  clear hK KK hb7 hHeld6
  try simp only [Act.put, List.setIfInBounds_toArray, List.set_cons_zero, List.set_cons_succ]
  refine wpAnyH_take (i := 28) (oi := ({ dst := some 57, op := .binOp .eql 2 (.tmp 50) (.tmp 56) 2, type := 4, pos := "law.go:24", after := #[{ on := 21, ground := .data }, { on := 27, ground := .data }, { on := 15, ground := .guard }], guard := some (15, true) } : Oper)) (v := ?vs1_28) rfl says5_plain (by as_aux_lemma => kernel_rfl) (by as_aux_lemma => kernel_rfl) (fun _ _ _ h => h) (Or.inl ⟨by rfl, ?ys1_28⟩) (by assumption) ?rs1_28
  case ys1_28 => (intro w hSw; (try dsimp only at hSw); go_simp; try with_reducible rfl)
  try simp only [Act.put, List.setIfInBounds_toArray, List.set_cons_zero, List.set_cons_succ]
  refine wpAnyH_take (i := 29) (oi := ({ dst := some 58, op := .pick (.tmp 44) (.tmp 57) (.const (.bool false)), type := 4, pos := "law.go:24", after := #[{ on := 15, ground := .data }, { on := 28, ground := .data }], guard := none } : Oper)) (v := ?vs1_29) rfl says5_plain (by as_aux_lemma => kernel_rfl) (by as_aux_lemma => kernel_rfl) (fun _ _ _ h => h) (Or.inl ⟨by rfl, ?ys1_29⟩) (by assumption) ?rs1_29
  case ys1_29 => (intro w hSw; (try dsimp only at hSw); go_simp; try with_reducible rfl)
  try simp only [Act.put, List.setIfInBounds_toArray, List.set_cons_zero, List.set_cons_succ]
  refine wpAnyH_take (i := 30) (oi := ({ dst := some 59, op := .move (.tmp 58), type := 4, pos := "law.go:24", after := #[{ on := 29, ground := .data }, { on := 27, ground := .chain }], guard := none } : Oper)) (v := ?vs1_30) rfl says5_plain (by as_aux_lemma => kernel_rfl) (by as_aux_lemma => kernel_rfl) (fun _ _ _ h => h) (Or.inl ⟨by rfl, ?ys1_30⟩) (by assumption) ?rs1_30
  case ys1_30 => (intro w hSw; (try dsimp only at hSw); go_simp; try with_reducible rfl)
  try simp only [Act.put, List.setIfInBounds_toArray, List.set_cons_zero, List.set_cons_succ]
  refine wpAnyH_take (i := 31) (oi := ({ dst := some 60, op := .move (.tmp 5), type := 2, pos := "law.go:24", after := #[{ on := 30, ground := .guard }], guard := some (30, true) } : Oper)) (v := ?vs1_31) rfl says5_plain (by as_aux_lemma => kernel_rfl) (by as_aux_lemma => kernel_rfl) (fun _ _ _ h => h) (Or.inl ⟨by rfl, ?ys1_31⟩) (by assumption) ?rs1_31
  case ys1_31 => (intro w hSw; (try dsimp only at hSw); go_simp; try with_reducible rfl)
  try simp only [Act.put, List.setIfInBounds_toArray, List.set_cons_zero, List.set_cons_succ]
  refine wpAnyH_take (i := 32) (oi := ({ dst := some 61, op := .move (.tmp 7), type := 2, pos := "law.go:24", after := #[{ on := 30, ground := .guard }], guard := some (30, true) } : Oper)) (v := ?vs1_32) rfl says5_plain (by as_aux_lemma => kernel_rfl) (by as_aux_lemma => kernel_rfl) (fun _ _ _ h => h) (Or.inl ⟨by rfl, ?ys1_32⟩) (by assumption) ?rs1_32
  case ys1_32 => (intro w hSw; (try dsimp only at hSw); go_simp; try with_reducible rfl)
  try simp only [Act.put, List.setIfInBounds_toArray, List.set_cons_zero, List.set_cons_succ]
  refine wpAnyH_take (i := 33) (oi := ({ dst := some 62, op := .binOp .eql 2 (.tmp 60) (.tmp 61) 2, type := 4, pos := "law.go:24", after := #[{ on := 31, ground := .data }, { on := 32, ground := .data }, { on := 30, ground := .guard }], guard := some (30, true) } : Oper)) (v := ?vs1_33) rfl says5_plain (by as_aux_lemma => kernel_rfl) (by as_aux_lemma => kernel_rfl) (fun _ _ _ h => h) (Or.inl ⟨by rfl, ?ys1_33⟩) (by assumption) ?rs1_33
  case ys1_33 => (intro w hSw; (try dsimp only at hSw); go_simp; try with_reducible rfl)
  try simp only [Act.put, List.setIfInBounds_toArray, List.set_cons_zero, List.set_cons_succ]
  refine wpAnyH_take (i := 34) (oi := ({ dst := some 63, op := .pick (.tmp 59) (.tmp 62) (.const (.bool false)), type := 4, pos := "law.go:24", after := #[{ on := 30, ground := .data }, { on := 33, ground := .data }], guard := none } : Oper)) (v := ?vs1_34) rfl says5_plain (by as_aux_lemma => kernel_rfl) (by as_aux_lemma => kernel_rfl) (fun _ _ _ h => h) (Or.inl ⟨by rfl, ?ys1_34⟩) (by assumption) ?rs1_34
  case ys1_34 => (intro w hSw; (try dsimp only at hSw); go_simp; try with_reducible rfl)
  try simp only [Act.put, List.setIfInBounds_toArray, List.set_cons_zero, List.set_cons_succ]
  refine wpAnyH_take (i := 35) (oi := ({ dst := some 64, op := .move (.tmp 63), type := 4, pos := "law.go:24", after := #[{ on := 34, ground := .data }, { on := 30, ground := .chain }], guard := none } : Oper)) (v := ?vs1_35) rfl says5_plain (by as_aux_lemma => kernel_rfl) (by as_aux_lemma => kernel_rfl) (fun _ _ _ h => h) (Or.inl ⟨by rfl, ?ys1_35⟩) (by assumption) ?rs1_35
  case ys1_35 => (intro w hSw; (try dsimp only at hSw); go_simp; try with_reducible rfl)
  try simp only [Act.put, List.setIfInBounds_toArray, List.set_cons_zero, List.set_cons_succ]
  refine wpAnyH_take (i := 36) (oi := ({ dst := some 65, op := .move (.tmp 6), type := 25, pos := "law.go:24", after := #[{ on := 35, ground := .guard }], guard := some (35, true) } : Oper)) (v := ?vs1_36) rfl says5_plain (by as_aux_lemma => kernel_rfl) (by as_aux_lemma => kernel_rfl) (fun _ _ _ h => h) (Or.inl ⟨by rfl, ?ys1_36⟩) (by assumption) ?rs1_36
  case ys1_36 => (intro w hSw; (try dsimp only at hSw); go_simp; try with_reducible rfl)
  try simp only [Act.put, List.setIfInBounds_toArray, List.set_cons_zero, List.set_cons_succ]
  refine wpAnyH_take (i := 37) (oi := ({ dst := some 66, op := .move (.tmp 8), type := 25, pos := "law.go:24", after := #[{ on := 35, ground := .guard }], guard := some (35, true) } : Oper)) (v := ?vs1_37) rfl says5_plain (by as_aux_lemma => kernel_rfl) (by as_aux_lemma => kernel_rfl) (fun _ _ _ h => h) (Or.inl ⟨by rfl, ?ys1_37⟩) (by assumption) ?rs1_37
  case ys1_37 => (intro w hSw; (try dsimp only at hSw); go_simp; try with_reducible rfl)
  try simp only [Act.put, List.setIfInBounds_toArray, List.set_cons_zero, List.set_cons_succ]
  refine wpAnyH_take (i := 38) (oi := ({ dst := some 67, op := .binOp .eql 25 (.tmp 65) (.tmp 66) 25, type := 4, pos := "law.go:24", after := #[{ on := 36, ground := .data }, { on := 37, ground := .data }, { on := 35, ground := .guard }], guard := some (35, true) } : Oper)) (v := ?vs1_38) rfl says5_plain (by as_aux_lemma => kernel_rfl) (by as_aux_lemma => kernel_rfl) (fun _ _ _ h => h) (Or.inl ⟨by rfl, ?ys1_38⟩) (by assumption) ?rs1_38
  case ys1_38 => (intro w hSw; (try dsimp only at hSw); go_simp; try with_reducible rfl)
  try simp only [Act.put, List.setIfInBounds_toArray, List.set_cons_zero, List.set_cons_succ]
  refine wpAnyH_take (i := 39) (oi := ({ dst := some 68, op := .pick (.tmp 64) (.tmp 67) (.const (.bool false)), type := 4, pos := "law.go:24", after := #[{ on := 35, ground := .data }, { on := 38, ground := .data }], guard := none } : Oper)) (v := ?vs1_39) rfl says5_plain (by as_aux_lemma => kernel_rfl) (by as_aux_lemma => kernel_rfl) (fun _ _ _ h => h) (Or.inl ⟨by rfl, ?ys1_39⟩) (by assumption) ?rs1_39
  case ys1_39 => (intro w hSw; (try dsimp only at hSw); go_simp; try with_reducible rfl)
  try simp only [Act.put, List.setIfInBounds_toArray, List.set_cons_zero, List.set_cons_succ]
  refine wpAnyH_take (i := 40) (oi := ({ dst := some 69, op := .move (.tmp 68), type := 4, pos := "law.go:24", after := #[{ on := 39, ground := .data }, { on := 35, ground := .chain }], guard := none } : Oper)) (v := ?vs1_40) rfl says5_plain (by as_aux_lemma => kernel_rfl) (by as_aux_lemma => kernel_rfl) (fun _ _ _ h => h) (Or.inl ⟨by rfl, ?ys1_40⟩) (by assumption) ?rs1_40
  case ys1_40 => (intro w hSw; (try dsimp only at hSw); go_simp; try with_reducible rfl)
  try simp only [Act.put, List.setIfInBounds_toArray, List.set_cons_zero, List.set_cons_succ]
  refine wpAnyH_take (i := 41) (oi := ({ dst := some 70, op := .indexAddr 23 (.tmp 3) (.const (.int .i64 0)), type := 0, pos := "law.go:24", after := #[{ on := 40, ground := .guard }], guard := some (40, true) } : Oper)) (v := ?vs1_41) rfl says5_plain (by as_aux_lemma => kernel_rfl) (by as_aux_lemma => kernel_rfl) (fun _ _ _ h => h) (Or.inl ⟨by rfl, ?ys1_41⟩) (by assumption) ?rs1_41
  case ys1_41 => (intro w hSw; (try dsimp only at hSw); go_simp; try with_reducible rfl)
  try simp only [Act.put, List.setIfInBounds_toArray, List.set_cons_zero, List.set_cons_succ]
  refine wpAnyH_take (i := 42) (oi := ({ dst := some 71, op := .load 2 (.tmp 70), type := 2, pos := "law.go:24", after := #[{ on := 41, ground := .data }, { on := 40, ground := .guard }], guard := some (40, true) } : Oper)) (v := ?vs1_42) rfl says5_plain (by as_aux_lemma => kernel_rfl) (by as_aux_lemma => kernel_rfl) (fun _ _ _ h => h) (Or.inl ⟨by rfl, ?ys1_42⟩) (by assumption) ?rs1_42
  case ys1_42 => (intro w hSw; (try dsimp only at hSw); go_simp; try with_reducible rfl)
  try simp only [Act.put, List.setIfInBounds_toArray, List.set_cons_zero, List.set_cons_succ]
  refine wpAnyH_take (i := 43) (oi := ({ dst := some 72, op := .indexAddr 23 (.tmp 3) (.const (.int .i64 2)), type := 0, pos := "law.go:24", after := #[{ on := 40, ground := .guard }], guard := some (40, true) } : Oper)) (v := ?vs1_43) rfl says5_plain (by as_aux_lemma => kernel_rfl) (by as_aux_lemma => kernel_rfl) (fun _ _ _ h => h) (Or.inl ⟨by rfl, ?ys1_43⟩) (by assumption) ?rs1_43
  case ys1_43 => (intro w hSw; (try dsimp only at hSw); go_simp; try with_reducible rfl)
  try simp only [Act.put, List.setIfInBounds_toArray, List.set_cons_zero, List.set_cons_succ]
  refine wpAnyH_take (i := 44) (oi := ({ dst := some 73, op := .load 2 (.tmp 72), type := 2, pos := "law.go:24", after := #[{ on := 43, ground := .data }, { on := 40, ground := .guard }], guard := some (40, true) } : Oper)) (v := ?vs1_44) rfl says5_plain (by as_aux_lemma => kernel_rfl) (by as_aux_lemma => kernel_rfl) (fun _ _ _ h => h) (Or.inl ⟨by rfl, ?ys1_44⟩) (by assumption) ?rs1_44
  case ys1_44 => (intro w hSw; (try dsimp only at hSw); go_simp; try with_reducible rfl)
  try simp only [Act.put, List.setIfInBounds_toArray, List.set_cons_zero, List.set_cons_succ]
  refine wpAnyH_take (i := 45) (oi := ({ dst := some 74, op := .move (.tmp 0), type := 22, pos := "law.go:24", after := #[{ on := 40, ground := .guard }], guard := some (40, true) } : Oper)) (v := ?vs1_45) rfl says5_plain (by as_aux_lemma => kernel_rfl) (by as_aux_lemma => kernel_rfl) (fun _ _ _ h => h) (Or.inl ⟨by rfl, ?ys1_45⟩) (by assumption) ?rs1_45
  case ys1_45 => (intro w hSw; (try dsimp only at hSw); go_simp; try with_reducible rfl)
  try simp only [Act.put, List.setIfInBounds_toArray, List.set_cons_zero, List.set_cons_succ]
  refine wpAnyH_take (i := 47) (oi := ({ dst := some 76, op := .indexAddr 23 (.tmp 3) (.const (.int .i64 0)), type := 0, pos := "law.go:24", after := #[{ on := 40, ground := .guard }], guard := some (40, true) } : Oper)) (v := ?vs1_47) rfl says5_plain (by as_aux_lemma => kernel_rfl) (by as_aux_lemma => kernel_rfl) (fun _ _ _ h => h) (Or.inl ⟨by rfl, ?ys1_47⟩) (by assumption) ?rs1_47
  case ys1_47 => (intro w hSw; (try dsimp only at hSw); go_simp; try with_reducible rfl)
  try simp only [Act.put, List.setIfInBounds_toArray, List.set_cons_zero, List.set_cons_succ]
  refine wpAnyH_take (i := 48) (oi := ({ dst := some 77, op := .load 2 (.tmp 76), type := 2, pos := "law.go:24", after := #[{ on := 47, ground := .data }, { on := 40, ground := .guard }], guard := some (40, true) } : Oper)) (v := ?vs1_48) rfl says5_plain (by as_aux_lemma => kernel_rfl) (by as_aux_lemma => kernel_rfl) (fun _ _ _ h => h) (Or.inl ⟨by rfl, ?ys1_48⟩) (by assumption) ?rs1_48
  case ys1_48 => (intro w hSw; (try dsimp only at hSw); go_simp; try with_reducible rfl)
  try simp only [Act.put, List.setIfInBounds_toArray, List.set_cons_zero, List.set_cons_succ]
  refine wpAnyH_take (i := 49) (oi := ({ dst := some 78, op := .indexAddr 23 (.tmp 3) (.const (.int .i64 2)), type := 0, pos := "law.go:24", after := #[{ on := 40, ground := .guard }], guard := some (40, true) } : Oper)) (v := ?vs1_49) rfl says5_plain (by as_aux_lemma => kernel_rfl) (by as_aux_lemma => kernel_rfl) (fun _ _ _ h => h) (Or.inl ⟨by rfl, ?ys1_49⟩) (by assumption) ?rs1_49
  case ys1_49 => (intro w hSw; (try dsimp only at hSw); go_simp; try with_reducible rfl)
  try simp only [Act.put, List.setIfInBounds_toArray, List.set_cons_zero, List.set_cons_succ]
  refine wpAnyH_take (i := 50) (oi := ({ dst := some 79, op := .load 2 (.tmp 78), type := 2, pos := "law.go:24", after := #[{ on := 49, ground := .data }, { on := 40, ground := .guard }], guard := some (40, true) } : Oper)) (v := ?vs1_50) rfl says5_plain (by as_aux_lemma => kernel_rfl) (by as_aux_lemma => kernel_rfl) (fun _ _ _ h => h) (Or.inl ⟨by rfl, ?ys1_50⟩) (by assumption) ?rs1_50
  case ys1_50 => (intro w hSw; (try dsimp only at hSw); go_simp; try with_reducible rfl)
  try simp only [Act.put, List.setIfInBounds_toArray, List.set_cons_zero, List.set_cons_succ]
  refine wpAnyH_take (i := 51) (oi := ({ dst := some 80, op := .move (.tmp 0), type := 22, pos := "law.go:24", after := #[{ on := 40, ground := .guard }], guard := some (40, true) } : Oper)) (v := ?vs1_51) rfl says5_plain (by as_aux_lemma => kernel_rfl) (by as_aux_lemma => kernel_rfl) (fun _ _ _ h => h) (Or.inl ⟨by rfl, ?ys1_51⟩) (by assumption) ?rs1_51
  case ys1_51 => (intro w hSw; (try dsimp only at hSw); go_simp; try with_reducible rfl)
  try simp only [Act.put, List.setIfInBounds_toArray, List.set_cons_zero, List.set_cons_succ]
  refine wpAnyH_ready (rs := [46]) (by as_aux_lemma => kernel_rfl) (by simp) ?_
  refine AllReadyH.cons (o := ({ dst := some 75, op := .call { callee := .value (.func 14), args := #[.tmp 71, .tmp 73, .tmp 74], argTypes := #[2, 2, 22] }, type := 3, pos := "law.go:24", after := #[{ on := 42, ground := .data }, { on := 44, ground := .data }, { on := 45, ground := .data }, { on := 40, ground := .chain }, { on := 40, ground := .guard }], guard := some (40, true) } : Oper)) rfl (fun KK hK => ?_) AllReadyH.nil
  rw [if_pos (by rfl)]
  go_simp
  go_at_call 14; refine (R1.out _ (belowT B0 (by assumption))).mono ?_; rintro e w8 ⟨rfl, hb8⟩
  go_wp2_with fail
  refine hK.out _ _ ?_ (fun hHeld8 => ?_)
  · exact belowT (by assumption) hb8
  clear hK KK hb8 hHeld7
  try simp only [Act.put, List.setIfInBounds_toArray, List.set_cons_zero, List.set_cons_succ]
  refine wpAnyH_ready (rs := [52]) (by as_aux_lemma => kernel_rfl) (by simp) ?_
  refine AllReadyH.cons (o := ({ dst := some 81, op := .call { callee := .value (.func 15), args := #[.tmp 77, .tmp 79, .tmp 80], argTypes := #[2, 2, 22] }, type := 3, pos := "law.go:24", after := #[{ on := 48, ground := .data }, { on := 50, ground := .data }, { on := 51, ground := .data }, { on := 46, ground := .chain }, { on := 40, ground := .guard }], guard := some (40, true) } : Oper)) rfl (fun KK hK => ?_) AllReadyH.nil
  rw [if_pos (by rfl)]
  go_simp
  go_at_call 15; refine (R2.out _ (belowT B0 (by assumption))).mono ?_; rintro e w9 ⟨rfl, hb9⟩
  go_wp2_with fail
  refine hK.out _ _ ?_ (fun hHeld9 => ?_)
  · exact belowT (by assumption) hb9
  clear hK KK hb9 hHeld8
  try simp only [Act.put, List.setIfInBounds_toArray, List.set_cons_zero, List.set_cons_succ]
  refine wpAnyH_take (i := 53) (oi := ({ dst := some 82, op := .binOp .eql 3 (.tmp 75) (.tmp 81) 3, type := 4, pos := "law.go:24", after := #[{ on := 46, ground := .data }, { on := 52, ground := .data }, { on := 40, ground := .guard }], guard := some (40, true) } : Oper)) (v := ?vs1_53) rfl says5_plain (by as_aux_lemma => kernel_rfl) (by as_aux_lemma => kernel_rfl) (fun _ _ _ h => h) (Or.inl ⟨by rfl, ?ys1_53⟩) (by assumption) ?rs1_53
  case ys1_53 => (intro w hSw; (try dsimp only at hSw); go_simp; try with_reducible rfl)
  try simp only [Act.put, List.setIfInBounds_toArray, List.set_cons_zero, List.set_cons_succ]
  refine wpAnyH_take (i := 54) (oi := ({ dst := some 83, op := .pick (.tmp 69) (.tmp 82) (.const (.bool false)), type := 4, pos := "law.go:24", after := #[{ on := 40, ground := .data }, { on := 53, ground := .data }], guard := none } : Oper)) (v := ?vs1_54) rfl says5_plain (by as_aux_lemma => kernel_rfl) (by as_aux_lemma => kernel_rfl) (fun _ _ _ h => h) (Or.inl ⟨by rfl, ?ys1_54⟩) (by assumption) ?rs1_54
  case ys1_54 => (intro w hSw; (try dsimp only at hSw); go_simp; try with_reducible rfl)
  try simp only [Act.put, List.setIfInBounds_toArray, List.set_cons_zero, List.set_cons_succ]
  refine wpAnyH_take (i := 55) (oi := ({ dst := some 84, op := .move (.tmp 83), type := 4, pos := "law.go:24", after := #[{ on := 54, ground := .data }, { on := 52, ground := .chain }], guard := none } : Oper)) (v := ?vs1_55) rfl says5_plain (by as_aux_lemma => kernel_rfl) (by as_aux_lemma => kernel_rfl) (fun _ _ _ h => h) (Or.inl ⟨by rfl, ?ys1_55⟩) (by assumption) ?rs1_55
  case ys1_55 => (intro w hSw; (try dsimp only at hSw); go_simp; try with_reducible rfl)
  try simp only [Act.put, List.setIfInBounds_toArray, List.set_cons_zero, List.set_cons_succ]
  refine wpAnyH_ready (rs := [56]) (by as_aux_lemma => kernel_rfl) (by simp) ?_
  refine AllReadyH.cons (o := ({ dst := some 85, op := .call { callee := .value (.func 7), args := #[], argTypes := #[] }, type := 4, pos := "law.go:24", after := #[{ on := 55, ground := .chain }, { on := 55, ground := .guard }], guard := some (55, true) } : Oper)) rfl (fun KK hK => ?_) AllReadyH.nil
  rw [if_pos (by rfl)]
  go_simp
  go_at_call 7; refine (AW.out _).mono ?_; rintro e w10 ⟨rfl, hb10⟩
  go_wp2_with fail
  refine hK.out _ _ ?_ (fun hHeld10 => ?_)
  · exact belowT (by assumption) hb10
  clear hK KK hb10 hHeld9
  try simp only [Act.put, List.setIfInBounds_toArray, List.set_cons_zero, List.set_cons_succ]
  refine wpAnyH_take (i := 57) (oi := ({ dst := some 86, op := .pick (.tmp 84) (.tmp 85) (.const (.bool false)), type := 4, pos := "law.go:24", after := #[{ on := 55, ground := .data }, { on := 56, ground := .data }], guard := none } : Oper)) (v := ?vs1_57) rfl says5_plain (by as_aux_lemma => kernel_rfl) (by as_aux_lemma => kernel_rfl) (fun _ _ _ h => h) (Or.inl ⟨by rfl, ?ys1_57⟩) (by assumption) ?rs1_57
  case ys1_57 => (intro w hSw; (try dsimp only at hSw); go_simp; try with_reducible rfl)
  try simp only [Act.put, List.setIfInBounds_toArray, List.set_cons_zero, List.set_cons_succ]
  refine wpAnyH_take (i := 58) (oi := ({ dst := some 4, op := .assign (.tmp 86), type := 4, pos := "law.go:24", after := #[{ on := 57, ground := .data }, { on := 56, ground := .chain }, { on := 0, ground := .phase }, { on := 1, ground := .phase }, { on := 2, ground := .phase }, { on := 3, ground := .phase }, { on := 4, ground := .phase }, { on := 5, ground := .phase }, { on := 6, ground := .phase }, { on := 7, ground := .phase }, { on := 8, ground := .phase }, { on := 9, ground := .phase }, { on := 10, ground := .phase }, { on := 11, ground := .phase }, { on := 12, ground := .phase }, { on := 13, ground := .phase }, { on := 14, ground := .phase }, { on := 15, ground := .phase }, { on := 16, ground := .phase }, { on := 17, ground := .phase }, { on := 18, ground := .phase }, { on := 19, ground := .phase }, { on := 20, ground := .phase }, { on := 21, ground := .phase }, { on := 22, ground := .phase }, { on := 23, ground := .phase }, { on := 24, ground := .phase }, { on := 25, ground := .phase }, { on := 26, ground := .phase }, { on := 27, ground := .phase }, { on := 28, ground := .phase }, { on := 29, ground := .phase }, { on := 30, ground := .phase }, { on := 31, ground := .phase }, { on := 32, ground := .phase }, { on := 33, ground := .phase }, { on := 34, ground := .phase }, { on := 35, ground := .phase }, { on := 36, ground := .phase }, { on := 37, ground := .phase }, { on := 38, ground := .phase }, { on := 39, ground := .phase }, { on := 40, ground := .phase }, { on := 41, ground := .phase }, { on := 42, ground := .phase }, { on := 43, ground := .phase }, { on := 44, ground := .phase }, { on := 45, ground := .phase }, { on := 46, ground := .phase }, { on := 47, ground := .phase }, { on := 48, ground := .phase }, { on := 49, ground := .phase }, { on := 50, ground := .phase }, { on := 51, ground := .phase }, { on := 52, ground := .phase }, { on := 53, ground := .phase }, { on := 54, ground := .phase }, { on := 55, ground := .phase }, { on := 56, ground := .phase }, { on := 57, ground := .phase }], guard := none } : Oper)) (v := ?vs1_58) rfl says5_plain (by as_aux_lemma => kernel_rfl) (by as_aux_lemma => kernel_rfl) (fun _ _ _ h => h) (Or.inl ⟨by rfl, ?ys1_58⟩) (by assumption) ?rs1_58
  case ys1_58 => (intro w hSw; (try dsimp only at hSw); go_simp; try with_reducible rfl)
  try simp only [Act.put, List.setIfInBounds_toArray, List.set_cons_zero, List.set_cons_succ]
  refine wpAnyH_done (by as_aux_lemma => kernel_rfl) ?_ _
  refine NoPanic.normal ?_
  go_wp2_with fail
  go_ret
  exact ⟨rfl, belowT B0 (by assumption)⟩

theorem Says_all {w : World} {ba : Option Addr} {cap : Nat} {l : List Int} (n0 n1 n2 n3 : Int) (C : Came6 w ba cap l) (h0 : Fix.Room n0) (h1 : Fix.Room n1) (h3 : Fix.Room n3) :
    Calls Try.prog 3 #[.slice ba l.length cap, .agg #[.int .i64 n0, .int .i64 n1, .int .i64 n2, .int .i64 n3]] w fun e w' => e = .returned (.bool true) ∧ Below w.heap.size w w' := by
  by_cases h : (200 : Int) < l.length
  · exact says_long ba cap l.length n0 n1 n2 n3 w h
  · exact says_core C n0 n1 n2 n3 h h0 h1 h3
end Go.Proofs.Ytlfpmeflddimfaa
