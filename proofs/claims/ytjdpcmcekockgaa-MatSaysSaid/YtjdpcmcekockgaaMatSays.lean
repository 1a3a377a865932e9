/- MatSays: the law's walk. -/
import Derived.Test.YtjdpcmcekockgaaMatAwake
namespace Go.Proofs.Ytjdpcmcekockgaa
open Go.RowKit
/-- The operations of a drawn region, as the translation has them. -/
def msays3 : Array Oper := #[
  { dst := some 27, op := .load 25 (.tmp 3), type := 25, pos := "law.go:22", after := #[], guard := none },
  { dst := some 28, op := .load 25 (.tmp 4), type := 25, pos := "law.go:22", after := #[], guard := none },
  { dst := some 29, op := .call { callee := .value (.func 11), args := #[.tmp 27, .tmp 28], argTypes := #[25, 25] }, type := 25, pos := "law.go:22", after := #[{ on := 0, ground := .data }, { on := 1, ground := .data }], guard := none },
  { dst := some 30, op := .load 25 (.tmp 3), type := 25, pos := "law.go:22", after := #[], guard := none },
  { dst := some 31, op := .load 25 (.tmp 4), type := 25, pos := "law.go:22", after := #[], guard := none },
  { dst := some 32, op := .call { callee := .value (.func 31), args := #[.tmp 30, .tmp 31], argTypes := #[25, 25] }, type := 25, pos := "law.go:22", after := #[{ on := 3, ground := .data }, { on := 4, ground := .data }, { on := 2, ground := .chain }], guard := none },
  { dst := some 33, op := .binOp .eql 25 (.tmp 29) (.tmp 32) 25, type := 4, pos := "law.go:22", after := #[{ on := 2, ground := .data }, { on := 5, ground := .data }], guard := none },
  { dst := some 34, op := .move (.tmp 33), type := 4, pos := "law.go:22", after := #[{ on := 6, ground := .data }, { on := 5, ground := .chain }], guard := none },
  { dst := some 35, op := .load 25 (.tmp 3), type := 25, pos := "law.go:22", after := #[{ on := 7, ground := .guard }], guard := some (7, true) },
  { dst := some 36, op := .load 23 (.tmp 5), type := 23, pos := "law.go:22", after := #[{ on := 7, ground := .guard }], guard := some (7, true) },
  { dst := some 37, op := .call { callee := .value (.func 15), args := #[.tmp 35, .tmp 36], argTypes := #[25, 23] }, type := 23, pos := "law.go:22", after := #[{ on := 8, ground := .data }, { on := 9, ground := .data }, { on := 7, ground := .chain }, { on := 7, ground := .guard }], guard := some (7, true) },
  { dst := some 38, op := .load 25 (.tmp 3), type := 25, pos := "law.go:22", after := #[{ on := 7, ground := .guard }], guard := some (7, true) },
  { dst := some 39, op := .load 23 (.tmp 5), type := 23, pos := "law.go:22", after := #[{ on := 7, ground := .guard }], guard := some (7, true) },
  { dst := some 40, op := .call { callee := .value (.func 32), args := #[.tmp 38, .tmp 39], argTypes := #[25, 23] }, type := 23, pos := "law.go:22", after := #[{ on := 11, ground := .data }, { on := 12, ground := .data }, { on := 10, ground := .chain }, { on := 7, ground := .guard }], guard := some (7, true) },
  { dst := some 41, op := .binOp .eql 23 (.tmp 37) (.tmp 40) 23, type := 4, pos := "law.go:22", after := #[{ on := 10, ground := .data }, { on := 13, ground := .data }, { on := 7, ground := .guard }], guard := some (7, true) },
  { dst := some 42, op := .pick (.tmp 34) (.tmp 41) (.const (.bool false)), type := 4, pos := "law.go:22", after := #[{ on := 7, ground := .data }, { on := 14, ground := .data }], guard := none },
  { dst := some 43, op := .move (.tmp 42), type := 4, pos := "law.go:22", after := #[{ on := 15, ground := .data }, { on := 13, ground := .chain }], guard := none },
  { dst := some 44, op := .load 25 (.tmp 3), type := 25, pos := "law.go:22", after := #[{ on := 16, ground := .guard }], guard := some (16, true) },
  { dst := some 45, op := .call { callee := .value (.func 28), args := #[.tmp 44], argTypes := #[25] }, type := 25, pos := "law.go:22", after := #[{ on := 17, ground := .data }, { on := 16, ground := .chain }, { on := 16, ground := .guard }], guard := some (16, true) },
  { dst := some 46, op := .load 25 (.tmp 3), type := 25, pos := "law.go:22", after := #[{ on := 16, ground := .guard }], guard := some (16, true) },
  { dst := some 47, op := .call { callee := .value (.func 33), args := #[.tmp 46], argTypes := #[25] }, type := 25, pos := "law.go:22", after := #[{ on := 19, ground := .data }, { on := 18, ground := .chain }, { on := 16, ground := .guard }], guard := some (16, true) },
  { dst := some 48, op := .binOp .eql 25 (.tmp 45) (.tmp 47) 25, type := 4, pos := "law.go:22", after := #[{ on := 18, ground := .data }, { on := 20, ground := .data }, { on := 16, ground := .guard }], guard := some (16, true) },
  { dst := some 49, op := .pick (.tmp 43) (.tmp 48) (.const (.bool false)), type := 4, pos := "law.go:22", after := #[{ on := 16, ground := .data }, { on := 21, ground := .data }], guard := none },
  { dst := some 50, op := .move (.tmp 49), type := 4, pos := "law.go:22", after := #[{ on := 22, ground := .data }, { on := 20, ground := .chain }], guard := none },
  { dst := some 51, op := .load 25 (.tmp 3), type := 25, pos := "law.go:22", after := #[{ on := 23, ground := .guard }], guard := some (23, true) },
  { dst := some 52, op := .call { callee := .value (.func 10), args := #[.tmp 51], argTypes := #[25] }, type := 2, pos := "law.go:22", after := #[{ on := 24, ground := .data }, { on := 23, ground := .chain }, { on := 23, ground := .guard }], guard := some (23, true) },
  { dst := some 53, op := .load 25 (.tmp 3), type := 25, pos := "law.go:22", after := #[{ on := 23, ground := .guard }], guard := some (23, true) },
  { dst := some 54, op := .call { callee := .value (.func 34), args := #[.tmp 53], argTypes := #[25] }, type := 2, pos := "law.go:22", after := #[{ on := 26, ground := .data }, { on := 25, ground := .chain }, { on := 23, ground := .guard }], guard := some (23, true) },
  { dst := some 55, op := .binOp .eql 2 (.tmp 52) (.tmp 54) 2, type := 4, pos := "law.go:22", after := #[{ on := 25, ground := .data }, { on := 27, ground := .data }, { on := 23, ground := .guard }], guard := some (23, true) },
  { dst := some 56, op := .pick (.tmp 50) (.tmp 55) (.const (.bool false)), type := 4, pos := "law.go:22", after := #[{ on := 23, ground := .data }, { on := 28, ground := .data }], guard := none },
  { dst := some 57, op := .move (.tmp 56), type := 4, pos := "law.go:22", after := #[{ on := 29, ground := .data }, { on := 27, ground := .chain }], guard := none },
  { dst := some 58, op := .load 25 (.tmp 3), type := 25, pos := "law.go:22", after := #[{ on := 30, ground := .guard }], guard := some (30, true) },
  { dst := some 59, op := .call { callee := .value (.func 12), args := #[.tmp 58], argTypes := #[25] }, type := 25, pos := "law.go:22", after := #[{ on := 31, ground := .data }, { on := 30, ground := .chain }, { on := 30, ground := .guard }], guard := some (30, true) },
  { dst := some 60, op := .load 25 (.tmp 3), type := 25, pos := "law.go:22", after := #[{ on := 30, ground := .guard }], guard := some (30, true) },
  { dst := some 61, op := .call { callee := .value (.func 35), args := #[.tmp 60], argTypes := #[25] }, type := 25, pos := "law.go:22", after := #[{ on := 33, ground := .data }, { on := 32, ground := .chain }, { on := 30, ground := .guard }], guard := some (30, true) },
  { dst := some 62, op := .binOp .eql 25 (.tmp 59) (.tmp 61) 25, type := 4, pos := "law.go:22", after := #[{ on := 32, ground := .data }, { on := 34, ground := .data }, { on := 30, ground := .guard }], guard := some (30, true) },
  { dst := some 63, op := .pick (.tmp 57) (.tmp 62) (.const (.bool false)), type := 4, pos := "law.go:22", after := #[{ on := 30, ground := .data }, { on := 35, ground := .data }], guard := none },
  { dst := some 64, op := .move (.tmp 63), type := 4, pos := "law.go:22", after := #[{ on := 36, ground := .data }, { on := 34, ground := .chain }], guard := none },
  { dst := some 65, op := .load 25 (.tmp 3), type := 25, pos := "law.go:22", after := #[{ on := 37, ground := .guard }], guard := some (37, true) },
  { dst := some 66, op := .call { callee := .value (.func 29), args := #[.tmp 65], argTypes := #[25] }, type := 2, pos := "law.go:22", after := #[{ on := 38, ground := .data }, { on := 37, ground := .chain }, { on := 37, ground := .guard }], guard := some (37, true) },
  { dst := some 67, op := .load 25 (.tmp 3), type := 25, pos := "law.go:22", after := #[{ on := 37, ground := .guard }], guard := some (37, true) },
  { dst := some 68, op := .call { callee := .value (.func 36), args := #[.tmp 67], argTypes := #[25] }, type := 2, pos := "law.go:22", after := #[{ on := 40, ground := .data }, { on := 39, ground := .chain }, { on := 37, ground := .guard }], guard := some (37, true) },
  { dst := some 69, op := .binOp .eql 2 (.tmp 66) (.tmp 68) 2, type := 4, pos := "law.go:22", after := #[{ on := 39, ground := .data }, { on := 41, ground := .data }, { on := 37, ground := .guard }], guard := some (37, true) },
  { dst := some 70, op := .pick (.tmp 64) (.tmp 69) (.const (.bool false)), type := 4, pos := "law.go:22", after := #[{ on := 37, ground := .data }, { on := 42, ground := .data }], guard := none },
  { dst := some 71, op := .move (.tmp 70), type := 4, pos := "law.go:22", after := #[{ on := 43, ground := .data }, { on := 41, ground := .chain }], guard := none },
  { dst := some 72, op := .indexAddr 23 (.tmp 5) (.const (.int .i64 0)), type := 0, pos := "law.go:22", after := #[{ on := 44, ground := .guard }], guard := some (44, true) },
  { dst := some 73, op := .load 2 (.tmp 72), type := 2, pos := "law.go:22", after := #[{ on := 45, ground := .data }, { on := 44, ground := .guard }], guard := some (44, true) },
  { dst := some 74, op := .call { callee := .value (.func 9), args := #[.tmp 73], argTypes := #[2] }, type := 25, pos := "law.go:22", after := #[{ on := 46, ground := .data }, { on := 44, ground := .chain }, { on := 44, ground := .guard }], guard := some (44, true) },
  { dst := some 75, op := .indexAddr 23 (.tmp 5) (.const (.int .i64 0)), type := 0, pos := "law.go:22", after := #[{ on := 44, ground := .guard }], guard := some (44, true) },
  { dst := some 76, op := .load 2 (.tmp 75), type := 2, pos := "law.go:22", after := #[{ on := 48, ground := .data }, { on := 44, ground := .guard }], guard := some (44, true) },
  { dst := some 77, op := .call { callee := .value (.func 37), args := #[.tmp 76], argTypes := #[2] }, type := 25, pos := "law.go:22", after := #[{ on := 49, ground := .data }, { on := 47, ground := .chain }, { on := 44, ground := .guard }], guard := some (44, true) },
  { dst := some 78, op := .binOp .eql 25 (.tmp 74) (.tmp 77) 25, type := 4, pos := "law.go:22", after := #[{ on := 47, ground := .data }, { on := 50, ground := .data }, { on := 44, ground := .guard }], guard := some (44, true) },
  { dst := some 79, op := .pick (.tmp 71) (.tmp 78) (.const (.bool false)), type := 4, pos := "law.go:22", after := #[{ on := 44, ground := .data }, { on := 51, ground := .data }], guard := none },
  { dst := some 80, op := .move (.tmp 79), type := 4, pos := "law.go:22", after := #[{ on := 52, ground := .data }, { on := 50, ground := .chain }], guard := none },
  { dst := some 81, op := .load 23 (.tmp 7), type := 23, pos := "law.go:22", after := #[{ on := 53, ground := .guard }], guard := some (53, true) },
  { dst := some 82, op := .load 23 (.tmp 10), type := 23, pos := "law.go:22", after := #[{ on := 53, ground := .guard }], guard := some (53, true) },
  { dst := some 83, op := .binOp .eql 23 (.tmp 81) (.tmp 82) 23, type := 4, pos := "law.go:22", after := #[{ on := 54, ground := .data }, { on := 55, ground := .data }, { on := 53, ground := .guard }], guard := some (53, true) },
  { dst := some 84, op := .pick (.tmp 80) (.tmp 83) (.const (.bool false)), type := 4, pos := "law.go:22", after := #[{ on := 53, ground := .data }, { on := 56, ground := .data }], guard := none },
  { dst := some 85, op := .move (.tmp 84), type := 4, pos := "law.go:22", after := #[{ on := 57, ground := .data }, { on := 53, ground := .chain }], guard := none },
  { dst := some 86, op := .move (.tmp 8), type := 2, pos := "law.go:22", after := #[{ on := 58, ground := .guard }], guard := some (58, true) },
  { dst := some 87, op := .move (.tmp 11), type := 2, pos := "law.go:22", after := #[{ on := 58, ground := .guard }], guard := some (58, true) },
  { dst := some 88, op := .binOp .eql 2 (.tmp 86) (.tmp 87) 2, type := 4, pos := "law.go:22", after := #[{ on := 59, ground := .data }, { on := 60, ground := .data }, { on := 58, ground := .guard }], guard := some (58, true) },
  { dst := some 89, op := .pick (.tmp 85) (.tmp 88) (.const (.bool false)), type := 4, pos := "law.go:22", after := #[{ on := 58, ground := .data }, { on := 61, ground := .data }], guard := none },
  { dst := some 90, op := .move (.tmp 89), type := 4, pos := "law.go:22", after := #[{ on := 62, ground := .data }, { on := 58, ground := .chain }], guard := none },
  { dst := some 91, op := .move (.tmp 9), type := 30, pos := "law.go:22", after := #[{ on := 63, ground := .guard }], guard := some (63, true) },
  { dst := some 92, op := .move (.tmp 12), type := 30, pos := "law.go:22", after := #[{ on := 63, ground := .guard }], guard := some (63, true) },
  { dst := some 93, op := .binOp .eql 30 (.tmp 91) (.tmp 92) 30, type := 4, pos := "law.go:22", after := #[{ on := 64, ground := .data }, { on := 65, ground := .data }, { on := 63, ground := .guard }], guard := some (63, true) },
  { dst := some 94, op := .pick (.tmp 90) (.tmp 93) (.const (.bool false)), type := 4, pos := "law.go:22", after := #[{ on := 63, ground := .data }, { on := 66, ground := .data }], guard := none },
  { dst := some 95, op := .move (.tmp 94), type := 4, pos := "law.go:22", after := #[{ on := 67, ground := .data }, { on := 63, ground := .chain }], guard := none },
  { dst := some 96, op := .call { callee := .value (.func 14), args := #[], argTypes := #[] }, type := 4, pos := "law.go:22", after := #[{ on := 68, ground := .chain }, { on := 68, ground := .guard }], guard := some (68, true) },
  { dst := some 97, op := .pick (.tmp 95) (.tmp 96) (.const (.bool false)), type := 4, pos := "law.go:22", after := #[{ on := 68, ground := .data }, { on := 69, ground := .data }], guard := none },
  { dst := some 6, op := .assign (.tmp 97), type := 4, pos := "law.go:22", after := ([{ on := 70, ground := .data }, { on := 69, ground := .chain }, { on := 0, ground := .phase }, { on := 1, ground := .phase }, { on := 2, ground := .phase }, { on := 3, ground := .phase }, { on := 4, ground := .phase }, { on := 5, ground := .phase }, { on := 6, ground := .phase }, { on := 7, ground := .phase }, { on := 8, ground := .phase }, { on := 9, ground := .phase }, { on := 10, ground := .phase }, { on := 11, ground := .phase }, { on := 12, ground := .phase }, { on := 13, ground := .phase }, { on := 14, ground := .phase }, { on := 15, ground := .phase }, { on := 16, ground := .phase }, { on := 17, ground := .phase }, { on := 18, ground := .phase }, { on := 19, ground := .phase }, { on := 20, ground := .phase }, { on := 21, ground := .phase }, { on := 22, ground := .phase }, { on := 23, ground := .phase }, { on := 24, ground := .phase }, { on := 25, ground := .phase }, { on := 26, ground := .phase }, { on := 27, ground := .phase }, { on := 28, ground := .phase }, { on := 29, ground := .phase }, { on := 30, ground := .phase }, { on := 31, ground := .phase }, { on := 32, ground := .phase }, { on := 33, ground := .phase }].append [{ on := 34, ground := .phase }, { on := 35, ground := .phase }, { on := 36, ground := .phase }, { on := 37, ground := .phase }, { on := 38, ground := .phase }, { on := 39, ground := .phase }, { on := 40, ground := .phase }, { on := 41, ground := .phase }, { on := 42, ground := .phase }, { on := 43, ground := .phase }, { on := 44, ground := .phase }, { on := 45, ground := .phase }, { on := 46, ground := .phase }, { on := 47, ground := .phase }, { on := 48, ground := .phase }, { on := 49, ground := .phase }, { on := 50, ground := .phase }, { on := 51, ground := .phase }, { on := 52, ground := .phase }, { on := 53, ground := .phase }, { on := 54, ground := .phase }, { on := 55, ground := .phase }, { on := 56, ground := .phase }, { on := 57, ground := .phase }, { on := 58, ground := .phase }, { on := 59, ground := .phase }, { on := 60, ground := .phase }, { on := 61, ground := .phase }, { on := 62, ground := .phase }, { on := 63, ground := .phase }, { on := 64, ground := .phase }, { on := 65, ground := .phase }, { on := 66, ground := .phase }, { on := 67, ground := .phase }, { on := 68, ground := .phase }, { on := 69, ground := .phase }, { on := 70, ground := .phase }]).toArray, guard := none }]
theorem msays3_plain : Region.noSelect msays3 = true := by kernel_rfl

set_option maxHeartbeats 16000000 in
set_option maxRecDepth 100000 in
theorem Says8_all (a b : M3) (v : V3) (w : World) :
    Calls Try.prog 8 #[mv a, mv b, vv v] w fun e w' => e = .returned (.bool true) ∧ Below w.heap.size w w' := by
  have P0 := Lib.hid fun w => Own8.Mul_any a b w; have R0 := Lib.hid fun w => Ref8.Mul_any a b w
  have P1 := Lib.hid fun w => Own8.Times_any a v w; have R1 := Lib.hid fun w => Ref8.Times_any a v w
  have P2 := Lib.hid fun w => Own8.Turn_any a w; have R2 := Lib.hid fun w => Ref8.Turn_any a w
  have P3 := Lib.hid fun w => Own8.Det_any a w; have R3 := Lib.hid fun w => Ref8.Det_any a w
  have P4 := Lib.hid fun w => Own8.Adj_any a w; have R4 := Lib.hid fun w => Ref8.Adj_any a w
  have P5 := Lib.hid fun w => Own8.Trace_any a w; have R5 := Lib.hid fun w => Ref8.Trace_any a w
  have P6 := Lib.hid fun w => Own8.Unit_any v.x w; have R6 := Lib.hid fun w => Ref8.Unit_any v.x w
  have AW := Lib.hid Aw8.awake_any
  have ES := vec_same; have EM := mat_same
  have S0 := Lib.hid ((((St.none w).more (ml a) 25).more (ml b) 25).more (vl v) 23)
  have hcase : ∃ (x : V3) (d e : Int), (∀ w, Calls Try.prog 13 #[mv a, vv v] w fun r w' => r = .returned (.tuple #[vv x, .int .i64 d, .int .i64 e]) ∧ Below w.heap.size w w') ∧
      (∀ w, Calls Try.prog 30 #[mv a, vv v] w fun r w' => r = .returned (.tuple #[vv x, .int .i64 d, .int .i64 e]) ∧ Below w.heap.size w w') := by
    by_cases h : a.det = 0
    · exact ⟨V3.zero, 0, 7, fun w => Own8.Solve_flat a v w h, fun w => Ref8.Solve_flat a v w h⟩
    · exact ⟨a.adj.times v, a.det.toInt, 0, fun w => Own8.Solve_firm a v w h, fun w => Ref8.Solve_firm a v w h⟩
  obtain ⟨x, d, er, hs0, hs1⟩ := hcase
  have SO := Lib.hid hs0; have SR := Lib.hid hs1
  clear hs0 hs1
  generalize a.mul b = g0 at *; generalize a.times v = g1 at *; generalize a.turn = g2 at *; generalize a.adj = g4 at *; generalize M3.unit v.x = g6 at *
  generalize a.det.toInt = g3 at *; generalize a.trace.toInt = g5 at *
  go_enter Try.func8, Try.ntmps8
  go_wp2_with fail
  refine (SO.out _).mono ?_; rintro e w1 ⟨rfl, hb1⟩
  have S1 := (S0.out.keep hb1).more (vl x) 23
  simp only [heap1] at S1
  have na0 := S1.at 0 rfl 0 (v := .int .i64 a.a.x.toInt) rfl
  have na1 := S1.at 0 rfl 1 (v := .int .i64 a.a.y.toInt) rfl
  have na2 := S1.at 0 rfl 2 (v := .int .i64 a.a.z.toInt) rfl
  have na3 := S1.at 0 rfl 3 (v := .int .i64 a.b.x.toInt) rfl
  have na4 := S1.at 0 rfl 4 (v := .int .i64 a.b.y.toInt) rfl
  have na5 := S1.at 0 rfl 5 (v := .int .i64 a.b.z.toInt) rfl
  have na6 := S1.at 0 rfl 6 (v := .int .i64 a.c.x.toInt) rfl
  have na7 := S1.at 0 rfl 7 (v := .int .i64 a.c.y.toInt) rfl
  have na8 := S1.at 0 rfl 8 (v := .int .i64 a.c.z.toInt) rfl
  have nv0 := S1.at 2 rfl 0 (v := .int .i64 v.x.toInt) rfl
  have nv1 := S1.at 2 rfl 1 (v := .int .i64 v.y.toInt) rfl
  have nv2 := S1.at 2 rfl 2 (v := .int .i64 v.z.toInt) rfl
  have H1 := Lib.hid S1
  clear S1 hb1 S0
  go_wp2_with fail
  refine (SR.out _).mono ?_; rintro e w2 ⟨rfl, hb2⟩
  have H2 := Lib.hid ((H1.out.keep hb2).more (vl x) 23)
  clear hb2 H1 na0 na1 na2 na3 na4 na5 na6 na7 na8 nv0 nv1 nv2
  go_upto_region 3 with fail
  obtain ⟨W0, hW0⟩ : ∃ W0, W0 = w2.alloc (.cells (vl x).toArray 23) := ⟨_, rfl⟩
  have S3 := H2.out
  rw [← hW0] at S3
  have HW := Lib.hid hW0
  clear hW0 H2
  rw [← HW.out]
  clear HW
  have ma0 : ∀ w', Below W0.heap.size W0 w' → w'.cell? ⟨w.heap.size, 0, none⟩ = some (.int .i64 a.a.x.toInt) := fun w' h => (S3.keep h).at 0 rfl 0 rfl
  have ma1 : ∀ w', Below W0.heap.size W0 w' → w'.cell? ⟨w.heap.size, 1, none⟩ = some (.int .i64 a.a.y.toInt) := fun w' h => (S3.keep h).at 0 rfl 1 rfl
  have ma2 : ∀ w', Below W0.heap.size W0 w' → w'.cell? ⟨w.heap.size, 2, none⟩ = some (.int .i64 a.a.z.toInt) := fun w' h => (S3.keep h).at 0 rfl 2 rfl
  have ma3 : ∀ w', Below W0.heap.size W0 w' → w'.cell? ⟨w.heap.size, 3, none⟩ = some (.int .i64 a.b.x.toInt) := fun w' h => (S3.keep h).at 0 rfl 3 rfl
  have ma4 : ∀ w', Below W0.heap.size W0 w' → w'.cell? ⟨w.heap.size, 4, none⟩ = some (.int .i64 a.b.y.toInt) := fun w' h => (S3.keep h).at 0 rfl 4 rfl
  have ma5 : ∀ w', Below W0.heap.size W0 w' → w'.cell? ⟨w.heap.size, 5, none⟩ = some (.int .i64 a.b.z.toInt) := fun w' h => (S3.keep h).at 0 rfl 5 rfl
  have ma6 : ∀ w', Below W0.heap.size W0 w' → w'.cell? ⟨w.heap.size, 6, none⟩ = some (.int .i64 a.c.x.toInt) := fun w' h => (S3.keep h).at 0 rfl 6 rfl
  have ma7 : ∀ w', Below W0.heap.size W0 w' → w'.cell? ⟨w.heap.size, 7, none⟩ = some (.int .i64 a.c.y.toInt) := fun w' h => (S3.keep h).at 0 rfl 7 rfl
  have ma8 : ∀ w', Below W0.heap.size W0 w' → w'.cell? ⟨w.heap.size, 8, none⟩ = some (.int .i64 a.c.z.toInt) := fun w' h => (S3.keep h).at 0 rfl 8 rfl
  have mb0 : ∀ w', Below W0.heap.size W0 w' → w'.cell? ⟨w.heap.size + 1, 0, none⟩ = some (.int .i64 b.a.x.toInt) := fun w' h => (S3.keep h).at 1 rfl 0 rfl
  have mb1 : ∀ w', Below W0.heap.size W0 w' → w'.cell? ⟨w.heap.size + 1, 1, none⟩ = some (.int .i64 b.a.y.toInt) := fun w' h => (S3.keep h).at 1 rfl 1 rfl
  have mb2 : ∀ w', Below W0.heap.size W0 w' → w'.cell? ⟨w.heap.size + 1, 2, none⟩ = some (.int .i64 b.a.z.toInt) := fun w' h => (S3.keep h).at 1 rfl 2 rfl
  have mb3 : ∀ w', Below W0.heap.size W0 w' → w'.cell? ⟨w.heap.size + 1, 3, none⟩ = some (.int .i64 b.b.x.toInt) := fun w' h => (S3.keep h).at 1 rfl 3 rfl
  have mb4 : ∀ w', Below W0.heap.size W0 w' → w'.cell? ⟨w.heap.size + 1, 4, none⟩ = some (.int .i64 b.b.y.toInt) := fun w' h => (S3.keep h).at 1 rfl 4 rfl
  have mb5 : ∀ w', Below W0.heap.size W0 w' → w'.cell? ⟨w.heap.size + 1, 5, none⟩ = some (.int .i64 b.b.z.toInt) := fun w' h => (S3.keep h).at 1 rfl 5 rfl
  have mb6 : ∀ w', Below W0.heap.size W0 w' → w'.cell? ⟨w.heap.size + 1, 6, none⟩ = some (.int .i64 b.c.x.toInt) := fun w' h => (S3.keep h).at 1 rfl 6 rfl
  have mb7 : ∀ w', Below W0.heap.size W0 w' → w'.cell? ⟨w.heap.size + 1, 7, none⟩ = some (.int .i64 b.c.y.toInt) := fun w' h => (S3.keep h).at 1 rfl 7 rfl
  have mb8 : ∀ w', Below W0.heap.size W0 w' → w'.cell? ⟨w.heap.size + 1, 8, none⟩ = some (.int .i64 b.c.z.toInt) := fun w' h => (S3.keep h).at 1 rfl 8 rfl
  have mv0 : ∀ w', Below W0.heap.size W0 w' → w'.cell? ⟨w.heap.size + 1 + 1, 0, none⟩ = some (.int .i64 v.x.toInt) := fun w' h => (S3.keep h).at 2 rfl 0 rfl
  have mv1 : ∀ w', Below W0.heap.size W0 w' → w'.cell? ⟨w.heap.size + 1 + 1, 1, none⟩ = some (.int .i64 v.y.toInt) := fun w' h => (S3.keep h).at 2 rfl 1 rfl
  have mv2 : ∀ w', Below W0.heap.size W0 w' → w'.cell? ⟨w.heap.size + 1 + 1, 2, none⟩ = some (.int .i64 v.z.toInt) := fun w' h => (S3.keep h).at 2 rfl 2 rfl
  have mx0 : ∀ w', Below W0.heap.size W0 w' → w'.cell? ⟨w1.heap.size, 0, none⟩ = some (.int .i64 x.x.toInt) := fun w' h => (S3.keep h).at 3 rfl 0 rfl
  have mx1 : ∀ w', Below W0.heap.size W0 w' → w'.cell? ⟨w1.heap.size, 1, none⟩ = some (.int .i64 x.y.toInt) := fun w' h => (S3.keep h).at 3 rfl 1 rfl
  have mx2 : ∀ w', Below W0.heap.size W0 w' → w'.cell? ⟨w1.heap.size, 2, none⟩ = some (.int .i64 x.z.toInt) := fun w' h => (S3.keep h).at 3 rfl 2 rfl
  have my0 : ∀ w', Below W0.heap.size W0 w' → w'.cell? ⟨w2.heap.size, 0, none⟩ = some (.int .i64 x.x.toInt) := fun w' h => (S3.keep h).at 4 rfl 0 rfl
  have my1 : ∀ w', Below W0.heap.size W0 w' → w'.cell? ⟨w2.heap.size, 1, none⟩ = some (.int .i64 x.y.toInt) := fun w' h => (S3.keep h).at 4 rfl 1 rfl
  have my2 : ∀ w', Below W0.heap.size W0 w' → w'.cell? ⟨w2.heap.size, 2, none⟩ = some (.int .i64 x.z.toInt) := fun w' h => (S3.keep h).at 4 rfl 2 rfl
  have D3 := S3.below
  clear S3
  try simp only [List.append_eq, List.cons_append, List.nil_append]
  change (Code.region 3 msays3 true).wp Try.prog _ _ _
  refine wp_region_noPanic ?_
  refine wp_region_held_drew (S := fun w' => Below W0.heap.size W0 w') (by kernel_rfl) ((Below.refl _ _).drew) (fun hHeld => ?_)
  refine wpAnyH_take (i := 0) (oi := ({ dst := some 27, op := .load 25 (.tmp 3), type := 25, pos := "law.go:22", after := #[], guard := none } : Oper)) (v := ?vs4_0) rfl msays3_plain (by as_aux_lemma => kernel_rfl) (by as_aux_lemma => kernel_rfl) (fun _ _ _ h => h) (Or.inl ⟨by rfl, ?ys4_0⟩) (by assumption) ?rs4_0
  case ys4_0 => (intro w hSw; (try dsimp only at hSw); go_simp; try with_reducible rfl)
  try simp only [Act.put, List.setIfInBounds_toArray, List.set_cons_zero, List.set_cons_succ]
  refine wpAnyH_take (i := 1) (oi := ({ dst := some 28, op := .load 25 (.tmp 4), type := 25, pos := "law.go:22", after := #[], guard := none } : Oper)) (v := ?vs4_1) rfl msays3_plain (by as_aux_lemma => kernel_rfl) (by as_aux_lemma => kernel_rfl) (fun _ _ _ h => h) (Or.inl ⟨by rfl, ?ys4_1⟩) (by assumption) ?rs4_1
  case ys4_1 => (intro w hSw; (try dsimp only at hSw); go_simp; try with_reducible rfl)
  try simp only [Act.put, List.setIfInBounds_toArray, List.set_cons_zero, List.set_cons_succ]
  refine wpAnyH_take (i := 3) (oi := ({ dst := some 30, op := .load 25 (.tmp 3), type := 25, pos := "law.go:22", after := #[], guard := none } : Oper)) (v := ?vs4_3) rfl msays3_plain (by as_aux_lemma => kernel_rfl) (by as_aux_lemma => kernel_rfl) (fun _ _ _ h => h) (Or.inl ⟨by rfl, ?ys4_3⟩) (by assumption) ?rs4_3
  case ys4_3 => (intro w hSw; (try dsimp only at hSw); go_simp; try with_reducible rfl)
  try simp only [Act.put, List.setIfInBounds_toArray, List.set_cons_zero, List.set_cons_succ]
  refine wpAnyH_take (i := 4) (oi := ({ dst := some 31, op := .load 25 (.tmp 4), type := 25, pos := "law.go:22", after := #[], guard := none } : Oper)) (v := ?vs4_4) rfl msays3_plain (by as_aux_lemma => kernel_rfl) (by as_aux_lemma => kernel_rfl) (fun _ _ _ h => h) (Or.inl ⟨by rfl, ?ys4_4⟩) (by assumption) ?rs4_4
  case ys4_4 => (intro w hSw; (try dsimp only at hSw); go_simp; try with_reducible rfl)
  try simp only [Act.put, List.setIfInBounds_toArray, List.set_cons_zero, List.set_cons_succ]
  refine wpAnyH_ready (rs := [2]) (by as_aux_lemma => kernel_rfl) (by simp) ?_
  refine AllReadyH.cons (o := ({ dst := some 29, op := .call { callee := .value (.func 11), args := #[.tmp 27, .tmp 28], argTypes := #[25, 25] }, type := 25, pos := "law.go:22", after := #[{ on := 0, ground := .data }, { on := 1, ground := .data }], guard := none } : Oper)) rfl (fun KK hK => ?_) AllReadyH.nil
  rw [if_pos (by rfl)]
  go_simp
  go_at_call 11; refine (P0.out _).mono ?_; rintro e w3 ⟨rfl, hb3⟩
  go_wp2_with fail
  refine hK.out _ _ ?_ (fun hHeld3 => ?_)
  · exact belowT (by assumption) hb3
  clear hK KK hb3
  try simp only [Act.put, List.setIfInBounds_toArray, List.set_cons_zero, List.set_cons_succ]
  refine wpAnyH_ready (rs := [5]) (by as_aux_lemma => kernel_rfl) (by simp) ?_
  refine AllReadyH.cons (o := ({ dst := some 32, op := .call { callee := .value (.func 31), args := #[.tmp 30, .tmp 31], argTypes := #[25, 25] }, type := 25, pos := "law.go:22", after := #[{ on := 3, ground := .data }, { on := 4, ground := .data }, { on := 2, ground := .chain }], guard := none } : Oper)) rfl (fun KK hK => ?_) AllReadyH.nil
  rw [if_pos (by rfl)]
  go_simp
  go_at_call 31; refine (R0.out _).mono ?_; rintro e w4 ⟨rfl, hb4⟩
  go_wp2_with fail
  refine hK.out _ _ ?_ (fun hHeld4 => ?_)
  · exact belowT (by assumption) hb4
  clear hK KK hb4 hHeld3
  try simp only [Act.put, List.setIfInBounds_toArray, List.set_cons_zero, List.set_cons_succ]
  refine wpAnyH_take (i := 6) (oi := ({ dst := some 33, op := .binOp .eql 25 (.tmp 29) (.tmp 32) 25, type := 4, pos := "law.go:22", after := #[{ on := 2, ground := .data }, { on := 5, ground := .data }], guard := none } : Oper)) (v := ?vs4_6) rfl msays3_plain (by as_aux_lemma => kernel_rfl) (by as_aux_lemma => kernel_rfl) (fun _ _ _ h => h) (Or.inl ⟨by rfl, ?ys4_6⟩) (by assumption) ?rs4_6
  case ys4_6 => (intro w hSw; (try dsimp only at hSw); go_simp; try with_reducible rfl)
  try simp only [Act.put, List.setIfInBounds_toArray, List.set_cons_zero, List.set_cons_succ]
  refine wpAnyH_take (i := 7) (oi := ({ dst := some 34, op := .move (.tmp 33), type := 4, pos := "law.go:22", after := #[{ on := 6, ground := .data }, { on := 5, ground := .chain }], guard := none } : Oper)) (v := ?vs4_7) rfl msays3_plain (by as_aux_lemma => kernel_rfl) (by as_aux_lemma => kernel_rfl) (fun _ _ _ h => h) (Or.inl ⟨by rfl, ?ys4_7⟩) (by assumption) ?rs4_7
  case ys4_7 => (intro w hSw; (try dsimp only at hSw); go_simp; try with_reducible rfl)
  try simp only [Act.put, List.setIfInBounds_toArray, List.set_cons_zero, List.set_cons_succ]
  refine wpAnyH_take (i := 8) (oi := ({ dst := some 35, op := .load 25 (.tmp 3), type := 25, pos := "law.go:22", after := #[{ on := 7, ground := .guard }], guard := some (7, true) } : Oper)) (v := ?vs4_8) rfl msays3_plain (by as_aux_lemma => kernel_rfl) (by as_aux_lemma => kernel_rfl) (fun _ _ _ h => h) (Or.inl ⟨by rfl, ?ys4_8⟩) (by assumption) ?rs4_8
  case ys4_8 => (intro w hSw; (try dsimp only at hSw); go_simp; try with_reducible rfl)
  try simp only [Act.put, List.setIfInBounds_toArray, List.set_cons_zero, List.set_cons_succ]
  refine wpAnyH_take (i := 9) (oi := ({ dst := some 36, op := .load 23 (.tmp 5), type := 23, pos := "law.go:22", after := #[{ on := 7, ground := .guard }], guard := some (7, true) } : Oper)) (v := ?vs4_9) rfl msays3_plain (by as_aux_lemma => kernel_rfl) (by as_aux_lemma => kernel_rfl) (fun _ _ _ h => h) (Or.inl ⟨by rfl, ?ys4_9⟩) (by assumption) ?rs4_9
  case ys4_9 => (intro w hSw; (try dsimp only at hSw); go_simp; try with_reducible rfl)
  try simp only [Act.put, List.setIfInBounds_toArray, List.set_cons_zero, List.set_cons_succ]
  refine wpAnyH_take (i := 11) (oi := ({ dst := some 38, op := .load 25 (.tmp 3), type := 25, pos := "law.go:22", after := #[{ on := 7, ground := .guard }], guard := some (7, true) } : Oper)) (v := ?vs4_11) rfl msays3_plain (by as_aux_lemma => kernel_rfl) (by as_aux_lemma => kernel_rfl) (fun _ _ _ h => h) (Or.inl ⟨by rfl, ?ys4_11⟩) (by assumption) ?rs4_11
  case ys4_11 => (intro w hSw; (try dsimp only at hSw); go_simp; try with_reducible rfl)
  try simp only [Act.put, List.setIfInBounds_toArray, List.set_cons_zero, List.set_cons_succ]
  refine wpAnyH_take (i := 12) (oi := ({ dst := some 39, op := .load 23 (.tmp 5), type := 23, pos := "law.go:22", after := #[{ on := 7, ground := .guard }], guard := some (7, true) } : Oper)) (v := ?vs4_12) rfl msays3_plain (by as_aux_lemma => kernel_rfl) (by as_aux_lemma => kernel_rfl) (fun _ _ _ h => h) (Or.inl ⟨by rfl, ?ys4_12⟩) (by assumption) ?rs4_12
  case ys4_12 => (intro w hSw; (try dsimp only at hSw); go_simp; try with_reducible rfl)
  try simp only [Act.put, List.setIfInBounds_toArray, List.set_cons_zero, List.set_cons_succ]
  refine wpAnyH_ready (rs := [10]) (by as_aux_lemma => kernel_rfl) (by simp) ?_
  refine AllReadyH.cons (o := ({ dst := some 37, op := .call { callee := .value (.func 15), args := #[.tmp 35, .tmp 36], argTypes := #[25, 23] }, type := 23, pos := "law.go:22", after := #[{ on := 8, ground := .data }, { on := 9, ground := .data }, { on := 7, ground := .chain }, { on := 7, ground := .guard }], guard := some (7, true) } : Oper)) rfl (fun KK hK => ?_) AllReadyH.nil
  rw [if_pos (by rfl)]
  go_simp
  go_at_call 15; refine (P1.out _).mono ?_; rintro e w5 ⟨rfl, hb5⟩
  go_wp2_with fail
  refine hK.out _ _ ?_ (fun hHeld5 => ?_)
  · exact belowT (by assumption) hb5
  clear hK KK hb5 hHeld4
  try simp only [Act.put, List.setIfInBounds_toArray, List.set_cons_zero, List.set_cons_succ]
  refine wpAnyH_ready (rs := [13]) (by as_aux_lemma => kernel_rfl) (by simp) ?_
  refine AllReadyH.cons (o := ({ dst := some 40, op := .call { callee := .value (.func 32), args := #[.tmp 38, .tmp 39], argTypes := #[25, 23] }, type := 23, pos := "law.go:22", after := #[{ on := 11, ground := .data }, { on := 12, ground := .data }, { on := 10, ground := .chain }, { on := 7, ground := .guard }], guard := some (7, true) } : Oper)) rfl (fun KK hK => ?_) AllReadyH.nil
  rw [if_pos (by rfl)]
  go_simp
  go_at_call 32; refine (R1.out _).mono ?_; rintro e w6 ⟨rfl, hb6⟩
  go_wp2_with fail
  refine hK.out _ _ ?_ (fun hHeld6 => ?_)
  · exact belowT (by assumption) hb6
  clear hK KK hb6 hHeld5
  try simp only [Act.put, List.setIfInBounds_toArray, List.set_cons_zero, List.set_cons_succ]
  refine wpAnyH_take (i := 14) (oi := ({ dst := some 41, op := .binOp .eql 23 (.tmp 37) (.tmp 40) 23, type := 4, pos := "law.go:22", after := #[{ on := 10, ground := .data }, { on := 13, ground := .data }, { on := 7, ground := .guard }], guard := some (7, true) } : Oper)) (v := ?vs4_14) rfl msays3_plain (by as_aux_lemma => kernel_rfl) (by as_aux_lemma => kernel_rfl) (fun _ _ _ h => h) (Or.inl ⟨by rfl, ?ys4_14⟩) (by assumption) ?rs4_14
  case ys4_14 => (intro w hSw; (try dsimp only at hSw); go_simp; try with_reducible rfl)
  try simp only [Act.put, List.setIfInBounds_toArray, List.set_cons_zero, List.set_cons_succ]
  refine wpAnyH_take (i := 15) (oi := ({ dst := some 42, op := .pick (.tmp 34) (.tmp 41) (.const (.bool false)), type := 4, pos := "law.go:22", after := #[{ on := 7, ground := .data }, { on := 14, ground := .data }], guard := none } : Oper)) (v := ?vs4_15) rfl msays3_plain (by as_aux_lemma => kernel_rfl) (by as_aux_lemma => kernel_rfl) (fun _ _ _ h => h) (Or.inl ⟨by rfl, ?ys4_15⟩) (by assumption) ?rs4_15
  case ys4_15 => (intro w hSw; (try dsimp only at hSw); go_simp; try with_reducible rfl)
  try simp only [Act.put, List.setIfInBounds_toArray, List.set_cons_zero, List.set_cons_succ]
  refine wpAnyH_take (i := 16) (oi := ({ dst := some 43, op := .move (.tmp 42), type := 4, pos := "law.go:22", after := #[{ on := 15, ground := .data }, { on := 13, ground := .chain }], guard := none } : Oper)) (v := ?vs4_16) rfl msays3_plain (by as_aux_lemma => kernel_rfl) (by as_aux_lemma => kernel_rfl) (fun _ _ _ h => h) (Or.inl ⟨by rfl, ?ys4_16⟩) (by assumption) ?rs4_16
  case ys4_16 => (intro w hSw; (try dsimp only at hSw); go_simp; try with_reducible rfl)
  try simp only [Act.put, List.setIfInBounds_toArray, List.set_cons_zero, List.set_cons_succ]
  refine wpAnyH_take (i := 17) (oi := ({ dst := some 44, op := .load 25 (.tmp 3), type := 25, pos := "law.go:22", after := #[{ on := 16, ground := .guard }], guard := some (16, true) } : Oper)) (v := ?vs4_17) rfl msays3_plain (by as_aux_lemma => kernel_rfl) (by as_aux_lemma => kernel_rfl) (fun _ _ _ h => h) (Or.inl ⟨by rfl, ?ys4_17⟩) (by assumption) ?rs4_17
  case ys4_17 => (intro w hSw; (try dsimp only at hSw); go_simp; try with_reducible rfl)
  try simp only [Act.put, List.setIfInBounds_toArray, List.set_cons_zero, List.set_cons_succ]
  refine wpAnyH_take (i := 19) (oi := ({ dst := some 46, op := .load 25 (.tmp 3), type := 25, pos := "law.go:22", after := #[{ on := 16, ground := .guard }], guard := some (16, true) } : Oper)) (v := ?vs4_19) rfl msays3_plain (by as_aux_lemma => kernel_rfl) (by as_aux_lemma => kernel_rfl) (fun _ _ _ h => h) (Or.inl ⟨by rfl, ?ys4_19⟩) (by assumption) ?rs4_19
  case ys4_19 => (intro w hSw; (try dsimp only at hSw); go_simp; try with_reducible rfl)
  try simp only [Act.put, List.setIfInBounds_toArray, List.set_cons_zero, List.set_cons_succ]
  refine wpAnyH_ready (rs := [18]) (by as_aux_lemma => kernel_rfl) (by simp) ?_
  refine AllReadyH.cons (o := ({ dst := some 45, op := .call { callee := .value (.func 28), args := #[.tmp 44], argTypes := #[25] }, type := 25, pos := "law.go:22", after := #[{ on := 17, ground := .data }, { on := 16, ground := .chain }, { on := 16, ground := .guard }], guard := some (16, true) } : Oper)) rfl (fun KK hK => ?_) AllReadyH.nil
  rw [if_pos (by rfl)]
  go_simp
  go_at_call 28; refine (P2.out _).mono ?_; rintro e w7 ⟨rfl, hb7⟩
  go_wp2_with fail
  refine hK.out _ _ ?_ (fun hHeld7 => ?_)
  · exact belowT (by assumption) hb7
  clear hK KK hb7 hHeld6
  try simp only [Act.put, List.setIfInBounds_toArray, List.set_cons_zero, List.set_cons_succ]
  refine wpAnyH_ready (rs := [20]) (by as_aux_lemma => kernel_rfl) (by simp) ?_
  refine AllReadyH.cons (o := ({ dst := some 47, op := .call { callee := .value (.func 33), args := #[.tmp 46], argTypes := #[25] }, type := 25, pos := "law.go:22", after := #[{ on := 19, ground := .data }, { on := 18, ground := .chain }, { on := 16, ground := .guard }], guard := some (16, true) } : Oper)) rfl (fun KK hK => ?_) AllReadyH.nil
  rw [if_pos (by rfl)]
  go_simp
  go_at_call 33; refine (R2.out _).mono ?_; rintro e w8 ⟨rfl, hb8⟩
  go_wp2_with fail
  refine hK.out _ _ ?_ (fun hHeld8 => ?_)
  · exact belowT (by assumption) hb8
  clear hK KK hb8 hHeld7
  try simp only [Act.put, List.setIfInBounds_toArray, List.set_cons_zero, List.set_cons_succ]
  refine wpAnyH_take (i := 21) (oi := ({ dst := some 48, op := .binOp .eql 25 (.tmp 45) (.tmp 47) 25, type := 4, pos := "law.go:22", after := #[{ on := 18, ground := .data }, { on := 20, ground := .data }, { on := 16, ground := .guard }], guard := some (16, true) } : Oper)) (v := ?vs4_21) rfl msays3_plain (by as_aux_lemma => kernel_rfl) (by as_aux_lemma => kernel_rfl) (fun _ _ _ h => h) (Or.inl ⟨by rfl, ?ys4_21⟩) (by assumption) ?rs4_21
  case ys4_21 => (intro w hSw; (try dsimp only at hSw); go_simp; try with_reducible rfl)
  try simp only [Act.put, List.setIfInBounds_toArray, List.set_cons_zero, List.set_cons_succ]
  refine wpAnyH_take (i := 22) (oi := ({ dst := some 49, op := .pick (.tmp 43) (.tmp 48) (.const (.bool false)), type := 4, pos := "law.go:22", after := #[{ on := 16, ground := .data }, { on := 21, ground := .data }], guard := none } : Oper)) (v := ?vs4_22) rfl msays3_plain (by as_aux_lemma => kernel_rfl) (by as_aux_lemma => kernel_rfl) (fun _ _ _ h => h) (Or.inl ⟨by rfl, ?ys4_22⟩) (by assumption) ?rs4_22
  case ys4_22 => (intro w hSw; (try dsimp only at hSw); go_simp; try with_reducible rfl)
  try simp only [Act.put, List.setIfInBounds_toArray, List.set_cons_zero, List.set_cons_succ]
  refine wpAnyH_take (i := 23) (oi := ({ dst := some 50, op := .move (.tmp 49), type := 4, pos := "law.go:22", after := #[{ on := 22, ground := .data }, { on := 20, ground := .chain }], guard := none } : Oper)) (v := ?vs4_23) rfl msays3_plain (by as_aux_lemma => kernel_rfl) (by as_aux_lemma => kernel_rfl) (fun _ _ _ h => h) (Or.inl ⟨by rfl, ?ys4_23⟩) (by assumption) ?rs4_23
  case ys4_23 => (intro w hSw; (try dsimp only at hSw); go_simp; try with_reducible rfl)
  try simp only [Act.put, List.setIfInBounds_toArray, List.set_cons_zero, List.set_cons_succ]
  refine wpAnyH_take (i := 24) (oi := ({ dst := some 51, op := .load 25 (.tmp 3), type := 25, pos := "law.go:22", after := #[{ on := 23, ground := .guard }], guard := some (23, true) } : Oper)) (v := ?vs4_24) rfl msays3_plain (by as_aux_lemma => kernel_rfl) (by as_aux_lemma => kernel_rfl) (fun _ _ _ h => h) (Or.inl ⟨by rfl, ?ys4_24⟩) (by assumption) ?rs4_24
  case ys4_24 => (intro w hSw; (try dsimp only at hSw); go_simp; try with_reducible rfl)
  try simp only [Act.put, List.setIfInBounds_toArray, List.set_cons_zero, List.set_cons_succ]
  refine wpAnyH_take (i := 26) (oi := ({ dst := some 53, op := .load 25 (.tmp 3), type := 25, pos := "law.go:22", after := #[{ on := 23, ground := .guard }], guard := some (23, true) } : Oper)) (v := ?vs4_26) rfl msays3_plain (by as_aux_lemma => kernel_rfl) (by as_aux_lemma => kernel_rfl) (fun _ _ _ h => h) (Or.inl ⟨by rfl, ?ys4_26⟩) (by assumption) ?rs4_26
  case ys4_26 => (intro w hSw; (try dsimp only at hSw); go_simp; try with_reducible rfl)
  try simp only [Act.put, List.setIfInBounds_toArray, List.set_cons_zero, List.set_cons_succ]
  refine wpAnyH_ready (rs := [25]) (by as_aux_lemma => kernel_rfl) (by simp) ?_
  refine AllReadyH.cons (o := ({ dst := some 52, op := .call { callee := .value (.func 10), args := #[.tmp 51], argTypes := #[25] }, type := 2, pos := "law.go:22", after := #[{ on := 24, ground := .data }, { on := 23, ground := .chain }, { on := 23, ground := .guard }], guard := some (23, true) } : Oper)) rfl (fun KK hK => ?_) AllReadyH.nil
  rw [if_pos (by rfl)]
  go_simp
  go_at_call 10; refine (P3.out _).mono ?_; rintro e w9 ⟨rfl, hb9⟩
  go_wp2_with fail
  refine hK.out _ _ ?_ (fun hHeld9 => ?_)
  · exact belowT (by assumption) hb9
  clear hK KK hb9 hHeld8
  try simp only [Act.put, List.setIfInBounds_toArray, List.set_cons_zero, List.set_cons_succ]
  refine wpAnyH_ready (rs := [27]) (by as_aux_lemma => kernel_rfl) (by simp) ?_
  refine AllReadyH.cons (o := ({ dst := some 54, op := .call { callee := .value (.func 34), args := #[.tmp 53], argTypes := #[25] }, type := 2, pos := "law.go:22", after := #[{ on := 26, ground := .data }, { on := 25, ground := .chain }, { on := 23, ground := .guard }], guard := some (23, true) } : Oper)) rfl (fun KK hK => ?_) AllReadyH.nil
  rw [if_pos (by rfl)]
  go_simp
  go_at_call 34; refine (R3.out _).mono ?_; rintro e w10 ⟨rfl, hb10⟩
  go_wp2_with fail
  refine hK.out _ _ ?_ (fun hHeld10 => ?_)
  · exact belowT (by assumption) hb10
  clear hK KK hb10 hHeld9
  try simp only [Act.put, List.setIfInBounds_toArray, List.set_cons_zero, List.set_cons_succ]
  refine wpAnyH_take (i := 28) (oi := ({ dst := some 55, op := .binOp .eql 2 (.tmp 52) (.tmp 54) 2, type := 4, pos := "law.go:22", after := #[{ on := 25, ground := .data }, { on := 27, ground := .data }, { on := 23, ground := .guard }], guard := some (23, true) } : Oper)) (v := ?vs4_28) rfl msays3_plain (by as_aux_lemma => kernel_rfl) (by as_aux_lemma => kernel_rfl) (fun _ _ _ h => h) (Or.inl ⟨by rfl, ?ys4_28⟩) (by assumption) ?rs4_28
  case ys4_28 => (intro w hSw; (try dsimp only at hSw); go_simp; try with_reducible rfl)
  try simp only [Act.put, List.setIfInBounds_toArray, List.set_cons_zero, List.set_cons_succ]
  refine wpAnyH_take (i := 29) (oi := ({ dst := some 56, op := .pick (.tmp 50) (.tmp 55) (.const (.bool false)), type := 4, pos := "law.go:22", after := #[{ on := 23, ground := .data }, { on := 28, ground := .data }], guard := none } : Oper)) (v := ?vs4_29) rfl msays3_plain (by as_aux_lemma => kernel_rfl) (by as_aux_lemma => kernel_rfl) (fun _ _ _ h => h) (Or.inl ⟨by rfl, ?ys4_29⟩) (by assumption) ?rs4_29
  case ys4_29 => (intro w hSw; (try dsimp only at hSw); go_simp; try with_reducible rfl)
  try simp only [Act.put, List.setIfInBounds_toArray, List.set_cons_zero, List.set_cons_succ]
  refine wpAnyH_take (i := 30) (oi := ({ dst := some 57, op := .move (.tmp 56), type := 4, pos := "law.go:22", after := #[{ on := 29, ground := .data }, { on := 27, ground := .chain }], guard := none } : Oper)) (v := ?vs4_30) rfl msays3_plain (by as_aux_lemma => kernel_rfl) (by as_aux_lemma => kernel_rfl) (fun _ _ _ h => h) (Or.inl ⟨by rfl, ?ys4_30⟩) (by assumption) ?rs4_30
  case ys4_30 => (intro w hSw; (try dsimp only at hSw); go_simp; try with_reducible rfl)
  try simp only [Act.put, List.setIfInBounds_toArray, List.set_cons_zero, List.set_cons_succ]
  refine wpAnyH_take (i := 31) (oi := ({ dst := some 58, op := .load 25 (.tmp 3), type := 25, pos := "law.go:22", after := #[{ on := 30, ground := .guard }], guard := some (30, true) } : Oper)) (v := ?vs4_31) rfl msays3_plain (by as_aux_lemma => kernel_rfl) (by as_aux_lemma => kernel_rfl) (fun _ _ _ h => h) (Or.inl ⟨by rfl, ?ys4_31⟩) (by assumption) ?rs4_31
  case ys4_31 => (intro w hSw; (try dsimp only at hSw); go_simp; try with_reducible rfl)
  try simp only [Act.put, List.setIfInBounds_toArray, List.set_cons_zero, List.set_cons_succ]
  refine wpAnyH_take (i := 33) (oi := ({ dst := some 60, op := .load 25 (.tmp 3), type := 25, pos := "law.go:22", after := #[{ on := 30, ground := .guard }], guard := some (30, true) } : Oper)) (v := ?vs4_33) rfl msays3_plain (by as_aux_lemma => kernel_rfl) (by as_aux_lemma => kernel_rfl) (fun _ _ _ h => h) (Or.inl ⟨by rfl, ?ys4_33⟩) (by assumption) ?rs4_33
  case ys4_33 => (intro w hSw; (try dsimp only at hSw); go_simp; try with_reducible rfl)
  try simp only [Act.put, List.setIfInBounds_toArray, List.set_cons_zero, List.set_cons_succ]
  refine wpAnyH_ready (rs := [32]) (by as_aux_lemma => kernel_rfl) (by simp) ?_
  refine AllReadyH.cons (o := ({ dst := some 59, op := .call { callee := .value (.func 12), args := #[.tmp 58], argTypes := #[25] }, type := 25, pos := "law.go:22", after := #[{ on := 31, ground := .data }, { on := 30, ground := .chain }, { on := 30, ground := .guard }], guard := some (30, true) } : Oper)) rfl (fun KK hK => ?_) AllReadyH.nil
  rw [if_pos (by rfl)]
  go_simp
  go_at_call 12; refine (P4.out _).mono ?_; rintro e w11 ⟨rfl, hb11⟩
  go_wp2_with fail
  refine hK.out _ _ ?_ (fun hHeld11 => ?_)
  · exact belowT (by assumption) hb11
  clear hK KK hb11 hHeld10
  try simp only [Act.put, List.setIfInBounds_toArray, List.set_cons_zero, List.set_cons_succ]
  refine wpAnyH_ready (rs := [34]) (by as_aux_lemma => kernel_rfl) (by simp) ?_
  refine AllReadyH.cons (o := ({ dst := some 61, op := .call { callee := .value (.func 35), args := #[.tmp 60], argTypes := #[25] }, type := 25, pos := "law.go:22", after := #[{ on := 33, ground := .data }, { on := 32, ground := .chain }, { on := 30, ground := .guard }], guard := some (30, true) } : Oper)) rfl (fun KK hK => ?_) AllReadyH.nil
  rw [if_pos (by rfl)]
  go_simp
  go_at_call 35; refine (R4.out _).mono ?_; rintro e w12 ⟨rfl, hb12⟩
  go_wp2_with fail
  refine hK.out _ _ ?_ (fun hHeld12 => ?_)
  · exact belowT (by assumption) hb12
  clear hK KK hb12 hHeld11
  try simp only [Act.put, List.setIfInBounds_toArray, List.set_cons_zero, List.set_cons_succ]
  refine wpAnyH_take (i := 35) (oi := ({ dst := some 62, op := .binOp .eql 25 (.tmp 59) (.tmp 61) 25, type := 4, pos := "law.go:22", after := #[{ on := 32, ground := .data }, { on := 34, ground := .data }, { on := 30, ground := .guard }], guard := some (30, true) } : Oper)) (v := ?vs4_35) rfl msays3_plain (by as_aux_lemma => kernel_rfl) (by as_aux_lemma => kernel_rfl) (fun _ _ _ h => h) (Or.inl ⟨by rfl, ?ys4_35⟩) (by assumption) ?rs4_35
  case ys4_35 => (intro w hSw; (try dsimp only at hSw); go_simp; try with_reducible rfl)
  try simp only [Act.put, List.setIfInBounds_toArray, List.set_cons_zero, List.set_cons_succ]
  refine wpAnyH_take (i := 36) (oi := ({ dst := some 63, op := .pick (.tmp 57) (.tmp 62) (.const (.bool false)), type := 4, pos := "law.go:22", after := #[{ on := 30, ground := .data }, { on := 35, ground := .data }], guard := none } : Oper)) (v := ?vs4_36) rfl msays3_plain (by as_aux_lemma => kernel_rfl) (by as_aux_lemma => kernel_rfl) (fun _ _ _ h => h) (Or.inl ⟨by rfl, ?ys4_36⟩) (by assumption) ?rs4_36
  case ys4_36 => (intro w hSw; (try dsimp only at hSw); go_simp; try with_reducible rfl)
  try simp only [Act.put, List.setIfInBounds_toArray, List.set_cons_zero, List.set_cons_succ]
  refine wpAnyH_take (i := 37) (oi := ({ dst := some 64, op := .move (.tmp 63), type := 4, pos := "law.go:22", after := #[{ on := 36, ground := .data }, { on := 34, ground := .chain }], guard := none } : Oper)) (v := ?vs4_37) rfl msays3_plain (by as_aux_lemma => kernel_rfl) (by as_aux_lemma => kernel_rfl) (fun _ _ _ h => h) (Or.inl ⟨by rfl, ?ys4_37⟩) (by assumption) ?rs4_37
  case ys4_37 => (intro w hSw; (try dsimp only at hSw); go_simp; try with_reducible rfl)
  try simp only [Act.put, List.setIfInBounds_toArray, List.set_cons_zero, List.set_cons_succ]
  refine wpAnyH_take (i := 38) (oi := ({ dst := some 65, op := .load 25 (.tmp 3), type := 25, pos := "law.go:22", after := #[{ on := 37, ground := .guard }], guard := some (37, true) } : Oper)) (v := ?vs4_38) rfl msays3_plain (by as_aux_lemma => kernel_rfl) (by as_aux_lemma => kernel_rfl) (fun _ _ _ h => h) (Or.inl ⟨by rfl, ?ys4_38⟩) (by assumption) ?rs4_38
  case ys4_38 => (intro w hSw; (try dsimp only at hSw); go_simp; try with_reducible rfl)
  try simp only [Act.put, List.setIfInBounds_toArray, List.set_cons_zero, List.set_cons_succ]
  refine wpAnyH_take (i := 40) (oi := ({ dst := some 67, op := .load 25 (.tmp 3), type := 25, pos := "law.go:22", after := #[{ on := 37, ground := .guard }], guard := some (37, true) } : Oper)) (v := ?vs4_40) rfl msays3_plain (by as_aux_lemma => kernel_rfl) (by as_aux_lemma => kernel_rfl) (fun _ _ _ h => h) (Or.inl ⟨by rfl, ?ys4_40⟩) (by assumption) ?rs4_40
  case ys4_40 => (intro w hSw; (try dsimp only at hSw); go_simp; try with_reducible rfl)
  try simp only [Act.put, List.setIfInBounds_toArray, List.set_cons_zero, List.set_cons_succ]
  refine wpAnyH_ready (rs := [39]) (by as_aux_lemma => kernel_rfl) (by simp) ?_
  refine AllReadyH.cons (o := ({ dst := some 66, op := .call { callee := .value (.func 29), args := #[.tmp 65], argTypes := #[25] }, type := 2, pos := "law.go:22", after := #[{ on := 38, ground := .data }, { on := 37, ground := .chain }, { on := 37, ground := .guard }], guard := some (37, true) } : Oper)) rfl (fun KK hK => ?_) AllReadyH.nil
  rw [if_pos (by rfl)]
  go_simp
  go_at_call 29; refine (P5.out _).mono ?_; rintro e w13 ⟨rfl, hb13⟩
  go_wp2_with fail
  refine hK.out _ _ ?_ (fun hHeld13 => ?_)
  · exact belowT (by assumption) hb13
  clear hK KK hb13 hHeld12
  try simp only [Act.put, List.setIfInBounds_toArray, List.set_cons_zero, List.set_cons_succ]
  refine wpAnyH_ready (rs := [41]) (by as_aux_lemma => kernel_rfl) (by simp) ?_
  refine AllReadyH.cons (o := ({ dst := some 68, op := .call { callee := .value (.func 36), args := #[.tmp 67], argTypes := #[25] }, type := 2, pos := "law.go:22", after := #[{ on := 40, ground := .data }, { on := 39, ground := .chain }, { on := 37, ground := .guard }], guard := some (37, true) } : Oper)) rfl (fun KK hK => ?_) AllReadyH.nil
  rw [if_pos (by rfl)]
  go_simp
  go_at_call 36; refine (R5.out _).mono ?_; rintro e w14 ⟨rfl, hb14⟩
  go_wp2_with fail
  refine hK.out _ _ ?_ (fun hHeld14 => ?_)
  · exact belowT (by assumption) hb14
  clear hK KK hb14 hHeld13
  try simp only [Act.put, List.setIfInBounds_toArray, List.set_cons_zero, List.set_cons_succ]
  refine wpAnyH_take (i := 42) (oi := ({ dst := some 69, op := .binOp .eql 2 (.tmp 66) (.tmp 68) 2, type := 4, pos := "law.go:22", after := #[{ on := 39, ground := .data }, { on := 41, ground := .data }, { on := 37, ground := .guard }], guard := some (37, true) } : Oper)) (v := ?vs4_42) rfl msays3_plain (by as_aux_lemma => kernel_rfl) (by as_aux_lemma => kernel_rfl) (fun _ _ _ h => h) (Or.inl ⟨by rfl, ?ys4_42⟩) (by assumption) ?rs4_42
  case ys4_42 => (intro w hSw; (try dsimp only at hSw); go_simp; try with_reducible rfl)
  try simp only [Act.put, List.setIfInBounds_toArray, List.set_cons_zero, List.set_cons_succ]
  refine wpAnyH_take (i := 43) (oi := ({ dst := some 70, op := .pick (.tmp 64) (.tmp 69) (.const (.bool false)), type := 4, pos := "law.go:22", after := #[{ on := 37, ground := .data }, { on := 42, ground := .data }], guard := none } : Oper)) (v := ?vs4_43) rfl msays3_plain (by as_aux_lemma => kernel_rfl) (by as_aux_lemma => kernel_rfl) (fun _ _ _ h => h) (Or.inl ⟨by rfl, ?ys4_43⟩) (by assumption) ?rs4_43
  case ys4_43 => (intro w hSw; (try dsimp only at hSw); go_simp; try with_reducible rfl)
  try simp only [Act.put, List.setIfInBounds_toArray, List.set_cons_zero, List.set_cons_succ]
  refine wpAnyH_take (i := 44) (oi := ({ dst := some 71, op := .move (.tmp 70), type := 4, pos := "law.go:22", after := #[{ on := 43, ground := .data }, { on := 41, ground := .chain }], guard := none } : Oper)) (v := ?vs4_44) rfl msays3_plain (by as_aux_lemma => kernel_rfl) (by as_aux_lemma => kernel_rfl) (fun _ _ _ h => h) (Or.inl ⟨by rfl, ?ys4_44⟩) (by assumption) ?rs4_44
  case ys4_44 => (intro w hSw; (try dsimp only at hSw); go_simp; try with_reducible rfl)
  try simp only [Act.put, List.setIfInBounds_toArray, List.set_cons_zero, List.set_cons_succ]
  refine wpAnyH_take (i := 45) (oi := ({ dst := some 72, op := .indexAddr 23 (.tmp 5) (.const (.int .i64 0)), type := 0, pos := "law.go:22", after := #[{ on := 44, ground := .guard }], guard := some (44, true) } : Oper)) (v := ?vs4_45) rfl msays3_plain (by as_aux_lemma => kernel_rfl) (by as_aux_lemma => kernel_rfl) (fun _ _ _ h => h) (Or.inl ⟨by rfl, ?ys4_45⟩) (by assumption) ?rs4_45
  case ys4_45 => (intro w hSw; (try dsimp only at hSw); go_simp; try with_reducible rfl)
  try simp only [Act.put, List.setIfInBounds_toArray, List.set_cons_zero, List.set_cons_succ]
  refine wpAnyH_take (i := 46) (oi := ({ dst := some 73, op := .load 2 (.tmp 72), type := 2, pos := "law.go:22", after := #[{ on := 45, ground := .data }, { on := 44, ground := .guard }], guard := some (44, true) } : Oper)) (v := ?vs4_46) rfl msays3_plain (by as_aux_lemma => kernel_rfl) (by as_aux_lemma => kernel_rfl) (fun _ _ _ h => h) (Or.inl ⟨by rfl, ?ys4_46⟩) (by assumption) ?rs4_46
  case ys4_46 => (intro w hSw; (try dsimp only at hSw); go_simp; try with_reducible rfl)
  try simp only [Act.put, List.setIfInBounds_toArray, List.set_cons_zero, List.set_cons_succ]
  refine wpAnyH_take (i := 48) (oi := ({ dst := some 75, op := .indexAddr 23 (.tmp 5) (.const (.int .i64 0)), type := 0, pos := "law.go:22", after := #[{ on := 44, ground := .guard }], guard := some (44, true) } : Oper)) (v := ?vs4_48) rfl msays3_plain (by as_aux_lemma => kernel_rfl) (by as_aux_lemma => kernel_rfl) (fun _ _ _ h => h) (Or.inl ⟨by rfl, ?ys4_48⟩) (by assumption) ?rs4_48
  case ys4_48 => (intro w hSw; (try dsimp only at hSw); go_simp; try with_reducible rfl)
  try simp only [Act.put, List.setIfInBounds_toArray, List.set_cons_zero, List.set_cons_succ]
  refine wpAnyH_take (i := 49) (oi := ({ dst := some 76, op := .load 2 (.tmp 75), type := 2, pos := "law.go:22", after := #[{ on := 48, ground := .data }, { on := 44, ground := .guard }], guard := some (44, true) } : Oper)) (v := ?vs4_49) rfl msays3_plain (by as_aux_lemma => kernel_rfl) (by as_aux_lemma => kernel_rfl) (fun _ _ _ h => h) (Or.inl ⟨by rfl, ?ys4_49⟩) (by assumption) ?rs4_49
  case ys4_49 => (intro w hSw; (try dsimp only at hSw); go_simp; try with_reducible rfl)
  try simp only [Act.put, List.setIfInBounds_toArray, List.set_cons_zero, List.set_cons_succ]
  refine wpAnyH_ready (rs := [47]) (by as_aux_lemma => kernel_rfl) (by simp) ?_
  refine AllReadyH.cons (o := ({ dst := some 74, op := .call { callee := .value (.func 9), args := #[.tmp 73], argTypes := #[2] }, type := 25, pos := "law.go:22", after := #[{ on := 46, ground := .data }, { on := 44, ground := .chain }, { on := 44, ground := .guard }], guard := some (44, true) } : Oper)) rfl (fun KK hK => ?_) AllReadyH.nil
  rw [if_pos (by rfl)]
  go_simp
  go_at_call 9; refine (P6.out _).mono ?_; rintro e w15 ⟨rfl, hb15⟩
  go_wp2_with fail
  refine hK.out _ _ ?_ (fun hHeld15 => ?_)
  · exact belowT (by assumption) hb15
  clear hK KK hb15 hHeld14
  try simp only [Act.put, List.setIfInBounds_toArray, List.set_cons_zero, List.set_cons_succ]
  refine wpAnyH_ready (rs := [50]) (by as_aux_lemma => kernel_rfl) (by simp) ?_
  refine AllReadyH.cons (o := ({ dst := some 77, op := .call { callee := .value (.func 37), args := #[.tmp 76], argTypes := #[2] }, type := 25, pos := "law.go:22", after := #[{ on := 49, ground := .data }, { on := 47, ground := .chain }, { on := 44, ground := .guard }], guard := some (44, true) } : Oper)) rfl (fun KK hK => ?_) AllReadyH.nil
  rw [if_pos (by rfl)]
  go_simp
  go_at_call 37; refine (R6.out _).mono ?_; rintro e w16 ⟨rfl, hb16⟩
  go_wp2_with fail
  refine hK.out _ _ ?_ (fun hHeld16 => ?_)
  · exact belowT (by assumption) hb16
  clear hK KK hb16 hHeld15
  try simp only [Act.put, List.setIfInBounds_toArray, List.set_cons_zero, List.set_cons_succ]
  refine wpAnyH_take (i := 51) (oi := ({ dst := some 78, op := .binOp .eql 25 (.tmp 74) (.tmp 77) 25, type := 4, pos := "law.go:22", after := #[{ on := 47, ground := .data }, { on := 50, ground := .data }, { on := 44, ground := .guard }], guard := some (44, true) } : Oper)) (v := ?vs4_51) rfl msays3_plain (by as_aux_lemma => kernel_rfl) (by as_aux_lemma => kernel_rfl) (fun _ _ _ h => h) (Or.inl ⟨by rfl, ?ys4_51⟩) (by assumption) ?rs4_51
  case ys4_51 => (intro w hSw; (try dsimp only at hSw); go_simp; try with_reducible rfl)
  try simp only [Act.put, List.setIfInBounds_toArray, List.set_cons_zero, List.set_cons_succ]
  refine wpAnyH_take (i := 52) (oi := ({ dst := some 79, op := .pick (.tmp 71) (.tmp 78) (.const (.bool false)), type := 4, pos := "law.go:22", after := #[{ on := 44, ground := .data }, { on := 51, ground := .data }], guard := none } : Oper)) (v := ?vs4_52) rfl msays3_plain (by as_aux_lemma => kernel_rfl) (by as_aux_lemma => kernel_rfl) (fun _ _ _ h => h) (Or.inl ⟨by rfl, ?ys4_52⟩) (by assumption) ?rs4_52
  case ys4_52 => (intro w hSw; (try dsimp only at hSw); go_simp; try with_reducible rfl)
  try simp only [Act.put, List.setIfInBounds_toArray, List.set_cons_zero, List.set_cons_succ]
  refine wpAnyH_take (i := 53) (oi := ({ dst := some 80, op := .move (.tmp 79), type := 4, pos := "law.go:22", after := #[{ on := 52, ground := .data }, { on := 50, ground := .chain }], guard := none } : Oper)) (v := ?vs4_53) rfl msays3_plain (by as_aux_lemma => kernel_rfl) (by as_aux_lemma => kernel_rfl) (fun _ _ _ h => h) (Or.inl ⟨by rfl, ?ys4_53⟩) (by assumption) ?rs4_53
  case ys4_53 => (intro w hSw; (try dsimp only at hSw); go_simp; try with_reducible rfl)
  try simp only [Act.put, List.setIfInBounds_toArray, List.set_cons_zero, List.set_cons_succ]
  refine wpAnyH_take (i := 54) (oi := ({ dst := some 81, op := .load 23 (.tmp 7), type := 23, pos := "law.go:22", after := #[{ on := 53, ground := .guard }], guard := some (53, true) } : Oper)) (v := ?vs4_54) rfl msays3_plain (by as_aux_lemma => kernel_rfl) (by as_aux_lemma => kernel_rfl) (fun _ _ _ h => h) (Or.inl ⟨by rfl, ?ys4_54⟩) (by assumption) ?rs4_54
  case ys4_54 => (intro w hSw; (try dsimp only at hSw); go_simp; try with_reducible rfl)
  try simp only [Act.put, List.setIfInBounds_toArray, List.set_cons_zero, List.set_cons_succ]
  refine wpAnyH_take (i := 55) (oi := ({ dst := some 82, op := .load 23 (.tmp 10), type := 23, pos := "law.go:22", after := #[{ on := 53, ground := .guard }], guard := some (53, true) } : Oper)) (v := ?vs4_55) rfl msays3_plain (by as_aux_lemma => kernel_rfl) (by as_aux_lemma => kernel_rfl) (fun _ _ _ h => h) (Or.inl ⟨by rfl, ?ys4_55⟩) (by assumption) ?rs4_55
  case ys4_55 => (intro w hSw; (try dsimp only at hSw); go_simp; try with_reducible rfl)
  try simp only [Act.put, List.setIfInBounds_toArray, List.set_cons_zero, List.set_cons_succ]
  refine wpAnyH_take (i := 56) (oi := ({ dst := some 83, op := .binOp .eql 23 (.tmp 81) (.tmp 82) 23, type := 4, pos := "law.go:22", after := #[{ on := 54, ground := .data }, { on := 55, ground := .data }, { on := 53, ground := .guard }], guard := some (53, true) } : Oper)) (v := ?vs4_56) rfl msays3_plain (by as_aux_lemma => kernel_rfl) (by as_aux_lemma => kernel_rfl) (fun _ _ _ h => h) (Or.inl ⟨by rfl, ?ys4_56⟩) (by assumption) ?rs4_56
  case ys4_56 => (intro w hSw; (try dsimp only at hSw); go_simp; try with_reducible rfl)
  try simp only [Act.put, List.setIfInBounds_toArray, List.set_cons_zero, List.set_cons_succ]
  refine wpAnyH_take (i := 57) (oi := ({ dst := some 84, op := .pick (.tmp 80) (.tmp 83) (.const (.bool false)), type := 4, pos := "law.go:22", after := #[{ on := 53, ground := .data }, { on := 56, ground := .data }], guard := none } : Oper)) (v := ?vs4_57) rfl msays3_plain (by as_aux_lemma => kernel_rfl) (by as_aux_lemma => kernel_rfl) (fun _ _ _ h => h) (Or.inl ⟨by rfl, ?ys4_57⟩) (by assumption) ?rs4_57
  case ys4_57 => (intro w hSw; (try dsimp only at hSw); go_simp; try with_reducible rfl)
  try simp only [Act.put, List.setIfInBounds_toArray, List.set_cons_zero, List.set_cons_succ]
  refine wpAnyH_take (i := 58) (oi := ({ dst := some 85, op := .move (.tmp 84), type := 4, pos := "law.go:22", after := #[{ on := 57, ground := .data }, { on := 53, ground := .chain }], guard := none } : Oper)) (v := ?vs4_58) rfl msays3_plain (by as_aux_lemma => kernel_rfl) (by as_aux_lemma => kernel_rfl) (fun _ _ _ h => h) (Or.inl ⟨by rfl, ?ys4_58⟩) (by assumption) ?rs4_58
  case ys4_58 => (intro w hSw; (try dsimp only at hSw); go_simp; try with_reducible rfl)
  try simp only [Act.put, List.setIfInBounds_toArray, List.set_cons_zero, List.set_cons_succ]
  refine wpAnyH_take (i := 59) (oi := ({ dst := some 86, op := .move (.tmp 8), type := 2, pos := "law.go:22", after := #[{ on := 58, ground := .guard }], guard := some (58, true) } : Oper)) (v := ?vs4_59) rfl msays3_plain (by as_aux_lemma => kernel_rfl) (by as_aux_lemma => kernel_rfl) (fun _ _ _ h => h) (Or.inl ⟨by rfl, ?ys4_59⟩) (by assumption) ?rs4_59
  case ys4_59 => (intro w hSw; (try dsimp only at hSw); go_simp; try with_reducible rfl)
  try simp only [Act.put, List.setIfInBounds_toArray, List.set_cons_zero, List.set_cons_succ]
  refine wpAnyH_take (i := 60) (oi := ({ dst := some 87, op := .move (.tmp 11), type := 2, pos := "law.go:22", after := #[{ on := 58, ground := .guard }], guard := some (58, true) } : Oper)) (v := ?vs4_60) rfl msays3_plain (by as_aux_lemma => kernel_rfl) (by as_aux_lemma => kernel_rfl) (fun _ _ _ h => h) (Or.inl ⟨by rfl, ?ys4_60⟩) (by assumption) ?rs4_60
  case ys4_60 => (intro w hSw; (try dsimp only at hSw); go_simp; try with_reducible rfl)
  try simp only [Act.put, List.setIfInBounds_toArray, List.set_cons_zero, List.set_cons_succ]
  refine wpAnyH_take (i := 61) (oi := ({ dst := some 88, op := .binOp .eql 2 (.tmp 86) (.tmp 87) 2, type := 4, pos := "law.go:22", after := #[{ on := 59, ground := .data }, { on := 60, ground := .data }, { on := 58, ground := .guard }], guard := some (58, true) } : Oper)) (v := ?vs4_61) rfl msays3_plain (by as_aux_lemma => kernel_rfl) (by as_aux_lemma => kernel_rfl) (fun _ _ _ h => h) (Or.inl ⟨by rfl, ?ys4_61⟩) (by assumption) ?rs4_61
  case ys4_61 => (intro w hSw; (try dsimp only at hSw); go_simp; try with_reducible rfl)
  try simp only [Act.put, List.setIfInBounds_toArray, List.set_cons_zero, List.set_cons_succ]
  refine wpAnyH_take (i := 62) (oi := ({ dst := some 89, op := .pick (.tmp 85) (.tmp 88) (.const (.bool false)), type := 4, pos := "law.go:22", after := #[{ on := 58, ground := .data }, { on := 61, ground := .data }], guard := none } : Oper)) (v := ?vs4_62) rfl msays3_plain (by as_aux_lemma => kernel_rfl) (by as_aux_lemma => kernel_rfl) (fun _ _ _ h => h) (Or.inl ⟨by rfl, ?ys4_62⟩) (by assumption) ?rs4_62
  case ys4_62 => (intro w hSw; (try dsimp only at hSw); go_simp; try with_reducible rfl)
  try simp only [Act.put, List.setIfInBounds_toArray, List.set_cons_zero, List.set_cons_succ]
  refine wpAnyH_take (i := 63) (oi := ({ dst := some 90, op := .move (.tmp 89), type := 4, pos := "law.go:22", after := #[{ on := 62, ground := .data }, { on := 58, ground := .chain }], guard := none } : Oper)) (v := ?vs4_63) rfl msays3_plain (by as_aux_lemma => kernel_rfl) (by as_aux_lemma => kernel_rfl) (fun _ _ _ h => h) (Or.inl ⟨by rfl, ?ys4_63⟩) (by assumption) ?rs4_63
  case ys4_63 => (intro w hSw; (try dsimp only at hSw); go_simp; try with_reducible rfl)
  try simp only [Act.put, List.setIfInBounds_toArray, List.set_cons_zero, List.set_cons_succ]
  refine wpAnyH_take (i := 64) (oi := ({ dst := some 91, op := .move (.tmp 9), type := 30, pos := "law.go:22", after := #[{ on := 63, ground := .guard }], guard := some (63, true) } : Oper)) (v := ?vs4_64) rfl msays3_plain (by as_aux_lemma => kernel_rfl) (by as_aux_lemma => kernel_rfl) (fun _ _ _ h => h) (Or.inl ⟨by rfl, ?ys4_64⟩) (by assumption) ?rs4_64
  case ys4_64 => (intro w hSw; (try dsimp only at hSw); go_simp; try with_reducible rfl)
  try simp only [Act.put, List.setIfInBounds_toArray, List.set_cons_zero, List.set_cons_succ]
  refine wpAnyH_take (i := 65) (oi := ({ dst := some 92, op := .move (.tmp 12), type := 30, pos := "law.go:22", after := #[{ on := 63, ground := .guard }], guard := some (63, true) } : Oper)) (v := ?vs4_65) rfl msays3_plain (by as_aux_lemma => kernel_rfl) (by as_aux_lemma => kernel_rfl) (fun _ _ _ h => h) (Or.inl ⟨by rfl, ?ys4_65⟩) (by assumption) ?rs4_65
  case ys4_65 => (intro w hSw; (try dsimp only at hSw); go_simp; try with_reducible rfl)
  try simp only [Act.put, List.setIfInBounds_toArray, List.set_cons_zero, List.set_cons_succ]
  refine wpAnyH_take (i := 66) (oi := ({ dst := some 93, op := .binOp .eql 30 (.tmp 91) (.tmp 92) 30, type := 4, pos := "law.go:22", after := #[{ on := 64, ground := .data }, { on := 65, ground := .data }, { on := 63, ground := .guard }], guard := some (63, true) } : Oper)) (v := ?vs4_66) rfl msays3_plain (by as_aux_lemma => kernel_rfl) (by as_aux_lemma => kernel_rfl) (fun _ _ _ h => h) (Or.inl ⟨by rfl, ?ys4_66⟩) (by assumption) ?rs4_66
  case ys4_66 => (intro w hSw; (try dsimp only at hSw); go_simp; try with_reducible rfl)
  try simp only [Act.put, List.setIfInBounds_toArray, List.set_cons_zero, List.set_cons_succ]
  refine wpAnyH_take (i := 67) (oi := ({ dst := some 94, op := .pick (.tmp 90) (.tmp 93) (.const (.bool false)), type := 4, pos := "law.go:22", after := #[{ on := 63, ground := .data }, { on := 66, ground := .data }], guard := none } : Oper)) (v := ?vs4_67) rfl msays3_plain (by as_aux_lemma => kernel_rfl) (by as_aux_lemma => kernel_rfl) (fun _ _ _ h => h) (Or.inl ⟨by rfl, ?ys4_67⟩) (by assumption) ?rs4_67
  case ys4_67 => (intro w hSw; (try dsimp only at hSw); go_simp; try with_reducible rfl)
  try simp only [Act.put, List.setIfInBounds_toArray, List.set_cons_zero, List.set_cons_succ]
  refine wpAnyH_take (i := 68) (oi := ({ dst := some 95, op := .move (.tmp 94), type := 4, pos := "law.go:22", after := #[{ on := 67, ground := .data }, { on := 63, ground := .chain }], guard := none } : Oper)) (v := ?vs4_68) rfl msays3_plain (by as_aux_lemma => kernel_rfl) (by as_aux_lemma => kernel_rfl) (fun _ _ _ h => h) (Or.inl ⟨by rfl, ?ys4_68⟩) (by assumption) ?rs4_68
  case ys4_68 => (intro w hSw; (try dsimp only at hSw); go_simp; try with_reducible rfl)
  try simp only [Act.put, List.setIfInBounds_toArray, List.set_cons_zero, List.set_cons_succ]
  refine wpAnyH_ready (rs := [69]) (by as_aux_lemma => kernel_rfl) (by simp) ?_
  refine AllReadyH.cons (o := ({ dst := some 96, op := .call { callee := .value (.func 14), args := #[], argTypes := #[] }, type := 4, pos := "law.go:22", after := #[{ on := 68, ground := .chain }, { on := 68, ground := .guard }], guard := some (68, true) } : Oper)) rfl (fun KK hK => ?_) AllReadyH.nil
  rw [if_pos (by rfl)]
  go_simp
  go_at_call 14; refine (AW.out _).mono ?_; rintro e w17 ⟨rfl, hb17⟩
  go_wp2_with fail
  refine hK.out _ _ ?_ (fun hHeld17 => ?_)
  · exact belowT (by assumption) hb17
  clear hK KK hb17 hHeld16
  try simp only [Act.put, List.setIfInBounds_toArray, List.set_cons_zero, List.set_cons_succ]
  refine wpAnyH_take (i := 70) (oi := ({ dst := some 97, op := .pick (.tmp 95) (.tmp 96) (.const (.bool false)), type := 4, pos := "law.go:22", after := #[{ on := 68, ground := .data }, { on := 69, ground := .data }], guard := none } : Oper)) (v := ?vs4_70) rfl msays3_plain (by as_aux_lemma => kernel_rfl) (by as_aux_lemma => kernel_rfl) (fun _ _ _ h => h) (Or.inl ⟨by rfl, ?ys4_70⟩) (by assumption) ?rs4_70
  case ys4_70 => (intro w hSw; (try dsimp only at hSw); go_simp; try with_reducible rfl)
  try simp only [Act.put, List.setIfInBounds_toArray, List.set_cons_zero, List.set_cons_succ]
  refine wpAnyH_take (i := 71) (oi := ({ dst := some 6, op := .assign (.tmp 97), type := 4, pos := "law.go:22", after := ([{ on := 70, ground := .data }, { on := 69, ground := .chain }, { on := 0, ground := .phase }, { on := 1, ground := .phase }, { on := 2, ground := .phase }, { on := 3, ground := .phase }, { on := 4, ground := .phase }, { on := 5, ground := .phase }, { on := 6, ground := .phase }, { on := 7, ground := .phase }, { on := 8, ground := .phase }, { on := 9, ground := .phase }, { on := 10, ground := .phase }, { on := 11, ground := .phase }, { on := 12, ground := .phase }, { on := 13, ground := .phase }, { on := 14, ground := .phase }, { on := 15, ground := .phase }, { on := 16, ground := .phase }, { on := 17, ground := .phase }, { on := 18, ground := .phase }, { on := 19, ground := .phase }, { on := 20, ground := .phase }, { on := 21, ground := .phase }, { on := 22, ground := .phase }, { on := 23, ground := .phase }, { on := 24, ground := .phase }, { on := 25, ground := .phase }, { on := 26, ground := .phase }, { on := 27, ground := .phase }, { on := 28, ground := .phase }, { on := 29, ground := .phase }, { on := 30, ground := .phase }, { on := 31, ground := .phase }, { on := 32, ground := .phase }, { on := 33, ground := .phase }].append [{ on := 34, ground := .phase }, { on := 35, ground := .phase }, { on := 36, ground := .phase }, { on := 37, ground := .phase }, { on := 38, ground := .phase }, { on := 39, ground := .phase }, { on := 40, ground := .phase }, { on := 41, ground := .phase }, { on := 42, ground := .phase }, { on := 43, ground := .phase }, { on := 44, ground := .phase }, { on := 45, ground := .phase }, { on := 46, ground := .phase }, { on := 47, ground := .phase }, { on := 48, ground := .phase }, { on := 49, ground := .phase }, { on := 50, ground := .phase }, { on := 51, ground := .phase }, { on := 52, ground := .phase }, { on := 53, ground := .phase }, { on := 54, ground := .phase }, { on := 55, ground := .phase }, { on := 56, ground := .phase }, { on := 57, ground := .phase }, { on := 58, ground := .phase }, { on := 59, ground := .phase }, { on := 60, ground := .phase }, { on := 61, ground := .phase }, { on := 62, ground := .phase }, { on := 63, ground := .phase }, { on := 64, ground := .phase }, { on := 65, ground := .phase }, { on := 66, ground := .phase }, { on := 67, ground := .phase }, { on := 68, ground := .phase }, { on := 69, ground := .phase }, { on := 70, ground := .phase }]).toArray, guard := none } : Oper)) (v := ?vs4_71) rfl msays3_plain (by as_aux_lemma => kernel_rfl) (by as_aux_lemma => kernel_rfl) (fun _ _ _ h => h) (Or.inl ⟨by rfl, ?ys4_71⟩) (by assumption) ?rs4_71
  case ys4_71 => (intro w hSw; (try dsimp only at hSw); go_simp; try with_reducible rfl)
  try simp only [Act.put, List.setIfInBounds_toArray, List.set_cons_zero, List.set_cons_succ]
  refine wpAnyH_done (by as_aux_lemma => kernel_rfl) ?_ _
  refine NoPanic.normal ?_
  go_wp2_with fail
  go_ret
  exact ⟨rfl, belowT D3 (by assumption)⟩
end Go.Proofs.Ytjdpcmcekockgaa
