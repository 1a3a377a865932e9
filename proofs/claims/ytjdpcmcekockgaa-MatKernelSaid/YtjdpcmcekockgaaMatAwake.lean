/- Layer 8's own examples: awake, over the contracts of mat's calls (namespace Own8). -/
import Derived.Test.YtjdpcmcekockgaaMatOwn
import Derived.Test.YtjdpcmcekockgaaMatMath
namespace Go.Proofs.Ytjdpcmcekockgaa
open Go.RowKit
theorem vec_same (a0 a1 a2 : Int) (w : World) : (Op.equalIn 10000 23 (.agg #[.int .i64 a0, .int .i64 a1, .int .i64 a2]) (.agg #[.int .i64 a0, .int .i64 a1, .int .i64 a2])).run Try.prog w = .ok true w := by
  rw [vec_eqI 9998]; simp
theorem mat_same (a0 a1 a2 a3 a4 a5 a6 a7 a8 : Int) (w : World) : (Op.equalIn 10000 25 (.agg #[.int .i64 a0, .int .i64 a1, .int .i64 a2, .int .i64 a3, .int .i64 a4, .int .i64 a5, .int .i64 a6, .int .i64 a7, .int .i64 a8]) (.agg #[.int .i64 a0, .int .i64 a1, .int .i64 a2, .int .i64 a3, .int .i64 a4, .int .i64 a5, .int .i64 a6, .int .i64 a7, .int .i64 a8])).run Try.prog w = .ok true w := by
  rw [mat_eqI 9997]; simp
theorem mat_row0 (a0 a1 a2 a3 a4 a5 a6 a7 a8 : Int) (w : World) : (Instr.index 25 (.agg #[.int .i64 a0, .int .i64 a1, .int .i64 a2, .int .i64 a3, .int .i64 a4, .int .i64 a5, .int .i64 a6, .int .i64 a7, .int .i64 a8]) (.int .i64 0)).run Try.prog w = .ok (.agg #[.int .i64 a0, .int .i64 a1, .int .i64 a2]) w := by kernel_rfl
namespace Aw8
theorem c1 (w : World) : Calls Try.prog 13 #[.agg #[.int .i64 1, .int .i64 2, .int .i64 3, .int .i64 0, .int .i64 1, .int .i64 4, .int .i64 5, .int .i64 6, .int .i64 0], .agg #[.int .i64 1, .int .i64 0, .int .i64 0]] w fun e w' => e = .returned (.tuple #[.agg #[.int .i64 (-24), .int .i64 20, .int .i64 (-5)], .int .i64 1, .int .i64 0]) ∧ Below w.heap.size w w' := by
  have r := Own8.Solve_firm ⟨⟨1#64, 2#64, 3#64⟩, ⟨0#64, 1#64, 4#64⟩, ⟨5#64, 6#64, 0#64⟩⟩ ⟨1#64, 0#64, 0#64⟩ w (by decide)
  rw [show M3.times (M3.adj ⟨⟨1#64, 2#64, 3#64⟩, ⟨0#64, 1#64, 4#64⟩, ⟨5#64, 6#64, 0#64⟩⟩) ⟨1#64, 0#64, 0#64⟩ = (⟨18446744073709551592#64, 20#64, 18446744073709551611#64⟩ : V3) by decide] at r
  rw [show M3.det ⟨⟨1#64, 2#64, 3#64⟩, ⟨0#64, 1#64, 4#64⟩, ⟨5#64, 6#64, 0#64⟩⟩ = 1#64 by decide] at r
  exact r
theorem c2 (w : World) : Calls Try.prog 13 #[.agg #[.int .i64 0, .int .i64 0, .int .i64 0, .int .i64 0, .int .i64 0, .int .i64 0, .int .i64 0, .int .i64 0, .int .i64 0], .agg #[.int .i64 0, .int .i64 0, .int .i64 0]] w fun e w' => e = .returned (.tuple #[.agg #[.int .i64 0, .int .i64 0, .int .i64 0], .int .i64 0, .int .i64 7]) ∧ Below w.heap.size w w' := by
  have r := Own8.Solve_flat ⟨⟨0#64, 0#64, 0#64⟩, ⟨0#64, 0#64, 0#64⟩, ⟨0#64, 0#64, 0#64⟩⟩ ⟨0#64, 0#64, 0#64⟩ w (by decide)
  exact r
theorem c3 (w : World) : Calls Try.prog 10 #[.agg #[.int .i64 1, .int .i64 2, .int .i64 3, .int .i64 0, .int .i64 1, .int .i64 4, .int .i64 5, .int .i64 6, .int .i64 0]] w fun e w' => e = .returned (.int .i64 1) ∧ Below w.heap.size w w' := by
  have r := Own8.Det_any ⟨⟨1#64, 2#64, 3#64⟩, ⟨0#64, 1#64, 4#64⟩, ⟨5#64, 6#64, 0#64⟩⟩ w
  rw [show M3.det ⟨⟨1#64, 2#64, 3#64⟩, ⟨0#64, 1#64, 4#64⟩, ⟨5#64, 6#64, 0#64⟩⟩ = 1#64 by decide] at r
  exact r
theorem c4 (w : World) : Calls Try.prog 9 #[.int .i64 2] w fun e w' => e = .returned (.agg #[.int .i64 2, .int .i64 0, .int .i64 0, .int .i64 0, .int .i64 2, .int .i64 0, .int .i64 0, .int .i64 0, .int .i64 2]) ∧ Below w.heap.size w w' := by
  have r := Own8.Unit_any 2#64 w
  exact r
theorem c5 (w : World) : Calls Try.prog 12 #[.agg #[.int .i64 2, .int .i64 0, .int .i64 0, .int .i64 0, .int .i64 2, .int .i64 0, .int .i64 0, .int .i64 0, .int .i64 2]] w fun e w' => e = .returned (.agg #[.int .i64 4, .int .i64 0, .int .i64 0, .int .i64 0, .int .i64 4, .int .i64 0, .int .i64 0, .int .i64 0, .int .i64 4]) ∧ Below w.heap.size w w' := by
  have r := Own8.Adj_any ⟨⟨2#64, 0#64, 0#64⟩, ⟨0#64, 2#64, 0#64⟩, ⟨0#64, 0#64, 2#64⟩⟩ w
  rw [show M3.adj ⟨⟨2#64, 0#64, 0#64⟩, ⟨0#64, 2#64, 0#64⟩, ⟨0#64, 0#64, 2#64⟩⟩ = (⟨⟨4#64, 0#64, 0#64⟩, ⟨0#64, 4#64, 0#64⟩, ⟨0#64, 0#64, 4#64⟩⟩ : M3) by decide] at r
  exact r
theorem c6 (w : World) : Calls Try.prog 9 #[.int .i64 4] w fun e w' => e = .returned (.agg #[.int .i64 4, .int .i64 0, .int .i64 0, .int .i64 0, .int .i64 4, .int .i64 0, .int .i64 0, .int .i64 0, .int .i64 4]) ∧ Below w.heap.size w w' := by
  have r := Own8.Unit_any 4#64 w
  exact r
theorem c7 (w : World) : Calls Try.prog 12 #[.agg #[.int .i64 1, .int .i64 2, .int .i64 3, .int .i64 0, .int .i64 1, .int .i64 4, .int .i64 5, .int .i64 6, .int .i64 0]] w fun e w' => e = .returned (.agg #[.int .i64 (-24), .int .i64 18, .int .i64 5, .int .i64 20, .int .i64 (-15), .int .i64 (-4), .int .i64 (-5), .int .i64 4, .int .i64 1]) ∧ Below w.heap.size w w' := by
  have r := Own8.Adj_any ⟨⟨1#64, 2#64, 3#64⟩, ⟨0#64, 1#64, 4#64⟩, ⟨5#64, 6#64, 0#64⟩⟩ w
  rw [show M3.adj ⟨⟨1#64, 2#64, 3#64⟩, ⟨0#64, 1#64, 4#64⟩, ⟨5#64, 6#64, 0#64⟩⟩ = (⟨⟨18446744073709551592#64, 18#64, 5#64⟩, ⟨20#64, 18446744073709551601#64, 18446744073709551612#64⟩, ⟨18446744073709551611#64, 4#64, 1#64⟩⟩ : M3) by decide] at r
  exact r
theorem c8 (w : World) : Calls Try.prog 11 #[.agg #[.int .i64 1, .int .i64 2, .int .i64 3, .int .i64 0, .int .i64 1, .int .i64 4, .int .i64 5, .int .i64 6, .int .i64 0], .agg #[.int .i64 (-24), .int .i64 18, .int .i64 5, .int .i64 20, .int .i64 (-15), .int .i64 (-4), .int .i64 (-5), .int .i64 4, .int .i64 1]] w fun e w' => e = .returned (.agg #[.int .i64 1, .int .i64 0, .int .i64 0, .int .i64 0, .int .i64 1, .int .i64 0, .int .i64 0, .int .i64 0, .int .i64 1]) ∧ Below w.heap.size w w' := by
  have r := Own8.Mul_any ⟨⟨1#64, 2#64, 3#64⟩, ⟨0#64, 1#64, 4#64⟩, ⟨5#64, 6#64, 0#64⟩⟩ ⟨⟨18446744073709551592#64, 18#64, 5#64⟩, ⟨20#64, 18446744073709551601#64, 18446744073709551612#64⟩, ⟨18446744073709551611#64, 4#64, 1#64⟩⟩ w
  rw [show M3.mul ⟨⟨1#64, 2#64, 3#64⟩, ⟨0#64, 1#64, 4#64⟩, ⟨5#64, 6#64, 0#64⟩⟩ ⟨⟨18446744073709551592#64, 18#64, 5#64⟩, ⟨20#64, 18446744073709551601#64, 18446744073709551612#64⟩, ⟨18446744073709551611#64, 4#64, 1#64⟩⟩ = (⟨⟨1#64, 0#64, 0#64⟩, ⟨0#64, 1#64, 0#64⟩, ⟨0#64, 0#64, 1#64⟩⟩ : M3) by decide] at r
  exact r
theorem c9 (w : World) : Calls Try.prog 9 #[.int .i64 1] w fun e w' => e = .returned (.agg #[.int .i64 1, .int .i64 0, .int .i64 0, .int .i64 0, .int .i64 1, .int .i64 0, .int .i64 0, .int .i64 0, .int .i64 1]) ∧ Below w.heap.size w w' := by
  have r := Own8.Unit_any 1#64 w
  exact r
theorem c10 (w : World) : Calls Try.prog 29 #[.agg #[.int .i64 1, .int .i64 2, .int .i64 3, .int .i64 0, .int .i64 1, .int .i64 4, .int .i64 5, .int .i64 6, .int .i64 0]] w fun e w' => e = .returned (.int .i64 2) ∧ Below w.heap.size w w' := by
  have r := Own8.Trace_any ⟨⟨1#64, 2#64, 3#64⟩, ⟨0#64, 1#64, 4#64⟩, ⟨5#64, 6#64, 0#64⟩⟩ w
  rw [show M3.trace ⟨⟨1#64, 2#64, 3#64⟩, ⟨0#64, 1#64, 4#64⟩, ⟨5#64, 6#64, 0#64⟩⟩ = 2#64 by decide] at r
  exact r
theorem c11 (w : World) : Calls Try.prog 28 #[.agg #[.int .i64 1, .int .i64 2, .int .i64 3, .int .i64 0, .int .i64 1, .int .i64 4, .int .i64 5, .int .i64 6, .int .i64 0]] w fun e w' => e = .returned (.agg #[.int .i64 1, .int .i64 0, .int .i64 5, .int .i64 2, .int .i64 1, .int .i64 6, .int .i64 3, .int .i64 4, .int .i64 0]) ∧ Below w.heap.size w w' := by
  have r := Own8.Turn_any ⟨⟨1#64, 2#64, 3#64⟩, ⟨0#64, 1#64, 4#64⟩, ⟨5#64, 6#64, 0#64⟩⟩ w
  rw [show M3.turn ⟨⟨1#64, 2#64, 3#64⟩, ⟨0#64, 1#64, 4#64⟩, ⟨5#64, 6#64, 0#64⟩⟩ = (⟨⟨1#64, 0#64, 5#64⟩, ⟨2#64, 1#64, 6#64⟩, ⟨3#64, 4#64, 0#64⟩⟩ : M3) by decide] at r
  exact r
theorem c12 (w : World) : Calls Try.prog 15 #[.agg #[.int .i64 1, .int .i64 2, .int .i64 3, .int .i64 0, .int .i64 1, .int .i64 4, .int .i64 5, .int .i64 6, .int .i64 0], .agg #[.int .i64 1, .int .i64 1, .int .i64 1]] w fun e w' => e = .returned (.agg #[.int .i64 6, .int .i64 5, .int .i64 11]) ∧ Below w.heap.size w w' := by
  have r := Own8.Times_any ⟨⟨1#64, 2#64, 3#64⟩, ⟨0#64, 1#64, 4#64⟩, ⟨5#64, 6#64, 0#64⟩⟩ ⟨1#64, 1#64, 1#64⟩ w
  rw [show M3.times ⟨⟨1#64, 2#64, 3#64⟩, ⟨0#64, 1#64, 4#64⟩, ⟨5#64, 6#64, 0#64⟩⟩ ⟨1#64, 1#64, 1#64⟩ = (⟨6#64, 5#64, 11#64⟩ : V3) by decide] at r
  exact r
/-- The operations of a drawn region, as the translation has them. -/
def awake4 : Array Oper := #[
  { dst := some 26, op := .load 25 (.tmp 1), type := 25, pos := "law.go:15", after := #[], guard := none },
  { dst := some 27, op := .call { callee := .value (.func 10), args := #[.tmp 26], argTypes := #[25] }, type := 2, pos := "law.go:15", after := #[{ on := 0, ground := .data }], guard := none },
  { dst := some 28, op := .binOp .eql 2 (.tmp 27) (.const (.int .i64 1)) 2, type := 4, pos := "law.go:15", after := #[{ on := 1, ground := .data }], guard := none },
  { dst := some 29, op := .move (.tmp 28), type := 4, pos := "law.go:15", after := #[{ on := 2, ground := .data }, { on := 1, ground := .chain }], guard := none },
  { dst := some 30, op := .call { callee := .value (.func 9), args := #[.const (.int .i64 2)], argTypes := #[2] }, type := 25, pos := "law.go:15", after := #[{ on := 3, ground := .chain }, { on := 3, ground := .guard }], guard := some (3, true) },
  { dst := some 31, op := .call { callee := .value (.func 12), args := #[.tmp 30], argTypes := #[25] }, type := 25, pos := "law.go:15", after := #[{ on := 4, ground := .data }, { on := 4, ground := .chain }, { on := 3, ground := .guard }], guard := some (3, true) },
  { dst := some 32, op := .call { callee := .value (.func 9), args := #[.const (.int .i64 4)], argTypes := #[2] }, type := 25, pos := "law.go:15", after := #[{ on := 5, ground := .chain }, { on := 3, ground := .guard }], guard := some (3, true) },
  { dst := some 33, op := .binOp .eql 25 (.tmp 31) (.tmp 32) 25, type := 4, pos := "law.go:15", after := #[{ on := 5, ground := .data }, { on := 6, ground := .data }, { on := 3, ground := .guard }], guard := some (3, true) },
  { dst := some 34, op := .pick (.tmp 29) (.tmp 33) (.const (.bool false)), type := 4, pos := "law.go:15", after := #[{ on := 3, ground := .data }, { on := 7, ground := .data }], guard := none },
  { dst := some 35, op := .move (.tmp 34), type := 4, pos := "law.go:15", after := #[{ on := 8, ground := .data }, { on := 6, ground := .chain }], guard := none },
  { dst := some 36, op := .load 25 (.tmp 1), type := 25, pos := "law.go:15", after := #[{ on := 9, ground := .guard }], guard := some (9, true) },
  { dst := some 37, op := .load 25 (.tmp 1), type := 25, pos := "law.go:15", after := #[{ on := 9, ground := .guard }], guard := some (9, true) },
  { dst := some 38, op := .call { callee := .value (.func 12), args := #[.tmp 37], argTypes := #[25] }, type := 25, pos := "law.go:15", after := #[{ on := 11, ground := .data }, { on := 9, ground := .chain }, { on := 9, ground := .guard }], guard := some (9, true) },
  { dst := some 39, op := .call { callee := .value (.func 11), args := #[.tmp 36, .tmp 38], argTypes := #[25, 25] }, type := 25, pos := "law.go:15", after := #[{ on := 10, ground := .data }, { on := 12, ground := .data }, { on := 12, ground := .chain }, { on := 9, ground := .guard }], guard := some (9, true) },
  { dst := some 40, op := .call { callee := .value (.func 9), args := #[.const (.int .i64 1)], argTypes := #[2] }, type := 25, pos := "law.go:15", after := #[{ on := 13, ground := .chain }, { on := 9, ground := .guard }], guard := some (9, true) },
  { dst := some 41, op := .binOp .eql 25 (.tmp 39) (.tmp 40) 25, type := 4, pos := "law.go:15", after := #[{ on := 13, ground := .data }, { on := 14, ground := .data }, { on := 9, ground := .guard }], guard := some (9, true) },
  { dst := some 42, op := .pick (.tmp 35) (.tmp 41) (.const (.bool false)), type := 4, pos := "law.go:15", after := #[{ on := 9, ground := .data }, { on := 15, ground := .data }], guard := none },
  { dst := some 43, op := .move (.tmp 42), type := 4, pos := "law.go:15", after := #[{ on := 16, ground := .data }, { on := 14, ground := .chain }], guard := none },
  { dst := some 44, op := .load 23 (.tmp 2), type := 23, pos := "law.go:15", after := #[{ on := 17, ground := .guard }], guard := some (17, true) },
  { dst := some 45, op := .build 23 #[(0, .const (.int .i64 (-24))), (1, .const (.int .i64 20)), (2, .const (.int .i64 (-5)))], type := 23, pos := "law.go:15", after := #[{ on := 17, ground := .guard }], guard := some (17, true) },
  { dst := some 46, op := .binOp .eql 23 (.tmp 44) (.tmp 45) 23, type := 4, pos := "law.go:15", after := #[{ on := 18, ground := .data }, { on := 19, ground := .data }, { on := 17, ground := .guard }], guard := some (17, true) },
  { dst := some 47, op := .pick (.tmp 43) (.tmp 46) (.const (.bool false)), type := 4, pos := "law.go:15", after := #[{ on := 17, ground := .data }, { on := 20, ground := .data }], guard := none },
  { dst := some 48, op := .move (.tmp 47), type := 4, pos := "law.go:15", after := #[{ on := 21, ground := .data }, { on := 17, ground := .chain }], guard := none },
  { dst := some 49, op := .move (.tmp 3), type := 2, pos := "law.go:15", after := #[{ on := 22, ground := .guard }], guard := some (22, true) },
  { dst := some 50, op := .binOp .eql 2 (.tmp 49) (.const (.int .i64 1)) 2, type := 4, pos := "law.go:15", after := #[{ on := 23, ground := .data }, { on := 22, ground := .guard }], guard := some (22, true) },
  { dst := some 51, op := .pick (.tmp 48) (.tmp 50) (.const (.bool false)), type := 4, pos := "law.go:15", after := #[{ on := 22, ground := .data }, { on := 24, ground := .data }], guard := none },
  { dst := some 52, op := .move (.tmp 51), type := 4, pos := "law.go:15", after := #[{ on := 25, ground := .data }, { on := 22, ground := .chain }], guard := none },
  { dst := some 53, op := .move (.tmp 4), type := 30, pos := "law.go:15", after := #[{ on := 26, ground := .guard }], guard := some (26, true) },
  { dst := some 54, op := .binOp .eql 30 (.tmp 53) (.const (.int .i64 0)) 30, type := 4, pos := "law.go:15", after := #[{ on := 27, ground := .data }, { on := 26, ground := .guard }], guard := some (26, true) },
  { dst := some 55, op := .pick (.tmp 52) (.tmp 54) (.const (.bool false)), type := 4, pos := "law.go:15", after := #[{ on := 26, ground := .data }, { on := 28, ground := .data }], guard := none },
  { dst := some 56, op := .move (.tmp 55), type := 4, pos := "law.go:15", after := #[{ on := 29, ground := .data }, { on := 26, ground := .chain }], guard := none },
  { dst := some 57, op := .move (.tmp 7), type := 30, pos := "law.go:15", after := #[{ on := 30, ground := .guard }], guard := some (30, true) },
  { dst := some 58, op := .binOp .eql 30 (.tmp 57) (.const (.int .i64 7)) 30, type := 4, pos := "law.go:15", after := #[{ on := 31, ground := .data }, { on := 30, ground := .guard }], guard := some (30, true) },
  { dst := some 59, op := .pick (.tmp 56) (.tmp 58) (.const (.bool false)), type := 4, pos := "law.go:15", after := #[{ on := 30, ground := .data }, { on := 32, ground := .data }], guard := none },
  { dst := some 60, op := .move (.tmp 59), type := 4, pos := "law.go:15", after := #[{ on := 33, ground := .data }, { on := 30, ground := .chain }], guard := none },
  { dst := some 61, op := .load 25 (.tmp 1), type := 25, pos := "law.go:15", after := #[{ on := 34, ground := .guard }], guard := some (34, true) },
  { dst := some 62, op := .call { callee := .value (.func 29), args := #[.tmp 61], argTypes := #[25] }, type := 2, pos := "law.go:15", after := #[{ on := 35, ground := .data }, { on := 34, ground := .chain }, { on := 34, ground := .guard }], guard := some (34, true) },
  { dst := some 63, op := .binOp .eql 2 (.tmp 62) (.const (.int .i64 2)) 2, type := 4, pos := "law.go:15", after := #[{ on := 36, ground := .data }, { on := 34, ground := .guard }], guard := some (34, true) },
  { dst := some 64, op := .pick (.tmp 60) (.tmp 63) (.const (.bool false)), type := 4, pos := "law.go:15", after := #[{ on := 34, ground := .data }, { on := 37, ground := .data }], guard := none },
  { dst := some 65, op := .move (.tmp 64), type := 4, pos := "law.go:15", after := #[{ on := 38, ground := .data }, { on := 36, ground := .chain }], guard := none },
  { dst := some 66, op := .load 25 (.tmp 1), type := 25, pos := "law.go:15", after := #[{ on := 39, ground := .guard }], guard := some (39, true) },
  { dst := some 67, op := .call { callee := .value (.func 28), args := #[.tmp 66], argTypes := #[25] }, type := 25, pos := "law.go:15", after := #[{ on := 40, ground := .data }, { on := 39, ground := .chain }, { on := 39, ground := .guard }], guard := some (39, true) },
  { dst := some 68, op := .index 25 (.tmp 67) (.const (.int .i64 0)), type := 23, pos := "law.go:15", after := #[{ on := 41, ground := .data }, { on := 39, ground := .guard }], guard := some (39, true) },
  { dst := some 69, op := .build 23 #[(0, .const (.int .i64 1)), (1, .const (.int .i64 0)), (2, .const (.int .i64 5))], type := 23, pos := "law.go:15", after := #[{ on := 39, ground := .guard }], guard := some (39, true) },
  { dst := some 70, op := .binOp .eql 23 (.tmp 68) (.tmp 69) 23, type := 4, pos := "law.go:15", after := #[{ on := 42, ground := .data }, { on := 43, ground := .data }, { on := 39, ground := .guard }], guard := some (39, true) },
  { dst := some 71, op := .pick (.tmp 65) (.tmp 70) (.const (.bool false)), type := 4, pos := "law.go:15", after := #[{ on := 39, ground := .data }, { on := 44, ground := .data }], guard := none },
  { dst := some 72, op := .move (.tmp 71), type := 4, pos := "law.go:15", after := #[{ on := 45, ground := .data }, { on := 41, ground := .chain }], guard := none },
  { dst := some 73, op := .load 25 (.tmp 1), type := 25, pos := "law.go:15", after := #[{ on := 46, ground := .guard }], guard := some (46, true) },
  { dst := some 74, op := .build 23 #[(0, .const (.int .i64 1)), (1, .const (.int .i64 1)), (2, .const (.int .i64 1))], type := 23, pos := "law.go:15", after := #[{ on := 46, ground := .guard }], guard := some (46, true) },
  { dst := some 75, op := .call { callee := .value (.func 15), args := #[.tmp 73, .tmp 74], argTypes := #[25, 23] }, type := 23, pos := "law.go:15", after := #[{ on := 47, ground := .data }, { on := 48, ground := .data }, { on := 46, ground := .chain }, { on := 46, ground := .guard }], guard := some (46, true) },
  { dst := some 76, op := .build 23 #[(0, .const (.int .i64 6)), (1, .const (.int .i64 5)), (2, .const (.int .i64 11))], type := 23, pos := "law.go:15", after := #[{ on := 46, ground := .guard }], guard := some (46, true) },
  { dst := some 77, op := .binOp .eql 23 (.tmp 75) (.tmp 76) 23, type := 4, pos := "law.go:15", after := #[{ on := 49, ground := .data }, { on := 50, ground := .data }, { on := 46, ground := .guard }], guard := some (46, true) },
  { dst := some 78, op := .pick (.tmp 72) (.tmp 77) (.const (.bool false)), type := 4, pos := "law.go:15", after := #[{ on := 46, ground := .data }, { on := 51, ground := .data }], guard := none },
  { dst := some 0, op := .assign (.tmp 78), type := 4, pos := "law.go:15", after := #[{ on := 52, ground := .data }, { on := 49, ground := .chain }, { on := 0, ground := .phase }, { on := 1, ground := .phase }, { on := 2, ground := .phase }, { on := 3, ground := .phase }, { on := 4, ground := .phase }, { on := 5, ground := .phase }, { on := 6, ground := .phase }, { on := 7, ground := .phase }, { on := 8, ground := .phase }, { on := 9, ground := .phase }, { on := 10, ground := .phase }, { on := 11, ground := .phase }, { on := 12, ground := .phase }, { on := 13, ground := .phase }, { on := 14, ground := .phase }, { on := 15, ground := .phase }, { on := 16, ground := .phase }, { on := 17, ground := .phase }, { on := 18, ground := .phase }, { on := 19, ground := .phase }, { on := 20, ground := .phase }, { on := 21, ground := .phase }, { on := 22, ground := .phase }, { on := 23, ground := .phase }, { on := 24, ground := .phase }, { on := 25, ground := .phase }, { on := 26, ground := .phase }, { on := 27, ground := .phase }, { on := 28, ground := .phase }, { on := 29, ground := .phase }, { on := 30, ground := .phase }, { on := 31, ground := .phase }, { on := 32, ground := .phase }, { on := 33, ground := .phase }, { on := 34, ground := .phase }, { on := 35, ground := .phase }, { on := 36, ground := .phase }, { on := 37, ground := .phase }, { on := 38, ground := .phase }, { on := 39, ground := .phase }, { on := 40, ground := .phase }, { on := 41, ground := .phase }, { on := 42, ground := .phase }, { on := 43, ground := .phase }, { on := 44, ground := .phase }, { on := 45, ground := .phase }, { on := 46, ground := .phase }, { on := 47, ground := .phase }, { on := 48, ground := .phase }, { on := 49, ground := .phase }, { on := 50, ground := .phase }, { on := 51, ground := .phase }, { on := 52, ground := .phase }], guard := none }]
theorem awake4_plain : Region.noSelect awake4 = true := by kernel_rfl

set_option maxHeartbeats 8000000 in
set_option maxRecDepth 100000 in
theorem awake_any (w : World) : Calls Try.prog 14 #[] w fun e w' => e = .returned (.bool true) ∧ Below w.heap.size w w' := by
  have C1 := Lib.hid c1
  have C2 := Lib.hid c2
  have C3 := Lib.hid c3
  have C4 := Lib.hid c4
  have C5 := Lib.hid c5
  have C6 := Lib.hid c6
  have C7 := Lib.hid c7
  have C8 := Lib.hid c8
  have C9 := Lib.hid c9
  have C10 := Lib.hid c10
  have C11 := Lib.hid c11
  have C12 := Lib.hid c12
  have ES := vec_same; have EM := mat_same; have ER := mat_row0
  go_enter Try.func14, Try.ntmps14
  have S0 := (St.none w).more [.int .i64 1, .int .i64 2, .int .i64 3, .int .i64 0, .int .i64 1, .int .i64 4, .int .i64 5, .int .i64 6, .int .i64 0] 25
  have a0 := S0.at 0 rfl 0 rfl; have a1 := S0.at 0 rfl 1 rfl; have a2 := S0.at 0 rfl 2 rfl; have a3 := S0.at 0 rfl 3 rfl; have a4 := S0.at 0 rfl 4 rfl; have a5 := S0.at 0 rfl 5 rfl; have a6 := S0.at 0 rfl 6 rfl; have a7 := S0.at 0 rfl 7 rfl; have a8 := S0.at 0 rfl 8 rfl
  have H0 := Lib.hid S0
  clear S0
  go_wp2_with fail
  refine (C1.out _).mono ?_; rintro e w1 ⟨rfl, hb1⟩
  have H1 := Lib.hid ((H0.out.keep hb1).more [.int .i64 (-24), .int .i64 20, .int .i64 (-5)] 23)
  clear hb1 H0 a0 a1 a2 a3 a4 a5 a6 a7 a8
  go_wp2_with fail
  refine (C2.out _).mono ?_; rintro e w2 ⟨rfl, hb2⟩
  have H2 := Lib.hid ((H1.out.keep hb2).more [.int .i64 0, .int .i64 0, .int .i64 0] 23)
  clear hb2 H1
  go_upto_region 4 with fail
  obtain ⟨W0, hW0⟩ : ∃ W0, W0 = w2.alloc (.cells #[.int .i64 0, .int .i64 0, .int .i64 0] 23) := ⟨_, rfl⟩
  have S3 := H2.out
  rw [← hW0] at S3
  have HW := Lib.hid hW0
  clear hW0 H2
  rw [← HW.out]
  clear HW
  have m0 : ∀ w', Below W0.heap.size W0 w' → w'.cell? ⟨w.heap.size, 0, none⟩ = some (.int .i64 1) := fun w' h => (S3.keep h).at 0 rfl 0 rfl
  have m1 : ∀ w', Below W0.heap.size W0 w' → w'.cell? ⟨w.heap.size, 1, none⟩ = some (.int .i64 2) := fun w' h => (S3.keep h).at 0 rfl 1 rfl
  have m2 : ∀ w', Below W0.heap.size W0 w' → w'.cell? ⟨w.heap.size, 2, none⟩ = some (.int .i64 3) := fun w' h => (S3.keep h).at 0 rfl 2 rfl
  have m3 : ∀ w', Below W0.heap.size W0 w' → w'.cell? ⟨w.heap.size, 3, none⟩ = some (.int .i64 0) := fun w' h => (S3.keep h).at 0 rfl 3 rfl
  have m4 : ∀ w', Below W0.heap.size W0 w' → w'.cell? ⟨w.heap.size, 4, none⟩ = some (.int .i64 1) := fun w' h => (S3.keep h).at 0 rfl 4 rfl
  have m5 : ∀ w', Below W0.heap.size W0 w' → w'.cell? ⟨w.heap.size, 5, none⟩ = some (.int .i64 4) := fun w' h => (S3.keep h).at 0 rfl 5 rfl
  have m6 : ∀ w', Below W0.heap.size W0 w' → w'.cell? ⟨w.heap.size, 6, none⟩ = some (.int .i64 5) := fun w' h => (S3.keep h).at 0 rfl 6 rfl
  have m7 : ∀ w', Below W0.heap.size W0 w' → w'.cell? ⟨w.heap.size, 7, none⟩ = some (.int .i64 6) := fun w' h => (S3.keep h).at 0 rfl 7 rfl
  have m8 : ∀ w', Below W0.heap.size W0 w' → w'.cell? ⟨w.heap.size, 8, none⟩ = some (.int .i64 0) := fun w' h => (S3.keep h).at 0 rfl 8 rfl
  have x0 : ∀ w', Below W0.heap.size W0 w' → w'.cell? ⟨w1.heap.size, 0, none⟩ = some (.int .i64 (-24)) := fun w' h => (S3.keep h).at 1 rfl 0 rfl
  have x1 : ∀ w', Below W0.heap.size W0 w' → w'.cell? ⟨w1.heap.size, 1, none⟩ = some (.int .i64 20) := fun w' h => (S3.keep h).at 1 rfl 1 rfl
  have x2 : ∀ w', Below W0.heap.size W0 w' → w'.cell? ⟨w1.heap.size, 2, none⟩ = some (.int .i64 (-5)) := fun w' h => (S3.keep h).at 1 rfl 2 rfl
  have D3 := S3.below
  clear S3
  try simp only [List.append_eq, List.cons_append, List.nil_append]
  change (Code.region 4 awake4 true).wp Try.prog _ _ _
  refine wp_region_noPanic ?_
  refine wp_region_held_drew (S := fun w' => Below W0.heap.size W0 w') (by kernel_rfl) ((Below.refl _ _).drew) (fun hHeld => ?_)
  refine wpAnyH_take (i := 0) (oi := ({ dst := some 26, op := .load 25 (.tmp 1), type := 25, pos := "law.go:15", after := #[], guard := none } : Oper)) (v := ?vs1_0) rfl awake4_plain (by as_aux_lemma => kernel_rfl) (by as_aux_lemma => kernel_rfl) (fun _ _ _ h => h) (Or.inl ⟨by rfl, ?ys1_0⟩) (by assumption) ?rs1_0
  case ys1_0 => (intro w hSw; (try dsimp only at hSw); go_simp; try with_reducible rfl)
  try simp only [Act.put, List.setIfInBounds_toArray, List.set_cons_zero, List.set_cons_succ]
  refine wpAnyH_ready (rs := [1]) (by as_aux_lemma => kernel_rfl) (by simp) ?_
  refine AllReadyH.cons (o := ({ dst := some 27, op := .call { callee := .value (.func 10), args := #[.tmp 26], argTypes := #[25] }, type := 2, pos := "law.go:15", after := #[{ on := 0, ground := .data }], guard := none } : Oper)) rfl (fun KK hK => ?_) AllReadyH.nil
  rw [if_pos (by rfl)]
  go_simp
  go_at_call 10; refine (C3.out _).mono ?_; rintro e w3 ⟨rfl, hb3⟩
  go_wp2_with fail
  refine hK.out _ _ ?_ (fun hHeld3 => ?_)
  · exact belowT (by assumption) hb3
  clear hK KK hb3
  try simp only [Act.put, List.setIfInBounds_toArray, List.set_cons_zero, List.set_cons_succ]
  refine wpAnyH_take (i := 2) (oi := ({ dst := some 28, op := .binOp .eql 2 (.tmp 27) (.const (.int .i64 1)) 2, type := 4, pos := "law.go:15", after := #[{ on := 1, ground := .data }], guard := none } : Oper)) (v := ?vs1_2) rfl awake4_plain (by as_aux_lemma => kernel_rfl) (by as_aux_lemma => kernel_rfl) (fun _ _ _ h => h) (Or.inl ⟨by rfl, ?ys1_2⟩) (by assumption) ?rs1_2
  case ys1_2 => (intro w hSw; (try dsimp only at hSw); go_simp; try with_reducible rfl)
  try simp only [Act.put, List.setIfInBounds_toArray, List.set_cons_zero, List.set_cons_succ]
  refine wpAnyH_take (i := 3) (oi := ({ dst := some 29, op := .move (.tmp 28), type := 4, pos := "law.go:15", after := #[{ on := 2, ground := .data }, { on := 1, ground := .chain }], guard := none } : Oper)) (v := ?vs1_3) rfl awake4_plain (by as_aux_lemma => kernel_rfl) (by as_aux_lemma => kernel_rfl) (fun _ _ _ h => h) (Or.inl ⟨by rfl, ?ys1_3⟩) (by assumption) ?rs1_3
  case ys1_3 => (intro w hSw; (try dsimp only at hSw); go_simp; try with_reducible rfl)
  try simp only [Act.put, List.setIfInBounds_toArray, List.set_cons_zero, List.set_cons_succ]
  refine wpAnyH_ready (rs := [4]) (by as_aux_lemma => kernel_rfl) (by simp) ?_
  refine AllReadyH.cons (o := ({ dst := some 30, op := .call { callee := .value (.func 9), args := #[.const (.int .i64 2)], argTypes := #[2] }, type := 25, pos := "law.go:15", after := #[{ on := 3, ground := .chain }, { on := 3, ground := .guard }], guard := some (3, true) } : Oper)) rfl (fun KK hK => ?_) AllReadyH.nil
  rw [if_pos (by rfl)]
  go_simp
  go_at_call 9; refine (C4.out _).mono ?_; rintro e w4 ⟨rfl, hb4⟩
  go_wp2_with fail
  refine hK.out _ _ ?_ (fun hHeld4 => ?_)
  · exact belowT (by assumption) hb4
  clear hK KK hb4 hHeld3
  try simp only [Act.put, List.setIfInBounds_toArray, List.set_cons_zero, List.set_cons_succ]
  refine wpAnyH_ready (rs := [5]) (by as_aux_lemma => kernel_rfl) (by simp) ?_
  refine AllReadyH.cons (o := ({ dst := some 31, op := .call { callee := .value (.func 12), args := #[.tmp 30], argTypes := #[25] }, type := 25, pos := "law.go:15", after := #[{ on := 4, ground := .data }, { on := 4, ground := .chain }, { on := 3, ground := .guard }], guard := some (3, true) } : Oper)) rfl (fun KK hK => ?_) AllReadyH.nil
  rw [if_pos (by rfl)]
  go_simp
  go_at_call 12; refine (C5.out _).mono ?_; rintro e w5 ⟨rfl, hb5⟩
  go_wp2_with fail
  refine hK.out _ _ ?_ (fun hHeld5 => ?_)
  · exact belowT (by assumption) hb5
  clear hK KK hb5 hHeld4
  try simp only [Act.put, List.setIfInBounds_toArray, List.set_cons_zero, List.set_cons_succ]
  refine wpAnyH_ready (rs := [6]) (by as_aux_lemma => kernel_rfl) (by simp) ?_
  refine AllReadyH.cons (o := ({ dst := some 32, op := .call { callee := .value (.func 9), args := #[.const (.int .i64 4)], argTypes := #[2] }, type := 25, pos := "law.go:15", after := #[{ on := 5, ground := .chain }, { on := 3, ground := .guard }], guard := some (3, true) } : Oper)) rfl (fun KK hK => ?_) AllReadyH.nil
  rw [if_pos (by rfl)]
  go_simp
  go_at_call 9; refine (C6.out _).mono ?_; rintro e w6 ⟨rfl, hb6⟩
  go_wp2_with fail
  refine hK.out _ _ ?_ (fun hHeld6 => ?_)
  · exact belowT (by assumption) hb6
  clear hK KK hb6 hHeld5
  try simp only [Act.put, List.setIfInBounds_toArray, List.set_cons_zero, List.set_cons_succ]
  refine wpAnyH_take (i := 7) (oi := ({ dst := some 33, op := .binOp .eql 25 (.tmp 31) (.tmp 32) 25, type := 4, pos := "law.go:15", after := #[{ on := 5, ground := .data }, { on := 6, ground := .data }, { on := 3, ground := .guard }], guard := some (3, true) } : Oper)) (v := ?vs1_7) rfl awake4_plain (by as_aux_lemma => kernel_rfl) (by as_aux_lemma => kernel_rfl) (fun _ _ _ h => h) (Or.inl ⟨by rfl, ?ys1_7⟩) (by assumption) ?rs1_7
  case ys1_7 => (intro w hSw; (try dsimp only at hSw); go_simp; try with_reducible rfl)
  try simp only [Act.put, List.setIfInBounds_toArray, List.set_cons_zero, List.set_cons_succ]
  refine wpAnyH_take (i := 8) (oi := ({ dst := some 34, op := .pick (.tmp 29) (.tmp 33) (.const (.bool false)), type := 4, pos := "law.go:15", after := #[{ on := 3, ground := .data }, { on := 7, ground := .data }], guard := none } : Oper)) (v := ?vs1_8) rfl awake4_plain (by as_aux_lemma => kernel_rfl) (by as_aux_lemma => kernel_rfl) (fun _ _ _ h => h) (Or.inl ⟨by rfl, ?ys1_8⟩) (by assumption) ?rs1_8
  case ys1_8 => (intro w hSw; (try dsimp only at hSw); go_simp; try with_reducible rfl)
  try simp only [Act.put, List.setIfInBounds_toArray, List.set_cons_zero, List.set_cons_succ]
  refine wpAnyH_take (i := 9) (oi := ({ dst := some 35, op := .move (.tmp 34), type := 4, pos := "law.go:15", after := #[{ on := 8, ground := .data }, { on := 6, ground := .chain }], guard := none } : Oper)) (v := ?vs1_9) rfl awake4_plain (by as_aux_lemma => kernel_rfl) (by as_aux_lemma => kernel_rfl) (fun _ _ _ h => h) (Or.inl ⟨by rfl, ?ys1_9⟩) (by assumption) ?rs1_9
  case ys1_9 => (intro w hSw; (try dsimp only at hSw); go_simp; try with_reducible rfl)
  try simp only [Act.put, List.setIfInBounds_toArray, List.set_cons_zero, List.set_cons_succ]
  refine wpAnyH_take (i := 10) (oi := ({ dst := some 36, op := .load 25 (.tmp 1), type := 25, pos := "law.go:15", after := #[{ on := 9, ground := .guard }], guard := some (9, true) } : Oper)) (v := ?vs1_10) rfl awake4_plain (by as_aux_lemma => kernel_rfl) (by as_aux_lemma => kernel_rfl) (fun _ _ _ h => h) (Or.inl ⟨by rfl, ?ys1_10⟩) (by assumption) ?rs1_10
  case ys1_10 => (intro w hSw; (try dsimp only at hSw); go_simp; try with_reducible rfl)
  try simp only [Act.put, List.setIfInBounds_toArray, List.set_cons_zero, List.set_cons_succ]
  refine wpAnyH_take (i := 11) (oi := ({ dst := some 37, op := .load 25 (.tmp 1), type := 25, pos := "law.go:15", after := #[{ on := 9, ground := .guard }], guard := some (9, true) } : Oper)) (v := ?vs1_11) rfl awake4_plain (by as_aux_lemma => kernel_rfl) (by as_aux_lemma => kernel_rfl) (fun _ _ _ h => h) (Or.inl ⟨by rfl, ?ys1_11⟩) (by assumption) ?rs1_11
  case ys1_11 => (intro w hSw; (try dsimp only at hSw); go_simp; try with_reducible rfl)
  try simp only [Act.put, List.setIfInBounds_toArray, List.set_cons_zero, List.set_cons_succ]
  refine wpAnyH_ready (rs := [12]) (by as_aux_lemma => kernel_rfl) (by simp) ?_
  refine AllReadyH.cons (o := ({ dst := some 38, op := .call { callee := .value (.func 12), args := #[.tmp 37], argTypes := #[25] }, type := 25, pos := "law.go:15", after := #[{ on := 11, ground := .data }, { on := 9, ground := .chain }, { on := 9, ground := .guard }], guard := some (9, true) } : Oper)) rfl (fun KK hK => ?_) AllReadyH.nil
  rw [if_pos (by rfl)]
  go_simp
  go_at_call 12; refine (C7.out _).mono ?_; rintro e w7 ⟨rfl, hb7⟩
  go_wp2_with fail
  refine hK.out _ _ ?_ (fun hHeld7 => ?_)
  · exact belowT (by assumption) hb7
  clear hK KK hb7 hHeld6
  try simp only [Act.put, List.setIfInBounds_toArray, List.set_cons_zero, List.set_cons_succ]
  refine wpAnyH_ready (rs := [13]) (by as_aux_lemma => kernel_rfl) (by simp) ?_
  refine AllReadyH.cons (o := ({ dst := some 39, op := .call { callee := .value (.func 11), args := #[.tmp 36, .tmp 38], argTypes := #[25, 25] }, type := 25, pos := "law.go:15", after := #[{ on := 10, ground := .data }, { on := 12, ground := .data }, { on := 12, ground := .chain }, { on := 9, ground := .guard }], guard := some (9, true) } : Oper)) rfl (fun KK hK => ?_) AllReadyH.nil
  rw [if_pos (by rfl)]
  go_simp
  go_at_call 11; refine (C8.out _).mono ?_; rintro e w8 ⟨rfl, hb8⟩
  go_wp2_with fail
  refine hK.out _ _ ?_ (fun hHeld8 => ?_)
  · exact belowT (by assumption) hb8
  clear hK KK hb8 hHeld7
  try simp only [Act.put, List.setIfInBounds_toArray, List.set_cons_zero, List.set_cons_succ]
  refine wpAnyH_ready (rs := [14]) (by as_aux_lemma => kernel_rfl) (by simp) ?_
  refine AllReadyH.cons (o := ({ dst := some 40, op := .call { callee := .value (.func 9), args := #[.const (.int .i64 1)], argTypes := #[2] }, type := 25, pos := "law.go:15", after := #[{ on := 13, ground := .chain }, { on := 9, ground := .guard }], guard := some (9, true) } : Oper)) rfl (fun KK hK => ?_) AllReadyH.nil
  rw [if_pos (by rfl)]
  go_simp
  go_at_call 9; refine (C9.out _).mono ?_; rintro e w9 ⟨rfl, hb9⟩
  go_wp2_with fail
  refine hK.out _ _ ?_ (fun hHeld9 => ?_)
  · exact belowT (by assumption) hb9
  clear hK KK hb9 hHeld8
  try simp only [Act.put, List.setIfInBounds_toArray, List.set_cons_zero, List.set_cons_succ]
  refine wpAnyH_take (i := 15) (oi := ({ dst := some 41, op := .binOp .eql 25 (.tmp 39) (.tmp 40) 25, type := 4, pos := "law.go:15", after := #[{ on := 13, ground := .data }, { on := 14, ground := .data }, { on := 9, ground := .guard }], guard := some (9, true) } : Oper)) (v := ?vs1_15) rfl awake4_plain (by as_aux_lemma => kernel_rfl) (by as_aux_lemma => kernel_rfl) (fun _ _ _ h => h) (Or.inl ⟨by rfl, ?ys1_15⟩) (by assumption) ?rs1_15
  case ys1_15 => (intro w hSw; (try dsimp only at hSw); go_simp; try with_reducible rfl)
  try simp only [Act.put, List.setIfInBounds_toArray, List.set_cons_zero, List.set_cons_succ]
  refine wpAnyH_take (i := 16) (oi := ({ dst := some 42, op := .pick (.tmp 35) (.tmp 41) (.const (.bool false)), type := 4, pos := "law.go:15", after := #[{ on := 9, ground := .data }, { on := 15, ground := .data }], guard := none } : Oper)) (v := ?vs1_16) rfl awake4_plain (by as_aux_lemma => kernel_rfl) (by as_aux_lemma => kernel_rfl) (fun _ _ _ h => h) (Or.inl ⟨by rfl, ?ys1_16⟩) (by assumption) ?rs1_16
  case ys1_16 => (intro w hSw; (try dsimp only at hSw); go_simp; try with_reducible rfl)
  try simp only [Act.put, List.setIfInBounds_toArray, List.set_cons_zero, List.set_cons_succ]
  refine wpAnyH_take (i := 17) (oi := ({ dst := some 43, op := .move (.tmp 42), type := 4, pos := "law.go:15", after := #[{ on := 16, ground := .data }, { on := 14, ground := .chain }], guard := none } : Oper)) (v := ?vs1_17) rfl awake4_plain (by as_aux_lemma => kernel_rfl) (by as_aux_lemma => kernel_rfl) (fun _ _ _ h => h) (Or.inl ⟨by rfl, ?ys1_17⟩) (by assumption) ?rs1_17
  case ys1_17 => (intro w hSw; (try dsimp only at hSw); go_simp; try with_reducible rfl)
  try simp only [Act.put, List.setIfInBounds_toArray, List.set_cons_zero, List.set_cons_succ]
  refine wpAnyH_take (i := 18) (oi := ({ dst := some 44, op := .load 23 (.tmp 2), type := 23, pos := "law.go:15", after := #[{ on := 17, ground := .guard }], guard := some (17, true) } : Oper)) (v := ?vs1_18) rfl awake4_plain (by as_aux_lemma => kernel_rfl) (by as_aux_lemma => kernel_rfl) (fun _ _ _ h => h) (Or.inl ⟨by rfl, ?ys1_18⟩) (by assumption) ?rs1_18
  case ys1_18 => (intro w hSw; (try dsimp only at hSw); go_simp; try with_reducible rfl)
  try simp only [Act.put, List.setIfInBounds_toArray, List.set_cons_zero, List.set_cons_succ]
  refine wpAnyH_take (i := 19) (oi := ({ dst := some 45, op := .build 23 #[(0, .const (.int .i64 (-24))), (1, .const (.int .i64 20)), (2, .const (.int .i64 (-5)))], type := 23, pos := "law.go:15", after := #[{ on := 17, ground := .guard }], guard := some (17, true) } : Oper)) (v := ?vs1_19) rfl awake4_plain (by as_aux_lemma => kernel_rfl) (by as_aux_lemma => kernel_rfl) (fun _ _ _ h => h) (Or.inl ⟨by rfl, ?ys1_19⟩) (by assumption) ?rs1_19
  case ys1_19 => (intro w hSw; (try dsimp only at hSw); go_simp; try with_reducible rfl)
  try simp only [Act.put, List.setIfInBounds_toArray, List.set_cons_zero, List.set_cons_succ]
  refine wpAnyH_take (i := 20) (oi := ({ dst := some 46, op := .binOp .eql 23 (.tmp 44) (.tmp 45) 23, type := 4, pos := "law.go:15", after := #[{ on := 18, ground := .data }, { on := 19, ground := .data }, { on := 17, ground := .guard }], guard := some (17, true) } : Oper)) (v := ?vs1_20) rfl awake4_plain (by as_aux_lemma => kernel_rfl) (by as_aux_lemma => kernel_rfl) (fun _ _ _ h => h) (Or.inl ⟨by rfl, ?ys1_20⟩) (by assumption) ?rs1_20
  case ys1_20 => (intro w hSw; (try dsimp only at hSw); go_simp; try with_reducible rfl)
  try simp only [Act.put, List.setIfInBounds_toArray, List.set_cons_zero, List.set_cons_succ]
  refine wpAnyH_take (i := 21) (oi := ({ dst := some 47, op := .pick (.tmp 43) (.tmp 46) (.const (.bool false)), type := 4, pos := "law.go:15", after := #[{ on := 17, ground := .data }, { on := 20, ground := .data }], guard := none } : Oper)) (v := ?vs1_21) rfl awake4_plain (by as_aux_lemma => kernel_rfl) (by as_aux_lemma => kernel_rfl) (fun _ _ _ h => h) (Or.inl ⟨by rfl, ?ys1_21⟩) (by assumption) ?rs1_21
  case ys1_21 => (intro w hSw; (try dsimp only at hSw); go_simp; try with_reducible rfl)
  try simp only [Act.put, List.setIfInBounds_toArray, List.set_cons_zero, List.set_cons_succ]
  refine wpAnyH_take (i := 22) (oi := ({ dst := some 48, op := .move (.tmp 47), type := 4, pos := "law.go:15", after := #[{ on := 21, ground := .data }, { on := 17, ground := .chain }], guard := none } : Oper)) (v := ?vs1_22) rfl awake4_plain (by as_aux_lemma => kernel_rfl) (by as_aux_lemma => kernel_rfl) (fun _ _ _ h => h) (Or.inl ⟨by rfl, ?ys1_22⟩) (by assumption) ?rs1_22
  case ys1_22 => (intro w hSw; (try dsimp only at hSw); go_simp; try with_reducible rfl)
  try simp only [Act.put, List.setIfInBounds_toArray, List.set_cons_zero, List.set_cons_succ]
  refine wpAnyH_take (i := 23) (oi := ({ dst := some 49, op := .move (.tmp 3), type := 2, pos := "law.go:15", after := #[{ on := 22, ground := .guard }], guard := some (22, true) } : Oper)) (v := ?vs1_23) rfl awake4_plain (by as_aux_lemma => kernel_rfl) (by as_aux_lemma => kernel_rfl) (fun _ _ _ h => h) (Or.inl ⟨by rfl, ?ys1_23⟩) (by assumption) ?rs1_23
  case ys1_23 => (intro w hSw; (try dsimp only at hSw); go_simp; try with_reducible rfl)
  try simp only [Act.put, List.setIfInBounds_toArray, List.set_cons_zero, List.set_cons_succ]
  refine wpAnyH_take (i := 24) (oi := ({ dst := some 50, op := .binOp .eql 2 (.tmp 49) (.const (.int .i64 1)) 2, type := 4, pos := "law.go:15", after := #[{ on := 23, ground := .data }, { on := 22, ground := .guard }], guard := some (22, true) } : Oper)) (v := ?vs1_24) rfl awake4_plain (by as_aux_lemma => kernel_rfl) (by as_aux_lemma => kernel_rfl) (fun _ _ _ h => h) (Or.inl ⟨by rfl, ?ys1_24⟩) (by assumption) ?rs1_24
  case ys1_24 => (intro w hSw; (try dsimp only at hSw); go_simp; try with_reducible rfl)
  try simp only [Act.put, List.setIfInBounds_toArray, List.set_cons_zero, List.set_cons_succ]
  refine wpAnyH_take (i := 25) (oi := ({ dst := some 51, op := .pick (.tmp 48) (.tmp 50) (.const (.bool false)), type := 4, pos := "law.go:15", after := #[{ on := 22, ground := .data }, { on := 24, ground := .data }], guard := none } : Oper)) (v := ?vs1_25) rfl awake4_plain (by as_aux_lemma => kernel_rfl) (by as_aux_lemma => kernel_rfl) (fun _ _ _ h => h) (Or.inl ⟨by rfl, ?ys1_25⟩) (by assumption) ?rs1_25
  case ys1_25 => (intro w hSw; (try dsimp only at hSw); go_simp; try with_reducible rfl)
  try simp only [Act.put, List.setIfInBounds_toArray, List.set_cons_zero, List.set_cons_succ]
  refine wpAnyH_take (i := 26) (oi := ({ dst := some 52, op := .move (.tmp 51), type := 4, pos := "law.go:15", after := #[{ on := 25, ground := .data }, { on := 22, ground := .chain }], guard := none } : Oper)) (v := ?vs1_26) rfl awake4_plain (by as_aux_lemma => kernel_rfl) (by as_aux_lemma => kernel_rfl) (fun _ _ _ h => h) (Or.inl ⟨by rfl, ?ys1_26⟩) (by assumption) ?rs1_26
  case ys1_26 => (intro w hSw; (try dsimp only at hSw); go_simp; try with_reducible rfl)
  try simp only [Act.put, List.setIfInBounds_toArray, List.set_cons_zero, List.set_cons_succ]
  refine wpAnyH_take (i := 27) (oi := ({ dst := some 53, op := .move (.tmp 4), type := 30, pos := "law.go:15", after := #[{ on := 26, ground := .guard }], guard := some (26, true) } : Oper)) (v := ?vs1_27) rfl awake4_plain (by as_aux_lemma => kernel_rfl) (by as_aux_lemma => kernel_rfl) (fun _ _ _ h => h) (Or.inl ⟨by rfl, ?ys1_27⟩) (by assumption) ?rs1_27
  case ys1_27 => (intro w hSw; (try dsimp only at hSw); go_simp; try with_reducible rfl)
  try simp only [Act.put, List.setIfInBounds_toArray, List.set_cons_zero, List.set_cons_succ]
  refine wpAnyH_take (i := 28) (oi := ({ dst := some 54, op := .binOp .eql 30 (.tmp 53) (.const (.int .i64 0)) 30, type := 4, pos := "law.go:15", after := #[{ on := 27, ground := .data }, { on := 26, ground := .guard }], guard := some (26, true) } : Oper)) (v := ?vs1_28) rfl awake4_plain (by as_aux_lemma => kernel_rfl) (by as_aux_lemma => kernel_rfl) (fun _ _ _ h => h) (Or.inl ⟨by rfl, ?ys1_28⟩) (by assumption) ?rs1_28
  case ys1_28 => (intro w hSw; (try dsimp only at hSw); go_simp; try with_reducible rfl)
  try simp only [Act.put, List.setIfInBounds_toArray, List.set_cons_zero, List.set_cons_succ]
  refine wpAnyH_take (i := 29) (oi := ({ dst := some 55, op := .pick (.tmp 52) (.tmp 54) (.const (.bool false)), type := 4, pos := "law.go:15", after := #[{ on := 26, ground := .data }, { on := 28, ground := .data }], guard := none } : Oper)) (v := ?vs1_29) rfl awake4_plain (by as_aux_lemma => kernel_rfl) (by as_aux_lemma => kernel_rfl) (fun _ _ _ h => h) (Or.inl ⟨by rfl, ?ys1_29⟩) (by assumption) ?rs1_29
  case ys1_29 => (intro w hSw; (try dsimp only at hSw); go_simp; try with_reducible rfl)
  try simp only [Act.put, List.setIfInBounds_toArray, List.set_cons_zero, List.set_cons_succ]
  refine wpAnyH_take (i := 30) (oi := ({ dst := some 56, op := .move (.tmp 55), type := 4, pos := "law.go:15", after := #[{ on := 29, ground := .data }, { on := 26, ground := .chain }], guard := none } : Oper)) (v := ?vs1_30) rfl awake4_plain (by as_aux_lemma => kernel_rfl) (by as_aux_lemma => kernel_rfl) (fun _ _ _ h => h) (Or.inl ⟨by rfl, ?ys1_30⟩) (by assumption) ?rs1_30
  case ys1_30 => (intro w hSw; (try dsimp only at hSw); go_simp; try with_reducible rfl)
  try simp only [Act.put, List.setIfInBounds_toArray, List.set_cons_zero, List.set_cons_succ]
  refine wpAnyH_take (i := 31) (oi := ({ dst := some 57, op := .move (.tmp 7), type := 30, pos := "law.go:15", after := #[{ on := 30, ground := .guard }], guard := some (30, true) } : Oper)) (v := ?vs1_31) rfl awake4_plain (by as_aux_lemma => kernel_rfl) (by as_aux_lemma => kernel_rfl) (fun _ _ _ h => h) (Or.inl ⟨by rfl, ?ys1_31⟩) (by assumption) ?rs1_31
  case ys1_31 => (intro w hSw; (try dsimp only at hSw); go_simp; try with_reducible rfl)
  try simp only [Act.put, List.setIfInBounds_toArray, List.set_cons_zero, List.set_cons_succ]
  refine wpAnyH_take (i := 32) (oi := ({ dst := some 58, op := .binOp .eql 30 (.tmp 57) (.const (.int .i64 7)) 30, type := 4, pos := "law.go:15", after := #[{ on := 31, ground := .data }, { on := 30, ground := .guard }], guard := some (30, true) } : Oper)) (v := ?vs1_32) rfl awake4_plain (by as_aux_lemma => kernel_rfl) (by as_aux_lemma => kernel_rfl) (fun _ _ _ h => h) (Or.inl ⟨by rfl, ?ys1_32⟩) (by assumption) ?rs1_32
  case ys1_32 => (intro w hSw; (try dsimp only at hSw); go_simp; try with_reducible rfl)
  try simp only [Act.put, List.setIfInBounds_toArray, List.set_cons_zero, List.set_cons_succ]
  refine wpAnyH_take (i := 33) (oi := ({ dst := some 59, op := .pick (.tmp 56) (.tmp 58) (.const (.bool false)), type := 4, pos := "law.go:15", after := #[{ on := 30, ground := .data }, { on := 32, ground := .data }], guard := none } : Oper)) (v := ?vs1_33) rfl awake4_plain (by as_aux_lemma => kernel_rfl) (by as_aux_lemma => kernel_rfl) (fun _ _ _ h => h) (Or.inl ⟨by rfl, ?ys1_33⟩) (by assumption) ?rs1_33
  case ys1_33 => (intro w hSw; (try dsimp only at hSw); go_simp; try with_reducible rfl)
  try simp only [Act.put, List.setIfInBounds_toArray, List.set_cons_zero, List.set_cons_succ]
  refine wpAnyH_take (i := 34) (oi := ({ dst := some 60, op := .move (.tmp 59), type := 4, pos := "law.go:15", after := #[{ on := 33, ground := .data }, { on := 30, ground := .chain }], guard := none } : Oper)) (v := ?vs1_34) rfl awake4_plain (by as_aux_lemma => kernel_rfl) (by as_aux_lemma => kernel_rfl) (fun _ _ _ h => h) (Or.inl ⟨by rfl, ?ys1_34⟩) (by assumption) ?rs1_34
  case ys1_34 => (intro w hSw; (try dsimp only at hSw); go_simp; try with_reducible rfl)
  try simp only [Act.put, List.setIfInBounds_toArray, List.set_cons_zero, List.set_cons_succ]
  refine wpAnyH_take (i := 35) (oi := ({ dst := some 61, op := .load 25 (.tmp 1), type := 25, pos := "law.go:15", after := #[{ on := 34, ground := .guard }], guard := some (34, true) } : Oper)) (v := ?vs1_35) rfl awake4_plain (by as_aux_lemma => kernel_rfl) (by as_aux_lemma => kernel_rfl) (fun _ _ _ h => h) (Or.inl ⟨by rfl, ?ys1_35⟩) (by assumption) ?rs1_35
  case ys1_35 => (intro w hSw; (try dsimp only at hSw); go_simp; try with_reducible rfl)
  try simp only [Act.put, List.setIfInBounds_toArray, List.set_cons_zero, List.set_cons_succ]
  refine wpAnyH_ready (rs := [36]) (by as_aux_lemma => kernel_rfl) (by simp) ?_
  refine AllReadyH.cons (o := ({ dst := some 62, op := .call { callee := .value (.func 29), args := #[.tmp 61], argTypes := #[25] }, type := 2, pos := "law.go:15", after := #[{ on := 35, ground := .data }, { on := 34, ground := .chain }, { on := 34, ground := .guard }], guard := some (34, true) } : Oper)) rfl (fun KK hK => ?_) AllReadyH.nil
  rw [if_pos (by rfl)]
  go_simp
  go_at_call 29; refine (C10.out _).mono ?_; rintro e w10 ⟨rfl, hb10⟩
  go_wp2_with fail
  refine hK.out _ _ ?_ (fun hHeld10 => ?_)
  · exact belowT (by assumption) hb10
  clear hK KK hb10 hHeld9
  try simp only [Act.put, List.setIfInBounds_toArray, List.set_cons_zero, List.set_cons_succ]
  refine wpAnyH_take (i := 37) (oi := ({ dst := some 63, op := .binOp .eql 2 (.tmp 62) (.const (.int .i64 2)) 2, type := 4, pos := "law.go:15", after := #[{ on := 36, ground := .data }, { on := 34, ground := .guard }], guard := some (34, true) } : Oper)) (v := ?vs1_37) rfl awake4_plain (by as_aux_lemma => kernel_rfl) (by as_aux_lemma => kernel_rfl) (fun _ _ _ h => h) (Or.inl ⟨by rfl, ?ys1_37⟩) (by assumption) ?rs1_37
  case ys1_37 => (intro w hSw; (try dsimp only at hSw); go_simp; try with_reducible rfl)
  try simp only [Act.put, List.setIfInBounds_toArray, List.set_cons_zero, List.set_cons_succ]
  refine wpAnyH_take (i := 38) (oi := ({ dst := some 64, op := .pick (.tmp 60) (.tmp 63) (.const (.bool false)), type := 4, pos := "law.go:15", after := #[{ on := 34, ground := .data }, { on := 37, ground := .data }], guard := none } : Oper)) (v := ?vs1_38) rfl awake4_plain (by as_aux_lemma => kernel_rfl) (by as_aux_lemma => kernel_rfl) (fun _ _ _ h => h) (Or.inl ⟨by rfl, ?ys1_38⟩) (by assumption) ?rs1_38
  case ys1_38 => (intro w hSw; (try dsimp only at hSw); go_simp; try with_reducible rfl)
  try simp only [Act.put, List.setIfInBounds_toArray, List.set_cons_zero, List.set_cons_succ]
  refine wpAnyH_take (i := 39) (oi := ({ dst := some 65, op := .move (.tmp 64), type := 4, pos := "law.go:15", after := #[{ on := 38, ground := .data }, { on := 36, ground := .chain }], guard := none } : Oper)) (v := ?vs1_39) rfl awake4_plain (by as_aux_lemma => kernel_rfl) (by as_aux_lemma => kernel_rfl) (fun _ _ _ h => h) (Or.inl ⟨by rfl, ?ys1_39⟩) (by assumption) ?rs1_39
  case ys1_39 => (intro w hSw; (try dsimp only at hSw); go_simp; try with_reducible rfl)
  try simp only [Act.put, List.setIfInBounds_toArray, List.set_cons_zero, List.set_cons_succ]
  refine wpAnyH_take (i := 40) (oi := ({ dst := some 66, op := .load 25 (.tmp 1), type := 25, pos := "law.go:15", after := #[{ on := 39, ground := .guard }], guard := some (39, true) } : Oper)) (v := ?vs1_40) rfl awake4_plain (by as_aux_lemma => kernel_rfl) (by as_aux_lemma => kernel_rfl) (fun _ _ _ h => h) (Or.inl ⟨by rfl, ?ys1_40⟩) (by assumption) ?rs1_40
  case ys1_40 => (intro w hSw; (try dsimp only at hSw); go_simp; try with_reducible rfl)
  try simp only [Act.put, List.setIfInBounds_toArray, List.set_cons_zero, List.set_cons_succ]
  refine wpAnyH_take (i := 43) (oi := ({ dst := some 69, op := .build 23 #[(0, .const (.int .i64 1)), (1, .const (.int .i64 0)), (2, .const (.int .i64 5))], type := 23, pos := "law.go:15", after := #[{ on := 39, ground := .guard }], guard := some (39, true) } : Oper)) (v := ?vs1_43) rfl awake4_plain (by as_aux_lemma => kernel_rfl) (by as_aux_lemma => kernel_rfl) (fun _ _ _ h => h) (Or.inl ⟨by rfl, ?ys1_43⟩) (by assumption) ?rs1_43
  case ys1_43 => (intro w hSw; (try dsimp only at hSw); go_simp; try with_reducible rfl)
  try simp only [Act.put, List.setIfInBounds_toArray, List.set_cons_zero, List.set_cons_succ]
  refine wpAnyH_ready (rs := [41]) (by as_aux_lemma => kernel_rfl) (by simp) ?_
  refine AllReadyH.cons (o := ({ dst := some 67, op := .call { callee := .value (.func 28), args := #[.tmp 66], argTypes := #[25] }, type := 25, pos := "law.go:15", after := #[{ on := 40, ground := .data }, { on := 39, ground := .chain }, { on := 39, ground := .guard }], guard := some (39, true) } : Oper)) rfl (fun KK hK => ?_) AllReadyH.nil
  rw [if_pos (by rfl)]
  go_simp
  go_at_call 28; refine (C11.out _).mono ?_; rintro e w11 ⟨rfl, hb11⟩
  go_wp2_with fail
  refine hK.out _ _ ?_ (fun hHeld11 => ?_)
  · exact belowT (by assumption) hb11
  clear hK KK hb11 hHeld10
  try simp only [Act.put, List.setIfInBounds_toArray, List.set_cons_zero, List.set_cons_succ]
  refine wpAnyH_take (i := 42) (oi := ({ dst := some 68, op := .index 25 (.tmp 67) (.const (.int .i64 0)), type := 23, pos := "law.go:15", after := #[{ on := 41, ground := .data }, { on := 39, ground := .guard }], guard := some (39, true) } : Oper)) (v := ?vs1_42) rfl awake4_plain (by as_aux_lemma => kernel_rfl) (by as_aux_lemma => kernel_rfl) (fun _ _ _ h => h) (Or.inl ⟨by rfl, ?ys1_42⟩) (by assumption) ?rs1_42
  case ys1_42 => (intro w hSw; (try dsimp only at hSw); go_simp; try with_reducible rfl)
  try simp only [Act.put, List.setIfInBounds_toArray, List.set_cons_zero, List.set_cons_succ]
  refine wpAnyH_take (i := 44) (oi := ({ dst := some 70, op := .binOp .eql 23 (.tmp 68) (.tmp 69) 23, type := 4, pos := "law.go:15", after := #[{ on := 42, ground := .data }, { on := 43, ground := .data }, { on := 39, ground := .guard }], guard := some (39, true) } : Oper)) (v := ?vs1_44) rfl awake4_plain (by as_aux_lemma => kernel_rfl) (by as_aux_lemma => kernel_rfl) (fun _ _ _ h => h) (Or.inl ⟨by rfl, ?ys1_44⟩) (by assumption) ?rs1_44
  case ys1_44 => (intro w hSw; (try dsimp only at hSw); go_simp; try with_reducible rfl)
  try simp only [Act.put, List.setIfInBounds_toArray, List.set_cons_zero, List.set_cons_succ]
  refine wpAnyH_take (i := 45) (oi := ({ dst := some 71, op := .pick (.tmp 65) (.tmp 70) (.const (.bool false)), type := 4, pos := "law.go:15", after := #[{ on := 39, ground := .data }, { on := 44, ground := .data }], guard := none } : Oper)) (v := ?vs1_45) rfl awake4_plain (by as_aux_lemma => kernel_rfl) (by as_aux_lemma => kernel_rfl) (fun _ _ _ h => h) (Or.inl ⟨by rfl, ?ys1_45⟩) (by assumption) ?rs1_45
  case ys1_45 => (intro w hSw; (try dsimp only at hSw); go_simp; try with_reducible rfl)
  try simp only [Act.put, List.setIfInBounds_toArray, List.set_cons_zero, List.set_cons_succ]
  refine wpAnyH_take (i := 46) (oi := ({ dst := some 72, op := .move (.tmp 71), type := 4, pos := "law.go:15", after := #[{ on := 45, ground := .data }, { on := 41, ground := .chain }], guard := none } : Oper)) (v := ?vs1_46) rfl awake4_plain (by as_aux_lemma => kernel_rfl) (by as_aux_lemma => kernel_rfl) (fun _ _ _ h => h) (Or.inl ⟨by rfl, ?ys1_46⟩) (by assumption) ?rs1_46
  case ys1_46 => (intro w hSw; (try dsimp only at hSw); go_simp; try with_reducible rfl)
  try simp only [Act.put, List.setIfInBounds_toArray, List.set_cons_zero, List.set_cons_succ]
  refine wpAnyH_take (i := 47) (oi := ({ dst := some 73, op := .load 25 (.tmp 1), type := 25, pos := "law.go:15", after := #[{ on := 46, ground := .guard }], guard := some (46, true) } : Oper)) (v := ?vs1_47) rfl awake4_plain (by as_aux_lemma => kernel_rfl) (by as_aux_lemma => kernel_rfl) (fun _ _ _ h => h) (Or.inl ⟨by rfl, ?ys1_47⟩) (by assumption) ?rs1_47
  case ys1_47 => (intro w hSw; (try dsimp only at hSw); go_simp; try with_reducible rfl)
  try simp only [Act.put, List.setIfInBounds_toArray, List.set_cons_zero, List.set_cons_succ]
  refine wpAnyH_take (i := 48) (oi := ({ dst := some 74, op := .build 23 #[(0, .const (.int .i64 1)), (1, .const (.int .i64 1)), (2, .const (.int .i64 1))], type := 23, pos := "law.go:15", after := #[{ on := 46, ground := .guard }], guard := some (46, true) } : Oper)) (v := ?vs1_48) rfl awake4_plain (by as_aux_lemma => kernel_rfl) (by as_aux_lemma => kernel_rfl) (fun _ _ _ h => h) (Or.inl ⟨by rfl, ?ys1_48⟩) (by assumption) ?rs1_48
  case ys1_48 => (intro w hSw; (try dsimp only at hSw); go_simp; try with_reducible rfl)
  try simp only [Act.put, List.setIfInBounds_toArray, List.set_cons_zero, List.set_cons_succ]
  refine wpAnyH_take (i := 50) (oi := ({ dst := some 76, op := .build 23 #[(0, .const (.int .i64 6)), (1, .const (.int .i64 5)), (2, .const (.int .i64 11))], type := 23, pos := "law.go:15", after := #[{ on := 46, ground := .guard }], guard := some (46, true) } : Oper)) (v := ?vs1_50) rfl awake4_plain (by as_aux_lemma => kernel_rfl) (by as_aux_lemma => kernel_rfl) (fun _ _ _ h => h) (Or.inl ⟨by rfl, ?ys1_50⟩) (by assumption) ?rs1_50
  case ys1_50 => (intro w hSw; (try dsimp only at hSw); go_simp; try with_reducible rfl)
  try simp only [Act.put, List.setIfInBounds_toArray, List.set_cons_zero, List.set_cons_succ]
  refine wpAnyH_ready (rs := [49]) (by as_aux_lemma => kernel_rfl) (by simp) ?_
  refine AllReadyH.cons (o := ({ dst := some 75, op := .call { callee := .value (.func 15), args := #[.tmp 73, .tmp 74], argTypes := #[25, 23] }, type := 23, pos := "law.go:15", after := #[{ on := 47, ground := .data }, { on := 48, ground := .data }, { on := 46, ground := .chain }, { on := 46, ground := .guard }], guard := some (46, true) } : Oper)) rfl (fun KK hK => ?_) AllReadyH.nil
  rw [if_pos (by rfl)]
  go_simp
  go_at_call 15; refine (C12.out _).mono ?_; rintro e w12 ⟨rfl, hb12⟩
  go_wp2_with fail
  refine hK.out _ _ ?_ (fun hHeld12 => ?_)
  · exact belowT (by assumption) hb12
  clear hK KK hb12 hHeld11
  try simp only [Act.put, List.setIfInBounds_toArray, List.set_cons_zero, List.set_cons_succ]
  refine wpAnyH_take (i := 51) (oi := ({ dst := some 77, op := .binOp .eql 23 (.tmp 75) (.tmp 76) 23, type := 4, pos := "law.go:15", after := #[{ on := 49, ground := .data }, { on := 50, ground := .data }, { on := 46, ground := .guard }], guard := some (46, true) } : Oper)) (v := ?vs1_51) rfl awake4_plain (by as_aux_lemma => kernel_rfl) (by as_aux_lemma => kernel_rfl) (fun _ _ _ h => h) (Or.inl ⟨by rfl, ?ys1_51⟩) (by assumption) ?rs1_51
  case ys1_51 => (intro w hSw; (try dsimp only at hSw); go_simp; try with_reducible rfl)
  try simp only [Act.put, List.setIfInBounds_toArray, List.set_cons_zero, List.set_cons_succ]
  refine wpAnyH_take (i := 52) (oi := ({ dst := some 78, op := .pick (.tmp 72) (.tmp 77) (.const (.bool false)), type := 4, pos := "law.go:15", after := #[{ on := 46, ground := .data }, { on := 51, ground := .data }], guard := none } : Oper)) (v := ?vs1_52) rfl awake4_plain (by as_aux_lemma => kernel_rfl) (by as_aux_lemma => kernel_rfl) (fun _ _ _ h => h) (Or.inl ⟨by rfl, ?ys1_52⟩) (by assumption) ?rs1_52
  case ys1_52 => (intro w hSw; (try dsimp only at hSw); go_simp; try with_reducible rfl)
  try simp only [Act.put, List.setIfInBounds_toArray, List.set_cons_zero, List.set_cons_succ]
  refine wpAnyH_take (i := 53) (oi := ({ dst := some 0, op := .assign (.tmp 78), type := 4, pos := "law.go:15", after := #[{ on := 52, ground := .data }, { on := 49, ground := .chain }, { on := 0, ground := .phase }, { on := 1, ground := .phase }, { on := 2, ground := .phase }, { on := 3, ground := .phase }, { on := 4, ground := .phase }, { on := 5, ground := .phase }, { on := 6, ground := .phase }, { on := 7, ground := .phase }, { on := 8, ground := .phase }, { on := 9, ground := .phase }, { on := 10, ground := .phase }, { on := 11, ground := .phase }, { on := 12, ground := .phase }, { on := 13, ground := .phase }, { on := 14, ground := .phase }, { on := 15, ground := .phase }, { on := 16, ground := .phase }, { on := 17, ground := .phase }, { on := 18, ground := .phase }, { on := 19, ground := .phase }, { on := 20, ground := .phase }, { on := 21, ground := .phase }, { on := 22, ground := .phase }, { on := 23, ground := .phase }, { on := 24, ground := .phase }, { on := 25, ground := .phase }, { on := 26, ground := .phase }, { on := 27, ground := .phase }, { on := 28, ground := .phase }, { on := 29, ground := .phase }, { on := 30, ground := .phase }, { on := 31, ground := .phase }, { on := 32, ground := .phase }, { on := 33, ground := .phase }, { on := 34, ground := .phase }, { on := 35, ground := .phase }, { on := 36, ground := .phase }, { on := 37, ground := .phase }, { on := 38, ground := .phase }, { on := 39, ground := .phase }, { on := 40, ground := .phase }, { on := 41, ground := .phase }, { on := 42, ground := .phase }, { on := 43, ground := .phase }, { on := 44, ground := .phase }, { on := 45, ground := .phase }, { on := 46, ground := .phase }, { on := 47, ground := .phase }, { on := 48, ground := .phase }, { on := 49, ground := .phase }, { on := 50, ground := .phase }, { on := 51, ground := .phase }, { on := 52, ground := .phase }], guard := none } : Oper)) (v := ?vs1_53) rfl awake4_plain (by as_aux_lemma => kernel_rfl) (by as_aux_lemma => kernel_rfl) (fun _ _ _ h => h) (Or.inl ⟨by rfl, ?ys1_53⟩) (by assumption) ?rs1_53
  case ys1_53 => (intro w hSw; (try dsimp only at hSw); go_simp; try with_reducible rfl)
  try simp only [Act.put, List.setIfInBounds_toArray, List.set_cons_zero]
  refine wpAnyH_done (by as_aux_lemma => kernel_rfl) ?_ _
  refine NoPanic.normal ?_
  go_wp2_with fail
  go_ret
  exact ⟨rfl, belowT D3 (by assumption)⟩
end Aw8
end Go.Proofs.Ytjdpcmcekockgaa
