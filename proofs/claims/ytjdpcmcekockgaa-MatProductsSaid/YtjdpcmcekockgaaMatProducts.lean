/- MatProducts: the law's walk. -/
import Derived.Test.YtjdpcmcekockgaaMatAwake
namespace Go.Proofs.Ytjdpcmcekockgaa
open Go.RowKit
/-- The operations of a drawn region, as the translation has them. -/
def prods1 : Array Oper := #[
  { dst := some 7, op := .load 25 (.tmp 3), type := 25, pos := "law.go:40", after := #[], guard := none },
  { dst := some 8, op := .load 25 (.tmp 4), type := 25, pos := "law.go:40", after := #[], guard := none },
  { dst := some 9, op := .call { callee := .value (.func 11), args := #[.tmp 7, .tmp 8], argTypes := #[25, 25] }, type := 25, pos := "law.go:40", after := #[{ on := 0, ground := .data }, { on := 1, ground := .data }], guard := none },
  { dst := some 10, op := .load 25 (.tmp 5), type := 25, pos := "law.go:40", after := #[], guard := none },
  { dst := some 11, op := .call { callee := .value (.func 11), args := #[.tmp 9, .tmp 10], argTypes := #[25, 25] }, type := 25, pos := "law.go:40", after := #[{ on := 2, ground := .data }, { on := 3, ground := .data }, { on := 2, ground := .chain }], guard := none },
  { dst := some 12, op := .load 25 (.tmp 3), type := 25, pos := "law.go:40", after := #[], guard := none },
  { dst := some 13, op := .load 25 (.tmp 4), type := 25, pos := "law.go:40", after := #[], guard := none },
  { dst := some 14, op := .load 25 (.tmp 5), type := 25, pos := "law.go:40", after := #[], guard := none },
  { dst := some 15, op := .call { callee := .value (.func 11), args := #[.tmp 13, .tmp 14], argTypes := #[25, 25] }, type := 25, pos := "law.go:40", after := #[{ on := 6, ground := .data }, { on := 7, ground := .data }, { on := 4, ground := .chain }], guard := none },
  { dst := some 16, op := .call { callee := .value (.func 11), args := #[.tmp 12, .tmp 15], argTypes := #[25, 25] }, type := 25, pos := "law.go:40", after := #[{ on := 5, ground := .data }, { on := 8, ground := .data }, { on := 8, ground := .chain }], guard := none },
  { dst := some 17, op := .binOp .eql 25 (.tmp 11) (.tmp 16) 25, type := 4, pos := "law.go:40", after := #[{ on := 4, ground := .data }, { on := 9, ground := .data }], guard := none },
  { dst := some 18, op := .move (.tmp 17), type := 4, pos := "law.go:40", after := #[{ on := 10, ground := .data }, { on := 9, ground := .chain }], guard := none },
  { dst := some 19, op := .load 25 (.tmp 3), type := 25, pos := "law.go:40", after := #[{ on := 11, ground := .guard }], guard := some (11, true) },
  { dst := some 20, op := .load 25 (.tmp 4), type := 25, pos := "law.go:40", after := #[{ on := 11, ground := .guard }], guard := some (11, true) },
  { dst := some 21, op := .call { callee := .value (.func 11), args := #[.tmp 19, .tmp 20], argTypes := #[25, 25] }, type := 25, pos := "law.go:40", after := #[{ on := 12, ground := .data }, { on := 13, ground := .data }, { on := 11, ground := .chain }, { on := 11, ground := .guard }], guard := some (11, true) },
  { dst := some 22, op := .call { callee := .value (.func 10), args := #[.tmp 21], argTypes := #[25] }, type := 2, pos := "law.go:40", after := #[{ on := 14, ground := .data }, { on := 14, ground := .chain }, { on := 11, ground := .guard }], guard := some (11, true) },
  { dst := some 23, op := .load 25 (.tmp 3), type := 25, pos := "law.go:40", after := #[{ on := 11, ground := .guard }], guard := some (11, true) },
  { dst := some 24, op := .call { callee := .value (.func 10), args := #[.tmp 23], argTypes := #[25] }, type := 2, pos := "law.go:40", after := #[{ on := 16, ground := .data }, { on := 15, ground := .chain }, { on := 11, ground := .guard }], guard := some (11, true) },
  { dst := some 25, op := .load 25 (.tmp 4), type := 25, pos := "law.go:40", after := #[{ on := 11, ground := .guard }], guard := some (11, true) },
  { dst := some 26, op := .call { callee := .value (.func 10), args := #[.tmp 25], argTypes := #[25] }, type := 2, pos := "law.go:40", after := #[{ on := 18, ground := .data }, { on := 17, ground := .chain }, { on := 11, ground := .guard }], guard := some (11, true) },
  { dst := some 27, op := .binOp .mul 2 (.tmp 24) (.tmp 26) 2, type := 2, pos := "law.go:40", after := #[{ on := 17, ground := .data }, { on := 19, ground := .data }, { on := 11, ground := .guard }], guard := some (11, true) },
  { dst := some 28, op := .binOp .eql 2 (.tmp 22) (.tmp 27) 2, type := 4, pos := "law.go:40", after := #[{ on := 15, ground := .data }, { on := 20, ground := .data }, { on := 11, ground := .guard }], guard := some (11, true) },
  { dst := some 29, op := .pick (.tmp 18) (.tmp 28) (.const (.bool false)), type := 4, pos := "law.go:40", after := #[{ on := 11, ground := .data }, { on := 21, ground := .data }], guard := none },
  { dst := some 30, op := .move (.tmp 29), type := 4, pos := "law.go:40", after := #[{ on := 22, ground := .data }, { on := 19, ground := .chain }], guard := none },
  { dst := some 31, op := .load 25 (.tmp 3), type := 25, pos := "law.go:40", after := #[{ on := 23, ground := .guard }], guard := some (23, true) },
  { dst := some 32, op := .call { callee := .value (.func 28), args := #[.tmp 31], argTypes := #[25] }, type := 25, pos := "law.go:40", after := #[{ on := 24, ground := .data }, { on := 23, ground := .chain }, { on := 23, ground := .guard }], guard := some (23, true) },
  { dst := some 33, op := .call { callee := .value (.func 28), args := #[.tmp 32], argTypes := #[25] }, type := 25, pos := "law.go:40", after := #[{ on := 25, ground := .data }, { on := 25, ground := .chain }, { on := 23, ground := .guard }], guard := some (23, true) },
  { dst := some 34, op := .load 25 (.tmp 3), type := 25, pos := "law.go:40", after := #[{ on := 23, ground := .guard }], guard := some (23, true) },
  { dst := some 35, op := .binOp .eql 25 (.tmp 33) (.tmp 34) 25, type := 4, pos := "law.go:40", after := #[{ on := 26, ground := .data }, { on := 27, ground := .data }, { on := 23, ground := .guard }], guard := some (23, true) },
  { dst := some 36, op := .pick (.tmp 30) (.tmp 35) (.const (.bool false)), type := 4, pos := "law.go:40", after := #[{ on := 23, ground := .data }, { on := 28, ground := .data }], guard := none },
  { dst := some 37, op := .move (.tmp 36), type := 4, pos := "law.go:40", after := #[{ on := 29, ground := .data }, { on := 26, ground := .chain }], guard := none },
  { dst := some 38, op := .load 25 (.tmp 3), type := 25, pos := "law.go:40", after := #[{ on := 30, ground := .guard }], guard := some (30, true) },
  { dst := some 39, op := .load 25 (.tmp 4), type := 25, pos := "law.go:40", after := #[{ on := 30, ground := .guard }], guard := some (30, true) },
  { dst := some 40, op := .call { callee := .value (.func 11), args := #[.tmp 38, .tmp 39], argTypes := #[25, 25] }, type := 25, pos := "law.go:40", after := #[{ on := 31, ground := .data }, { on := 32, ground := .data }, { on := 30, ground := .chain }, { on := 30, ground := .guard }], guard := some (30, true) },
  { dst := some 41, op := .call { callee := .value (.func 28), args := #[.tmp 40], argTypes := #[25] }, type := 25, pos := "law.go:40", after := #[{ on := 33, ground := .data }, { on := 33, ground := .chain }, { on := 30, ground := .guard }], guard := some (30, true) },
  { dst := some 42, op := .load 25 (.tmp 4), type := 25, pos := "law.go:40", after := #[{ on := 30, ground := .guard }], guard := some (30, true) },
  { dst := some 43, op := .call { callee := .value (.func 28), args := #[.tmp 42], argTypes := #[25] }, type := 25, pos := "law.go:40", after := #[{ on := 35, ground := .data }, { on := 34, ground := .chain }, { on := 30, ground := .guard }], guard := some (30, true) },
  { dst := some 44, op := .load 25 (.tmp 3), type := 25, pos := "law.go:40", after := #[{ on := 30, ground := .guard }], guard := some (30, true) },
  { dst := some 45, op := .call { callee := .value (.func 28), args := #[.tmp 44], argTypes := #[25] }, type := 25, pos := "law.go:40", after := #[{ on := 37, ground := .data }, { on := 36, ground := .chain }, { on := 30, ground := .guard }], guard := some (30, true) },
  { dst := some 46, op := .call { callee := .value (.func 11), args := #[.tmp 43, .tmp 45], argTypes := #[25, 25] }, type := 25, pos := "law.go:40", after := #[{ on := 36, ground := .data }, { on := 38, ground := .data }, { on := 38, ground := .chain }, { on := 30, ground := .guard }], guard := some (30, true) },
  { dst := some 47, op := .binOp .eql 25 (.tmp 41) (.tmp 46) 25, type := 4, pos := "law.go:40", after := #[{ on := 34, ground := .data }, { on := 39, ground := .data }, { on := 30, ground := .guard }], guard := some (30, true) },
  { dst := some 48, op := .pick (.tmp 37) (.tmp 47) (.const (.bool false)), type := 4, pos := "law.go:40", after := #[{ on := 30, ground := .data }, { on := 40, ground := .data }], guard := none },
  { dst := some 49, op := .move (.tmp 48), type := 4, pos := "law.go:40", after := #[{ on := 41, ground := .data }, { on := 39, ground := .chain }], guard := none },
  { dst := some 50, op := .load 25 (.tmp 3), type := 25, pos := "law.go:40", after := #[{ on := 42, ground := .guard }], guard := some (42, true) },
  { dst := some 51, op := .load 25 (.tmp 4), type := 25, pos := "law.go:40", after := #[{ on := 42, ground := .guard }], guard := some (42, true) },
  { dst := some 52, op := .call { callee := .value (.func 11), args := #[.tmp 50, .tmp 51], argTypes := #[25, 25] }, type := 25, pos := "law.go:40", after := #[{ on := 43, ground := .data }, { on := 44, ground := .data }, { on := 42, ground := .chain }, { on := 42, ground := .guard }], guard := some (42, true) },
  { dst := some 53, op := .call { callee := .value (.func 29), args := #[.tmp 52], argTypes := #[25] }, type := 2, pos := "law.go:40", after := #[{ on := 45, ground := .data }, { on := 45, ground := .chain }, { on := 42, ground := .guard }], guard := some (42, true) },
  { dst := some 54, op := .load 25 (.tmp 4), type := 25, pos := "law.go:40", after := #[{ on := 42, ground := .guard }], guard := some (42, true) },
  { dst := some 55, op := .load 25 (.tmp 3), type := 25, pos := "law.go:40", after := #[{ on := 42, ground := .guard }], guard := some (42, true) },
  { dst := some 56, op := .call { callee := .value (.func 11), args := #[.tmp 54, .tmp 55], argTypes := #[25, 25] }, type := 25, pos := "law.go:40", after := #[{ on := 47, ground := .data }, { on := 48, ground := .data }, { on := 46, ground := .chain }, { on := 42, ground := .guard }], guard := some (42, true) },
  { dst := some 57, op := .call { callee := .value (.func 29), args := #[.tmp 56], argTypes := #[25] }, type := 2, pos := "law.go:40", after := #[{ on := 49, ground := .data }, { on := 49, ground := .chain }, { on := 42, ground := .guard }], guard := some (42, true) },
  { dst := some 58, op := .binOp .eql 2 (.tmp 53) (.tmp 57) 2, type := 4, pos := "law.go:40", after := #[{ on := 46, ground := .data }, { on := 50, ground := .data }, { on := 42, ground := .guard }], guard := some (42, true) },
  { dst := some 59, op := .pick (.tmp 49) (.tmp 58) (.const (.bool false)), type := 4, pos := "law.go:40", after := #[{ on := 42, ground := .data }, { on := 51, ground := .data }], guard := none },
  { dst := some 60, op := .move (.tmp 59), type := 4, pos := "law.go:40", after := #[{ on := 52, ground := .data }, { on := 50, ground := .chain }], guard := none },
  { dst := some 61, op := .load 25 (.tmp 3), type := 25, pos := "law.go:40", after := #[{ on := 53, ground := .guard }], guard := some (53, true) },
  { dst := some 62, op := .call { callee := .value (.func 9), args := #[.const (.int .i64 1)], argTypes := #[2] }, type := 25, pos := "law.go:40", after := #[{ on := 53, ground := .chain }, { on := 53, ground := .guard }], guard := some (53, true) },
  { dst := some 63, op := .call { callee := .value (.func 11), args := #[.tmp 61, .tmp 62], argTypes := #[25, 25] }, type := 25, pos := "law.go:40", after := #[{ on := 54, ground := .data }, { on := 55, ground := .data }, { on := 55, ground := .chain }, { on := 53, ground := .guard }], guard := some (53, true) },
  { dst := some 64, op := .load 25 (.tmp 3), type := 25, pos := "law.go:40", after := #[{ on := 53, ground := .guard }], guard := some (53, true) },
  { dst := some 65, op := .binOp .eql 25 (.tmp 63) (.tmp 64) 25, type := 4, pos := "law.go:40", after := #[{ on := 56, ground := .data }, { on := 57, ground := .data }, { on := 53, ground := .guard }], guard := some (53, true) },
  { dst := some 66, op := .pick (.tmp 60) (.tmp 65) (.const (.bool false)), type := 4, pos := "law.go:40", after := #[{ on := 53, ground := .data }, { on := 58, ground := .data }], guard := none },
  { dst := some 67, op := .move (.tmp 66), type := 4, pos := "law.go:40", after := #[{ on := 59, ground := .data }, { on := 56, ground := .chain }], guard := none },
  { dst := some 68, op := .call { callee := .value (.func 14), args := #[], argTypes := #[] }, type := 4, pos := "law.go:40", after := #[{ on := 60, ground := .chain }, { on := 60, ground := .guard }], guard := some (60, true) },
  { dst := some 69, op := .pick (.tmp 67) (.tmp 68) (.const (.bool false)), type := 4, pos := "law.go:40", after := #[{ on := 60, ground := .data }, { on := 61, ground := .data }], guard := none },
  { dst := some 6, op := .assign (.tmp 69), type := 4, pos := "law.go:40", after := ([{ on := 62, ground := .data }, { on := 61, ground := .chain }, { on := 0, ground := .phase }, { on := 1, ground := .phase }, { on := 2, ground := .phase }, { on := 3, ground := .phase }, { on := 4, ground := .phase }, { on := 5, ground := .phase }, { on := 6, ground := .phase }, { on := 7, ground := .phase }, { on := 8, ground := .phase }, { on := 9, ground := .phase }, { on := 10, ground := .phase }, { on := 11, ground := .phase }, { on := 12, ground := .phase }, { on := 13, ground := .phase }, { on := 14, ground := .phase }, { on := 15, ground := .phase }, { on := 16, ground := .phase }, { on := 17, ground := .phase }, { on := 18, ground := .phase }, { on := 19, ground := .phase }, { on := 20, ground := .phase }, { on := 21, ground := .phase }, { on := 22, ground := .phase }, { on := 23, ground := .phase }, { on := 24, ground := .phase }, { on := 25, ground := .phase }, { on := 26, ground := .phase }, { on := 27, ground := .phase }, { on := 28, ground := .phase }, { on := 29, ground := .phase }].append [{ on := 30, ground := .phase }, { on := 31, ground := .phase }, { on := 32, ground := .phase }, { on := 33, ground := .phase }, { on := 34, ground := .phase }, { on := 35, ground := .phase }, { on := 36, ground := .phase }, { on := 37, ground := .phase }, { on := 38, ground := .phase }, { on := 39, ground := .phase }, { on := 40, ground := .phase }, { on := 41, ground := .phase }, { on := 42, ground := .phase }, { on := 43, ground := .phase }, { on := 44, ground := .phase }, { on := 45, ground := .phase }, { on := 46, ground := .phase }, { on := 47, ground := .phase }, { on := 48, ground := .phase }, { on := 49, ground := .phase }, { on := 50, ground := .phase }, { on := 51, ground := .phase }, { on := 52, ground := .phase }, { on := 53, ground := .phase }, { on := 54, ground := .phase }, { on := 55, ground := .phase }, { on := 56, ground := .phase }, { on := 57, ground := .phase }, { on := 58, ground := .phase }, { on := 59, ground := .phase }, { on := 60, ground := .phase }, { on := 61, ground := .phase }, { on := 62, ground := .phase }]).toArray, guard := none }]
theorem prods1_plain : Region.noSelect prods1 = true := by kernel_rfl

set_option maxHeartbeats 16000000 in
set_option maxRecDepth 100000 in
theorem Products8_all (a b c : M3) (w : World) :
    Calls Try.prog 7 #[mv a, mv b, mv c] w fun e w' => e = .returned (.bool true) ∧ Below w.heap.size w w' := by
  have S0 := ((St.none w).more (ml a) 25).more (ml b) 25 |>.more (ml c) 25
  simp only [heap1] at S0
  have D0 := S0.below
  obtain ⟨W0, hW0⟩ : ∃ W0, W0 = ((w.alloc (.cells (ml a).toArray 25)).alloc (.cells (ml b).toArray 25)).alloc (.cells (ml c).toArray 25) := ⟨_, rfl⟩
  rw [← hW0] at S0 D0
  have HW := Lib.hid hW0
  clear hW0
  have ma0 : ∀ w', Below W0.heap.size W0 w' → w'.cell? ⟨w.heap.size, 0, none⟩ = some (.int .i64 a.a.x.toInt) := fun w' h => (S0.keep h).at 0 rfl 0 rfl
  have ma1 : ∀ w', Below W0.heap.size W0 w' → w'.cell? ⟨w.heap.size, 1, none⟩ = some (.int .i64 a.a.y.toInt) := fun w' h => (S0.keep h).at 0 rfl 1 rfl
  have ma2 : ∀ w', Below W0.heap.size W0 w' → w'.cell? ⟨w.heap.size, 2, none⟩ = some (.int .i64 a.a.z.toInt) := fun w' h => (S0.keep h).at 0 rfl 2 rfl
  have ma3 : ∀ w', Below W0.heap.size W0 w' → w'.cell? ⟨w.heap.size, 3, none⟩ = some (.int .i64 a.b.x.toInt) := fun w' h => (S0.keep h).at 0 rfl 3 rfl
  have ma4 : ∀ w', Below W0.heap.size W0 w' → w'.cell? ⟨w.heap.size, 4, none⟩ = some (.int .i64 a.b.y.toInt) := fun w' h => (S0.keep h).at 0 rfl 4 rfl
  have ma5 : ∀ w', Below W0.heap.size W0 w' → w'.cell? ⟨w.heap.size, 5, none⟩ = some (.int .i64 a.b.z.toInt) := fun w' h => (S0.keep h).at 0 rfl 5 rfl
  have ma6 : ∀ w', Below W0.heap.size W0 w' → w'.cell? ⟨w.heap.size, 6, none⟩ = some (.int .i64 a.c.x.toInt) := fun w' h => (S0.keep h).at 0 rfl 6 rfl
  have ma7 : ∀ w', Below W0.heap.size W0 w' → w'.cell? ⟨w.heap.size, 7, none⟩ = some (.int .i64 a.c.y.toInt) := fun w' h => (S0.keep h).at 0 rfl 7 rfl
  have ma8 : ∀ w', Below W0.heap.size W0 w' → w'.cell? ⟨w.heap.size, 8, none⟩ = some (.int .i64 a.c.z.toInt) := fun w' h => (S0.keep h).at 0 rfl 8 rfl
  have mb0 : ∀ w', Below W0.heap.size W0 w' → w'.cell? ⟨w.heap.size + 1, 0, none⟩ = some (.int .i64 b.a.x.toInt) := fun w' h => (S0.keep h).at 1 rfl 0 rfl
  have mb1 : ∀ w', Below W0.heap.size W0 w' → w'.cell? ⟨w.heap.size + 1, 1, none⟩ = some (.int .i64 b.a.y.toInt) := fun w' h => (S0.keep h).at 1 rfl 1 rfl
  have mb2 : ∀ w', Below W0.heap.size W0 w' → w'.cell? ⟨w.heap.size + 1, 2, none⟩ = some (.int .i64 b.a.z.toInt) := fun w' h => (S0.keep h).at 1 rfl 2 rfl
  have mb3 : ∀ w', Below W0.heap.size W0 w' → w'.cell? ⟨w.heap.size + 1, 3, none⟩ = some (.int .i64 b.b.x.toInt) := fun w' h => (S0.keep h).at 1 rfl 3 rfl
  have mb4 : ∀ w', Below W0.heap.size W0 w' → w'.cell? ⟨w.heap.size + 1, 4, none⟩ = some (.int .i64 b.b.y.toInt) := fun w' h => (S0.keep h).at 1 rfl 4 rfl
  have mb5 : ∀ w', Below W0.heap.size W0 w' → w'.cell? ⟨w.heap.size + 1, 5, none⟩ = some (.int .i64 b.b.z.toInt) := fun w' h => (S0.keep h).at 1 rfl 5 rfl
  have mb6 : ∀ w', Below W0.heap.size W0 w' → w'.cell? ⟨w.heap.size + 1, 6, none⟩ = some (.int .i64 b.c.x.toInt) := fun w' h => (S0.keep h).at 1 rfl 6 rfl
  have mb7 : ∀ w', Below W0.heap.size W0 w' → w'.cell? ⟨w.heap.size + 1, 7, none⟩ = some (.int .i64 b.c.y.toInt) := fun w' h => (S0.keep h).at 1 rfl 7 rfl
  have mb8 : ∀ w', Below W0.heap.size W0 w' → w'.cell? ⟨w.heap.size + 1, 8, none⟩ = some (.int .i64 b.c.z.toInt) := fun w' h => (S0.keep h).at 1 rfl 8 rfl
  have mc0 : ∀ w', Below W0.heap.size W0 w' → w'.cell? ⟨w.heap.size + 1 + 1, 0, none⟩ = some (.int .i64 c.a.x.toInt) := fun w' h => (S0.keep h).at 2 rfl 0 rfl
  have mc1 : ∀ w', Below W0.heap.size W0 w' → w'.cell? ⟨w.heap.size + 1 + 1, 1, none⟩ = some (.int .i64 c.a.y.toInt) := fun w' h => (S0.keep h).at 2 rfl 1 rfl
  have mc2 : ∀ w', Below W0.heap.size W0 w' → w'.cell? ⟨w.heap.size + 1 + 1, 2, none⟩ = some (.int .i64 c.a.z.toInt) := fun w' h => (S0.keep h).at 2 rfl 2 rfl
  have mc3 : ∀ w', Below W0.heap.size W0 w' → w'.cell? ⟨w.heap.size + 1 + 1, 3, none⟩ = some (.int .i64 c.b.x.toInt) := fun w' h => (S0.keep h).at 2 rfl 3 rfl
  have mc4 : ∀ w', Below W0.heap.size W0 w' → w'.cell? ⟨w.heap.size + 1 + 1, 4, none⟩ = some (.int .i64 c.b.y.toInt) := fun w' h => (S0.keep h).at 2 rfl 4 rfl
  have mc5 : ∀ w', Below W0.heap.size W0 w' → w'.cell? ⟨w.heap.size + 1 + 1, 5, none⟩ = some (.int .i64 c.b.z.toInt) := fun w' h => (S0.keep h).at 2 rfl 5 rfl
  have mc6 : ∀ w', Below W0.heap.size W0 w' → w'.cell? ⟨w.heap.size + 1 + 1, 6, none⟩ = some (.int .i64 c.c.x.toInt) := fun w' h => (S0.keep h).at 2 rfl 6 rfl
  have mc7 : ∀ w', Below W0.heap.size W0 w' → w'.cell? ⟨w.heap.size + 1 + 1, 7, none⟩ = some (.int .i64 c.c.y.toInt) := fun w' h => (S0.keep h).at 2 rfl 7 rfl
  have mc8 : ∀ w', Below W0.heap.size W0 w' → w'.cell? ⟨w.heap.size + 1 + 1, 8, none⟩ = some (.int .i64 c.c.z.toInt) := fun w' h => (S0.keep h).at 2 rfl 8 rfl
  clear S0
  have K1 := Lib.hid fun w => Own8.Mul_any a b w
  have K2 := Lib.hid fun w => Own8.Mul_any (a.mul b) c w
  have K3 := Lib.hid fun w => Own8.Mul_any b c w
  have k4 := fun w => Own8.Mul_any a (b.mul c) w
  rw [← mul_assoc3] at k4
  have K4 := Lib.hid k4
  have k6 := fun w => Own8.Det_any (a.mul b) w
  have p0 := v_mul a.det b.det
  rw [← det_mul] at p0
  have p1 := v_mulw a.det b.det
  rw [← det_mul] at p1
  have K6 := Lib.hid k6
  have K7 := Lib.hid fun w => Own8.Det_any a w
  have K8 := Lib.hid fun w => Own8.Det_any b w
  have K9 := Lib.hid fun w => Own8.Turn_any a w
  have k10 := fun w => Own8.Turn_any a.turn w
  rw [turn_turn] at k10
  have K10 := Lib.hid k10
  have k12 := fun w => Own8.Turn_any (a.mul b) w
  rw [turn_mul] at k12
  have K12 := Lib.hid k12
  have K13 := Lib.hid fun w => Own8.Turn_any b w
  have K15 := Lib.hid fun w => Own8.Mul_any b.turn a.turn w
  have k17 := fun w => Own8.Trace_any (a.mul b) w
  have K18 := Lib.hid fun w => Own8.Mul_any b a w
  have k19 := fun w => Own8.Trace_any (b.mul a) w
  rw [← trace_mul] at k19
  have K17 := Lib.hid k17; have K19 := Lib.hid k19
  have k20 : ∀ w, Calls Try.prog 9 #[.int .i64 1] w fun e w' => e = .returned (mv (M3.unit 1)) ∧ Below w.heap.size w w' := fun w => Own8.Unit_any 1#64 w
  have K20 := Lib.hid k20
  have k21 := fun w => Own8.Mul_any a (M3.unit 1) w
  rw [mul_one3] at k21
  have K21 := Lib.hid k21
  have AW := Lib.hid Aw8.awake_any
  have ES := vec_same; have EM := mat_same
  clear k4 k6 k10 k12 k17 k19 k20 k21
  generalize (a.mul b).mul c = q at *; generalize b.mul c = r at *; generalize b.turn.mul a.turn = pt at *; generalize M3.unit 1 = u at *
  generalize (a.mul b).det.toInt = d at *; generalize a.det.toInt = da at *; generalize b.det.toInt = db at *
  generalize (a.mul b).trace.toInt = tr at *
  generalize a.mul b = p at *; generalize b.mul a = s at *; generalize a.turn = at_ at *; generalize b.turn = bt at *
  go_enter Try.func7, Try.ntmps7
  go_upto_region 1 with fail
  rw [← HW.out]
  clear HW
  try simp only [List.append_eq, List.cons_append, List.nil_append]
  change (Code.region 1 prods1 true).wp Try.prog _ _ _
  refine wp_region_noPanic ?_
  refine wp_region_held_drew (S := fun w' => Below W0.heap.size W0 w') (by kernel_rfl) ((Below.refl _ _).drew) (fun hHeld => ?_)
  refine wpAnyH_take (i := 0) (oi := ({ dst := some 7, op := .load 25 (.tmp 3), type := 25, pos := "law.go:40", after := #[], guard := none } : Oper)) (v := ?vs1_0) rfl prods1_plain (by as_aux_lemma => kernel_rfl) (by as_aux_lemma => kernel_rfl) (fun _ _ _ h => h) (Or.inl ⟨by rfl, ?ys1_0⟩) (by assumption) ?rs1_0
  case ys1_0 => (intro w hSw; (try dsimp only at hSw); go_simp; try with_reducible rfl)
  try simp only [Act.put, List.setIfInBounds_toArray, List.set_cons_zero, List.set_cons_succ]
  refine wpAnyH_take (i := 1) (oi := ({ dst := some 8, op := .load 25 (.tmp 4), type := 25, pos := "law.go:40", after := #[], guard := none } : Oper)) (v := ?vs1_1) rfl prods1_plain (by as_aux_lemma => kernel_rfl) (by as_aux_lemma => kernel_rfl) (fun _ _ _ h => h) (Or.inl ⟨by rfl, ?ys1_1⟩) (by assumption) ?rs1_1
  case ys1_1 => (intro w hSw; (try dsimp only at hSw); go_simp; try with_reducible rfl)
  try simp only [Act.put, List.setIfInBounds_toArray, List.set_cons_zero, List.set_cons_succ]
  refine wpAnyH_take (i := 3) (oi := ({ dst := some 10, op := .load 25 (.tmp 5), type := 25, pos := "law.go:40", after := #[], guard := none } : Oper)) (v := ?vs1_3) rfl prods1_plain (by as_aux_lemma => kernel_rfl) (by as_aux_lemma => kernel_rfl) (fun _ _ _ h => h) (Or.inl ⟨by rfl, ?ys1_3⟩) (by assumption) ?rs1_3
  case ys1_3 => (intro w hSw; (try dsimp only at hSw); go_simp; try with_reducible rfl)
  try simp only [Act.put, List.setIfInBounds_toArray, List.set_cons_zero, List.set_cons_succ]
  refine wpAnyH_take (i := 5) (oi := ({ dst := some 12, op := .load 25 (.tmp 3), type := 25, pos := "law.go:40", after := #[], guard := none } : Oper)) (v := ?vs1_5) rfl prods1_plain (by as_aux_lemma => kernel_rfl) (by as_aux_lemma => kernel_rfl) (fun _ _ _ h => h) (Or.inl ⟨by rfl, ?ys1_5⟩) (by assumption) ?rs1_5
  case ys1_5 => (intro w hSw; (try dsimp only at hSw); go_simp; try with_reducible rfl)
  try simp only [Act.put, List.setIfInBounds_toArray, List.set_cons_zero, List.set_cons_succ]
  refine wpAnyH_take (i := 6) (oi := ({ dst := some 13, op := .load 25 (.tmp 4), type := 25, pos := "law.go:40", after := #[], guard := none } : Oper)) (v := ?vs1_6) rfl prods1_plain (by as_aux_lemma => kernel_rfl) (by as_aux_lemma => kernel_rfl) (fun _ _ _ h => h) (Or.inl ⟨by rfl, ?ys1_6⟩) (by assumption) ?rs1_6
  case ys1_6 => (intro w hSw; (try dsimp only at hSw); go_simp; try with_reducible rfl)
  try simp only [Act.put, List.setIfInBounds_toArray, List.set_cons_zero, List.set_cons_succ]
  refine wpAnyH_take (i := 7) (oi := ({ dst := some 14, op := .load 25 (.tmp 5), type := 25, pos := "law.go:40", after := #[], guard := none } : Oper)) (v := ?vs1_7) rfl prods1_plain (by as_aux_lemma => kernel_rfl) (by as_aux_lemma => kernel_rfl) (fun _ _ _ h => h) (Or.inl ⟨by rfl, ?ys1_7⟩) (by assumption) ?rs1_7
  case ys1_7 => (intro w hSw; (try dsimp only at hSw); go_simp; try with_reducible rfl)
  try simp only [Act.put, List.setIfInBounds_toArray, List.set_cons_zero, List.set_cons_succ]
  refine wpAnyH_ready (rs := [2]) (by as_aux_lemma => kernel_rfl) (by simp) ?_
  refine AllReadyH.cons (o := ({ dst := some 9, op := .call { callee := .value (.func 11), args := #[.tmp 7, .tmp 8], argTypes := #[25, 25] }, type := 25, pos := "law.go:40", after := #[{ on := 0, ground := .data }, { on := 1, ground := .data }], guard := none } : Oper)) rfl (fun KK hK => ?_) AllReadyH.nil
  rw [if_pos (by rfl)]
  go_simp
  go_at_call 11; refine (K1.out _).mono ?_; rintro e w1 ⟨rfl, hb1⟩
  go_wp2_with fail
  refine hK.out _ _ ?_ (fun hHeld1 => ?_)
  · exact belowT (by assumption) hb1
  clear hK KK hb1
  try simp only [Act.put, List.setIfInBounds_toArray, List.set_cons_zero, List.set_cons_succ]
  refine wpAnyH_ready (rs := [4]) (by as_aux_lemma => kernel_rfl) (by simp) ?_
  refine AllReadyH.cons (o := ({ dst := some 11, op := .call { callee := .value (.func 11), args := #[.tmp 9, .tmp 10], argTypes := #[25, 25] }, type := 25, pos := "law.go:40", after := #[{ on := 2, ground := .data }, { on := 3, ground := .data }, { on := 2, ground := .chain }], guard := none } : Oper)) rfl (fun KK hK => ?_) AllReadyH.nil
  rw [if_pos (by rfl)]
  go_simp
  go_at_call 11; refine (K2.out _).mono ?_; rintro e w2 ⟨rfl, hb2⟩
  go_wp2_with fail
  refine hK.out _ _ ?_ (fun hHeld2 => ?_)
  · exact belowT (by assumption) hb2
  clear hK KK hb2 hHeld1
  try simp only [Act.put, List.setIfInBounds_toArray, List.set_cons_zero, List.set_cons_succ]
  refine wpAnyH_ready (rs := [8]) (by as_aux_lemma => kernel_rfl) (by simp) ?_
  refine AllReadyH.cons (o := ({ dst := some 15, op := .call { callee := .value (.func 11), args := #[.tmp 13, .tmp 14], argTypes := #[25, 25] }, type := 25, pos := "law.go:40", after := #[{ on := 6, ground := .data }, { on := 7, ground := .data }, { on := 4, ground := .chain }], guard := none } : Oper)) rfl (fun KK hK => ?_) AllReadyH.nil
  rw [if_pos (by rfl)]
  go_simp
  go_at_call 11; refine (K3.out _).mono ?_; rintro e w3 ⟨rfl, hb3⟩
  go_wp2_with fail
  refine hK.out _ _ ?_ (fun hHeld3 => ?_)
  · exact belowT (by assumption) hb3
  clear hK KK hb3 hHeld2
  try simp only [Act.put, List.setIfInBounds_toArray, List.set_cons_zero, List.set_cons_succ]
  refine wpAnyH_ready (rs := [9]) (by as_aux_lemma => kernel_rfl) (by simp) ?_
  refine AllReadyH.cons (o := ({ dst := some 16, op := .call { callee := .value (.func 11), args := #[.tmp 12, .tmp 15], argTypes := #[25, 25] }, type := 25, pos := "law.go:40", after := #[{ on := 5, ground := .data }, { on := 8, ground := .data }, { on := 8, ground := .chain }], guard := none } : Oper)) rfl (fun KK hK => ?_) AllReadyH.nil
  rw [if_pos (by rfl)]
  go_simp
  go_at_call 11; refine (K4.out _).mono ?_; rintro e w4 ⟨rfl, hb4⟩
  go_wp2_with fail
  refine hK.out _ _ ?_ (fun hHeld4 => ?_)
  · exact belowT (by assumption) hb4
  clear hK KK hb4 hHeld3
  try simp only [Act.put, List.setIfInBounds_toArray, List.set_cons_zero, List.set_cons_succ]
  refine wpAnyH_take (i := 10) (oi := ({ dst := some 17, op := .binOp .eql 25 (.tmp 11) (.tmp 16) 25, type := 4, pos := "law.go:40", after := #[{ on := 4, ground := .data }, { on := 9, ground := .data }], guard := none } : Oper)) (v := ?vs1_10) rfl prods1_plain (by as_aux_lemma => kernel_rfl) (by as_aux_lemma => kernel_rfl) (fun _ _ _ h => h) (Or.inl ⟨by rfl, ?ys1_10⟩) (by assumption) ?rs1_10
  case ys1_10 => (intro w hSw; (try dsimp only at hSw); go_simp; try with_reducible rfl)
  try simp only [Act.put, List.setIfInBounds_toArray, List.set_cons_zero, List.set_cons_succ]
  refine wpAnyH_take (i := 11) (oi := ({ dst := some 18, op := .move (.tmp 17), type := 4, pos := "law.go:40", after := #[{ on := 10, ground := .data }, { on := 9, ground := .chain }], guard := none } : Oper)) (v := ?vs1_11) rfl prods1_plain (by as_aux_lemma => kernel_rfl) (by as_aux_lemma => kernel_rfl) (fun _ _ _ h => h) (Or.inl ⟨by rfl, ?ys1_11⟩) (by assumption) ?rs1_11
  case ys1_11 => (intro w hSw; (try dsimp only at hSw); go_simp; try with_reducible rfl)
  try simp only [Act.put, List.setIfInBounds_toArray, List.set_cons_zero, List.set_cons_succ]
  refine wpAnyH_take (i := 12) (oi := ({ dst := some 19, op := .load 25 (.tmp 3), type := 25, pos := "law.go:40", after := #[{ on := 11, ground := .guard }], guard := some (11, true) } : Oper)) (v := ?vs1_12) rfl prods1_plain (by as_aux_lemma => kernel_rfl) (by as_aux_lemma => kernel_rfl) (fun _ _ _ h => h) (Or.inl ⟨by rfl, ?ys1_12⟩) (by assumption) ?rs1_12
  case ys1_12 => (intro w hSw; (try dsimp only at hSw); go_simp; try with_reducible rfl)
  try simp only [Act.put, List.setIfInBounds_toArray, List.set_cons_zero, List.set_cons_succ]
  refine wpAnyH_take (i := 13) (oi := ({ dst := some 20, op := .load 25 (.tmp 4), type := 25, pos := "law.go:40", after := #[{ on := 11, ground := .guard }], guard := some (11, true) } : Oper)) (v := ?vs1_13) rfl prods1_plain (by as_aux_lemma => kernel_rfl) (by as_aux_lemma => kernel_rfl) (fun _ _ _ h => h) (Or.inl ⟨by rfl, ?ys1_13⟩) (by assumption) ?rs1_13
  case ys1_13 => (intro w hSw; (try dsimp only at hSw); go_simp; try with_reducible rfl)
  try simp only [Act.put, List.setIfInBounds_toArray, List.set_cons_zero, List.set_cons_succ]
  refine wpAnyH_take (i := 16) (oi := ({ dst := some 23, op := .load 25 (.tmp 3), type := 25, pos := "law.go:40", after := #[{ on := 11, ground := .guard }], guard := some (11, true) } : Oper)) (v := ?vs1_16) rfl prods1_plain (by as_aux_lemma => kernel_rfl) (by as_aux_lemma => kernel_rfl) (fun _ _ _ h => h) (Or.inl ⟨by rfl, ?ys1_16⟩) (by assumption) ?rs1_16
  case ys1_16 => (intro w hSw; (try dsimp only at hSw); go_simp; try with_reducible rfl)
  try simp only [Act.put, List.setIfInBounds_toArray, List.set_cons_zero, List.set_cons_succ]
  refine wpAnyH_take (i := 18) (oi := ({ dst := some 25, op := .load 25 (.tmp 4), type := 25, pos := "law.go:40", after := #[{ on := 11, ground := .guard }], guard := some (11, true) } : Oper)) (v := ?vs1_18) rfl prods1_plain (by as_aux_lemma => kernel_rfl) (by as_aux_lemma => kernel_rfl) (fun _ _ _ h => h) (Or.inl ⟨by rfl, ?ys1_18⟩) (by assumption) ?rs1_18
  case ys1_18 => (intro w hSw; (try dsimp only at hSw); go_simp; try with_reducible rfl)
  try simp only [Act.put, List.setIfInBounds_toArray, List.set_cons_zero, List.set_cons_succ]
  refine wpAnyH_ready (rs := [14]) (by as_aux_lemma => kernel_rfl) (by simp) ?_
  refine AllReadyH.cons (o := ({ dst := some 21, op := .call { callee := .value (.func 11), args := #[.tmp 19, .tmp 20], argTypes := #[25, 25] }, type := 25, pos := "law.go:40", after := #[{ on := 12, ground := .data }, { on := 13, ground := .data }, { on := 11, ground := .chain }, { on := 11, ground := .guard }], guard := some (11, true) } : Oper)) rfl (fun KK hK => ?_) AllReadyH.nil
  rw [if_pos (by rfl)]
  go_simp
  go_at_call 11; refine (K1.out _).mono ?_; rintro e w5 ⟨rfl, hb5⟩
  go_wp2_with fail
  refine hK.out _ _ ?_ (fun hHeld5 => ?_)
  · exact belowT (by assumption) hb5
  clear hK KK hb5 hHeld4
  try simp only [Act.put, List.setIfInBounds_toArray, List.set_cons_zero, List.set_cons_succ]
  refine wpAnyH_ready (rs := [15]) (by as_aux_lemma => kernel_rfl) (by simp) ?_
  refine AllReadyH.cons (o := ({ dst := some 22, op := .call { callee := .value (.func 10), args := #[.tmp 21], argTypes := #[25] }, type := 2, pos := "law.go:40", after := #[{ on := 14, ground := .data }, { on := 14, ground := .chain }, { on := 11, ground := .guard }], guard := some (11, true) } : Oper)) rfl (fun KK hK => ?_) AllReadyH.nil
  rw [if_pos (by rfl)]
  go_simp
  go_at_call 10; refine (K6.out _).mono ?_; rintro e w6 ⟨rfl, hb6⟩
  go_wp2_with fail
  refine hK.out _ _ ?_ (fun hHeld6 => ?_)
  · exact belowT (by assumption) hb6
  clear hK KK hb6 hHeld5
  try simp only [Act.put, List.setIfInBounds_toArray, List.set_cons_zero, List.set_cons_succ]
  refine wpAnyH_ready (rs := [17]) (by as_aux_lemma => kernel_rfl) (by simp) ?_
  refine AllReadyH.cons (o := ({ dst := some 24, op := .call { callee := .value (.func 10), args := #[.tmp 23], argTypes := #[25] }, type := 2, pos := "law.go:40", after := #[{ on := 16, ground := .data }, { on := 15, ground := .chain }, { on := 11, ground := .guard }], guard := some (11, true) } : Oper)) rfl (fun KK hK => ?_) AllReadyH.nil
  rw [if_pos (by rfl)]
  go_simp
  go_at_call 10; refine (K7.out _).mono ?_; rintro e w7 ⟨rfl, hb7⟩
  go_wp2_with fail
  refine hK.out _ _ ?_ (fun hHeld7 => ?_)
  · exact belowT (by assumption) hb7
  clear hK KK hb7 hHeld6
  try simp only [Act.put, List.setIfInBounds_toArray, List.set_cons_zero, List.set_cons_succ]
  refine wpAnyH_ready (rs := [19]) (by as_aux_lemma => kernel_rfl) (by simp) ?_
  refine AllReadyH.cons (o := ({ dst := some 26, op := .call { callee := .value (.func 10), args := #[.tmp 25], argTypes := #[25] }, type := 2, pos := "law.go:40", after := #[{ on := 18, ground := .data }, { on := 17, ground := .chain }, { on := 11, ground := .guard }], guard := some (11, true) } : Oper)) rfl (fun KK hK => ?_) AllReadyH.nil
  rw [if_pos (by rfl)]
  go_simp
  go_at_call 10; refine (K8.out _).mono ?_; rintro e w8 ⟨rfl, hb8⟩
  go_wp2_with fail
  refine hK.out _ _ ?_ (fun hHeld8 => ?_)
  · exact belowT (by assumption) hb8
  clear hK KK hb8 hHeld7
  try simp only [Act.put, List.setIfInBounds_toArray, List.set_cons_zero, List.set_cons_succ]
  refine wpAnyH_take (i := 20) (oi := ({ dst := some 27, op := .binOp .mul 2 (.tmp 24) (.tmp 26) 2, type := 2, pos := "law.go:40", after := #[{ on := 17, ground := .data }, { on := 19, ground := .data }, { on := 11, ground := .guard }], guard := some (11, true) } : Oper)) (v := ?vs1_20) rfl prods1_plain (by as_aux_lemma => kernel_rfl) (by as_aux_lemma => kernel_rfl) (fun _ _ _ h => h) (Or.inl ⟨by rfl, ?ys1_20⟩) (by assumption) ?rs1_20
  case ys1_20 => (intro w hSw; (try dsimp only at hSw); go_simp; try with_reducible rfl)
  try simp only [Act.put, List.setIfInBounds_toArray, List.set_cons_zero, List.set_cons_succ]
  refine wpAnyH_take (i := 21) (oi := ({ dst := some 28, op := .binOp .eql 2 (.tmp 22) (.tmp 27) 2, type := 4, pos := "law.go:40", after := #[{ on := 15, ground := .data }, { on := 20, ground := .data }, { on := 11, ground := .guard }], guard := some (11, true) } : Oper)) (v := ?vs1_21) rfl prods1_plain (by as_aux_lemma => kernel_rfl) (by as_aux_lemma => kernel_rfl) (fun _ _ _ h => h) (Or.inl ⟨by rfl, ?ys1_21⟩) (by assumption) ?rs1_21
  case ys1_21 => (intro w hSw; (try dsimp only at hSw); go_simp; try with_reducible rfl)
  try simp only [Act.put, List.setIfInBounds_toArray, List.set_cons_zero, List.set_cons_succ]
  refine wpAnyH_take (i := 22) (oi := ({ dst := some 29, op := .pick (.tmp 18) (.tmp 28) (.const (.bool false)), type := 4, pos := "law.go:40", after := #[{ on := 11, ground := .data }, { on := 21, ground := .data }], guard := none } : Oper)) (v := ?vs1_22) rfl prods1_plain (by as_aux_lemma => kernel_rfl) (by as_aux_lemma => kernel_rfl) (fun _ _ _ h => h) (Or.inl ⟨by rfl, ?ys1_22⟩) (by assumption) ?rs1_22
  case ys1_22 => (intro w hSw; (try dsimp only at hSw); go_simp; try with_reducible rfl)
  try simp only [Act.put, List.setIfInBounds_toArray, List.set_cons_zero, List.set_cons_succ]
  refine wpAnyH_take (i := 23) (oi := ({ dst := some 30, op := .move (.tmp 29), type := 4, pos := "law.go:40", after := #[{ on := 22, ground := .data }, { on := 19, ground := .chain }], guard := none } : Oper)) (v := ?vs1_23) rfl prods1_plain (by as_aux_lemma => kernel_rfl) (by as_aux_lemma => kernel_rfl) (fun _ _ _ h => h) (Or.inl ⟨by rfl, ?ys1_23⟩) (by assumption) ?rs1_23
  case ys1_23 => (intro w hSw; (try dsimp only at hSw); go_simp; try with_reducible rfl)
  try simp only [Act.put, List.setIfInBounds_toArray, List.set_cons_zero, List.set_cons_succ]
  refine wpAnyH_take (i := 24) (oi := ({ dst := some 31, op := .load 25 (.tmp 3), type := 25, pos := "law.go:40", after := #[{ on := 23, ground := .guard }], guard := some (23, true) } : Oper)) (v := ?vs1_24) rfl prods1_plain (by as_aux_lemma => kernel_rfl) (by as_aux_lemma => kernel_rfl) (fun _ _ _ h => h) (Or.inl ⟨by rfl, ?ys1_24⟩) (by assumption) ?rs1_24
  case ys1_24 => (intro w hSw; (try dsimp only at hSw); go_simp; try with_reducible rfl)
  try simp only [Act.put, List.setIfInBounds_toArray, List.set_cons_zero, List.set_cons_succ]
  refine wpAnyH_take (i := 27) (oi := ({ dst := some 34, op := .load 25 (.tmp 3), type := 25, pos := "law.go:40", after := #[{ on := 23, ground := .guard }], guard := some (23, true) } : Oper)) (v := ?vs1_27) rfl prods1_plain (by as_aux_lemma => kernel_rfl) (by as_aux_lemma => kernel_rfl) (fun _ _ _ h => h) (Or.inl ⟨by rfl, ?ys1_27⟩) (by assumption) ?rs1_27
  case ys1_27 => (intro w hSw; (try dsimp only at hSw); go_simp; try with_reducible rfl)
  try simp only [Act.put, List.setIfInBounds_toArray, List.set_cons_zero, List.set_cons_succ]
  refine wpAnyH_ready (rs := [25]) (by as_aux_lemma => kernel_rfl) (by simp) ?_
  refine AllReadyH.cons (o := ({ dst := some 32, op := .call { callee := .value (.func 28), args := #[.tmp 31], argTypes := #[25] }, type := 25, pos := "law.go:40", after := #[{ on := 24, ground := .data }, { on := 23, ground := .chain }, { on := 23, ground := .guard }], guard := some (23, true) } : Oper)) rfl (fun KK hK => ?_) AllReadyH.nil
  rw [if_pos (by rfl)]
  go_simp
  go_at_call 28; refine (K9.out _).mono ?_; rintro e w9 ⟨rfl, hb9⟩
  go_wp2_with fail
  refine hK.out _ _ ?_ (fun hHeld9 => ?_)
  · exact belowT (by assumption) hb9
  clear hK KK hb9 hHeld8
  try simp only [Act.put, List.setIfInBounds_toArray, List.set_cons_zero, List.set_cons_succ]
  refine wpAnyH_ready (rs := [26]) (by as_aux_lemma => kernel_rfl) (by simp) ?_
  refine AllReadyH.cons (o := ({ dst := some 33, op := .call { callee := .value (.func 28), args := #[.tmp 32], argTypes := #[25] }, type := 25, pos := "law.go:40", after := #[{ on := 25, ground := .data }, { on := 25, ground := .chain }, { on := 23, ground := .guard }], guard := some (23, true) } : Oper)) rfl (fun KK hK => ?_) AllReadyH.nil
  rw [if_pos (by rfl)]
  go_simp
  go_at_call 28; refine (K10.out _).mono ?_; rintro e w10 ⟨rfl, hb10⟩
  go_wp2_with fail
  refine hK.out _ _ ?_ (fun hHeld10 => ?_)
  · exact belowT (by assumption) hb10
  clear hK KK hb10 hHeld9
  try simp only [Act.put, List.setIfInBounds_toArray, List.set_cons_zero, List.set_cons_succ]
  refine wpAnyH_take (i := 28) (oi := ({ dst := some 35, op := .binOp .eql 25 (.tmp 33) (.tmp 34) 25, type := 4, pos := "law.go:40", after := #[{ on := 26, ground := .data }, { on := 27, ground := .data }, { on := 23, ground := .guard }], guard := some (23, true) } : Oper)) (v := ?vs1_28) rfl prods1_plain (by as_aux_lemma => kernel_rfl) (by as_aux_lemma => kernel_rfl) (fun _ _ _ h => h) (Or.inl ⟨by rfl, ?ys1_28⟩) (by assumption) ?rs1_28
  case ys1_28 => (intro w hSw; (try dsimp only at hSw); go_simp; try with_reducible rfl)
  try simp only [Act.put, List.setIfInBounds_toArray, List.set_cons_zero, List.set_cons_succ]
  refine wpAnyH_take (i := 29) (oi := ({ dst := some 36, op := .pick (.tmp 30) (.tmp 35) (.const (.bool false)), type := 4, pos := "law.go:40", after := #[{ on := 23, ground := .data }, { on := 28, ground := .data }], guard := none } : Oper)) (v := ?vs1_29) rfl prods1_plain (by as_aux_lemma => kernel_rfl) (by as_aux_lemma => kernel_rfl) (fun _ _ _ h => h) (Or.inl ⟨by rfl, ?ys1_29⟩) (by assumption) ?rs1_29
  case ys1_29 => (intro w hSw; (try dsimp only at hSw); go_simp; try with_reducible rfl)
  try simp only [Act.put, List.setIfInBounds_toArray, List.set_cons_zero, List.set_cons_succ]
  refine wpAnyH_take (i := 30) (oi := ({ dst := some 37, op := .move (.tmp 36), type := 4, pos := "law.go:40", after := #[{ on := 29, ground := .data }, { on := 26, ground := .chain }], guard := none } : Oper)) (v := ?vs1_30) rfl prods1_plain (by as_aux_lemma => kernel_rfl) (by as_aux_lemma => kernel_rfl) (fun _ _ _ h => h) (Or.inl ⟨by rfl, ?ys1_30⟩) (by assumption) ?rs1_30
  case ys1_30 => (intro w hSw; (try dsimp only at hSw); go_simp; try with_reducible rfl)
  try simp only [Act.put, List.setIfInBounds_toArray, List.set_cons_zero, List.set_cons_succ]
  refine wpAnyH_take (i := 31) (oi := ({ dst := some 38, op := .load 25 (.tmp 3), type := 25, pos := "law.go:40", after := #[{ on := 30, ground := .guard }], guard := some (30, true) } : Oper)) (v := ?vs1_31) rfl prods1_plain (by as_aux_lemma => kernel_rfl) (by as_aux_lemma => kernel_rfl) (fun _ _ _ h => h) (Or.inl ⟨by rfl, ?ys1_31⟩) (by assumption) ?rs1_31
  case ys1_31 => (intro w hSw; (try dsimp only at hSw); go_simp; try with_reducible rfl)
  try simp only [Act.put, List.setIfInBounds_toArray, List.set_cons_zero, List.set_cons_succ]
  refine wpAnyH_take (i := 32) (oi := ({ dst := some 39, op := .load 25 (.tmp 4), type := 25, pos := "law.go:40", after := #[{ on := 30, ground := .guard }], guard := some (30, true) } : Oper)) (v := ?vs1_32) rfl prods1_plain (by as_aux_lemma => kernel_rfl) (by as_aux_lemma => kernel_rfl) (fun _ _ _ h => h) (Or.inl ⟨by rfl, ?ys1_32⟩) (by assumption) ?rs1_32
  case ys1_32 => (intro w hSw; (try dsimp only at hSw); go_simp; try with_reducible rfl)
  try simp only [Act.put, List.setIfInBounds_toArray, List.set_cons_zero, List.set_cons_succ]
  refine wpAnyH_take (i := 35) (oi := ({ dst := some 42, op := .load 25 (.tmp 4), type := 25, pos := "law.go:40", after := #[{ on := 30, ground := .guard }], guard := some (30, true) } : Oper)) (v := ?vs1_35) rfl prods1_plain (by as_aux_lemma => kernel_rfl) (by as_aux_lemma => kernel_rfl) (fun _ _ _ h => h) (Or.inl ⟨by rfl, ?ys1_35⟩) (by assumption) ?rs1_35
  case ys1_35 => (intro w hSw; (try dsimp only at hSw); go_simp; try with_reducible rfl)
  try simp only [Act.put, List.setIfInBounds_toArray, List.set_cons_zero, List.set_cons_succ]
  refine wpAnyH_take (i := 37) (oi := ({ dst := some 44, op := .load 25 (.tmp 3), type := 25, pos := "law.go:40", after := #[{ on := 30, ground := .guard }], guard := some (30, true) } : Oper)) (v := ?vs1_37) rfl prods1_plain (by as_aux_lemma => kernel_rfl) (by as_aux_lemma => kernel_rfl) (fun _ _ _ h => h) (Or.inl ⟨by rfl, ?ys1_37⟩) (by assumption) ?rs1_37
  case ys1_37 => (intro w hSw; (try dsimp only at hSw); go_simp; try with_reducible rfl)
  try simp only [Act.put, List.setIfInBounds_toArray, List.set_cons_zero, List.set_cons_succ]
  refine wpAnyH_ready (rs := [33]) (by as_aux_lemma => kernel_rfl) (by simp) ?_
  refine AllReadyH.cons (o := ({ dst := some 40, op := .call { callee := .value (.func 11), args := #[.tmp 38, .tmp 39], argTypes := #[25, 25] }, type := 25, pos := "law.go:40", after := #[{ on := 31, ground := .data }, { on := 32, ground := .data }, { on := 30, ground := .chain }, { on := 30, ground := .guard }], guard := some (30, true) } : Oper)) rfl (fun KK hK => ?_) AllReadyH.nil
  rw [if_pos (by rfl)]
  go_simp
  go_at_call 11; refine (K1.out _).mono ?_; rintro e w11 ⟨rfl, hb11⟩
  go_wp2_with fail
  refine hK.out _ _ ?_ (fun hHeld11 => ?_)
  · exact belowT (by assumption) hb11
  clear hK KK hb11 hHeld10
  try simp only [Act.put, List.setIfInBounds_toArray, List.set_cons_zero, List.set_cons_succ]
  refine wpAnyH_ready (rs := [34]) (by as_aux_lemma => kernel_rfl) (by simp) ?_
  refine AllReadyH.cons (o := ({ dst := some 41, op := .call { callee := .value (.func 28), args := #[.tmp 40], argTypes := #[25] }, type := 25, pos := "law.go:40", after := #[{ on := 33, ground := .data }, { on := 33, ground := .chain }, { on := 30, ground := .guard }], guard := some (30, true) } : Oper)) rfl (fun KK hK => ?_) AllReadyH.nil
  rw [if_pos (by rfl)]
  go_simp
  go_at_call 28; refine (K12.out _).mono ?_; rintro e w12 ⟨rfl, hb12⟩
  go_wp2_with fail
  refine hK.out _ _ ?_ (fun hHeld12 => ?_)
  · exact belowT (by assumption) hb12
  clear hK KK hb12 hHeld11
  try simp only [Act.put, List.setIfInBounds_toArray, List.set_cons_zero, List.set_cons_succ]
  refine wpAnyH_ready (rs := [36]) (by as_aux_lemma => kernel_rfl) (by simp) ?_
  refine AllReadyH.cons (o := ({ dst := some 43, op := .call { callee := .value (.func 28), args := #[.tmp 42], argTypes := #[25] }, type := 25, pos := "law.go:40", after := #[{ on := 35, ground := .data }, { on := 34, ground := .chain }, { on := 30, ground := .guard }], guard := some (30, true) } : Oper)) rfl (fun KK hK => ?_) AllReadyH.nil
  rw [if_pos (by rfl)]
  go_simp
  go_at_call 28; refine (K13.out _).mono ?_; rintro e w13 ⟨rfl, hb13⟩
  go_wp2_with fail
  refine hK.out _ _ ?_ (fun hHeld13 => ?_)
  · exact belowT (by assumption) hb13
  clear hK KK hb13 hHeld12
  try simp only [Act.put, List.setIfInBounds_toArray, List.set_cons_zero, List.set_cons_succ]
  refine wpAnyH_ready (rs := [38]) (by as_aux_lemma => kernel_rfl) (by simp) ?_
  refine AllReadyH.cons (o := ({ dst := some 45, op := .call { callee := .value (.func 28), args := #[.tmp 44], argTypes := #[25] }, type := 25, pos := "law.go:40", after := #[{ on := 37, ground := .data }, { on := 36, ground := .chain }, { on := 30, ground := .guard }], guard := some (30, true) } : Oper)) rfl (fun KK hK => ?_) AllReadyH.nil
  rw [if_pos (by rfl)]
  go_simp
  go_at_call 28; refine (K9.out _).mono ?_; rintro e w14 ⟨rfl, hb14⟩
  go_wp2_with fail
  refine hK.out _ _ ?_ (fun hHeld14 => ?_)
  · exact belowT (by assumption) hb14
  clear hK KK hb14 hHeld13
  try simp only [Act.put, List.setIfInBounds_toArray, List.set_cons_zero, List.set_cons_succ]
  refine wpAnyH_ready (rs := [39]) (by as_aux_lemma => kernel_rfl) (by simp) ?_
  refine AllReadyH.cons (o := ({ dst := some 46, op := .call { callee := .value (.func 11), args := #[.tmp 43, .tmp 45], argTypes := #[25, 25] }, type := 25, pos := "law.go:40", after := #[{ on := 36, ground := .data }, { on := 38, ground := .data }, { on := 38, ground := .chain }, { on := 30, ground := .guard }], guard := some (30, true) } : Oper)) rfl (fun KK hK => ?_) AllReadyH.nil
  rw [if_pos (by rfl)]
  go_simp
  go_at_call 11; refine (K15.out _).mono ?_; rintro e w15 ⟨rfl, hb15⟩
  go_wp2_with fail
  refine hK.out _ _ ?_ (fun hHeld15 => ?_)
  · exact belowT (by assumption) hb15
  clear hK KK hb15 hHeld14
  try simp only [Act.put, List.setIfInBounds_toArray, List.set_cons_zero, List.set_cons_succ]
  refine wpAnyH_take (i := 40) (oi := ({ dst := some 47, op := .binOp .eql 25 (.tmp 41) (.tmp 46) 25, type := 4, pos := "law.go:40", after := #[{ on := 34, ground := .data }, { on := 39, ground := .data }, { on := 30, ground := .guard }], guard := some (30, true) } : Oper)) (v := ?vs1_40) rfl prods1_plain (by as_aux_lemma => kernel_rfl) (by as_aux_lemma => kernel_rfl) (fun _ _ _ h => h) (Or.inl ⟨by rfl, ?ys1_40⟩) (by assumption) ?rs1_40
  case ys1_40 => (intro w hSw; (try dsimp only at hSw); go_simp; try with_reducible rfl)
  try simp only [Act.put, List.setIfInBounds_toArray, List.set_cons_zero, List.set_cons_succ]
  refine wpAnyH_take (i := 41) (oi := ({ dst := some 48, op := .pick (.tmp 37) (.tmp 47) (.const (.bool false)), type := 4, pos := "law.go:40", after := #[{ on := 30, ground := .data }, { on := 40, ground := .data }], guard := none } : Oper)) (v := ?vs1_41) rfl prods1_plain (by as_aux_lemma => kernel_rfl) (by as_aux_lemma => kernel_rfl) (fun _ _ _ h => h) (Or.inl ⟨by rfl, ?ys1_41⟩) (by assumption) ?rs1_41
  case ys1_41 => (intro w hSw; (try dsimp only at hSw); go_simp; try with_reducible rfl)
  try simp only [Act.put, List.setIfInBounds_toArray, List.set_cons_zero, List.set_cons_succ]
  refine wpAnyH_take (i := 42) (oi := ({ dst := some 49, op := .move (.tmp 48), type := 4, pos := "law.go:40", after := #[{ on := 41, ground := .data }, { on := 39, ground := .chain }], guard := none } : Oper)) (v := ?vs1_42) rfl prods1_plain (by as_aux_lemma => kernel_rfl) (by as_aux_lemma => kernel_rfl) (fun _ _ _ h => h) (Or.inl ⟨by rfl, ?ys1_42⟩) (by assumption) ?rs1_42
  case ys1_42 => (intro w hSw; (try dsimp only at hSw); go_simp; try with_reducible rfl)
  try simp only [Act.put, List.setIfInBounds_toArray, List.set_cons_zero, List.set_cons_succ]
  refine wpAnyH_take (i := 43) (oi := ({ dst := some 50, op := .load 25 (.tmp 3), type := 25, pos := "law.go:40", after := #[{ on := 42, ground := .guard }], guard := some (42, true) } : Oper)) (v := ?vs1_43) rfl prods1_plain (by as_aux_lemma => kernel_rfl) (by as_aux_lemma => kernel_rfl) (fun _ _ _ h => h) (Or.inl ⟨by rfl, ?ys1_43⟩) (by assumption) ?rs1_43
  case ys1_43 => (intro w hSw; (try dsimp only at hSw); go_simp; try with_reducible rfl)
  try simp only [Act.put, List.setIfInBounds_toArray, List.set_cons_zero, List.set_cons_succ]
  refine wpAnyH_take (i := 44) (oi := ({ dst := some 51, op := .load 25 (.tmp 4), type := 25, pos := "law.go:40", after := #[{ on := 42, ground := .guard }], guard := some (42, true) } : Oper)) (v := ?vs1_44) rfl prods1_plain (by as_aux_lemma => kernel_rfl) (by as_aux_lemma => kernel_rfl) (fun _ _ _ h => h) (Or.inl ⟨by rfl, ?ys1_44⟩) (by assumption) ?rs1_44
  case ys1_44 => (intro w hSw; (try dsimp only at hSw); go_simp; try with_reducible rfl)
  try simp only [Act.put, List.setIfInBounds_toArray, List.set_cons_zero, List.set_cons_succ]
  refine wpAnyH_take (i := 47) (oi := ({ dst := some 54, op := .load 25 (.tmp 4), type := 25, pos := "law.go:40", after := #[{ on := 42, ground := .guard }], guard := some (42, true) } : Oper)) (v := ?vs1_47) rfl prods1_plain (by as_aux_lemma => kernel_rfl) (by as_aux_lemma => kernel_rfl) (fun _ _ _ h => h) (Or.inl ⟨by rfl, ?ys1_47⟩) (by assumption) ?rs1_47
  case ys1_47 => (intro w hSw; (try dsimp only at hSw); go_simp; try with_reducible rfl)
  try simp only [Act.put, List.setIfInBounds_toArray, List.set_cons_zero, List.set_cons_succ]
  refine wpAnyH_take (i := 48) (oi := ({ dst := some 55, op := .load 25 (.tmp 3), type := 25, pos := "law.go:40", after := #[{ on := 42, ground := .guard }], guard := some (42, true) } : Oper)) (v := ?vs1_48) rfl prods1_plain (by as_aux_lemma => kernel_rfl) (by as_aux_lemma => kernel_rfl) (fun _ _ _ h => h) (Or.inl ⟨by rfl, ?ys1_48⟩) (by assumption) ?rs1_48
  case ys1_48 => (intro w hSw; (try dsimp only at hSw); go_simp; try with_reducible rfl)
  try simp only [Act.put, List.setIfInBounds_toArray, List.set_cons_zero, List.set_cons_succ]
  refine wpAnyH_ready (rs := [45]) (by as_aux_lemma => kernel_rfl) (by simp) ?_
  refine AllReadyH.cons (o := ({ dst := some 52, op := .call { callee := .value (.func 11), args := #[.tmp 50, .tmp 51], argTypes := #[25, 25] }, type := 25, pos := "law.go:40", after := #[{ on := 43, ground := .data }, { on := 44, ground := .data }, { on := 42, ground := .chain }, { on := 42, ground := .guard }], guard := some (42, true) } : Oper)) rfl (fun KK hK => ?_) AllReadyH.nil
  rw [if_pos (by rfl)]
  go_simp
  go_at_call 11; refine (K1.out _).mono ?_; rintro e w16 ⟨rfl, hb16⟩
  go_wp2_with fail
  refine hK.out _ _ ?_ (fun hHeld16 => ?_)
  · exact belowT (by assumption) hb16
  clear hK KK hb16 hHeld15
  try simp only [Act.put, List.setIfInBounds_toArray, List.set_cons_zero, List.set_cons_succ]
  refine wpAnyH_ready (rs := [46]) (by as_aux_lemma => kernel_rfl) (by simp) ?_
  refine AllReadyH.cons (o := ({ dst := some 53, op := .call { callee := .value (.func 29), args := #[.tmp 52], argTypes := #[25] }, type := 2, pos := "law.go:40", after := #[{ on := 45, ground := .data }, { on := 45, ground := .chain }, { on := 42, ground := .guard }], guard := some (42, true) } : Oper)) rfl (fun KK hK => ?_) AllReadyH.nil
  rw [if_pos (by rfl)]
  go_simp
  go_at_call 29; refine (K17.out _).mono ?_; rintro e w17 ⟨rfl, hb17⟩
  go_wp2_with fail
  refine hK.out _ _ ?_ (fun hHeld17 => ?_)
  · exact belowT (by assumption) hb17
  clear hK KK hb17 hHeld16
  try simp only [Act.put, List.setIfInBounds_toArray, List.set_cons_zero, List.set_cons_succ]
  refine wpAnyH_ready (rs := [49]) (by as_aux_lemma => kernel_rfl) (by simp) ?_
  refine AllReadyH.cons (o := ({ dst := some 56, op := .call { callee := .value (.func 11), args := #[.tmp 54, .tmp 55], argTypes := #[25, 25] }, type := 25, pos := "law.go:40", after := #[{ on := 47, ground := .data }, { on := 48, ground := .data }, { on := 46, ground := .chain }, { on := 42, ground := .guard }], guard := some (42, true) } : Oper)) rfl (fun KK hK => ?_) AllReadyH.nil
  rw [if_pos (by rfl)]
  go_simp
  go_at_call 11; refine (K18.out _).mono ?_; rintro e w18 ⟨rfl, hb18⟩
  go_wp2_with fail
  refine hK.out _ _ ?_ (fun hHeld18 => ?_)
  · exact belowT (by assumption) hb18
  clear hK KK hb18 hHeld17
  try simp only [Act.put, List.setIfInBounds_toArray, List.set_cons_zero, List.set_cons_succ]
  refine wpAnyH_ready (rs := [50]) (by as_aux_lemma => kernel_rfl) (by simp) ?_
  refine AllReadyH.cons (o := ({ dst := some 57, op := .call { callee := .value (.func 29), args := #[.tmp 56], argTypes := #[25] }, type := 2, pos := "law.go:40", after := #[{ on := 49, ground := .data }, { on := 49, ground := .chain }, { on := 42, ground := .guard }], guard := some (42, true) } : Oper)) rfl (fun KK hK => ?_) AllReadyH.nil
  rw [if_pos (by rfl)]
  go_simp
  go_at_call 29; refine (K19.out _).mono ?_; rintro e w19 ⟨rfl, hb19⟩
  go_wp2_with fail
  refine hK.out _ _ ?_ (fun hHeld19 => ?_)
  · exact belowT (by assumption) hb19
  clear hK KK hb19 hHeld18
  try simp only [Act.put, List.setIfInBounds_toArray, List.set_cons_zero, List.set_cons_succ]
  refine wpAnyH_take (i := 51) (oi := ({ dst := some 58, op := .binOp .eql 2 (.tmp 53) (.tmp 57) 2, type := 4, pos := "law.go:40", after := #[{ on := 46, ground := .data }, { on := 50, ground := .data }, { on := 42, ground := .guard }], guard := some (42, true) } : Oper)) (v := ?vs1_51) rfl prods1_plain (by as_aux_lemma => kernel_rfl) (by as_aux_lemma => kernel_rfl) (fun _ _ _ h => h) (Or.inl ⟨by rfl, ?ys1_51⟩) (by assumption) ?rs1_51
  case ys1_51 => (intro w hSw; (try dsimp only at hSw); go_simp; try with_reducible rfl)
  try simp only [Act.put, List.setIfInBounds_toArray, List.set_cons_zero, List.set_cons_succ]
  refine wpAnyH_take (i := 52) (oi := ({ dst := some 59, op := .pick (.tmp 49) (.tmp 58) (.const (.bool false)), type := 4, pos := "law.go:40", after := #[{ on := 42, ground := .data }, { on := 51, ground := .data }], guard := none } : Oper)) (v := ?vs1_52) rfl prods1_plain (by as_aux_lemma => kernel_rfl) (by as_aux_lemma => kernel_rfl) (fun _ _ _ h => h) (Or.inl ⟨by rfl, ?ys1_52⟩) (by assumption) ?rs1_52
  case ys1_52 => (intro w hSw; (try dsimp only at hSw); go_simp; try with_reducible rfl)
  try simp only [Act.put, List.setIfInBounds_toArray, List.set_cons_zero, List.set_cons_succ]
  refine wpAnyH_take (i := 53) (oi := ({ dst := some 60, op := .move (.tmp 59), type := 4, pos := "law.go:40", after := #[{ on := 52, ground := .data }, { on := 50, ground := .chain }], guard := none } : Oper)) (v := ?vs1_53) rfl prods1_plain (by as_aux_lemma => kernel_rfl) (by as_aux_lemma => kernel_rfl) (fun _ _ _ h => h) (Or.inl ⟨by rfl, ?ys1_53⟩) (by assumption) ?rs1_53
  case ys1_53 => (intro w hSw; (try dsimp only at hSw); go_simp; try with_reducible rfl)
  try simp only [Act.put, List.setIfInBounds_toArray, List.set_cons_zero, List.set_cons_succ]
  refine wpAnyH_take (i := 54) (oi := ({ dst := some 61, op := .load 25 (.tmp 3), type := 25, pos := "law.go:40", after := #[{ on := 53, ground := .guard }], guard := some (53, true) } : Oper)) (v := ?vs1_54) rfl prods1_plain (by as_aux_lemma => kernel_rfl) (by as_aux_lemma => kernel_rfl) (fun _ _ _ h => h) (Or.inl ⟨by rfl, ?ys1_54⟩) (by assumption) ?rs1_54
  case ys1_54 => (intro w hSw; (try dsimp only at hSw); go_simp; try with_reducible rfl)
  try simp only [Act.put, List.setIfInBounds_toArray, List.set_cons_zero, List.set_cons_succ]
  refine wpAnyH_take (i := 57) (oi := ({ dst := some 64, op := .load 25 (.tmp 3), type := 25, pos := "law.go:40", after := #[{ on := 53, ground := .guard }], guard := some (53, true) } : Oper)) (v := ?vs1_57) rfl prods1_plain (by as_aux_lemma => kernel_rfl) (by as_aux_lemma => kernel_rfl) (fun _ _ _ h => h) (Or.inl ⟨by rfl, ?ys1_57⟩) (by assumption) ?rs1_57
  case ys1_57 => (intro w hSw; (try dsimp only at hSw); go_simp; try with_reducible rfl)
  try simp only [Act.put, List.setIfInBounds_toArray, List.set_cons_zero, List.set_cons_succ]
  refine wpAnyH_ready (rs := [55]) (by as_aux_lemma => kernel_rfl) (by simp) ?_
  refine AllReadyH.cons (o := ({ dst := some 62, op := .call { callee := .value (.func 9), args := #[.const (.int .i64 1)], argTypes := #[2] }, type := 25, pos := "law.go:40", after := #[{ on := 53, ground := .chain }, { on := 53, ground := .guard }], guard := some (53, true) } : Oper)) rfl (fun KK hK => ?_) AllReadyH.nil
  rw [if_pos (by rfl)]
  go_simp
  go_at_call 9; refine (K20.out _).mono ?_; rintro e w20 ⟨rfl, hb20⟩
  go_wp2_with fail
  refine hK.out _ _ ?_ (fun hHeld20 => ?_)
  · exact belowT (by assumption) hb20
  clear hK KK hb20 hHeld19
  try simp only [Act.put, List.setIfInBounds_toArray, List.set_cons_zero, List.set_cons_succ]
  refine wpAnyH_ready (rs := [56]) (by as_aux_lemma => kernel_rfl) (by simp) ?_
  refine AllReadyH.cons (o := ({ dst := some 63, op := .call { callee := .value (.func 11), args := #[.tmp 61, .tmp 62], argTypes := #[25, 25] }, type := 25, pos := "law.go:40", after := #[{ on := 54, ground := .data }, { on := 55, ground := .data }, { on := 55, ground := .chain }, { on := 53, ground := .guard }], guard := some (53, true) } : Oper)) rfl (fun KK hK => ?_) AllReadyH.nil
  rw [if_pos (by rfl)]
  go_simp
  go_at_call 11; refine (K21.out _).mono ?_; rintro e w21 ⟨rfl, hb21⟩
  go_wp2_with fail
  refine hK.out _ _ ?_ (fun hHeld21 => ?_)
  · exact belowT (by assumption) hb21
  clear hK KK hb21 hHeld20
  try simp only [Act.put, List.setIfInBounds_toArray, List.set_cons_zero, List.set_cons_succ]
  refine wpAnyH_take (i := 58) (oi := ({ dst := some 65, op := .binOp .eql 25 (.tmp 63) (.tmp 64) 25, type := 4, pos := "law.go:40", after := #[{ on := 56, ground := .data }, { on := 57, ground := .data }, { on := 53, ground := .guard }], guard := some (53, true) } : Oper)) (v := ?vs1_58) rfl prods1_plain (by as_aux_lemma => kernel_rfl) (by as_aux_lemma => kernel_rfl) (fun _ _ _ h => h) (Or.inl ⟨by rfl, ?ys1_58⟩) (by assumption) ?rs1_58
  case ys1_58 => (intro w hSw; (try dsimp only at hSw); go_simp; try with_reducible rfl)
  try simp only [Act.put, List.setIfInBounds_toArray, List.set_cons_zero, List.set_cons_succ]
  refine wpAnyH_take (i := 59) (oi := ({ dst := some 66, op := .pick (.tmp 60) (.tmp 65) (.const (.bool false)), type := 4, pos := "law.go:40", after := #[{ on := 53, ground := .data }, { on := 58, ground := .data }], guard := none } : Oper)) (v := ?vs1_59) rfl prods1_plain (by as_aux_lemma => kernel_rfl) (by as_aux_lemma => kernel_rfl) (fun _ _ _ h => h) (Or.inl ⟨by rfl, ?ys1_59⟩) (by assumption) ?rs1_59
  case ys1_59 => (intro w hSw; (try dsimp only at hSw); go_simp; try with_reducible rfl)
  try simp only [Act.put, List.setIfInBounds_toArray, List.set_cons_zero, List.set_cons_succ]
  refine wpAnyH_take (i := 60) (oi := ({ dst := some 67, op := .move (.tmp 66), type := 4, pos := "law.go:40", after := #[{ on := 59, ground := .data }, { on := 56, ground := .chain }], guard := none } : Oper)) (v := ?vs1_60) rfl prods1_plain (by as_aux_lemma => kernel_rfl) (by as_aux_lemma => kernel_rfl) (fun _ _ _ h => h) (Or.inl ⟨by rfl, ?ys1_60⟩) (by assumption) ?rs1_60
  case ys1_60 => (intro w hSw; (try dsimp only at hSw); go_simp; try with_reducible rfl)
  try simp only [Act.put, List.setIfInBounds_toArray, List.set_cons_zero, List.set_cons_succ]
  refine wpAnyH_ready (rs := [61]) (by as_aux_lemma => kernel_rfl) (by simp) ?_
  refine AllReadyH.cons (o := ({ dst := some 68, op := .call { callee := .value (.func 14), args := #[], argTypes := #[] }, type := 4, pos := "law.go:40", after := #[{ on := 60, ground := .chain }, { on := 60, ground := .guard }], guard := some (60, true) } : Oper)) rfl (fun KK hK => ?_) AllReadyH.nil
  rw [if_pos (by rfl)]
  go_simp
  go_at_call 14; refine (AW.out _).mono ?_; rintro e w22 ⟨rfl, hb22⟩
  go_wp2_with fail
  refine hK.out _ _ ?_ (fun hHeld22 => ?_)
  · exact belowT (by assumption) hb22
  clear hK KK hb22 hHeld21
  try simp only [Act.put, List.setIfInBounds_toArray, List.set_cons_zero, List.set_cons_succ]
  refine wpAnyH_take (i := 62) (oi := ({ dst := some 69, op := .pick (.tmp 67) (.tmp 68) (.const (.bool false)), type := 4, pos := "law.go:40", after := #[{ on := 60, ground := .data }, { on := 61, ground := .data }], guard := none } : Oper)) (v := ?vs1_62) rfl prods1_plain (by as_aux_lemma => kernel_rfl) (by as_aux_lemma => kernel_rfl) (fun _ _ _ h => h) (Or.inl ⟨by rfl, ?ys1_62⟩) (by assumption) ?rs1_62
  case ys1_62 => (intro w hSw; (try dsimp only at hSw); go_simp; try with_reducible rfl)
  try simp only [Act.put, List.setIfInBounds_toArray, List.set_cons_zero, List.set_cons_succ]
  refine wpAnyH_take (i := 63) (oi := ({ dst := some 6, op := .assign (.tmp 69), type := 4, pos := "law.go:40", after := ([{ on := 62, ground := .data }, { on := 61, ground := .chain }, { on := 0, ground := .phase }, { on := 1, ground := .phase }, { on := 2, ground := .phase }, { on := 3, ground := .phase }, { on := 4, ground := .phase }, { on := 5, ground := .phase }, { on := 6, ground := .phase }, { on := 7, ground := .phase }, { on := 8, ground := .phase }, { on := 9, ground := .phase }, { on := 10, ground := .phase }, { on := 11, ground := .phase }, { on := 12, ground := .phase }, { on := 13, ground := .phase }, { on := 14, ground := .phase }, { on := 15, ground := .phase }, { on := 16, ground := .phase }, { on := 17, ground := .phase }, { on := 18, ground := .phase }, { on := 19, ground := .phase }, { on := 20, ground := .phase }, { on := 21, ground := .phase }, { on := 22, ground := .phase }, { on := 23, ground := .phase }, { on := 24, ground := .phase }, { on := 25, ground := .phase }, { on := 26, ground := .phase }, { on := 27, ground := .phase }, { on := 28, ground := .phase }, { on := 29, ground := .phase }].append [{ on := 30, ground := .phase }, { on := 31, ground := .phase }, { on := 32, ground := .phase }, { on := 33, ground := .phase }, { on := 34, ground := .phase }, { on := 35, ground := .phase }, { on := 36, ground := .phase }, { on := 37, ground := .phase }, { on := 38, ground := .phase }, { on := 39, ground := .phase }, { on := 40, ground := .phase }, { on := 41, ground := .phase }, { on := 42, ground := .phase }, { on := 43, ground := .phase }, { on := 44, ground := .phase }, { on := 45, ground := .phase }, { on := 46, ground := .phase }, { on := 47, ground := .phase }, { on := 48, ground := .phase }, { on := 49, ground := .phase }, { on := 50, ground := .phase }, { on := 51, ground := .phase }, { on := 52, ground := .phase }, { on := 53, ground := .phase }, { on := 54, ground := .phase }, { on := 55, ground := .phase }, { on := 56, ground := .phase }, { on := 57, ground := .phase }, { on := 58, ground := .phase }, { on := 59, ground := .phase }, { on := 60, ground := .phase }, { on := 61, ground := .phase }, { on := 62, ground := .phase }]).toArray, guard := none } : Oper)) (v := ?vs1_63) rfl prods1_plain (by as_aux_lemma => kernel_rfl) (by as_aux_lemma => kernel_rfl) (fun _ _ _ h => h) (Or.inl ⟨by rfl, ?ys1_63⟩) (by assumption) ?rs1_63
  case ys1_63 => (intro w hSw; (try dsimp only at hSw); go_simp; try with_reducible rfl)
  try simp only [Act.put, List.setIfInBounds_toArray, List.set_cons_zero, List.set_cons_succ]
  refine wpAnyH_done (by as_aux_lemma => kernel_rfl) ?_ _
  refine NoPanic.normal ?_
  go_wp2_with fail
  go_ret
  exact ⟨rfl, belowT D0 (by assumption)⟩
end Go.Proofs.Ytjdpcmcekockgaa
