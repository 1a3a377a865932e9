/- WideSays: the walk. -/
import Derived.Test.YtfgjkkabipmhhaaWideF
import Derived.Test.YtfgjkkabipmhhaaRefD
import Derived.Test.YtfgjkkabipmhhaaRefE
namespace Go.Proofs.Ytfgjkkabipmhhaa
open Go.RowKit

/-- A block of three cells that the walk made and only reads. -/
structure Own3 (w : World) (b : Nat) (u v x : Value) : Prop where
  c0 : w.cell? ⟨b, 0, none⟩ = some u
  c1 : w.cell? ⟨b, 1, none⟩ = some v
  c2 : w.cell? ⟨b, 2, none⟩ = some x
theorem Own3.lt {w : World} {b : Nat} {u v x : Value} (h : Own3 w b u v x) : b < w.heap.size := World.block_lt_of_cell? w _ h.c0
theorem Own3.keep {W w1 : World} {b : Nat} {u v x : Value} (h : Own3 W b u v x) (hb : Below W.heap.size W w1) : Own3 w1 b u v x := ⟨keepc hb h.c0, keepc hb h.c1, keepc hb h.c2⟩
theorem Own3.more {w : World} {b : Nat} {u v x : Value} (h : Own3 w b u v x) (o : Obj) : Own3 (w.alloc o) b u v x := h.keep (below1 w o)
theorem own3 (w : World) (u v x : Value) (t : TypeId) : Own3 (w.alloc (.cells #[u, v, x] t)) w.heap.size u v x := ⟨by simp, by simp, by simp⟩
theorem own3c (w : World) (o p : Obj) (u v x : Value) (t : TypeId) : Own3 (((w.alloc o).alloc p).alloc (.cells #[u, v, x] t)) (w.heap.size + 1 + 1) u v x := by
  have h := own3 ((w.alloc o).alloc p) u v x t
  rw [heap1, heap1] at h; exact h

/-- The operations of the last region, as the translation has them. -/
def saysOps : Array Oper := #[
  { dst := some 61, op := .indexAddr 25 (.tmp 5) (.const (.int .i64 2)), type := 0, pos := "law.go:27", after := #[], guard := none },
  { dst := some 62, op := .load 2 (.tmp 61), type := 2, pos := "law.go:27", after := #[{ on := 0, ground := .data }], guard := none },
  { dst := some 63, op := .call { callee := .value (.func 13), args := #[.tmp 62], argTypes := #[2] }, type := 24, pos := "law.go:27", after := #[{ on := 1, ground := .data }], guard := none },
  { dst := some 64, op := .indexAddr 25 (.tmp 5) (.const (.int .i64 2)), type := 0, pos := "law.go:27", after := #[], guard := none },
  { dst := some 65, op := .load 2 (.tmp 64), type := 2, pos := "law.go:27", after := #[{ on := 3, ground := .data }], guard := none },
  { dst := some 66, op := .call { callee := .value (.func 14), args := #[.tmp 65], argTypes := #[2] }, type := 24, pos := "law.go:27", after := #[{ on := 4, ground := .data }, { on := 2, ground := .chain }], guard := none },
  { dst := some 67, op := .binOp .eql 24 (.tmp 63) (.tmp 66) 24, type := 4, pos := "law.go:27", after := #[{ on := 2, ground := .data }, { on := 5, ground := .data }], guard := none },
  { dst := some 68, op := .move (.tmp 67), type := 4, pos := "law.go:27", after := #[{ on := 6, ground := .data }, { on := 5, ground := .chain }], guard := none },
  { dst := some 69, op := .indexAddr 25 (.tmp 5) (.const (.int .i64 0)), type := 0, pos := "law.go:27", after := #[{ on := 7, ground := .guard }], guard := some (7, true) },
  { dst := some 70, op := .load 2 (.tmp 69), type := 2, pos := "law.go:27", after := #[{ on := 8, ground := .data }, { on := 7, ground := .guard }], guard := some (7, true) },
  { dst := some 71, op := .indexAddr 25 (.tmp 5) (.const (.int .i64 2)), type := 0, pos := "law.go:27", after := #[{ on := 7, ground := .guard }], guard := some (7, true) },
  { dst := some 72, op := .load 2 (.tmp 71), type := 2, pos := "law.go:27", after := #[{ on := 10, ground := .data }, { on := 7, ground := .guard }], guard := some (7, true) },
  { dst := some 73, op := .call { callee := .value (.func 15), args := #[.tmp 70, .tmp 72], argTypes := #[2, 2] }, type := 24, pos := "law.go:27", after := #[{ on := 9, ground := .data }, { on := 11, ground := .data }, { on := 7, ground := .chain }, { on := 7, ground := .guard }], guard := some (7, true) },
  { dst := some 74, op := .indexAddr 25 (.tmp 5) (.const (.int .i64 0)), type := 0, pos := "law.go:27", after := #[{ on := 7, ground := .guard }], guard := some (7, true) },
  { dst := some 75, op := .load 2 (.tmp 74), type := 2, pos := "law.go:27", after := #[{ on := 13, ground := .data }, { on := 7, ground := .guard }], guard := some (7, true) },
  { dst := some 76, op := .indexAddr 25 (.tmp 5) (.const (.int .i64 2)), type := 0, pos := "law.go:27", after := #[{ on := 7, ground := .guard }], guard := some (7, true) },
  { dst := some 77, op := .load 2 (.tmp 76), type := 2, pos := "law.go:27", after := #[{ on := 15, ground := .data }, { on := 7, ground := .guard }], guard := some (7, true) },
  { dst := some 78, op := .call { callee := .value (.func 16), args := #[.tmp 75, .tmp 77], argTypes := #[2, 2] }, type := 24, pos := "law.go:27", after := #[{ on := 14, ground := .data }, { on := 16, ground := .data }, { on := 12, ground := .chain }, { on := 7, ground := .guard }], guard := some (7, true) },
  { dst := some 79, op := .binOp .eql 24 (.tmp 73) (.tmp 78) 24, type := 4, pos := "law.go:27", after := #[{ on := 12, ground := .data }, { on := 17, ground := .data }, { on := 7, ground := .guard }], guard := some (7, true) },
  { dst := some 80, op := .pick (.tmp 68) (.tmp 79) (.const (.bool false)), type := 4, pos := "law.go:27", after := #[{ on := 7, ground := .data }, { on := 18, ground := .data }], guard := none },
  { dst := some 81, op := .move (.tmp 80), type := 4, pos := "law.go:27", after := #[{ on := 19, ground := .data }, { on := 17, ground := .chain }], guard := none },
  { dst := some 82, op := .load 24 (.tmp 3), type := 24, pos := "law.go:27", after := #[{ on := 20, ground := .guard }], guard := some (20, true) },
  { dst := some 83, op := .load 24 (.tmp 4), type := 24, pos := "law.go:27", after := #[{ on := 20, ground := .guard }], guard := some (20, true) },
  { dst := some 84, op := .call { callee := .value (.func 17), args := #[.tmp 82, .tmp 83], argTypes := #[24, 24] }, type := 24, pos := "law.go:27", after := #[{ on := 21, ground := .data }, { on := 22, ground := .data }, { on := 20, ground := .chain }, { on := 20, ground := .guard }], guard := some (20, true) },
  { dst := some 85, op := .load 24 (.tmp 3), type := 24, pos := "law.go:27", after := #[{ on := 20, ground := .guard }], guard := some (20, true) },
  { dst := some 86, op := .load 24 (.tmp 4), type := 24, pos := "law.go:27", after := #[{ on := 20, ground := .guard }], guard := some (20, true) },
  { dst := some 87, op := .call { callee := .value (.func 18), args := #[.tmp 85, .tmp 86], argTypes := #[24, 24] }, type := 24, pos := "law.go:27", after := #[{ on := 24, ground := .data }, { on := 25, ground := .data }, { on := 23, ground := .chain }, { on := 20, ground := .guard }], guard := some (20, true) },
  { dst := some 88, op := .binOp .eql 24 (.tmp 84) (.tmp 87) 24, type := 4, pos := "law.go:27", after := #[{ on := 23, ground := .data }, { on := 26, ground := .data }, { on := 20, ground := .guard }], guard := some (20, true) },
  { dst := some 89, op := .pick (.tmp 81) (.tmp 88) (.const (.bool false)), type := 4, pos := "law.go:27", after := #[{ on := 20, ground := .data }, { on := 27, ground := .data }], guard := none },
  { dst := some 90, op := .move (.tmp 89), type := 4, pos := "law.go:27", after := #[{ on := 28, ground := .data }, { on := 26, ground := .chain }], guard := none },
  { dst := some 91, op := .load 24 (.tmp 3), type := 24, pos := "law.go:27", after := #[{ on := 29, ground := .guard }], guard := some (29, true) },
  { dst := some 92, op := .call { callee := .value (.func 19), args := #[.tmp 91], argTypes := #[24] }, type := 24, pos := "law.go:27", after := #[{ on := 30, ground := .data }, { on := 29, ground := .chain }, { on := 29, ground := .guard }], guard := some (29, true) },
  { dst := some 93, op := .load 24 (.tmp 3), type := 24, pos := "law.go:27", after := #[{ on := 29, ground := .guard }], guard := some (29, true) },
  { dst := some 94, op := .call { callee := .value (.func 20), args := #[.tmp 93], argTypes := #[24] }, type := 24, pos := "law.go:27", after := #[{ on := 32, ground := .data }, { on := 31, ground := .chain }, { on := 29, ground := .guard }], guard := some (29, true) },
  { dst := some 95, op := .binOp .eql 24 (.tmp 92) (.tmp 94) 24, type := 4, pos := "law.go:27", after := #[{ on := 31, ground := .data }, { on := 33, ground := .data }, { on := 29, ground := .guard }], guard := some (29, true) },
  { dst := some 96, op := .pick (.tmp 90) (.tmp 95) (.const (.bool false)), type := 4, pos := "law.go:27", after := #[{ on := 29, ground := .data }, { on := 34, ground := .data }], guard := none },
  { dst := some 97, op := .move (.tmp 96), type := 4, pos := "law.go:27", after := #[{ on := 35, ground := .data }, { on := 33, ground := .chain }], guard := none },
  { dst := some 98, op := .load 24 (.tmp 3), type := 24, pos := "law.go:27", after := #[{ on := 36, ground := .guard }], guard := some (36, true) },
  { dst := some 99, op := .call { callee := .value (.func 21), args := #[.tmp 98], argTypes := #[24] }, type := 3, pos := "law.go:27", after := #[{ on := 37, ground := .data }, { on := 36, ground := .chain }, { on := 36, ground := .guard }], guard := some (36, true) },
  { dst := some 100, op := .load 24 (.tmp 3), type := 24, pos := "law.go:27", after := #[{ on := 36, ground := .guard }], guard := some (36, true) },
  { dst := some 101, op := .call { callee := .value (.func 22), args := #[.tmp 100], argTypes := #[24] }, type := 3, pos := "law.go:27", after := #[{ on := 39, ground := .data }, { on := 38, ground := .chain }, { on := 36, ground := .guard }], guard := some (36, true) },
  { dst := some 102, op := .binOp .eql 3 (.tmp 99) (.tmp 101) 3, type := 4, pos := "law.go:27", after := #[{ on := 38, ground := .data }, { on := 40, ground := .data }, { on := 36, ground := .guard }], guard := some (36, true) },
  { dst := some 103, op := .pick (.tmp 97) (.tmp 102) (.const (.bool false)), type := 4, pos := "law.go:27", after := #[{ on := 36, ground := .data }, { on := 41, ground := .data }], guard := none },
  { dst := some 104, op := .move (.tmp 103), type := 4, pos := "law.go:27", after := #[{ on := 42, ground := .data }, { on := 40, ground := .chain }], guard := none },
  { dst := some 105, op := .load 24 (.tmp 3), type := 24, pos := "law.go:27", after := #[{ on := 43, ground := .guard }], guard := some (43, true) },
  { dst := some 106, op := .load 24 (.tmp 4), type := 24, pos := "law.go:27", after := #[{ on := 43, ground := .guard }], guard := some (43, true) },
  { dst := some 107, op := .call { callee := .value (.func 23), args := #[.tmp 105, .tmp 106], argTypes := #[24, 24] }, type := 3, pos := "law.go:27", after := #[{ on := 44, ground := .data }, { on := 45, ground := .data }, { on := 43, ground := .chain }, { on := 43, ground := .guard }], guard := some (43, true) },
  { dst := some 108, op := .load 24 (.tmp 3), type := 24, pos := "law.go:27", after := #[{ on := 43, ground := .guard }], guard := some (43, true) },
  { dst := some 109, op := .load 24 (.tmp 4), type := 24, pos := "law.go:27", after := #[{ on := 43, ground := .guard }], guard := some (43, true) },
  { dst := some 110, op := .call { callee := .value (.func 24), args := #[.tmp 108, .tmp 109], argTypes := #[24, 24] }, type := 3, pos := "law.go:27", after := #[{ on := 47, ground := .data }, { on := 48, ground := .data }, { on := 46, ground := .chain }, { on := 43, ground := .guard }], guard := some (43, true) },
  { dst := some 111, op := .binOp .eql 3 (.tmp 107) (.tmp 110) 3, type := 4, pos := "law.go:27", after := #[{ on := 46, ground := .data }, { on := 49, ground := .data }, { on := 43, ground := .guard }], guard := some (43, true) },
  { dst := some 112, op := .pick (.tmp 104) (.tmp 111) (.const (.bool false)), type := 4, pos := "law.go:27", after := #[{ on := 43, ground := .data }, { on := 50, ground := .data }], guard := none },
  { dst := some 113, op := .move (.tmp 112), type := 4, pos := "law.go:27", after := #[{ on := 51, ground := .data }, { on := 49, ground := .chain }], guard := none },
  { dst := some 114, op := .move (.tmp 7), type := 2, pos := "law.go:27", after := #[{ on := 52, ground := .guard }], guard := some (52, true) },
  { dst := some 115, op := .move (.tmp 9), type := 2, pos := "law.go:27", after := #[{ on := 52, ground := .guard }], guard := some (52, true) },
  { dst := some 116, op := .binOp .eql 2 (.tmp 114) (.tmp 115) 2, type := 4, pos := "law.go:27", after := #[{ on := 53, ground := .data }, { on := 54, ground := .data }, { on := 52, ground := .guard }], guard := some (52, true) },
  { dst := some 117, op := .pick (.tmp 113) (.tmp 116) (.const (.bool false)), type := 4, pos := "law.go:27", after := #[{ on := 52, ground := .data }, { on := 55, ground := .data }], guard := none },
  { dst := some 118, op := .move (.tmp 117), type := 4, pos := "law.go:27", after := #[{ on := 56, ground := .data }, { on := 52, ground := .chain }], guard := none },
  { dst := some 119, op := .move (.tmp 8), type := 26, pos := "law.go:27", after := #[{ on := 57, ground := .guard }], guard := some (57, true) },
  { dst := some 120, op := .move (.tmp 10), type := 26, pos := "law.go:27", after := #[{ on := 57, ground := .guard }], guard := some (57, true) },
  { dst := some 121, op := .binOp .eql 26 (.tmp 119) (.tmp 120) 26, type := 4, pos := "law.go:27", after := #[{ on := 58, ground := .data }, { on := 59, ground := .data }, { on := 57, ground := .guard }], guard := some (57, true) },
  { dst := some 122, op := .pick (.tmp 118) (.tmp 121) (.const (.bool false)), type := 4, pos := "law.go:27", after := #[{ on := 57, ground := .data }, { on := 60, ground := .data }], guard := none },
  { dst := some 123, op := .move (.tmp 122), type := 4, pos := "law.go:27", after := #[{ on := 61, ground := .data }, { on := 57, ground := .chain }], guard := none },
  { dst := some 124, op := .load 24 (.tmp 11), type := 24, pos := "law.go:27", after := #[{ on := 62, ground := .guard }], guard := some (62, true) },
  { dst := some 125, op := .load 24 (.tmp 14), type := 24, pos := "law.go:27", after := #[{ on := 62, ground := .guard }], guard := some (62, true) },
  { dst := some 126, op := .binOp .eql 24 (.tmp 124) (.tmp 125) 24, type := 4, pos := "law.go:27", after := #[{ on := 63, ground := .data }, { on := 64, ground := .data }, { on := 62, ground := .guard }], guard := some (62, true) },
  { dst := some 127, op := .pick (.tmp 123) (.tmp 126) (.const (.bool false)), type := 4, pos := "law.go:27", after := #[{ on := 62, ground := .data }, { on := 65, ground := .data }], guard := none },
  { dst := some 128, op := .move (.tmp 127), type := 4, pos := "law.go:27", after := #[{ on := 66, ground := .data }, { on := 62, ground := .chain }], guard := none },
  { dst := some 129, op := .move (.tmp 12), type := 2, pos := "law.go:27", after := #[{ on := 67, ground := .guard }], guard := some (67, true) },
  { dst := some 130, op := .move (.tmp 15), type := 2, pos := "law.go:27", after := #[{ on := 67, ground := .guard }], guard := some (67, true) },
  { dst := some 131, op := .binOp .eql 2 (.tmp 129) (.tmp 130) 2, type := 4, pos := "law.go:27", after := #[{ on := 68, ground := .data }, { on := 69, ground := .data }, { on := 67, ground := .guard }], guard := some (67, true) },
  { dst := some 132, op := .pick (.tmp 128) (.tmp 131) (.const (.bool false)), type := 4, pos := "law.go:27", after := #[{ on := 67, ground := .data }, { on := 70, ground := .data }], guard := none },
  { dst := some 133, op := .move (.tmp 132), type := 4, pos := "law.go:27", after := #[{ on := 71, ground := .data }, { on := 67, ground := .chain }], guard := none },
  { dst := some 134, op := .move (.tmp 13), type := 26, pos := "law.go:27", after := #[{ on := 72, ground := .guard }], guard := some (72, true) },
  { dst := some 135, op := .move (.tmp 16), type := 26, pos := "law.go:27", after := #[{ on := 72, ground := .guard }], guard := some (72, true) },
  { dst := some 136, op := .binOp .eql 26 (.tmp 134) (.tmp 135) 26, type := 4, pos := "law.go:27", after := #[{ on := 73, ground := .data }, { on := 74, ground := .data }, { on := 72, ground := .guard }], guard := some (72, true) },
  { dst := some 137, op := .pick (.tmp 133) (.tmp 136) (.const (.bool false)), type := 4, pos := "law.go:27", after := #[{ on := 72, ground := .data }, { on := 75, ground := .data }], guard := none },
  { dst := some 138, op := .move (.tmp 137), type := 4, pos := "law.go:27", after := #[{ on := 76, ground := .data }, { on := 72, ground := .chain }], guard := none },
  { dst := some 139, op := .load 24 (.tmp 17), type := 24, pos := "law.go:27", after := #[{ on := 77, ground := .guard }], guard := some (77, true) },
  { dst := some 140, op := .load 24 (.tmp 19), type := 24, pos := "law.go:27", after := #[{ on := 77, ground := .guard }], guard := some (77, true) },
  { dst := some 141, op := .binOp .eql 24 (.tmp 139) (.tmp 140) 24, type := 4, pos := "law.go:27", after := #[{ on := 78, ground := .data }, { on := 79, ground := .data }, { on := 77, ground := .guard }], guard := some (77, true) },
  { dst := some 142, op := .pick (.tmp 138) (.tmp 141) (.const (.bool false)), type := 4, pos := "law.go:27", after := #[{ on := 77, ground := .data }, { on := 80, ground := .data }], guard := none },
  { dst := some 143, op := .move (.tmp 142), type := 4, pos := "law.go:27", after := #[{ on := 81, ground := .data }, { on := 77, ground := .chain }], guard := none },
  { dst := some 144, op := .move (.tmp 18), type := 26, pos := "law.go:27", after := #[{ on := 82, ground := .guard }], guard := some (82, true) },
  { dst := some 145, op := .move (.tmp 20), type := 26, pos := "law.go:27", after := #[{ on := 82, ground := .guard }], guard := some (82, true) },
  { dst := some 146, op := .binOp .eql 26 (.tmp 144) (.tmp 145) 26, type := 4, pos := "law.go:27", after := #[{ on := 83, ground := .data }, { on := 84, ground := .data }, { on := 82, ground := .guard }], guard := some (82, true) },
  { dst := some 147, op := .pick (.tmp 143) (.tmp 146) (.const (.bool false)), type := 4, pos := "law.go:27", after := #[{ on := 82, ground := .data }, { on := 85, ground := .data }], guard := none },
  { dst := some 148, op := .move (.tmp 147), type := 4, pos := "law.go:27", after := #[{ on := 86, ground := .data }, { on := 82, ground := .chain }], guard := none },
  { dst := some 149, op := .call { callee := .value (.func 25), args := #[], argTypes := #[] }, type := 4, pos := "law.go:27", after := #[{ on := 87, ground := .chain }, { on := 87, ground := .guard }], guard := some (87, true) },
  { dst := some 150, op := .pick (.tmp 148) (.tmp 149) (.const (.bool false)), type := 4, pos := "law.go:27", after := #[{ on := 87, ground := .data }, { on := 88, ground := .data }], guard := none },
  { dst := some 6, op := .assign (.tmp 150), type := 4, pos := "law.go:27", after := ([{ on := 89, ground := .data }, { on := 88, ground := .chain }, { on := 0, ground := .phase }, { on := 1, ground := .phase }, { on := 2, ground := .phase }, { on := 3, ground := .phase }, { on := 4, ground := .phase }, { on := 5, ground := .phase }, { on := 6, ground := .phase }, { on := 7, ground := .phase }, { on := 8, ground := .phase }, { on := 9, ground := .phase }, { on := 10, ground := .phase }, { on := 11, ground := .phase }, { on := 12, ground := .phase }, { on := 13, ground := .phase }, { on := 14, ground := .phase }, { on := 15, ground := .phase }, { on := 16, ground := .phase }, { on := 17, ground := .phase }, { on := 18, ground := .phase }, { on := 19, ground := .phase }, { on := 20, ground := .phase }, { on := 21, ground := .phase }, { on := 22, ground := .phase }, { on := 23, ground := .phase }, { on := 24, ground := .phase }, { on := 25, ground := .phase }, { on := 26, ground := .phase }, { on := 27, ground := .phase }, { on := 28, ground := .phase }, { on := 29, ground := .phase }, { on := 30, ground := .phase }, { on := 31, ground := .phase }, { on := 32, ground := .phase }, { on := 33, ground := .phase }, { on := 34, ground := .phase }, { on := 35, ground := .phase }, { on := 36, ground := .phase }, { on := 37, ground := .phase }, { on := 38, ground := .phase }, { on := 39, ground := .phase }, { on := 40, ground := .phase }, { on := 41, ground := .phase }, { on := 42, ground := .phase }, { on := 43, ground := .phase }].append [{ on := 44, ground := .phase }, { on := 45, ground := .phase }, { on := 46, ground := .phase }, { on := 47, ground := .phase }, { on := 48, ground := .phase }, { on := 49, ground := .phase }, { on := 50, ground := .phase }, { on := 51, ground := .phase }, { on := 52, ground := .phase }, { on := 53, ground := .phase }, { on := 54, ground := .phase }, { on := 55, ground := .phase }, { on := 56, ground := .phase }, { on := 57, ground := .phase }, { on := 58, ground := .phase }, { on := 59, ground := .phase }, { on := 60, ground := .phase }, { on := 61, ground := .phase }, { on := 62, ground := .phase }, { on := 63, ground := .phase }, { on := 64, ground := .phase }, { on := 65, ground := .phase }, { on := 66, ground := .phase }, { on := 67, ground := .phase }, { on := 68, ground := .phase }, { on := 69, ground := .phase }, { on := 70, ground := .phase }, { on := 71, ground := .phase }, { on := 72, ground := .phase }, { on := 73, ground := .phase }, { on := 74, ground := .phase }, { on := 75, ground := .phase }, { on := 76, ground := .phase }, { on := 77, ground := .phase }, { on := 78, ground := .phase }, { on := 79, ground := .phase }, { on := 80, ground := .phase }, { on := 81, ground := .phase }, { on := 82, ground := .phase }, { on := 83, ground := .phase }, { on := 84, ground := .phase }, { on := 85, ground := .phase }, { on := 86, ground := .phase }, { on := 87, ground := .phase }, { on := 88, ground := .phase }, { on := 89, ground := .phase }]).toArray, guard := none }]
theorem saysOps_plain : Region.noSelect saysOps = true := by kernel_rfl

set_option maxHeartbeats 4000000 in
set_option maxRecDepth 100000 in
theorem says_core (h1 l1 h2 l2 n0 n1 n2 nv ne hq lq rq eq hs ls es ho lo hm lm ha la hn ln gs gc : Int) (w : World)
    (N1 : Hid (∀ w, Calls Try.prog 7 #[.agg #[.int .i64 h1, .int .u64 l1]] w fun e w' => e = .returned (.tuple #[.int .i64 nv, .int .i64 ne]) ∧ Below w.heap.size w w'))
    (N2 : Hid (∀ w, Calls Try.prog 8 #[.agg #[.int .i64 h1, .int .u64 l1]] w fun e w' => e = .returned (.tuple #[.int .i64 nv, .int .i64 ne]) ∧ Below w.heap.size w w'))
    (D1 : Hid (∀ w, Calls Try.prog 9 #[.agg #[.int .i64 h1, .int .u64 l1], .int .i64 n0] w fun e w' => e = .returned (.tuple #[.agg #[.int .i64 hq, .int .u64 lq], .int .i64 rq, .int .i64 eq]) ∧ Below w.heap.size w w'))
    (D2 : Hid (∀ w, Calls Try.prog 10 #[.agg #[.int .i64 h1, .int .u64 l1], .int .i64 n0] w fun e w' => e = .returned (.tuple #[.agg #[.int .i64 hq, .int .u64 lq], .int .i64 rq, .int .i64 eq]) ∧ Below w.heap.size w w'))
    (S1 : Hid (∀ w, Calls Try.prog 11 #[.agg #[.int .i64 h1, .int .u64 l1], .int .i64 n1] w fun e w' => e = .returned (.tuple #[.agg #[.int .i64 hs, .int .u64 ls], .int .i64 es]) ∧ Below w.heap.size w w'))
    (S2 : Hid (∀ w, Calls Try.prog 12 #[.agg #[.int .i64 h1, .int .u64 l1], .int .i64 n1] w fun e w' => e = .returned (.tuple #[.agg #[.int .i64 hs, .int .u64 ls], .int .i64 es]) ∧ Below w.heap.size w w'))
    (O1 : Hid (∀ w, Calls Try.prog 13 #[.int .i64 n2] w fun e w' => e = .returned (.agg #[.int .i64 ho, .int .u64 lo]) ∧ Below w.heap.size w w'))
    (O2 : Hid (∀ w, Calls Try.prog 14 #[.int .i64 n2] w fun e w' => e = .returned (.agg #[.int .i64 ho, .int .u64 lo]) ∧ Below w.heap.size w w'))
    (M1 : Hid (∀ w, Calls Try.prog 15 #[.int .i64 n0, .int .i64 n2] w fun e w' => e = .returned (.agg #[.int .i64 hm, .int .u64 lm]) ∧ Below w.heap.size w w'))
    (M2 : Hid (∀ w, Calls Try.prog 16 #[.int .i64 n0, .int .i64 n2] w fun e w' => e = .returned (.agg #[.int .i64 hm, .int .u64 lm]) ∧ Below w.heap.size w w'))
    (A1 : Hid (∀ w, Calls Try.prog 17 #[.agg #[.int .i64 h1, .int .u64 l1], .agg #[.int .i64 h2, .int .u64 l2]] w fun e w' => e = .returned (.agg #[.int .i64 ha, .int .u64 la]) ∧ Below w.heap.size w w'))
    (A2 : Hid (∀ w, Calls Try.prog 18 #[.agg #[.int .i64 h1, .int .u64 l1], .agg #[.int .i64 h2, .int .u64 l2]] w fun e w' => e = .returned (.agg #[.int .i64 ha, .int .u64 la]) ∧ Below w.heap.size w w'))
    (G1 : Hid (∀ w, Calls Try.prog 19 #[.agg #[.int .i64 h1, .int .u64 l1]] w fun e w' => e = .returned (.agg #[.int .i64 hn, .int .u64 ln]) ∧ Below w.heap.size w w'))
    (G2 : Hid (∀ w, Calls Try.prog 20 #[.agg #[.int .i64 h1, .int .u64 l1]] w fun e w' => e = .returned (.agg #[.int .i64 hn, .int .u64 ln]) ∧ Below w.heap.size w w'))
    (T1 : Hid (∀ w, Calls Try.prog 21 #[.agg #[.int .i64 h1, .int .u64 l1]] w fun e w' => e = .returned (.int .i64 gs) ∧ Below w.heap.size w w'))
    (T2 : Hid (∀ w, Calls Try.prog 22 #[.agg #[.int .i64 h1, .int .u64 l1]] w fun e w' => e = .returned (.int .i64 gs) ∧ Below w.heap.size w w'))
    (C1 : Hid (∀ w, Calls Try.prog 23 #[.agg #[.int .i64 h1, .int .u64 l1], .agg #[.int .i64 h2, .int .u64 l2]] w fun e w' => e = .returned (.int .i64 gc) ∧ Below w.heap.size w w'))
    (C2 : Hid (∀ w, Calls Try.prog 24 #[.agg #[.int .i64 h1, .int .u64 l1], .agg #[.int .i64 h2, .int .u64 l2]] w fun e w' => e = .returned (.int .i64 gc) ∧ Below w.heap.size w w'))
    (K : Hid (∀ w, Calls Try.prog 25 #[] w fun e w' => e = .returned (.bool true) ∧ Below w.heap.size w w')) :
    Calls Try.prog 3 #[.agg #[.int .i64 h1, .int .u64 l1], .agg #[.int .i64 h2, .int .u64 l2], .agg #[.int .i64 n0, .int .i64 n1, .int .i64 n2]] w fun e w' => e = .returned (.bool true) ∧ Below w.heap.size w w' := by
  go_enter Try.func3, Try.ntmps3
  go_wp2_with fail
  refine (N1.out _).mono ?_; rintro e w1 ⟨rfl, hb1⟩
  have B1 := belowT (below3 w _ _ _) hb1
  have X1 := (((own2 w _ _ _).more _).more _).keep hb1; have X1a := X1.c0; have X1b := X1.c1; have X1c := X1.f0; have X1d := X1.f1; have X1l := X1.lt
  have Y1 := ((own2b w _ _ _ _).more _).keep hb1; have Y1a := Y1.c0; have Y1b := Y1.c1; have Y1c := Y1.f0; have Y1d := Y1.f1; have Y1l := Y1.lt
  have Z31 := (own3c w _ _ _ _ _ _).keep hb1; have Z31a := Z31.c0; have Z31b := Z31.c1; have Z31c := Z31.c2; have Z31l := Z31.lt
  go_wp2_with fail
  refine (N2.out _).mono ?_; rintro e w2 ⟨rfl, hb2⟩
  have B2 := belowT (B1) hb2
  have X2 := (X1).keep hb2; have X2a := X2.c0; have X2b := X2.c1; have X2c := X2.f0; have X2d := X2.f1; have X2l := X2.lt
  have Y2 := (Y1).keep hb2; have Y2a := Y2.c0; have Y2b := Y2.c1; have Y2c := Y2.f0; have Y2d := Y2.f1; have Y2l := Y2.lt
  have Z32 := (Z31).keep hb2; have Z32a := Z32.c0; have Z32b := Z32.c1; have Z32c := Z32.c2; have Z32l := Z32.lt
  go_wp2_with fail
  refine (D1.out _).mono ?_; rintro e w3 ⟨rfl, hb3⟩
  have B3 := belowT (B2) hb3
  have X3 := (X2).keep hb3; have X3a := X3.c0; have X3b := X3.c1; have X3c := X3.f0; have X3d := X3.f1; have X3l := X3.lt
  have Y3 := (Y2).keep hb3; have Y3a := Y3.c0; have Y3b := Y3.c1; have Y3c := Y3.f0; have Y3d := Y3.f1; have Y3l := Y3.lt
  have Z33 := (Z32).keep hb3; have Z33a := Z33.c0; have Z33b := Z33.c1; have Z33c := Z33.c2; have Z33l := Z33.lt
  go_wp2_with fail
  refine (D2.out _).mono ?_; rintro e w4 ⟨rfl, hb4⟩
  have B4 := belowT (belowT B3 (below1 _ _)) hb4
  have X4 := (X3.more _).keep hb4; have X4a := X4.c0; have X4b := X4.c1; have X4c := X4.f0; have X4d := X4.f1; have X4l := X4.lt
  have Y4 := (Y3.more _).keep hb4; have Y4a := Y4.c0; have Y4b := Y4.c1; have Y4c := Y4.f0; have Y4d := Y4.f1; have Y4l := Y4.lt
  have Z34 := (Z33.more _).keep hb4; have Z34a := Z34.c0; have Z34b := Z34.c1; have Z34c := Z34.c2; have Z34l := Z34.lt
  have P4 := (own2 w3 _ _ _).keep hb4; have P4a := P4.c0; have P4b := P4.c1; have P4c := P4.f0; have P4d := P4.f1; have P4l := P4.lt
  go_wp2_with fail
  refine (S1.out _).mono ?_; rintro e w5 ⟨rfl, hb5⟩
  have B5 := belowT (belowT B4 (below1 _ _)) hb5
  have X5 := (X4.more _).keep hb5; have X5a := X5.c0; have X5b := X5.c1; have X5c := X5.f0; have X5d := X5.f1; have X5l := X5.lt
  have Y5 := (Y4.more _).keep hb5; have Y5a := Y5.c0; have Y5b := Y5.c1; have Y5c := Y5.f0; have Y5d := Y5.f1; have Y5l := Y5.lt
  have Z35 := (Z34.more _).keep hb5; have Z35a := Z35.c0; have Z35b := Z35.c1; have Z35c := Z35.c2; have Z35l := Z35.lt
  have P5 := (P4.more _).keep hb5; have P5a := P5.c0; have P5b := P5.c1; have P5c := P5.f0; have P5d := P5.f1; have P5l := P5.lt
  have Q5 := (own2 w4 _ _ _).keep hb5; have Q5a := Q5.c0; have Q5b := Q5.c1; have Q5c := Q5.f0; have Q5d := Q5.f1; have Q5l := Q5.lt
  go_wp2_with fail
  refine (S2.out _).mono ?_; rintro e w6 ⟨rfl, hb6⟩
  have B6 := belowT (belowT B5 (below1 _ _)) hb6
  have X6 := (X5.more _).keep hb6; have X6a := X6.c0; have X6b := X6.c1; have X6c := X6.f0; have X6d := X6.f1; have X6l := X6.lt
  have Y6 := (Y5.more _).keep hb6; have Y6a := Y6.c0; have Y6b := Y6.c1; have Y6c := Y6.f0; have Y6d := Y6.f1; have Y6l := Y6.lt
  have Z36 := (Z35.more _).keep hb6; have Z36a := Z36.c0; have Z36b := Z36.c1; have Z36c := Z36.c2; have Z36l := Z36.lt
  have P6 := (P5.more _).keep hb6; have P6a := P6.c0; have P6b := P6.c1; have P6c := P6.f0; have P6d := P6.f1; have P6l := P6.lt
  have Q6 := (Q5.more _).keep hb6; have Q6a := Q6.c0; have Q6b := Q6.c1; have Q6c := Q6.f0; have Q6d := Q6.f1; have Q6l := Q6.lt
  have T6 := (own2 w5 _ _ _).keep hb6; have T6a := T6.c0; have T6b := T6.c1; have T6c := T6.f0; have T6d := T6.f1; have T6l := T6.lt
  go_wp2_with fail
  have B7 := belowT B6 (below1 w6 (.cells #[.int .i64 hs, .int .u64 ls] 24))
  have X7 := X6.more (.cells #[.int .i64 hs, .int .u64 ls] 24)
  have Y7 := Y6.more (.cells #[.int .i64 hs, .int .u64 ls] 24)
  have Z7 := Z36.more (.cells #[.int .i64 hs, .int .u64 ls] 24)
  have P7 := P6.more (.cells #[.int .i64 hs, .int .u64 ls] 24)
  have Q7 := Q6.more (.cells #[.int .i64 hs, .int .u64 ls] 24)
  have T7 := T6.more (.cells #[.int .i64 hs, .int .u64 ls] 24)
  have U7 := own2 w6 (.int .i64 hs) (.int .u64 ls) 24
  generalize w6.alloc (.cells #[.int .i64 hs, .int .u64 ls] 24) = W0 at *
  have xr0 : ∀ w', Below W0.heap.size W0 w' → w'.cell? ⟨w.heap.size, 0, none⟩ = some (.int .i64 h1) := fun w' hb => keepc hb X7.c0
  have xr1 : ∀ w', Below W0.heap.size W0 w' → w'.cell? ⟨w.heap.size, 1, none⟩ = some (.int .u64 l1) := fun w' hb => keepc hb X7.c1
  have yr0 : ∀ w', Below W0.heap.size W0 w' → w'.cell? ⟨w.heap.size + 1, 0, none⟩ = some (.int .i64 h2) := fun w' hb => keepc hb Y7.c0
  have yr1 : ∀ w', Below W0.heap.size W0 w' → w'.cell? ⟨w.heap.size + 1, 1, none⟩ = some (.int .u64 l2) := fun w' hb => keepc hb Y7.c1
  have zr0 : ∀ w', Below W0.heap.size W0 w' → w'.cell? ⟨w.heap.size + 1 + 1, 0, none⟩ = some (.int .i64 n0) := fun w' hb => keepc hb Z7.c0
  have zr1 : ∀ w', Below W0.heap.size W0 w' → w'.cell? ⟨w.heap.size + 1 + 1, 1, none⟩ = some (.int .i64 n1) := fun w' hb => keepc hb Z7.c1
  have zr2 : ∀ w', Below W0.heap.size W0 w' → w'.cell? ⟨w.heap.size + 1 + 1, 2, none⟩ = some (.int .i64 n2) := fun w' hb => keepc hb Z7.c2
  have pr0 : ∀ w', Below W0.heap.size W0 w' → w'.cell? ⟨w3.heap.size, 0, none⟩ = some (.int .i64 hq) := fun w' hb => keepc hb P7.c0
  have pr1 : ∀ w', Below W0.heap.size W0 w' → w'.cell? ⟨w3.heap.size, 1, none⟩ = some (.int .u64 lq) := fun w' hb => keepc hb P7.c1
  have qr0 : ∀ w', Below W0.heap.size W0 w' → w'.cell? ⟨w4.heap.size, 0, none⟩ = some (.int .i64 hq) := fun w' hb => keepc hb Q7.c0
  have qr1 : ∀ w', Below W0.heap.size W0 w' → w'.cell? ⟨w4.heap.size, 1, none⟩ = some (.int .u64 lq) := fun w' hb => keepc hb Q7.c1
  have tr0 : ∀ w', Below W0.heap.size W0 w' → w'.cell? ⟨w5.heap.size, 0, none⟩ = some (.int .i64 hs) := fun w' hb => keepc hb T7.c0
  have tr1 : ∀ w', Below W0.heap.size W0 w' → w'.cell? ⟨w5.heap.size, 1, none⟩ = some (.int .u64 ls) := fun w' hb => keepc hb T7.c1
  have ur0 : ∀ w', Below W0.heap.size W0 w' → w'.cell? ⟨w6.heap.size, 0, none⟩ = some (.int .i64 hs) := fun w' hb => keepc hb U7.c0
  have ur1 : ∀ w', Below W0.heap.size W0 w' → w'.cell? ⟨w6.heap.size, 1, none⟩ = some (.int .u64 ls) := fun w' hb => keepc hb U7.c1
  clear X7 Y7 Z7 P7 Q7 T7 U7 N1 N2 D1 D2 S1 S2
  clear X1 X1a X1b X1c X1d X1l Y1 Y1a Y1b Y1c Y1d Y1l Z31 Z31a Z31b Z31c Z31l B1 hb1
  clear X2 X2a X2b X2c X2d X2l Y2 Y2a Y2b Y2c Y2d Y2l Z32 Z32a Z32b Z32c Z32l B2 hb2
  clear X3 X3a X3b X3c X3d X3l Y3 Y3a Y3b Y3c Y3d Y3l Z33 Z33a Z33b Z33c Z33l B3 hb3
  clear X4 X4a X4b X4c X4d X4l Y4 Y4a Y4b Y4c Y4d Y4l P4 P4a P4b P4c P4d P4l Z34 Z34a Z34b Z34c Z34l B4 hb4
  clear X5 X5a X5b X5c X5d X5l Y5 Y5a Y5b Y5c Y5d Y5l P5 P5a P5b P5c P5d P5l Q5 Q5a Q5b Q5c Q5d Q5l Z35 Z35a Z35b Z35c Z35l B5 hb5
  clear X6 X6a X6b X6c X6d X6l Y6 Y6a Y6b Y6c Y6d Y6l P6 P6a P6b P6c P6d P6l Q6 Q6a Q6b Q6c Q6d Q6l T6 T6a T6b T6c T6d T6l Z36 Z36a Z36b Z36c Z36l B6 hb6
  change (Code.region 7 saysOps true).wp Try.prog _ _ _
  refine wp_region_noPanic ?_
  refine wp_region_held_drew (S := fun w' => Below W0.heap.size W0 w') (by kernel_rfl) ((Below.refl _ _).drew) (fun hHeld => ?_)
  refine wpAnyH_take (i := 0) (oi := ({ dst := some 61, op := .indexAddr 25 (.tmp 5) (.const (.int .i64 2)), type := 0, pos := "law.go:27", after := #[], guard := none } : Oper)) (v := ?v0) rfl saysOps_plain (by as_aux_lemma => kernel_rfl) (by as_aux_lemma => kernel_rfl) (fun _ _ _ h => h) (Or.inl ⟨by rfl, ?y0⟩) (by assumption) ?r0
  case y0 => (intro w hSw; (try dsimp only at hSw); go_simp; try with_reducible rfl)
  try simp only [Act.put, List.setIfInBounds_toArray, List.set_cons_zero, List.set_cons_succ]
  refine wpAnyH_take (i := 1) (oi := ({ dst := some 62, op := .load 2 (.tmp 61), type := 2, pos := "law.go:27", after := #[{ on := 0, ground := .data }], guard := none } : Oper)) (v := ?v1) rfl saysOps_plain (by as_aux_lemma => kernel_rfl) (by as_aux_lemma => kernel_rfl) (fun _ _ _ h => h) (Or.inl ⟨by rfl, ?y1⟩) (by assumption) ?r1
  case y1 => (intro w hSw; (try dsimp only at hSw); go_simp; try with_reducible rfl)
  try simp only [Act.put, List.setIfInBounds_toArray, List.set_cons_zero, List.set_cons_succ]
  refine wpAnyH_take (i := 3) (oi := ({ dst := some 64, op := .indexAddr 25 (.tmp 5) (.const (.int .i64 2)), type := 0, pos := "law.go:27", after := #[], guard := none } : Oper)) (v := ?v3) rfl saysOps_plain (by as_aux_lemma => kernel_rfl) (by as_aux_lemma => kernel_rfl) (fun _ _ _ h => h) (Or.inl ⟨by rfl, ?y3⟩) (by assumption) ?r3
  case y3 => (intro w hSw; (try dsimp only at hSw); go_simp; try with_reducible rfl)
  try simp only [Act.put, List.setIfInBounds_toArray, List.set_cons_zero, List.set_cons_succ]
  refine wpAnyH_take (i := 4) (oi := ({ dst := some 65, op := .load 2 (.tmp 64), type := 2, pos := "law.go:27", after := #[{ on := 3, ground := .data }], guard := none } : Oper)) (v := ?v4) rfl saysOps_plain (by as_aux_lemma => kernel_rfl) (by as_aux_lemma => kernel_rfl) (fun _ _ _ h => h) (Or.inl ⟨by rfl, ?y4⟩) (by assumption) ?r4
  case y4 => (intro w hSw; (try dsimp only at hSw); go_simp; try with_reducible rfl)
  try simp only [Act.put, List.setIfInBounds_toArray, List.set_cons_zero, List.set_cons_succ]
  refine wpAnyH_ready (rs := [2]) (by as_aux_lemma => kernel_rfl) (by simp) ?_
  refine AllReadyH.cons (o := ({ dst := some 63, op := .call { callee := .value (.func 13), args := #[.tmp 62], argTypes := #[2] }, type := 24, pos := "law.go:27", after := #[{ on := 1, ground := .data }], guard := none } : Oper)) rfl (fun KK hK => ?_) AllReadyH.nil
  rw [if_pos (by rfl)]
  go_simp
  go_at_call 13; refine (O1.out _).mono ?_; rintro e w11 ⟨rfl, hb11⟩
  go_wp2_with fail
  refine hK.out _ _ ?_ (fun hHeld11 => ?_)
  · exact belowT (by assumption) hb11
  clear hK KK hb11
  try simp only [Act.put, List.setIfInBounds_toArray, List.set_cons_zero, List.set_cons_succ]
  refine wpAnyH_ready (rs := [5]) (by as_aux_lemma => kernel_rfl) (by simp) ?_
  refine AllReadyH.cons (o := ({ dst := some 66, op := .call { callee := .value (.func 14), args := #[.tmp 65], argTypes := #[2] }, type := 24, pos := "law.go:27", after := #[{ on := 4, ground := .data }, { on := 2, ground := .chain }], guard := none } : Oper)) rfl (fun KK hK => ?_) AllReadyH.nil
  rw [if_pos (by rfl)]
  go_simp
  go_at_call 14; refine (O2.out _).mono ?_; rintro e w12 ⟨rfl, hb12⟩
  go_wp2_with fail
  refine hK.out _ _ ?_ (fun hHeld12 => ?_)
  · exact belowT (by assumption) hb12
  clear hK KK hb12 hHeld11
  try simp only [Act.put, List.setIfInBounds_toArray, List.set_cons_zero, List.set_cons_succ]
  refine wpAnyH_take (i := 6) (oi := ({ dst := some 67, op := .binOp .eql 24 (.tmp 63) (.tmp 66) 24, type := 4, pos := "law.go:27", after := #[{ on := 2, ground := .data }, { on := 5, ground := .data }], guard := none } : Oper)) (v := ?v6) rfl saysOps_plain (by as_aux_lemma => kernel_rfl) (by as_aux_lemma => kernel_rfl) (fun _ _ _ h => h) (Or.inl ⟨by rfl, ?y6⟩) (by assumption) ?r6
  case y6 => (intro w hSw; (try dsimp only at hSw); go_simp; try with_reducible rfl)
  try simp only [Act.put, List.setIfInBounds_toArray, List.set_cons_zero, List.set_cons_succ]
  refine wpAnyH_take (i := 7) (oi := ({ dst := some 68, op := .move (.tmp 67), type := 4, pos := "law.go:27", after := #[{ on := 6, ground := .data }, { on := 5, ground := .chain }], guard := none } : Oper)) (v := ?v7) rfl saysOps_plain (by as_aux_lemma => kernel_rfl) (by as_aux_lemma => kernel_rfl) (fun _ _ _ h => h) (Or.inl ⟨by rfl, ?y7⟩) (by assumption) ?r7
  case y7 => (intro w hSw; (try dsimp only at hSw); go_simp; try with_reducible rfl)
  try simp only [Act.put, List.setIfInBounds_toArray, List.set_cons_zero, List.set_cons_succ]
  refine wpAnyH_take (i := 8) (oi := ({ dst := some 69, op := .indexAddr 25 (.tmp 5) (.const (.int .i64 0)), type := 0, pos := "law.go:27", after := #[{ on := 7, ground := .guard }], guard := some (7, true) } : Oper)) (v := ?v8) rfl saysOps_plain (by as_aux_lemma => kernel_rfl) (by as_aux_lemma => kernel_rfl) (fun _ _ _ h => h) (Or.inl ⟨by rfl, ?y8⟩) (by assumption) ?r8
  case y8 => (intro w hSw; (try dsimp only at hSw); go_simp; try with_reducible rfl)
  try simp only [Act.put, List.setIfInBounds_toArray, List.set_cons_zero, List.set_cons_succ]
  refine wpAnyH_take (i := 9) (oi := ({ dst := some 70, op := .load 2 (.tmp 69), type := 2, pos := "law.go:27", after := #[{ on := 8, ground := .data }, { on := 7, ground := .guard }], guard := some (7, true) } : Oper)) (v := ?v9) rfl saysOps_plain (by as_aux_lemma => kernel_rfl) (by as_aux_lemma => kernel_rfl) (fun _ _ _ h => h) (Or.inl ⟨by rfl, ?y9⟩) (by assumption) ?r9
  case y9 => (intro w hSw; (try dsimp only at hSw); go_simp; try with_reducible rfl)
  try simp only [Act.put, List.setIfInBounds_toArray, List.set_cons_zero, List.set_cons_succ]
  refine wpAnyH_take (i := 10) (oi := ({ dst := some 71, op := .indexAddr 25 (.tmp 5) (.const (.int .i64 2)), type := 0, pos := "law.go:27", after := #[{ on := 7, ground := .guard }], guard := some (7, true) } : Oper)) (v := ?v10) rfl saysOps_plain (by as_aux_lemma => kernel_rfl) (by as_aux_lemma => kernel_rfl) (fun _ _ _ h => h) (Or.inl ⟨by rfl, ?y10⟩) (by assumption) ?r10
  case y10 => (intro w hSw; (try dsimp only at hSw); go_simp; try with_reducible rfl)
  try simp only [Act.put, List.setIfInBounds_toArray, List.set_cons_zero, List.set_cons_succ]
  refine wpAnyH_take (i := 11) (oi := ({ dst := some 72, op := .load 2 (.tmp 71), type := 2, pos := "law.go:27", after := #[{ on := 10, ground := .data }, { on := 7, ground := .guard }], guard := some (7, true) } : Oper)) (v := ?v11) rfl saysOps_plain (by as_aux_lemma => kernel_rfl) (by as_aux_lemma => kernel_rfl) (fun _ _ _ h => h) (Or.inl ⟨by rfl, ?y11⟩) (by assumption) ?r11
  case y11 => (intro w hSw; (try dsimp only at hSw); go_simp; try with_reducible rfl)
  try simp only [Act.put, List.setIfInBounds_toArray, List.set_cons_zero, List.set_cons_succ]
  refine wpAnyH_take (i := 13) (oi := ({ dst := some 74, op := .indexAddr 25 (.tmp 5) (.const (.int .i64 0)), type := 0, pos := "law.go:27", after := #[{ on := 7, ground := .guard }], guard := some (7, true) } : Oper)) (v := ?v13) rfl saysOps_plain (by as_aux_lemma => kernel_rfl) (by as_aux_lemma => kernel_rfl) (fun _ _ _ h => h) (Or.inl ⟨by rfl, ?y13⟩) (by assumption) ?r13
  case y13 => (intro w hSw; (try dsimp only at hSw); go_simp; try with_reducible rfl)
  try simp only [Act.put, List.setIfInBounds_toArray, List.set_cons_zero, List.set_cons_succ]
  refine wpAnyH_take (i := 14) (oi := ({ dst := some 75, op := .load 2 (.tmp 74), type := 2, pos := "law.go:27", after := #[{ on := 13, ground := .data }, { on := 7, ground := .guard }], guard := some (7, true) } : Oper)) (v := ?v14) rfl saysOps_plain (by as_aux_lemma => kernel_rfl) (by as_aux_lemma => kernel_rfl) (fun _ _ _ h => h) (Or.inl ⟨by rfl, ?y14⟩) (by assumption) ?r14
  case y14 => (intro w hSw; (try dsimp only at hSw); go_simp; try with_reducible rfl)
  try simp only [Act.put, List.setIfInBounds_toArray, List.set_cons_zero, List.set_cons_succ]
  refine wpAnyH_take (i := 15) (oi := ({ dst := some 76, op := .indexAddr 25 (.tmp 5) (.const (.int .i64 2)), type := 0, pos := "law.go:27", after := #[{ on := 7, ground := .guard }], guard := some (7, true) } : Oper)) (v := ?v15) rfl saysOps_plain (by as_aux_lemma => kernel_rfl) (by as_aux_lemma => kernel_rfl) (fun _ _ _ h => h) (Or.inl ⟨by rfl, ?y15⟩) (by assumption) ?r15
  case y15 => (intro w hSw; (try dsimp only at hSw); go_simp; try with_reducible rfl)
  try simp only [Act.put, List.setIfInBounds_toArray, List.set_cons_zero, List.set_cons_succ]
  refine wpAnyH_take (i := 16) (oi := ({ dst := some 77, op := .load 2 (.tmp 76), type := 2, pos := "law.go:27", after := #[{ on := 15, ground := .data }, { on := 7, ground := .guard }], guard := some (7, true) } : Oper)) (v := ?v16) rfl saysOps_plain (by as_aux_lemma => kernel_rfl) (by as_aux_lemma => kernel_rfl) (fun _ _ _ h => h) (Or.inl ⟨by rfl, ?y16⟩) (by assumption) ?r16
  case y16 => (intro w hSw; (try dsimp only at hSw); go_simp; try with_reducible rfl)
  try simp only [Act.put, List.setIfInBounds_toArray, List.set_cons_zero, List.set_cons_succ]
  refine wpAnyH_ready (rs := [12]) (by as_aux_lemma => kernel_rfl) (by simp) ?_
  refine AllReadyH.cons (o := ({ dst := some 73, op := .call { callee := .value (.func 15), args := #[.tmp 70, .tmp 72], argTypes := #[2, 2] }, type := 24, pos := "law.go:27", after := #[{ on := 9, ground := .data }, { on := 11, ground := .data }, { on := 7, ground := .chain }, { on := 7, ground := .guard }], guard := some (7, true) } : Oper)) rfl (fun KK hK => ?_) AllReadyH.nil
  rw [if_pos (by rfl)]
  go_simp
  go_at_call 15; refine (M1.out _).mono ?_; rintro e w13 ⟨rfl, hb13⟩
  go_wp2_with fail
  refine hK.out _ _ ?_ (fun hHeld13 => ?_)
  · exact belowT (by assumption) hb13
  clear hK KK hb13 hHeld12
  try simp only [Act.put, List.setIfInBounds_toArray, List.set_cons_zero, List.set_cons_succ]
  refine wpAnyH_ready (rs := [17]) (by as_aux_lemma => kernel_rfl) (by simp) ?_
  refine AllReadyH.cons (o := ({ dst := some 78, op := .call { callee := .value (.func 16), args := #[.tmp 75, .tmp 77], argTypes := #[2, 2] }, type := 24, pos := "law.go:27", after := #[{ on := 14, ground := .data }, { on := 16, ground := .data }, { on := 12, ground := .chain }, { on := 7, ground := .guard }], guard := some (7, true) } : Oper)) rfl (fun KK hK => ?_) AllReadyH.nil
  rw [if_pos (by rfl)]
  go_simp
  go_at_call 16; refine (M2.out _).mono ?_; rintro e w14 ⟨rfl, hb14⟩
  go_wp2_with fail
  refine hK.out _ _ ?_ (fun hHeld14 => ?_)
  · exact belowT (by assumption) hb14
  clear hK KK hb14 hHeld13
  try simp only [Act.put, List.setIfInBounds_toArray, List.set_cons_zero, List.set_cons_succ]
  refine wpAnyH_take (i := 18) (oi := ({ dst := some 79, op := .binOp .eql 24 (.tmp 73) (.tmp 78) 24, type := 4, pos := "law.go:27", after := #[{ on := 12, ground := .data }, { on := 17, ground := .data }, { on := 7, ground := .guard }], guard := some (7, true) } : Oper)) (v := ?v18) rfl saysOps_plain (by as_aux_lemma => kernel_rfl) (by as_aux_lemma => kernel_rfl) (fun _ _ _ h => h) (Or.inl ⟨by rfl, ?y18⟩) (by assumption) ?r18
  case y18 => (intro w hSw; (try dsimp only at hSw); go_simp; try with_reducible rfl)
  try simp only [Act.put, List.setIfInBounds_toArray, List.set_cons_zero, List.set_cons_succ]
  refine wpAnyH_take (i := 19) (oi := ({ dst := some 80, op := .pick (.tmp 68) (.tmp 79) (.const (.bool false)), type := 4, pos := "law.go:27", after := #[{ on := 7, ground := .data }, { on := 18, ground := .data }], guard := none } : Oper)) (v := ?v19) rfl saysOps_plain (by as_aux_lemma => kernel_rfl) (by as_aux_lemma => kernel_rfl) (fun _ _ _ h => h) (Or.inl ⟨by rfl, ?y19⟩) (by assumption) ?r19
  case y19 => (intro w hSw; (try dsimp only at hSw); go_simp; try with_reducible rfl)
  try simp only [Act.put, List.setIfInBounds_toArray, List.set_cons_zero, List.set_cons_succ]
  refine wpAnyH_take (i := 20) (oi := ({ dst := some 81, op := .move (.tmp 80), type := 4, pos := "law.go:27", after := #[{ on := 19, ground := .data }, { on := 17, ground := .chain }], guard := none } : Oper)) (v := ?v20) rfl saysOps_plain (by as_aux_lemma => kernel_rfl) (by as_aux_lemma => kernel_rfl) (fun _ _ _ h => h) (Or.inl ⟨by rfl, ?y20⟩) (by assumption) ?r20
  case y20 => (intro w hSw; (try dsimp only at hSw); go_simp; try with_reducible rfl)
  try simp only [Act.put, List.setIfInBounds_toArray, List.set_cons_zero, List.set_cons_succ]
  refine wpAnyH_take (i := 21) (oi := ({ dst := some 82, op := .load 24 (.tmp 3), type := 24, pos := "law.go:27", after := #[{ on := 20, ground := .guard }], guard := some (20, true) } : Oper)) (v := ?v21) rfl saysOps_plain (by as_aux_lemma => kernel_rfl) (by as_aux_lemma => kernel_rfl) (fun _ _ _ h => h) (Or.inl ⟨by rfl, ?y21⟩) (by assumption) ?r21
  case y21 => (intro w hSw; (try dsimp only at hSw); go_simp; try with_reducible rfl)
  try simp only [Act.put, List.setIfInBounds_toArray, List.set_cons_zero, List.set_cons_succ]
  refine wpAnyH_take (i := 22) (oi := ({ dst := some 83, op := .load 24 (.tmp 4), type := 24, pos := "law.go:27", after := #[{ on := 20, ground := .guard }], guard := some (20, true) } : Oper)) (v := ?v22) rfl saysOps_plain (by as_aux_lemma => kernel_rfl) (by as_aux_lemma => kernel_rfl) (fun _ _ _ h => h) (Or.inl ⟨by rfl, ?y22⟩) (by assumption) ?r22
  case y22 => (intro w hSw; (try dsimp only at hSw); go_simp; try with_reducible rfl)
  try simp only [Act.put, List.setIfInBounds_toArray, List.set_cons_zero, List.set_cons_succ]
  refine wpAnyH_take (i := 24) (oi := ({ dst := some 85, op := .load 24 (.tmp 3), type := 24, pos := "law.go:27", after := #[{ on := 20, ground := .guard }], guard := some (20, true) } : Oper)) (v := ?v24) rfl saysOps_plain (by as_aux_lemma => kernel_rfl) (by as_aux_lemma => kernel_rfl) (fun _ _ _ h => h) (Or.inl ⟨by rfl, ?y24⟩) (by assumption) ?r24
  case y24 => (intro w hSw; (try dsimp only at hSw); go_simp; try with_reducible rfl)
  try simp only [Act.put, List.setIfInBounds_toArray, List.set_cons_zero, List.set_cons_succ]
  refine wpAnyH_take (i := 25) (oi := ({ dst := some 86, op := .load 24 (.tmp 4), type := 24, pos := "law.go:27", after := #[{ on := 20, ground := .guard }], guard := some (20, true) } : Oper)) (v := ?v25) rfl saysOps_plain (by as_aux_lemma => kernel_rfl) (by as_aux_lemma => kernel_rfl) (fun _ _ _ h => h) (Or.inl ⟨by rfl, ?y25⟩) (by assumption) ?r25
  case y25 => (intro w hSw; (try dsimp only at hSw); go_simp; try with_reducible rfl)
  try simp only [Act.put, List.setIfInBounds_toArray, List.set_cons_zero, List.set_cons_succ]
  refine wpAnyH_ready (rs := [23]) (by as_aux_lemma => kernel_rfl) (by simp) ?_
  refine AllReadyH.cons (o := ({ dst := some 84, op := .call { callee := .value (.func 17), args := #[.tmp 82, .tmp 83], argTypes := #[24, 24] }, type := 24, pos := "law.go:27", after := #[{ on := 21, ground := .data }, { on := 22, ground := .data }, { on := 20, ground := .chain }, { on := 20, ground := .guard }], guard := some (20, true) } : Oper)) rfl (fun KK hK => ?_) AllReadyH.nil
  rw [if_pos (by rfl)]
  go_simp
  go_at_call 17; refine (A1.out _).mono ?_; rintro e w15 ⟨rfl, hb15⟩
  go_wp2_with fail
  refine hK.out _ _ ?_ (fun hHeld15 => ?_)
  · exact belowT (by assumption) hb15
  clear hK KK hb15 hHeld14
  try simp only [Act.put, List.setIfInBounds_toArray, List.set_cons_zero, List.set_cons_succ]
  refine wpAnyH_ready (rs := [26]) (by as_aux_lemma => kernel_rfl) (by simp) ?_
  refine AllReadyH.cons (o := ({ dst := some 87, op := .call { callee := .value (.func 18), args := #[.tmp 85, .tmp 86], argTypes := #[24, 24] }, type := 24, pos := "law.go:27", after := #[{ on := 24, ground := .data }, { on := 25, ground := .data }, { on := 23, ground := .chain }, { on := 20, ground := .guard }], guard := some (20, true) } : Oper)) rfl (fun KK hK => ?_) AllReadyH.nil
  rw [if_pos (by rfl)]
  go_simp
  go_at_call 18; refine (A2.out _).mono ?_; rintro e w16 ⟨rfl, hb16⟩
  go_wp2_with fail
  refine hK.out _ _ ?_ (fun hHeld16 => ?_)
  · exact belowT (by assumption) hb16
  clear hK KK hb16 hHeld15
  try simp only [Act.put, List.setIfInBounds_toArray, List.set_cons_zero, List.set_cons_succ]
  refine wpAnyH_take (i := 27) (oi := ({ dst := some 88, op := .binOp .eql 24 (.tmp 84) (.tmp 87) 24, type := 4, pos := "law.go:27", after := #[{ on := 23, ground := .data }, { on := 26, ground := .data }, { on := 20, ground := .guard }], guard := some (20, true) } : Oper)) (v := ?v27) rfl saysOps_plain (by as_aux_lemma => kernel_rfl) (by as_aux_lemma => kernel_rfl) (fun _ _ _ h => h) (Or.inl ⟨by rfl, ?y27⟩) (by assumption) ?r27
  case y27 => (intro w hSw; (try dsimp only at hSw); go_simp; try with_reducible rfl)
  try simp only [Act.put, List.setIfInBounds_toArray, List.set_cons_zero, List.set_cons_succ]
  refine wpAnyH_take (i := 28) (oi := ({ dst := some 89, op := .pick (.tmp 81) (.tmp 88) (.const (.bool false)), type := 4, pos := "law.go:27", after := #[{ on := 20, ground := .data }, { on := 27, ground := .data }], guard := none } : Oper)) (v := ?v28) rfl saysOps_plain (by as_aux_lemma => kernel_rfl) (by as_aux_lemma => kernel_rfl) (fun _ _ _ h => h) (Or.inl ⟨by rfl, ?y28⟩) (by assumption) ?r28
  case y28 => (intro w hSw; (try dsimp only at hSw); go_simp; try with_reducible rfl)
  try simp only [Act.put, List.setIfInBounds_toArray, List.set_cons_zero, List.set_cons_succ]
  refine wpAnyH_take (i := 29) (oi := ({ dst := some 90, op := .move (.tmp 89), type := 4, pos := "law.go:27", after := #[{ on := 28, ground := .data }, { on := 26, ground := .chain }], guard := none } : Oper)) (v := ?v29) rfl saysOps_plain (by as_aux_lemma => kernel_rfl) (by as_aux_lemma => kernel_rfl) (fun _ _ _ h => h) (Or.inl ⟨by rfl, ?y29⟩) (by assumption) ?r29
  case y29 => (intro w hSw; (try dsimp only at hSw); go_simp; try with_reducible rfl)
  try simp only [Act.put, List.setIfInBounds_toArray, List.set_cons_zero, List.set_cons_succ]
  refine wpAnyH_take (i := 30) (oi := ({ dst := some 91, op := .load 24 (.tmp 3), type := 24, pos := "law.go:27", after := #[{ on := 29, ground := .guard }], guard := some (29, true) } : Oper)) (v := ?v30) rfl saysOps_plain (by as_aux_lemma => kernel_rfl) (by as_aux_lemma => kernel_rfl) (fun _ _ _ h => h) (Or.inl ⟨by rfl, ?y30⟩) (by assumption) ?r30
  case y30 => (intro w hSw; (try dsimp only at hSw); go_simp; try with_reducible rfl)
  try simp only [Act.put, List.setIfInBounds_toArray, List.set_cons_zero, List.set_cons_succ]
  refine wpAnyH_take (i := 32) (oi := ({ dst := some 93, op := .load 24 (.tmp 3), type := 24, pos := "law.go:27", after := #[{ on := 29, ground := .guard }], guard := some (29, true) } : Oper)) (v := ?v32) rfl saysOps_plain (by as_aux_lemma => kernel_rfl) (by as_aux_lemma => kernel_rfl) (fun _ _ _ h => h) (Or.inl ⟨by rfl, ?y32⟩) (by assumption) ?r32
  case y32 => (intro w hSw; (try dsimp only at hSw); go_simp; try with_reducible rfl)
  try simp only [Act.put, List.setIfInBounds_toArray, List.set_cons_zero, List.set_cons_succ]
  refine wpAnyH_ready (rs := [31]) (by as_aux_lemma => kernel_rfl) (by simp) ?_
  refine AllReadyH.cons (o := ({ dst := some 92, op := .call { callee := .value (.func 19), args := #[.tmp 91], argTypes := #[24] }, type := 24, pos := "law.go:27", after := #[{ on := 30, ground := .data }, { on := 29, ground := .chain }, { on := 29, ground := .guard }], guard := some (29, true) } : Oper)) rfl (fun KK hK => ?_) AllReadyH.nil
  rw [if_pos (by rfl)]
  go_simp
  go_at_call 19; refine (G1.out _).mono ?_; rintro e w17 ⟨rfl, hb17⟩
  go_wp2_with fail
  refine hK.out _ _ ?_ (fun hHeld17 => ?_)
  · exact belowT (by assumption) hb17
  clear hK KK hb17 hHeld16
  try simp only [Act.put, List.setIfInBounds_toArray, List.set_cons_zero, List.set_cons_succ]
  refine wpAnyH_ready (rs := [33]) (by as_aux_lemma => kernel_rfl) (by simp) ?_
  refine AllReadyH.cons (o := ({ dst := some 94, op := .call { callee := .value (.func 20), args := #[.tmp 93], argTypes := #[24] }, type := 24, pos := "law.go:27", after := #[{ on := 32, ground := .data }, { on := 31, ground := .chain }, { on := 29, ground := .guard }], guard := some (29, true) } : Oper)) rfl (fun KK hK => ?_) AllReadyH.nil
  rw [if_pos (by rfl)]
  go_simp
  go_at_call 20; refine (G2.out _).mono ?_; rintro e w18 ⟨rfl, hb18⟩
  go_wp2_with fail
  refine hK.out _ _ ?_ (fun hHeld18 => ?_)
  · exact belowT (by assumption) hb18
  clear hK KK hb18 hHeld17
  try simp only [Act.put, List.setIfInBounds_toArray, List.set_cons_zero, List.set_cons_succ]
  refine wpAnyH_take (i := 34) (oi := ({ dst := some 95, op := .binOp .eql 24 (.tmp 92) (.tmp 94) 24, type := 4, pos := "law.go:27", after := #[{ on := 31, ground := .data }, { on := 33, ground := .data }, { on := 29, ground := .guard }], guard := some (29, true) } : Oper)) (v := ?v34) rfl saysOps_plain (by as_aux_lemma => kernel_rfl) (by as_aux_lemma => kernel_rfl) (fun _ _ _ h => h) (Or.inl ⟨by rfl, ?y34⟩) (by assumption) ?r34
  case y34 => (intro w hSw; (try dsimp only at hSw); go_simp; try with_reducible rfl)
  try simp only [Act.put, List.setIfInBounds_toArray, List.set_cons_zero, List.set_cons_succ]
  refine wpAnyH_take (i := 35) (oi := ({ dst := some 96, op := .pick (.tmp 90) (.tmp 95) (.const (.bool false)), type := 4, pos := "law.go:27", after := #[{ on := 29, ground := .data }, { on := 34, ground := .data }], guard := none } : Oper)) (v := ?v35) rfl saysOps_plain (by as_aux_lemma => kernel_rfl) (by as_aux_lemma => kernel_rfl) (fun _ _ _ h => h) (Or.inl ⟨by rfl, ?y35⟩) (by assumption) ?r35
  case y35 => (intro w hSw; (try dsimp only at hSw); go_simp; try with_reducible rfl)
  try simp only [Act.put, List.setIfInBounds_toArray, List.set_cons_zero, List.set_cons_succ]
  refine wpAnyH_take (i := 36) (oi := ({ dst := some 97, op := .move (.tmp 96), type := 4, pos := "law.go:27", after := #[{ on := 35, ground := .data }, { on := 33, ground := .chain }], guard := none } : Oper)) (v := ?v36) rfl saysOps_plain (by as_aux_lemma => kernel_rfl) (by as_aux_lemma => kernel_rfl) (fun _ _ _ h => h) (Or.inl ⟨by rfl, ?y36⟩) (by assumption) ?r36
  case y36 => (intro w hSw; (try dsimp only at hSw); go_simp; try with_reducible rfl)
  try simp only [Act.put, List.setIfInBounds_toArray, List.set_cons_zero, List.set_cons_succ]
  refine wpAnyH_take (i := 37) (oi := ({ dst := some 98, op := .load 24 (.tmp 3), type := 24, pos := "law.go:27", after := #[{ on := 36, ground := .guard }], guard := some (36, true) } : Oper)) (v := ?v37) rfl saysOps_plain (by as_aux_lemma => kernel_rfl) (by as_aux_lemma => kernel_rfl) (fun _ _ _ h => h) (Or.inl ⟨by rfl, ?y37⟩) (by assumption) ?r37
  case y37 => (intro w hSw; (try dsimp only at hSw); go_simp; try with_reducible rfl)
  try simp only [Act.put, List.setIfInBounds_toArray, List.set_cons_zero, List.set_cons_succ]
  refine wpAnyH_take (i := 39) (oi := ({ dst := some 100, op := .load 24 (.tmp 3), type := 24, pos := "law.go:27", after := #[{ on := 36, ground := .guard }], guard := some (36, true) } : Oper)) (v := ?v39) rfl saysOps_plain (by as_aux_lemma => kernel_rfl) (by as_aux_lemma => kernel_rfl) (fun _ _ _ h => h) (Or.inl ⟨by rfl, ?y39⟩) (by assumption) ?r39
  case y39 => (intro w hSw; (try dsimp only at hSw); go_simp; try with_reducible rfl)
  try simp only [Act.put, List.setIfInBounds_toArray, List.set_cons_zero, List.set_cons_succ]
  refine wpAnyH_ready (rs := [38]) (by as_aux_lemma => kernel_rfl) (by simp) ?_
  refine AllReadyH.cons (o := ({ dst := some 99, op := .call { callee := .value (.func 21), args := #[.tmp 98], argTypes := #[24] }, type := 3, pos := "law.go:27", after := #[{ on := 37, ground := .data }, { on := 36, ground := .chain }, { on := 36, ground := .guard }], guard := some (36, true) } : Oper)) rfl (fun KK hK => ?_) AllReadyH.nil
  rw [if_pos (by rfl)]
  go_simp
  go_at_call 21; refine (T1.out _).mono ?_; rintro e w19 ⟨rfl, hb19⟩
  go_wp2_with fail
  refine hK.out _ _ ?_ (fun hHeld19 => ?_)
  · exact belowT (by assumption) hb19
  clear hK KK hb19 hHeld18
  try simp only [Act.put, List.setIfInBounds_toArray, List.set_cons_zero, List.set_cons_succ]
  refine wpAnyH_ready (rs := [40]) (by as_aux_lemma => kernel_rfl) (by simp) ?_
  refine AllReadyH.cons (o := ({ dst := some 101, op := .call { callee := .value (.func 22), args := #[.tmp 100], argTypes := #[24] }, type := 3, pos := "law.go:27", after := #[{ on := 39, ground := .data }, { on := 38, ground := .chain }, { on := 36, ground := .guard }], guard := some (36, true) } : Oper)) rfl (fun KK hK => ?_) AllReadyH.nil
  rw [if_pos (by rfl)]
  go_simp
  go_at_call 22; refine (T2.out _).mono ?_; rintro e w20 ⟨rfl, hb20⟩
  go_wp2_with fail
  refine hK.out _ _ ?_ (fun hHeld20 => ?_)
  · exact belowT (by assumption) hb20
  clear hK KK hb20 hHeld19
  try simp only [Act.put, List.setIfInBounds_toArray, List.set_cons_zero, List.set_cons_succ]
  refine wpAnyH_take (i := 41) (oi := ({ dst := some 102, op := .binOp .eql 3 (.tmp 99) (.tmp 101) 3, type := 4, pos := "law.go:27", after := #[{ on := 38, ground := .data }, { on := 40, ground := .data }, { on := 36, ground := .guard }], guard := some (36, true) } : Oper)) (v := ?v41) rfl saysOps_plain (by as_aux_lemma => kernel_rfl) (by as_aux_lemma => kernel_rfl) (fun _ _ _ h => h) (Or.inl ⟨by rfl, ?y41⟩) (by assumption) ?r41
  case y41 => (intro w hSw; (try dsimp only at hSw); go_simp; try with_reducible rfl)
  try simp only [Act.put, List.setIfInBounds_toArray, List.set_cons_zero, List.set_cons_succ]
  refine wpAnyH_take (i := 42) (oi := ({ dst := some 103, op := .pick (.tmp 97) (.tmp 102) (.const (.bool false)), type := 4, pos := "law.go:27", after := #[{ on := 36, ground := .data }, { on := 41, ground := .data }], guard := none } : Oper)) (v := ?v42) rfl saysOps_plain (by as_aux_lemma => kernel_rfl) (by as_aux_lemma => kernel_rfl) (fun _ _ _ h => h) (Or.inl ⟨by rfl, ?y42⟩) (by assumption) ?r42
  case y42 => (intro w hSw; (try dsimp only at hSw); go_simp; try with_reducible rfl)
  try simp only [Act.put, List.setIfInBounds_toArray, List.set_cons_zero, List.set_cons_succ]
  refine wpAnyH_take (i := 43) (oi := ({ dst := some 104, op := .move (.tmp 103), type := 4, pos := "law.go:27", after := #[{ on := 42, ground := .data }, { on := 40, ground := .chain }], guard := none } : Oper)) (v := ?v43) rfl saysOps_plain (by as_aux_lemma => kernel_rfl) (by as_aux_lemma => kernel_rfl) (fun _ _ _ h => h) (Or.inl ⟨by rfl, ?y43⟩) (by assumption) ?r43
  case y43 => (intro w hSw; (try dsimp only at hSw); go_simp; try with_reducible rfl)
  try simp only [Act.put, List.setIfInBounds_toArray, List.set_cons_zero, List.set_cons_succ]
  refine wpAnyH_take (i := 44) (oi := ({ dst := some 105, op := .load 24 (.tmp 3), type := 24, pos := "law.go:27", after := #[{ on := 43, ground := .guard }], guard := some (43, true) } : Oper)) (v := ?v44) rfl saysOps_plain (by as_aux_lemma => kernel_rfl) (by as_aux_lemma => kernel_rfl) (fun _ _ _ h => h) (Or.inl ⟨by rfl, ?y44⟩) (by assumption) ?r44
  case y44 => (intro w hSw; (try dsimp only at hSw); go_simp; try with_reducible rfl)
  try simp only [Act.put, List.setIfInBounds_toArray, List.set_cons_zero, List.set_cons_succ]
  refine wpAnyH_take (i := 45) (oi := ({ dst := some 106, op := .load 24 (.tmp 4), type := 24, pos := "law.go:27", after := #[{ on := 43, ground := .guard }], guard := some (43, true) } : Oper)) (v := ?v45) rfl saysOps_plain (by as_aux_lemma => kernel_rfl) (by as_aux_lemma => kernel_rfl) (fun _ _ _ h => h) (Or.inl ⟨by rfl, ?y45⟩) (by assumption) ?r45
  case y45 => (intro w hSw; (try dsimp only at hSw); go_simp; try with_reducible rfl)
  try simp only [Act.put, List.setIfInBounds_toArray, List.set_cons_zero, List.set_cons_succ]
  refine wpAnyH_take (i := 47) (oi := ({ dst := some 108, op := .load 24 (.tmp 3), type := 24, pos := "law.go:27", after := #[{ on := 43, ground := .guard }], guard := some (43, true) } : Oper)) (v := ?v47) rfl saysOps_plain (by as_aux_lemma => kernel_rfl) (by as_aux_lemma => kernel_rfl) (fun _ _ _ h => h) (Or.inl ⟨by rfl, ?y47⟩) (by assumption) ?r47
  case y47 => (intro w hSw; (try dsimp only at hSw); go_simp; try with_reducible rfl)
  try simp only [Act.put, List.setIfInBounds_toArray, List.set_cons_zero, List.set_cons_succ]
  refine wpAnyH_take (i := 48) (oi := ({ dst := some 109, op := .load 24 (.tmp 4), type := 24, pos := "law.go:27", after := #[{ on := 43, ground := .guard }], guard := some (43, true) } : Oper)) (v := ?v48) rfl saysOps_plain (by as_aux_lemma => kernel_rfl) (by as_aux_lemma => kernel_rfl) (fun _ _ _ h => h) (Or.inl ⟨by rfl, ?y48⟩) (by assumption) ?r48
  case y48 => (intro w hSw; (try dsimp only at hSw); go_simp; try with_reducible rfl)
  try simp only [Act.put, List.setIfInBounds_toArray, List.set_cons_zero, List.set_cons_succ]
  refine wpAnyH_ready (rs := [46]) (by as_aux_lemma => kernel_rfl) (by simp) ?_
  refine AllReadyH.cons (o := ({ dst := some 107, op := .call { callee := .value (.func 23), args := #[.tmp 105, .tmp 106], argTypes := #[24, 24] }, type := 3, pos := "law.go:27", after := #[{ on := 44, ground := .data }, { on := 45, ground := .data }, { on := 43, ground := .chain }, { on := 43, ground := .guard }], guard := some (43, true) } : Oper)) rfl (fun KK hK => ?_) AllReadyH.nil
  rw [if_pos (by rfl)]
  go_simp
  go_at_call 23; refine (C1.out _).mono ?_; rintro e w21 ⟨rfl, hb21⟩
  go_wp2_with fail
  refine hK.out _ _ ?_ (fun hHeld21 => ?_)
  · exact belowT (by assumption) hb21
  clear hK KK hb21 hHeld20
  try simp only [Act.put, List.setIfInBounds_toArray, List.set_cons_zero, List.set_cons_succ]
  refine wpAnyH_ready (rs := [49]) (by as_aux_lemma => kernel_rfl) (by simp) ?_
  refine AllReadyH.cons (o := ({ dst := some 110, op := .call { callee := .value (.func 24), args := #[.tmp 108, .tmp 109], argTypes := #[24, 24] }, type := 3, pos := "law.go:27", after := #[{ on := 47, ground := .data }, { on := 48, ground := .data }, { on := 46, ground := .chain }, { on := 43, ground := .guard }], guard := some (43, true) } : Oper)) rfl (fun KK hK => ?_) AllReadyH.nil
  rw [if_pos (by rfl)]
  go_simp
  go_at_call 24; refine (C2.out _).mono ?_; rintro e w22 ⟨rfl, hb22⟩
  go_wp2_with fail
  refine hK.out _ _ ?_ (fun hHeld22 => ?_)
  · exact belowT (by assumption) hb22
  clear hK KK hb22 hHeld21
  try simp only [Act.put, List.setIfInBounds_toArray, List.set_cons_zero, List.set_cons_succ]
  refine wpAnyH_take (i := 50) (oi := ({ dst := some 111, op := .binOp .eql 3 (.tmp 107) (.tmp 110) 3, type := 4, pos := "law.go:27", after := #[{ on := 46, ground := .data }, { on := 49, ground := .data }, { on := 43, ground := .guard }], guard := some (43, true) } : Oper)) (v := ?v50) rfl saysOps_plain (by as_aux_lemma => kernel_rfl) (by as_aux_lemma => kernel_rfl) (fun _ _ _ h => h) (Or.inl ⟨by rfl, ?y50⟩) (by assumption) ?r50
  case y50 => (intro w hSw; (try dsimp only at hSw); go_simp; try with_reducible rfl)
  try simp only [Act.put, List.setIfInBounds_toArray, List.set_cons_zero, List.set_cons_succ]
  refine wpAnyH_take (i := 51) (oi := ({ dst := some 112, op := .pick (.tmp 104) (.tmp 111) (.const (.bool false)), type := 4, pos := "law.go:27", after := #[{ on := 43, ground := .data }, { on := 50, ground := .data }], guard := none } : Oper)) (v := ?v51) rfl saysOps_plain (by as_aux_lemma => kernel_rfl) (by as_aux_lemma => kernel_rfl) (fun _ _ _ h => h) (Or.inl ⟨by rfl, ?y51⟩) (by assumption) ?r51
  case y51 => (intro w hSw; (try dsimp only at hSw); go_simp; try with_reducible rfl)
  try simp only [Act.put, List.setIfInBounds_toArray, List.set_cons_zero, List.set_cons_succ]
  refine wpAnyH_take (i := 52) (oi := ({ dst := some 113, op := .move (.tmp 112), type := 4, pos := "law.go:27", after := #[{ on := 51, ground := .data }, { on := 49, ground := .chain }], guard := none } : Oper)) (v := ?v52) rfl saysOps_plain (by as_aux_lemma => kernel_rfl) (by as_aux_lemma => kernel_rfl) (fun _ _ _ h => h) (Or.inl ⟨by rfl, ?y52⟩) (by assumption) ?r52
  case y52 => (intro w hSw; (try dsimp only at hSw); go_simp; try with_reducible rfl)
  try simp only [Act.put, List.setIfInBounds_toArray, List.set_cons_zero, List.set_cons_succ]
  refine wpAnyH_take (i := 53) (oi := ({ dst := some 114, op := .move (.tmp 7), type := 2, pos := "law.go:27", after := #[{ on := 52, ground := .guard }], guard := some (52, true) } : Oper)) (v := ?v53) rfl saysOps_plain (by as_aux_lemma => kernel_rfl) (by as_aux_lemma => kernel_rfl) (fun _ _ _ h => h) (Or.inl ⟨by rfl, ?y53⟩) (by assumption) ?r53
  case y53 => (intro w hSw; (try dsimp only at hSw); go_simp; try with_reducible rfl)
  try simp only [Act.put, List.setIfInBounds_toArray, List.set_cons_zero, List.set_cons_succ]
  refine wpAnyH_take (i := 54) (oi := ({ dst := some 115, op := .move (.tmp 9), type := 2, pos := "law.go:27", after := #[{ on := 52, ground := .guard }], guard := some (52, true) } : Oper)) (v := ?v54) rfl saysOps_plain (by as_aux_lemma => kernel_rfl) (by as_aux_lemma => kernel_rfl) (fun _ _ _ h => h) (Or.inl ⟨by rfl, ?y54⟩) (by assumption) ?r54
  case y54 => (intro w hSw; (try dsimp only at hSw); go_simp; try with_reducible rfl)
  try simp only [Act.put, List.setIfInBounds_toArray, List.set_cons_zero, List.set_cons_succ]
  refine wpAnyH_take (i := 55) (oi := ({ dst := some 116, op := .binOp .eql 2 (.tmp 114) (.tmp 115) 2, type := 4, pos := "law.go:27", after := #[{ on := 53, ground := .data }, { on := 54, ground := .data }, { on := 52, ground := .guard }], guard := some (52, true) } : Oper)) (v := ?v55) rfl saysOps_plain (by as_aux_lemma => kernel_rfl) (by as_aux_lemma => kernel_rfl) (fun _ _ _ h => h) (Or.inl ⟨by rfl, ?y55⟩) (by assumption) ?r55
  case y55 => (intro w hSw; (try dsimp only at hSw); go_simp; try with_reducible rfl)
  try simp only [Act.put, List.setIfInBounds_toArray, List.set_cons_zero, List.set_cons_succ]
  refine wpAnyH_take (i := 56) (oi := ({ dst := some 117, op := .pick (.tmp 113) (.tmp 116) (.const (.bool false)), type := 4, pos := "law.go:27", after := #[{ on := 52, ground := .data }, { on := 55, ground := .data }], guard := none } : Oper)) (v := ?v56) rfl saysOps_plain (by as_aux_lemma => kernel_rfl) (by as_aux_lemma => kernel_rfl) (fun _ _ _ h => h) (Or.inl ⟨by rfl, ?y56⟩) (by assumption) ?r56
  case y56 => (intro w hSw; (try dsimp only at hSw); go_simp; try with_reducible rfl)
  try simp only [Act.put, List.setIfInBounds_toArray, List.set_cons_zero, List.set_cons_succ]
  refine wpAnyH_take (i := 57) (oi := ({ dst := some 118, op := .move (.tmp 117), type := 4, pos := "law.go:27", after := #[{ on := 56, ground := .data }, { on := 52, ground := .chain }], guard := none } : Oper)) (v := ?v57) rfl saysOps_plain (by as_aux_lemma => kernel_rfl) (by as_aux_lemma => kernel_rfl) (fun _ _ _ h => h) (Or.inl ⟨by rfl, ?y57⟩) (by assumption) ?r57
  case y57 => (intro w hSw; (try dsimp only at hSw); go_simp; try with_reducible rfl)
  try simp only [Act.put, List.setIfInBounds_toArray, List.set_cons_zero, List.set_cons_succ]
  refine wpAnyH_take (i := 58) (oi := ({ dst := some 119, op := .move (.tmp 8), type := 26, pos := "law.go:27", after := #[{ on := 57, ground := .guard }], guard := some (57, true) } : Oper)) (v := ?v58) rfl saysOps_plain (by as_aux_lemma => kernel_rfl) (by as_aux_lemma => kernel_rfl) (fun _ _ _ h => h) (Or.inl ⟨by rfl, ?y58⟩) (by assumption) ?r58
  case y58 => (intro w hSw; (try dsimp only at hSw); go_simp; try with_reducible rfl)
  try simp only [Act.put, List.setIfInBounds_toArray, List.set_cons_zero, List.set_cons_succ]
  refine wpAnyH_take (i := 59) (oi := ({ dst := some 120, op := .move (.tmp 10), type := 26, pos := "law.go:27", after := #[{ on := 57, ground := .guard }], guard := some (57, true) } : Oper)) (v := ?v59) rfl saysOps_plain (by as_aux_lemma => kernel_rfl) (by as_aux_lemma => kernel_rfl) (fun _ _ _ h => h) (Or.inl ⟨by rfl, ?y59⟩) (by assumption) ?r59
  case y59 => (intro w hSw; (try dsimp only at hSw); go_simp; try with_reducible rfl)
  try simp only [Act.put, List.setIfInBounds_toArray, List.set_cons_zero, List.set_cons_succ]
  refine wpAnyH_take (i := 60) (oi := ({ dst := some 121, op := .binOp .eql 26 (.tmp 119) (.tmp 120) 26, type := 4, pos := "law.go:27", after := #[{ on := 58, ground := .data }, { on := 59, ground := .data }, { on := 57, ground := .guard }], guard := some (57, true) } : Oper)) (v := ?v60) rfl saysOps_plain (by as_aux_lemma => kernel_rfl) (by as_aux_lemma => kernel_rfl) (fun _ _ _ h => h) (Or.inl ⟨by rfl, ?y60⟩) (by assumption) ?r60
  case y60 => (intro w hSw; (try dsimp only at hSw); go_simp; try with_reducible rfl)
  try simp only [Act.put, List.setIfInBounds_toArray, List.set_cons_zero, List.set_cons_succ]
  refine wpAnyH_take (i := 61) (oi := ({ dst := some 122, op := .pick (.tmp 118) (.tmp 121) (.const (.bool false)), type := 4, pos := "law.go:27", after := #[{ on := 57, ground := .data }, { on := 60, ground := .data }], guard := none } : Oper)) (v := ?v61) rfl saysOps_plain (by as_aux_lemma => kernel_rfl) (by as_aux_lemma => kernel_rfl) (fun _ _ _ h => h) (Or.inl ⟨by rfl, ?y61⟩) (by assumption) ?r61
  case y61 => (intro w hSw; (try dsimp only at hSw); go_simp; try with_reducible rfl)
  try simp only [Act.put, List.setIfInBounds_toArray, List.set_cons_zero, List.set_cons_succ]
  refine wpAnyH_take (i := 62) (oi := ({ dst := some 123, op := .move (.tmp 122), type := 4, pos := "law.go:27", after := #[{ on := 61, ground := .data }, { on := 57, ground := .chain }], guard := none } : Oper)) (v := ?v62) rfl saysOps_plain (by as_aux_lemma => kernel_rfl) (by as_aux_lemma => kernel_rfl) (fun _ _ _ h => h) (Or.inl ⟨by rfl, ?y62⟩) (by assumption) ?r62
  case y62 => (intro w hSw; (try dsimp only at hSw); go_simp; try with_reducible rfl)
  try simp only [Act.put, List.setIfInBounds_toArray, List.set_cons_zero, List.set_cons_succ]
  refine wpAnyH_take (i := 63) (oi := ({ dst := some 124, op := .load 24 (.tmp 11), type := 24, pos := "law.go:27", after := #[{ on := 62, ground := .guard }], guard := some (62, true) } : Oper)) (v := ?v63) rfl saysOps_plain (by as_aux_lemma => kernel_rfl) (by as_aux_lemma => kernel_rfl) (fun _ _ _ h => h) (Or.inl ⟨by rfl, ?y63⟩) (by assumption) ?r63
  case y63 => (intro w hSw; (try dsimp only at hSw); go_simp; try with_reducible rfl)
  try simp only [Act.put, List.setIfInBounds_toArray, List.set_cons_zero, List.set_cons_succ]
  refine wpAnyH_take (i := 64) (oi := ({ dst := some 125, op := .load 24 (.tmp 14), type := 24, pos := "law.go:27", after := #[{ on := 62, ground := .guard }], guard := some (62, true) } : Oper)) (v := ?v64) rfl saysOps_plain (by as_aux_lemma => kernel_rfl) (by as_aux_lemma => kernel_rfl) (fun _ _ _ h => h) (Or.inl ⟨by rfl, ?y64⟩) (by assumption) ?r64
  case y64 => (intro w hSw; (try dsimp only at hSw); go_simp; try with_reducible rfl)
  try simp only [Act.put, List.setIfInBounds_toArray, List.set_cons_zero, List.set_cons_succ]
  refine wpAnyH_take (i := 65) (oi := ({ dst := some 126, op := .binOp .eql 24 (.tmp 124) (.tmp 125) 24, type := 4, pos := "law.go:27", after := #[{ on := 63, ground := .data }, { on := 64, ground := .data }, { on := 62, ground := .guard }], guard := some (62, true) } : Oper)) (v := ?v65) rfl saysOps_plain (by as_aux_lemma => kernel_rfl) (by as_aux_lemma => kernel_rfl) (fun _ _ _ h => h) (Or.inl ⟨by rfl, ?y65⟩) (by assumption) ?r65
  case y65 => (intro w hSw; (try dsimp only at hSw); go_simp; try with_reducible rfl)
  try simp only [Act.put, List.setIfInBounds_toArray, List.set_cons_zero, List.set_cons_succ]
  refine wpAnyH_take (i := 66) (oi := ({ dst := some 127, op := .pick (.tmp 123) (.tmp 126) (.const (.bool false)), type := 4, pos := "law.go:27", after := #[{ on := 62, ground := .data }, { on := 65, ground := .data }], guard := none } : Oper)) (v := ?v66) rfl saysOps_plain (by as_aux_lemma => kernel_rfl) (by as_aux_lemma => kernel_rfl) (fun _ _ _ h => h) (Or.inl ⟨by rfl, ?y66⟩) (by assumption) ?r66
  case y66 => (intro w hSw; (try dsimp only at hSw); go_simp; try with_reducible rfl)
  try simp only [Act.put, List.setIfInBounds_toArray, List.set_cons_zero, List.set_cons_succ]
  refine wpAnyH_take (i := 67) (oi := ({ dst := some 128, op := .move (.tmp 127), type := 4, pos := "law.go:27", after := #[{ on := 66, ground := .data }, { on := 62, ground := .chain }], guard := none } : Oper)) (v := ?v67) rfl saysOps_plain (by as_aux_lemma => kernel_rfl) (by as_aux_lemma => kernel_rfl) (fun _ _ _ h => h) (Or.inl ⟨by rfl, ?y67⟩) (by assumption) ?r67
  case y67 => (intro w hSw; (try dsimp only at hSw); go_simp; try with_reducible rfl)
  try simp only [Act.put, List.setIfInBounds_toArray, List.set_cons_zero, List.set_cons_succ]
  refine wpAnyH_take (i := 68) (oi := ({ dst := some 129, op := .move (.tmp 12), type := 2, pos := "law.go:27", after := #[{ on := 67, ground := .guard }], guard := some (67, true) } : Oper)) (v := ?v68) rfl saysOps_plain (by as_aux_lemma => kernel_rfl) (by as_aux_lemma => kernel_rfl) (fun _ _ _ h => h) (Or.inl ⟨by rfl, ?y68⟩) (by assumption) ?r68
  case y68 => (intro w hSw; (try dsimp only at hSw); go_simp; try with_reducible rfl)
  try simp only [Act.put, List.setIfInBounds_toArray, List.set_cons_zero, List.set_cons_succ]
  refine wpAnyH_take (i := 69) (oi := ({ dst := some 130, op := .move (.tmp 15), type := 2, pos := "law.go:27", after := #[{ on := 67, ground := .guard }], guard := some (67, true) } : Oper)) (v := ?v69) rfl saysOps_plain (by as_aux_lemma => kernel_rfl) (by as_aux_lemma => kernel_rfl) (fun _ _ _ h => h) (Or.inl ⟨by rfl, ?y69⟩) (by assumption) ?r69
  case y69 => (intro w hSw; (try dsimp only at hSw); go_simp; try with_reducible rfl)
  try simp only [Act.put, List.setIfInBounds_toArray, List.set_cons_zero, List.set_cons_succ]
  refine wpAnyH_take (i := 70) (oi := ({ dst := some 131, op := .binOp .eql 2 (.tmp 129) (.tmp 130) 2, type := 4, pos := "law.go:27", after := #[{ on := 68, ground := .data }, { on := 69, ground := .data }, { on := 67, ground := .guard }], guard := some (67, true) } : Oper)) (v := ?v70) rfl saysOps_plain (by as_aux_lemma => kernel_rfl) (by as_aux_lemma => kernel_rfl) (fun _ _ _ h => h) (Or.inl ⟨by rfl, ?y70⟩) (by assumption) ?r70
  case y70 => (intro w hSw; (try dsimp only at hSw); go_simp; try with_reducible rfl)
  try simp only [Act.put, List.setIfInBounds_toArray, List.set_cons_zero, List.set_cons_succ]
  refine wpAnyH_take (i := 71) (oi := ({ dst := some 132, op := .pick (.tmp 128) (.tmp 131) (.const (.bool false)), type := 4, pos := "law.go:27", after := #[{ on := 67, ground := .data }, { on := 70, ground := .data }], guard := none } : Oper)) (v := ?v71) rfl saysOps_plain (by as_aux_lemma => kernel_rfl) (by as_aux_lemma => kernel_rfl) (fun _ _ _ h => h) (Or.inl ⟨by rfl, ?y71⟩) (by assumption) ?r71
  case y71 => (intro w hSw; (try dsimp only at hSw); go_simp; try with_reducible rfl)
  try simp only [Act.put, List.setIfInBounds_toArray, List.set_cons_zero, List.set_cons_succ]
  refine wpAnyH_take (i := 72) (oi := ({ dst := some 133, op := .move (.tmp 132), type := 4, pos := "law.go:27", after := #[{ on := 71, ground := .data }, { on := 67, ground := .chain }], guard := none } : Oper)) (v := ?v72) rfl saysOps_plain (by as_aux_lemma => kernel_rfl) (by as_aux_lemma => kernel_rfl) (fun _ _ _ h => h) (Or.inl ⟨by rfl, ?y72⟩) (by assumption) ?r72
  case y72 => (intro w hSw; (try dsimp only at hSw); go_simp; try with_reducible rfl)
  try simp only [Act.put, List.setIfInBounds_toArray, List.set_cons_zero, List.set_cons_succ]
  refine wpAnyH_take (i := 73) (oi := ({ dst := some 134, op := .move (.tmp 13), type := 26, pos := "law.go:27", after := #[{ on := 72, ground := .guard }], guard := some (72, true) } : Oper)) (v := ?v73) rfl saysOps_plain (by as_aux_lemma => kernel_rfl) (by as_aux_lemma => kernel_rfl) (fun _ _ _ h => h) (Or.inl ⟨by rfl, ?y73⟩) (by assumption) ?r73
  case y73 => (intro w hSw; (try dsimp only at hSw); go_simp; try with_reducible rfl)
  try simp only [Act.put, List.setIfInBounds_toArray, List.set_cons_zero, List.set_cons_succ]
  refine wpAnyH_take (i := 74) (oi := ({ dst := some 135, op := .move (.tmp 16), type := 26, pos := "law.go:27", after := #[{ on := 72, ground := .guard }], guard := some (72, true) } : Oper)) (v := ?v74) rfl saysOps_plain (by as_aux_lemma => kernel_rfl) (by as_aux_lemma => kernel_rfl) (fun _ _ _ h => h) (Or.inl ⟨by rfl, ?y74⟩) (by assumption) ?r74
  case y74 => (intro w hSw; (try dsimp only at hSw); go_simp; try with_reducible rfl)
  try simp only [Act.put, List.setIfInBounds_toArray, List.set_cons_zero, List.set_cons_succ]
  refine wpAnyH_take (i := 75) (oi := ({ dst := some 136, op := .binOp .eql 26 (.tmp 134) (.tmp 135) 26, type := 4, pos := "law.go:27", after := #[{ on := 73, ground := .data }, { on := 74, ground := .data }, { on := 72, ground := .guard }], guard := some (72, true) } : Oper)) (v := ?v75) rfl saysOps_plain (by as_aux_lemma => kernel_rfl) (by as_aux_lemma => kernel_rfl) (fun _ _ _ h => h) (Or.inl ⟨by rfl, ?y75⟩) (by assumption) ?r75
  case y75 => (intro w hSw; (try dsimp only at hSw); go_simp; try with_reducible rfl)
  try simp only [Act.put, List.setIfInBounds_toArray, List.set_cons_zero, List.set_cons_succ]
  refine wpAnyH_take (i := 76) (oi := ({ dst := some 137, op := .pick (.tmp 133) (.tmp 136) (.const (.bool false)), type := 4, pos := "law.go:27", after := #[{ on := 72, ground := .data }, { on := 75, ground := .data }], guard := none } : Oper)) (v := ?v76) rfl saysOps_plain (by as_aux_lemma => kernel_rfl) (by as_aux_lemma => kernel_rfl) (fun _ _ _ h => h) (Or.inl ⟨by rfl, ?y76⟩) (by assumption) ?r76
  case y76 => (intro w hSw; (try dsimp only at hSw); go_simp; try with_reducible rfl)
  try simp only [Act.put, List.setIfInBounds_toArray, List.set_cons_zero, List.set_cons_succ]
  refine wpAnyH_take (i := 77) (oi := ({ dst := some 138, op := .move (.tmp 137), type := 4, pos := "law.go:27", after := #[{ on := 76, ground := .data }, { on := 72, ground := .chain }], guard := none } : Oper)) (v := ?v77) rfl saysOps_plain (by as_aux_lemma => kernel_rfl) (by as_aux_lemma => kernel_rfl) (fun _ _ _ h => h) (Or.inl ⟨by rfl, ?y77⟩) (by assumption) ?r77
  case y77 => (intro w hSw; (try dsimp only at hSw); go_simp; try with_reducible rfl)
  try simp only [Act.put, List.setIfInBounds_toArray, List.set_cons_zero, List.set_cons_succ]
  refine wpAnyH_take (i := 78) (oi := ({ dst := some 139, op := .load 24 (.tmp 17), type := 24, pos := "law.go:27", after := #[{ on := 77, ground := .guard }], guard := some (77, true) } : Oper)) (v := ?v78) rfl saysOps_plain (by as_aux_lemma => kernel_rfl) (by as_aux_lemma => kernel_rfl) (fun _ _ _ h => h) (Or.inl ⟨by rfl, ?y78⟩) (by assumption) ?r78
  case y78 => (intro w hSw; (try dsimp only at hSw); go_simp; try with_reducible rfl)
  try simp only [Act.put, List.setIfInBounds_toArray, List.set_cons_zero, List.set_cons_succ]
  refine wpAnyH_take (i := 79) (oi := ({ dst := some 140, op := .load 24 (.tmp 19), type := 24, pos := "law.go:27", after := #[{ on := 77, ground := .guard }], guard := some (77, true) } : Oper)) (v := ?v79) rfl saysOps_plain (by as_aux_lemma => kernel_rfl) (by as_aux_lemma => kernel_rfl) (fun _ _ _ h => h) (Or.inl ⟨by rfl, ?y79⟩) (by assumption) ?r79
  case y79 => (intro w hSw; (try dsimp only at hSw); go_simp; try with_reducible rfl)
  try simp only [Act.put, List.setIfInBounds_toArray, List.set_cons_zero, List.set_cons_succ]
  refine wpAnyH_take (i := 80) (oi := ({ dst := some 141, op := .binOp .eql 24 (.tmp 139) (.tmp 140) 24, type := 4, pos := "law.go:27", after := #[{ on := 78, ground := .data }, { on := 79, ground := .data }, { on := 77, ground := .guard }], guard := some (77, true) } : Oper)) (v := ?v80) rfl saysOps_plain (by as_aux_lemma => kernel_rfl) (by as_aux_lemma => kernel_rfl) (fun _ _ _ h => h) (Or.inl ⟨by rfl, ?y80⟩) (by assumption) ?r80
  case y80 => (intro w hSw; (try dsimp only at hSw); go_simp; try with_reducible rfl)
  try simp only [Act.put, List.setIfInBounds_toArray, List.set_cons_zero, List.set_cons_succ]
  refine wpAnyH_take (i := 81) (oi := ({ dst := some 142, op := .pick (.tmp 138) (.tmp 141) (.const (.bool false)), type := 4, pos := "law.go:27", after := #[{ on := 77, ground := .data }, { on := 80, ground := .data }], guard := none } : Oper)) (v := ?v81) rfl saysOps_plain (by as_aux_lemma => kernel_rfl) (by as_aux_lemma => kernel_rfl) (fun _ _ _ h => h) (Or.inl ⟨by rfl, ?y81⟩) (by assumption) ?r81
  case y81 => (intro w hSw; (try dsimp only at hSw); go_simp; try with_reducible rfl)
  try simp only [Act.put, List.setIfInBounds_toArray, List.set_cons_zero, List.set_cons_succ]
  refine wpAnyH_take (i := 82) (oi := ({ dst := some 143, op := .move (.tmp 142), type := 4, pos := "law.go:27", after := #[{ on := 81, ground := .data }, { on := 77, ground := .chain }], guard := none } : Oper)) (v := ?v82) rfl saysOps_plain (by as_aux_lemma => kernel_rfl) (by as_aux_lemma => kernel_rfl) (fun _ _ _ h => h) (Or.inl ⟨by rfl, ?y82⟩) (by assumption) ?r82
  case y82 => (intro w hSw; (try dsimp only at hSw); go_simp; try with_reducible rfl)
  try simp only [Act.put, List.setIfInBounds_toArray, List.set_cons_zero, List.set_cons_succ]
  refine wpAnyH_take (i := 83) (oi := ({ dst := some 144, op := .move (.tmp 18), type := 26, pos := "law.go:27", after := #[{ on := 82, ground := .guard }], guard := some (82, true) } : Oper)) (v := ?v83) rfl saysOps_plain (by as_aux_lemma => kernel_rfl) (by as_aux_lemma => kernel_rfl) (fun _ _ _ h => h) (Or.inl ⟨by rfl, ?y83⟩) (by assumption) ?r83
  case y83 => (intro w hSw; (try dsimp only at hSw); go_simp; try with_reducible rfl)
  try simp only [Act.put, List.setIfInBounds_toArray, List.set_cons_zero, List.set_cons_succ]
  refine wpAnyH_take (i := 84) (oi := ({ dst := some 145, op := .move (.tmp 20), type := 26, pos := "law.go:27", after := #[{ on := 82, ground := .guard }], guard := some (82, true) } : Oper)) (v := ?v84) rfl saysOps_plain (by as_aux_lemma => kernel_rfl) (by as_aux_lemma => kernel_rfl) (fun _ _ _ h => h) (Or.inl ⟨by rfl, ?y84⟩) (by assumption) ?r84
  case y84 => (intro w hSw; (try dsimp only at hSw); go_simp; try with_reducible rfl)
  try simp only [Act.put, List.setIfInBounds_toArray, List.set_cons_zero, List.set_cons_succ]
  refine wpAnyH_take (i := 85) (oi := ({ dst := some 146, op := .binOp .eql 26 (.tmp 144) (.tmp 145) 26, type := 4, pos := "law.go:27", after := #[{ on := 83, ground := .data }, { on := 84, ground := .data }, { on := 82, ground := .guard }], guard := some (82, true) } : Oper)) (v := ?v85) rfl saysOps_plain (by as_aux_lemma => kernel_rfl) (by as_aux_lemma => kernel_rfl) (fun _ _ _ h => h) (Or.inl ⟨by rfl, ?y85⟩) (by assumption) ?r85
  case y85 => (intro w hSw; (try dsimp only at hSw); go_simp; try with_reducible rfl)
  try simp only [Act.put, List.setIfInBounds_toArray, List.set_cons_zero, List.set_cons_succ]
  refine wpAnyH_take (i := 86) (oi := ({ dst := some 147, op := .pick (.tmp 143) (.tmp 146) (.const (.bool false)), type := 4, pos := "law.go:27", after := #[{ on := 82, ground := .data }, { on := 85, ground := .data }], guard := none } : Oper)) (v := ?v86) rfl saysOps_plain (by as_aux_lemma => kernel_rfl) (by as_aux_lemma => kernel_rfl) (fun _ _ _ h => h) (Or.inl ⟨by rfl, ?y86⟩) (by assumption) ?r86
  case y86 => (intro w hSw; (try dsimp only at hSw); go_simp; try with_reducible rfl)
  try simp only [Act.put, List.setIfInBounds_toArray, List.set_cons_zero, List.set_cons_succ]
  refine wpAnyH_take (i := 87) (oi := ({ dst := some 148, op := .move (.tmp 147), type := 4, pos := "law.go:27", after := #[{ on := 86, ground := .data }, { on := 82, ground := .chain }], guard := none } : Oper)) (v := ?v87) rfl saysOps_plain (by as_aux_lemma => kernel_rfl) (by as_aux_lemma => kernel_rfl) (fun _ _ _ h => h) (Or.inl ⟨by rfl, ?y87⟩) (by assumption) ?r87
  case y87 => (intro w hSw; (try dsimp only at hSw); go_simp; try with_reducible rfl)
  try simp only [Act.put, List.setIfInBounds_toArray, List.set_cons_zero, List.set_cons_succ]
  refine wpAnyH_ready (rs := [88]) (by as_aux_lemma => kernel_rfl) (by simp) ?_
  refine AllReadyH.cons (o := ({ dst := some 149, op := .call { callee := .value (.func 25), args := #[], argTypes := #[] }, type := 4, pos := "law.go:27", after := #[{ on := 87, ground := .chain }, { on := 87, ground := .guard }], guard := some (87, true) } : Oper)) rfl (fun KK hK => ?_) AllReadyH.nil
  rw [if_pos (by rfl)]
  go_simp
  go_at_call 25; refine (K.out _).mono ?_; rintro e w23 ⟨rfl, hb23⟩
  go_wp2_with fail
  refine hK.out _ _ ?_ (fun hHeld23 => ?_)
  · exact belowT (by assumption) hb23
  clear hK KK hb23 hHeld22
  try simp only [Act.put, List.setIfInBounds_toArray, List.set_cons_zero, List.set_cons_succ]
  refine wpAnyH_take (i := 89) (oi := ({ dst := some 150, op := .pick (.tmp 148) (.tmp 149) (.const (.bool false)), type := 4, pos := "law.go:27", after := #[{ on := 87, ground := .data }, { on := 88, ground := .data }], guard := none } : Oper)) (v := ?v89) rfl saysOps_plain (by as_aux_lemma => kernel_rfl) (by as_aux_lemma => kernel_rfl) (fun _ _ _ h => h) (Or.inl ⟨by rfl, ?y89⟩) (by assumption) ?r89
  case y89 => (intro w hSw; (try dsimp only at hSw); go_simp; try with_reducible rfl)
  try simp only [Act.put, List.setIfInBounds_toArray, List.set_cons_zero, List.set_cons_succ]
  refine wpAnyH_take (i := 90) (oi := ({ dst := some 6, op := .assign (.tmp 150), type := 4, pos := "law.go:27", after := ([{ on := 89, ground := .data }, { on := 88, ground := .chain }, { on := 0, ground := .phase }, { on := 1, ground := .phase }, { on := 2, ground := .phase }, { on := 3, ground := .phase }, { on := 4, ground := .phase }, { on := 5, ground := .phase }, { on := 6, ground := .phase }, { on := 7, ground := .phase }, { on := 8, ground := .phase }, { on := 9, ground := .phase }, { on := 10, ground := .phase }, { on := 11, ground := .phase }, { on := 12, ground := .phase }, { on := 13, ground := .phase }, { on := 14, ground := .phase }, { on := 15, ground := .phase }, { on := 16, ground := .phase }, { on := 17, ground := .phase }, { on := 18, ground := .phase }, { on := 19, ground := .phase }, { on := 20, ground := .phase }, { on := 21, ground := .phase }, { on := 22, ground := .phase }, { on := 23, ground := .phase }, { on := 24, ground := .phase }, { on := 25, ground := .phase }, { on := 26, ground := .phase }, { on := 27, ground := .phase }, { on := 28, ground := .phase }, { on := 29, ground := .phase }, { on := 30, ground := .phase }, { on := 31, ground := .phase }, { on := 32, ground := .phase }, { on := 33, ground := .phase }, { on := 34, ground := .phase }, { on := 35, ground := .phase }, { on := 36, ground := .phase }, { on := 37, ground := .phase }, { on := 38, ground := .phase }, { on := 39, ground := .phase }, { on := 40, ground := .phase }, { on := 41, ground := .phase }, { on := 42, ground := .phase }, { on := 43, ground := .phase }].append [{ on := 44, ground := .phase }, { on := 45, ground := .phase }, { on := 46, ground := .phase }, { on := 47, ground := .phase }, { on := 48, ground := .phase }, { on := 49, ground := .phase }, { on := 50, ground := .phase }, { on := 51, ground := .phase }, { on := 52, ground := .phase }, { on := 53, ground := .phase }, { on := 54, ground := .phase }, { on := 55, ground := .phase }, { on := 56, ground := .phase }, { on := 57, ground := .phase }, { on := 58, ground := .phase }, { on := 59, ground := .phase }, { on := 60, ground := .phase }, { on := 61, ground := .phase }, { on := 62, ground := .phase }, { on := 63, ground := .phase }, { on := 64, ground := .phase }, { on := 65, ground := .phase }, { on := 66, ground := .phase }, { on := 67, ground := .phase }, { on := 68, ground := .phase }, { on := 69, ground := .phase }, { on := 70, ground := .phase }, { on := 71, ground := .phase }, { on := 72, ground := .phase }, { on := 73, ground := .phase }, { on := 74, ground := .phase }, { on := 75, ground := .phase }, { on := 76, ground := .phase }, { on := 77, ground := .phase }, { on := 78, ground := .phase }, { on := 79, ground := .phase }, { on := 80, ground := .phase }, { on := 81, ground := .phase }, { on := 82, ground := .phase }, { on := 83, ground := .phase }, { on := 84, ground := .phase }, { on := 85, ground := .phase }, { on := 86, ground := .phase }, { on := 87, ground := .phase }, { on := 88, ground := .phase }, { on := 89, ground := .phase }]).toArray, guard := none } : Oper)) (v := ?v90) rfl saysOps_plain (by as_aux_lemma => kernel_rfl) (by as_aux_lemma => kernel_rfl) (fun _ _ _ h => h) (Or.inl ⟨by rfl, ?y90⟩) (by assumption) ?r90
  case y90 => (intro w hSw; (try dsimp only at hSw); go_simp; try with_reducible rfl)
  try simp only [Act.put, List.setIfInBounds_toArray, List.set_cons_zero, List.set_cons_succ]
  refine wpAnyH_done (by as_aux_lemma => kernel_rfl) ?_ _
  refine NoPanic.normal ?_
  go_wp2_with fail
  go_ret
  exact ⟨rfl, belowT B7 (by assumption)⟩

end Go.Proofs.Ytfgjkkabipmhhaa
