/- LatchSays. -/
import Derived.Test.YtldbkompebefmaaDoorLtI
import Derived.Test.YtldbkompebefmaaDoorLtD
import Derived.Test.YtldbkompebefmaaDoorLtOpen
import Derived.Lib.MinMax
import Derived.Deep.RegionWith
import Derived.Deep.CutBlock
import Derived.Deep.CutRange
import Derived.BigRegion
namespace Go.Proofs.YtldbkompebefmaaDoor
open Go.RowKit Ld Lat Obs

namespace Law33
open Lat
theorem case_part {l m r : List Value} {k : Nat} {W : World} {b : Nat} (hm : l.length = k) (h : W.rangeAt b 0 (l ++ (m ++ r))) : W.rangeAt b k m := fun i v hv => by
  have := h (k + i) v (by rw [List.getElem?_append_right (by omega), show k + i - l.length = i by omega, List.getElem?_append_left (List.getElem?_eq_some_iff.1 hv).1]; exact hv)
  rwa [Nat.zero_add] at this
theorem case_alive {al : List Bool} {x y z : Int} {p q : Qd} {W : World} {b : Nat} (h : W.rangeAt b 0 (ca33 al x y z p q).toList) : W.rangeAt b 0 (bl al).toList :=
  case_part (l := []) (m := (bl al).toList) (r := .int .i64 x :: .int .i64 y :: .int .i64 z :: (qc p ++ qc q)) rfl h
theorem case_alt {al : List Bool} (hl : al.length = 22) {x y z : Int} {p q : Qd} {W : World} {b : Nat} (h : W.rangeAt b 0 (ca33 al x y z p q).toList) : W.rangeAt b 25 (qa p).toList := by
  have e : (ca33 al x y z p q).toList = ((bl al).toList ++ [.int .i64 x, .int .i64 y, .int .i64 z]) ++ (qc p ++ qc q) := by rw [ca33_list, List.append_assoc]; rfl
  rw [e] at h
  exact case_part (by rw [List.length_append, Array.length_toList, bl_size, hl]; rfl) h
theorem case_speed {al : List Bool} (hl : al.length = 22) {x y z : Int} {p q : Qd} {W : World} {b : Nat} (h : W.rangeAt b 0 (ca33 al x y z p q).toList) : W.rangeAt b 45 (qa q).toList := by
  have e : (ca33 al x y z p q).toList = ((bl al).toList ++ ([.int .i64 x, .int .i64 y, .int .i64 z] ++ qc p)) ++ (qc q ++ []) := by rw [ca33_list, List.append_assoc, List.append_assoc, List.append_nil]; rfl
  rw [e] at h
  exact case_part (by rw [List.length_append, Array.length_toList, bl_size, hl]; rfl) h
theorem case_set {al : List Bool} (hl : al.length = 22) {x y z : Int} {p q : Qd} (i : Nat) {v : Value} (h : ([.int .i64 x, .int .i64 y, .int .i64 z] : List Value)[i]? = some v) : (ca33 al x y z p q).toList[22 + i]? = some v := by
  have e : (ca33 al x y z p q).toList = (bl al).toList ++ ([.int .i64 x, .int .i64 y, .int .i64 z] ++ (qc p ++ qc q)) := rfl
  have hb : (bl al).toList.length = 22 := by rw [Array.length_toList, bl_size, hl]
  rw [e, List.getElem?_append_right (by omega), show 22 + i - (bl al).toList.length = i by omega, List.getElem?_append_left (List.getElem?_eq_some_iff.1 h).1]
  exact h
/-- The operations of a drawn region, as the translation has them. -/
def ltsay1 : Array Oper := #[
  { dst := some 7, op := .fieldAddr 32 (.tmp 5) 0, type := 0, pos := "law.go:20", after := #[], guard := none },
  { dst := some 8, op := .load 24 (.tmp 7), type := 24, pos := "law.go:20", after := #[{ on := 0, ground := .data }], guard := none },
  { dst := some 9, op := .fieldAddr 32 (.tmp 5) 1, type := 0, pos := "law.go:20", after := #[], guard := none },
  { dst := some 10, op := .indexAddr 25 (.tmp 9) (.const (.int .i64 0)), type := 0, pos := "law.go:20", after := #[{ on := 2, ground := .data }], guard := none },
  { dst := some 11, op := .load 3 (.tmp 10), type := 3, pos := "law.go:20", after := #[{ on := 3, ground := .data }], guard := none },
  { dst := some 12, op := .fieldAddr 32 (.tmp 5) 1, type := 0, pos := "law.go:20", after := #[], guard := none },
  { dst := some 13, op := .indexAddr 25 (.tmp 12) (.const (.int .i64 1)), type := 0, pos := "law.go:20", after := #[{ on := 5, ground := .data }], guard := none },
  { dst := some 14, op := .load 3 (.tmp 13), type := 3, pos := "law.go:20", after := #[{ on := 6, ground := .data }], guard := none },
  { dst := some 15, op := .fieldAddr 32 (.tmp 5) 2, type := 0, pos := "law.go:20", after := #[], guard := none },
  { dst := some 16, op := .load 30 (.tmp 15), type := 30, pos := "law.go:20", after := #[{ on := 8, ground := .data }], guard := none },
  { dst := some 17, op := .fieldAddr 32 (.tmp 5) 3, type := 0, pos := "law.go:20", after := #[], guard := none },
  { dst := some 18, op := .load 30 (.tmp 17), type := 30, pos := "law.go:20", after := #[{ on := 10, ground := .data }], guard := none },
  { dst := some 19, op := .call { callee := .value (.func 6), args := #[.tmp 8, .tmp 11, .tmp 14, .tmp 16, .tmp 18], argTypes := #[24, 3, 3, 30, 30] }, type := 23, pos := "law.go:20", after := #[{ on := 1, ground := .data }, { on := 4, ground := .data }, { on := 7, ground := .data }, { on := 9, ground := .data }, { on := 11, ground := .data }], guard := none },
  { dst := some 20, op := .fieldAddr 32 (.tmp 5) 0, type := 0, pos := "law.go:20", after := #[], guard := none },
  { dst := some 21, op := .load 24 (.tmp 20), type := 24, pos := "law.go:20", after := #[{ on := 13, ground := .data }], guard := none },
  { dst := some 22, op := .fieldAddr 32 (.tmp 5) 1, type := 0, pos := "law.go:20", after := #[], guard := none },
  { dst := some 23, op := .indexAddr 25 (.tmp 22) (.const (.int .i64 0)), type := 0, pos := "law.go:20", after := #[{ on := 15, ground := .data }], guard := none },
  { dst := some 24, op := .load 3 (.tmp 23), type := 3, pos := "law.go:20", after := #[{ on := 16, ground := .data }], guard := none },
  { dst := some 25, op := .fieldAddr 32 (.tmp 5) 1, type := 0, pos := "law.go:20", after := #[], guard := none },
  { dst := some 26, op := .indexAddr 25 (.tmp 25) (.const (.int .i64 1)), type := 0, pos := "law.go:20", after := #[{ on := 18, ground := .data }], guard := none },
  { dst := some 27, op := .load 3 (.tmp 26), type := 3, pos := "law.go:20", after := #[{ on := 19, ground := .data }], guard := none },
  { dst := some 28, op := .fieldAddr 32 (.tmp 5) 2, type := 0, pos := "law.go:20", after := #[], guard := none },
  { dst := some 29, op := .load 30 (.tmp 28), type := 30, pos := "law.go:20", after := #[{ on := 21, ground := .data }], guard := none },
  { dst := some 30, op := .fieldAddr 32 (.tmp 5) 3, type := 0, pos := "law.go:20", after := #[], guard := none },
  { dst := some 31, op := .load 30 (.tmp 30), type := 30, pos := "law.go:20", after := #[{ on := 23, ground := .data }], guard := none },
  { dst := some 32, op := .call { callee := .value (.func 7), args := #[.tmp 21, .tmp 24, .tmp 27, .tmp 29, .tmp 31], argTypes := #[24, 3, 3, 30, 30] }, type := 23, pos := "law.go:20", after := #[{ on := 14, ground := .data }, { on := 17, ground := .data }, { on := 20, ground := .data }, { on := 22, ground := .data }, { on := 24, ground := .data }, { on := 12, ground := .chain }], guard := none },
  { dst := some 33, op := .binOp .eql 23 (.tmp 19) (.tmp 32) 23, type := 4, pos := "law.go:20", after := #[{ on := 12, ground := .data }, { on := 25, ground := .data }], guard := none },
  { dst := some 34, op := .move (.tmp 33), type := 4, pos := "law.go:20", after := #[{ on := 26, ground := .data }, { on := 25, ground := .chain }], guard := none },
  { dst := some 35, op := .load 23 (.tmp 3), type := 23, pos := "law.go:20", after := #[{ on := 27, ground := .guard }], guard := some (27, true) },
  { dst := some 36, op := .load 23 (.tmp 4), type := 23, pos := "law.go:20", after := #[{ on := 27, ground := .guard }], guard := some (27, true) },
  { dst := some 37, op := .call { callee := .value (.func 8), args := #[.tmp 35, .tmp 36], argTypes := #[23, 23] }, type := 23, pos := "law.go:20", after := #[{ on := 28, ground := .data }, { on := 29, ground := .data }, { on := 27, ground := .chain }, { on := 27, ground := .guard }], guard := some (27, true) },
  { dst := some 38, op := .load 23 (.tmp 3), type := 23, pos := "law.go:20", after := #[{ on := 27, ground := .guard }], guard := some (27, true) },
  { dst := some 39, op := .load 23 (.tmp 4), type := 23, pos := "law.go:20", after := #[{ on := 27, ground := .guard }], guard := some (27, true) },
  { dst := some 40, op := .call { callee := .value (.func 9), args := #[.tmp 38, .tmp 39], argTypes := #[23, 23] }, type := 23, pos := "law.go:20", after := #[{ on := 31, ground := .data }, { on := 32, ground := .data }, { on := 30, ground := .chain }, { on := 27, ground := .guard }], guard := some (27, true) },
  { dst := some 41, op := .binOp .eql 23 (.tmp 37) (.tmp 40) 23, type := 4, pos := "law.go:20", after := #[{ on := 30, ground := .data }, { on := 33, ground := .data }, { on := 27, ground := .guard }], guard := some (27, true) },
  { dst := some 42, op := .pick (.tmp 34) (.tmp 41) (.const (.bool false)), type := 4, pos := "law.go:20", after := #[{ on := 27, ground := .data }, { on := 34, ground := .data }], guard := none },
  { dst := some 43, op := .move (.tmp 42), type := 4, pos := "law.go:20", after := #[{ on := 35, ground := .data }, { on := 33, ground := .chain }], guard := none },
  { dst := some 44, op := .call { callee := .value (.func 10), args := #[], argTypes := #[] }, type := 23, pos := "law.go:20", after := #[{ on := 36, ground := .chain }, { on := 36, ground := .guard }], guard := some (36, true) },
  { dst := some 45, op := .call { callee := .value (.func 11), args := #[], argTypes := #[] }, type := 23, pos := "law.go:20", after := #[{ on := 37, ground := .chain }, { on := 36, ground := .guard }], guard := some (36, true) },
  { dst := some 46, op := .binOp .eql 23 (.tmp 44) (.tmp 45) 23, type := 4, pos := "law.go:20", after := #[{ on := 37, ground := .data }, { on := 38, ground := .data }, { on := 36, ground := .guard }], guard := some (36, true) },
  { dst := some 47, op := .pick (.tmp 43) (.tmp 46) (.const (.bool false)), type := 4, pos := "law.go:20", after := #[{ on := 36, ground := .data }, { on := 39, ground := .data }], guard := none },
  { dst := some 48, op := .move (.tmp 47), type := 4, pos := "law.go:20", after := #[{ on := 40, ground := .data }, { on := 38, ground := .chain }], guard := none },
  { dst := some 49, op := .fieldAddr 32 (.tmp 5) 1, type := 0, pos := "law.go:20", after := #[{ on := 41, ground := .guard }], guard := some (41, true) },
  { dst := some 50, op := .indexAddr 25 (.tmp 49) (.const (.int .i64 0)), type := 0, pos := "law.go:20", after := #[{ on := 42, ground := .data }, { on := 41, ground := .guard }], guard := some (41, true) },
  { dst := some 51, op := .load 3 (.tmp 50), type := 3, pos := "law.go:20", after := #[{ on := 43, ground := .data }, { on := 41, ground := .guard }], guard := some (41, true) },
  { dst := some 52, op := .fieldAddr 32 (.tmp 5) 1, type := 0, pos := "law.go:20", after := #[{ on := 41, ground := .guard }], guard := some (41, true) },
  { dst := some 53, op := .indexAddr 25 (.tmp 52) (.const (.int .i64 1)), type := 0, pos := "law.go:20", after := #[{ on := 45, ground := .data }, { on := 41, ground := .guard }], guard := some (41, true) },
  { dst := some 54, op := .load 3 (.tmp 53), type := 3, pos := "law.go:20", after := #[{ on := 46, ground := .data }, { on := 41, ground := .guard }], guard := some (41, true) },
  { dst := some 55, op := .fieldAddr 32 (.tmp 5) 1, type := 0, pos := "law.go:20", after := #[{ on := 41, ground := .guard }], guard := some (41, true) },
  { dst := some 56, op := .indexAddr 25 (.tmp 55) (.const (.int .i64 2)), type := 0, pos := "law.go:20", after := #[{ on := 48, ground := .data }, { on := 41, ground := .guard }], guard := some (41, true) },
  { dst := some 57, op := .load 3 (.tmp 56), type := 3, pos := "law.go:20", after := #[{ on := 49, ground := .data }, { on := 41, ground := .guard }], guard := some (41, true) },
  { dst := some 58, op := .call { callee := .value (.func 12), args := #[.tmp 51, .tmp 54, .tmp 57], argTypes := #[3, 3, 3] }, type := 3, pos := "law.go:20", after := #[{ on := 44, ground := .data }, { on := 47, ground := .data }, { on := 50, ground := .data }, { on := 41, ground := .chain }, { on := 41, ground := .guard }], guard := some (41, true) },
  { dst := some 59, op := .fieldAddr 32 (.tmp 5) 1, type := 0, pos := "law.go:20", after := #[{ on := 41, ground := .guard }], guard := some (41, true) },
  { dst := some 60, op := .indexAddr 25 (.tmp 59) (.const (.int .i64 0)), type := 0, pos := "law.go:20", after := #[{ on := 52, ground := .data }, { on := 41, ground := .guard }], guard := some (41, true) },
  { dst := some 61, op := .load 3 (.tmp 60), type := 3, pos := "law.go:20", after := #[{ on := 53, ground := .data }, { on := 41, ground := .guard }], guard := some (41, true) },
  { dst := some 62, op := .fieldAddr 32 (.tmp 5) 1, type := 0, pos := "law.go:20", after := #[{ on := 41, ground := .guard }], guard := some (41, true) },
  { dst := some 63, op := .indexAddr 25 (.tmp 62) (.const (.int .i64 1)), type := 0, pos := "law.go:20", after := #[{ on := 55, ground := .data }, { on := 41, ground := .guard }], guard := some (41, true) },
  { dst := some 64, op := .load 3 (.tmp 63), type := 3, pos := "law.go:20", after := #[{ on := 56, ground := .data }, { on := 41, ground := .guard }], guard := some (41, true) },
  { dst := some 65, op := .fieldAddr 32 (.tmp 5) 1, type := 0, pos := "law.go:20", after := #[{ on := 41, ground := .guard }], guard := some (41, true) },
  { dst := some 66, op := .indexAddr 25 (.tmp 65) (.const (.int .i64 2)), type := 0, pos := "law.go:20", after := #[{ on := 58, ground := .data }, { on := 41, ground := .guard }], guard := some (41, true) },
  { dst := some 67, op := .load 3 (.tmp 66), type := 3, pos := "law.go:20", after := #[{ on := 59, ground := .data }, { on := 41, ground := .guard }], guard := some (41, true) },
  { dst := some 68, op := .call { callee := .value (.func 13), args := #[.tmp 61, .tmp 64, .tmp 67], argTypes := #[3, 3, 3] }, type := 3, pos := "law.go:20", after := #[{ on := 54, ground := .data }, { on := 57, ground := .data }, { on := 60, ground := .data }, { on := 51, ground := .chain }, { on := 41, ground := .guard }], guard := some (41, true) },
  { dst := some 69, op := .binOp .eql 3 (.tmp 58) (.tmp 68) 3, type := 4, pos := "law.go:20", after := #[{ on := 51, ground := .data }, { on := 61, ground := .data }, { on := 41, ground := .guard }], guard := some (41, true) },
  { dst := some 70, op := .pick (.tmp 48) (.tmp 69) (.const (.bool false)), type := 4, pos := "law.go:20", after := #[{ on := 41, ground := .data }, { on := 62, ground := .data }], guard := none },
  { dst := some 71, op := .move (.tmp 70), type := 4, pos := "law.go:20", after := #[{ on := 63, ground := .data }, { on := 61, ground := .chain }], guard := none },
  { dst := some 72, op := .call { callee := .value (.func 14), args := #[], argTypes := #[] }, type := 4, pos := "law.go:20", after := #[{ on := 64, ground := .chain }, { on := 64, ground := .guard }], guard := some (64, true) },
  { dst := some 73, op := .pick (.tmp 71) (.tmp 72) (.const (.bool false)), type := 4, pos := "law.go:20", after := #[{ on := 64, ground := .data }, { on := 65, ground := .data }], guard := none },
  { dst := some 6, op := .assign (.tmp 73), type := 4, pos := "law.go:20", after := ([{ on := 66, ground := .data }, { on := 65, ground := .chain }, { on := 0, ground := .phase }, { on := 1, ground := .phase }, { on := 2, ground := .phase }, { on := 3, ground := .phase }, { on := 4, ground := .phase }, { on := 5, ground := .phase }, { on := 6, ground := .phase }, { on := 7, ground := .phase }, { on := 8, ground := .phase }, { on := 9, ground := .phase }, { on := 10, ground := .phase }, { on := 11, ground := .phase }, { on := 12, ground := .phase }, { on := 13, ground := .phase }, { on := 14, ground := .phase }, { on := 15, ground := .phase }, { on := 16, ground := .phase }, { on := 17, ground := .phase }, { on := 18, ground := .phase }, { on := 19, ground := .phase }, { on := 20, ground := .phase }, { on := 21, ground := .phase }, { on := 22, ground := .phase }, { on := 23, ground := .phase }, { on := 24, ground := .phase }, { on := 25, ground := .phase }, { on := 26, ground := .phase }, { on := 27, ground := .phase }, { on := 28, ground := .phase }, { on := 29, ground := .phase }, { on := 30, ground := .phase }, { on := 31, ground := .phase }].append [{ on := 32, ground := .phase }, { on := 33, ground := .phase }, { on := 34, ground := .phase }, { on := 35, ground := .phase }, { on := 36, ground := .phase }, { on := 37, ground := .phase }, { on := 38, ground := .phase }, { on := 39, ground := .phase }, { on := 40, ground := .phase }, { on := 41, ground := .phase }, { on := 42, ground := .phase }, { on := 43, ground := .phase }, { on := 44, ground := .phase }, { on := 45, ground := .phase }, { on := 46, ground := .phase }, { on := 47, ground := .phase }, { on := 48, ground := .phase }, { on := 49, ground := .phase }, { on := 50, ground := .phase }, { on := 51, ground := .phase }, { on := 52, ground := .phase }, { on := 53, ground := .phase }, { on := 54, ground := .phase }, { on := 55, ground := .phase }, { on := 56, ground := .phase }, { on := 57, ground := .phase }, { on := 58, ground := .phase }, { on := 59, ground := .phase }, { on := 60, ground := .phase }, { on := 61, ground := .phase }, { on := 62, ground := .phase }, { on := 63, ground := .phase }, { on := 64, ground := .phase }, { on := 65, ground := .phase }, { on := 66, ground := .phase }]).toArray, guard := none }]
theorem ltsay1_plain : Region.noSelect ltsay1 = true := by kernel_rfl
/-- what the operation stands behind -/
def ltsay1_a0 := ({ dst := some 7, op := .fieldAddr 32 (.tmp 5) 0, type := 0, pos := "law.go:20", after := #[], guard := none } : Oper).after
/-- what the operation stands behind -/
def ltsay1_a1 := ({ dst := some 8, op := .load 24 (.tmp 7), type := 24, pos := "law.go:20", after := #[{ on := 0, ground := .data }], guard := none } : Oper).after
/-- what the operation stands behind -/
def ltsay1_a2 := ({ dst := some 9, op := .fieldAddr 32 (.tmp 5) 1, type := 0, pos := "law.go:20", after := #[], guard := none } : Oper).after
/-- what the operation stands behind -/
def ltsay1_a3 := ({ dst := some 10, op := .indexAddr 25 (.tmp 9) (.const (.int .i64 0)), type := 0, pos := "law.go:20", after := #[{ on := 2, ground := .data }], guard := none } : Oper).after
/-- what the operation stands behind -/
def ltsay1_a4 := ({ dst := some 11, op := .load 3 (.tmp 10), type := 3, pos := "law.go:20", after := #[{ on := 3, ground := .data }], guard := none } : Oper).after
/-- what the operation stands behind -/
def ltsay1_a5 := ({ dst := some 12, op := .fieldAddr 32 (.tmp 5) 1, type := 0, pos := "law.go:20", after := #[], guard := none } : Oper).after
/-- what the operation stands behind -/
def ltsay1_a6 := ({ dst := some 13, op := .indexAddr 25 (.tmp 12) (.const (.int .i64 1)), type := 0, pos := "law.go:20", after := #[{ on := 5, ground := .data }], guard := none } : Oper).after
/-- what the operation stands behind -/
def ltsay1_a7 := ({ dst := some 14, op := .load 3 (.tmp 13), type := 3, pos := "law.go:20", after := #[{ on := 6, ground := .data }], guard := none } : Oper).after
/-- what the operation stands behind -/
def ltsay1_a8 := ({ dst := some 15, op := .fieldAddr 32 (.tmp 5) 2, type := 0, pos := "law.go:20", after := #[], guard := none } : Oper).after
/-- what the operation stands behind -/
def ltsay1_a9 := ({ dst := some 16, op := .load 30 (.tmp 15), type := 30, pos := "law.go:20", after := #[{ on := 8, ground := .data }], guard := none } : Oper).after
/-- what the operation stands behind -/
def ltsay1_a10 := ({ dst := some 17, op := .fieldAddr 32 (.tmp 5) 3, type := 0, pos := "law.go:20", after := #[], guard := none } : Oper).after
/-- what the operation stands behind -/
def ltsay1_a11 := ({ dst := some 18, op := .load 30 (.tmp 17), type := 30, pos := "law.go:20", after := #[{ on := 10, ground := .data }], guard := none } : Oper).after
/-- what the operation stands behind -/
def ltsay1_a12 := ({ dst := some 19, op := .call { callee := .value (.func 6), args := #[.tmp 8, .tmp 11, .tmp 14, .tmp 16, .tmp 18], argTypes := #[24, 3, 3, 30, 30] }, type := 23, pos := "law.go:20", after := #[{ on := 1, ground := .data }, { on := 4, ground := .data }, { on := 7, ground := .data }, { on := 9, ground := .data }, { on := 11, ground := .data }], guard := none } : Oper).after
/-- what the operation stands behind -/
def ltsay1_a13 := ({ dst := some 20, op := .fieldAddr 32 (.tmp 5) 0, type := 0, pos := "law.go:20", after := #[], guard := none } : Oper).after
/-- what the operation stands behind -/
def ltsay1_a14 := ({ dst := some 21, op := .load 24 (.tmp 20), type := 24, pos := "law.go:20", after := #[{ on := 13, ground := .data }], guard := none } : Oper).after
/-- what the operation stands behind -/
def ltsay1_a15 := ({ dst := some 22, op := .fieldAddr 32 (.tmp 5) 1, type := 0, pos := "law.go:20", after := #[], guard := none } : Oper).after
/-- what the operation stands behind -/
def ltsay1_a16 := ({ dst := some 23, op := .indexAddr 25 (.tmp 22) (.const (.int .i64 0)), type := 0, pos := "law.go:20", after := #[{ on := 15, ground := .data }], guard := none } : Oper).after
/-- what the operation stands behind -/
def ltsay1_a17 := ({ dst := some 24, op := .load 3 (.tmp 23), type := 3, pos := "law.go:20", after := #[{ on := 16, ground := .data }], guard := none } : Oper).after
/-- what the operation stands behind -/
def ltsay1_a18 := ({ dst := some 25, op := .fieldAddr 32 (.tmp 5) 1, type := 0, pos := "law.go:20", after := #[], guard := none } : Oper).after
/-- what the operation stands behind -/
def ltsay1_a19 := ({ dst := some 26, op := .indexAddr 25 (.tmp 25) (.const (.int .i64 1)), type := 0, pos := "law.go:20", after := #[{ on := 18, ground := .data }], guard := none } : Oper).after
/-- what the operation stands behind -/
def ltsay1_a20 := ({ dst := some 27, op := .load 3 (.tmp 26), type := 3, pos := "law.go:20", after := #[{ on := 19, ground := .data }], guard := none } : Oper).after
/-- what the operation stands behind -/
def ltsay1_a21 := ({ dst := some 28, op := .fieldAddr 32 (.tmp 5) 2, type := 0, pos := "law.go:20", after := #[], guard := none } : Oper).after
/-- what the operation stands behind -/
def ltsay1_a22 := ({ dst := some 29, op := .load 30 (.tmp 28), type := 30, pos := "law.go:20", after := #[{ on := 21, ground := .data }], guard := none } : Oper).after
/-- what the operation stands behind -/
def ltsay1_a23 := ({ dst := some 30, op := .fieldAddr 32 (.tmp 5) 3, type := 0, pos := "law.go:20", after := #[], guard := none } : Oper).after
/-- what the operation stands behind -/
def ltsay1_a24 := ({ dst := some 31, op := .load 30 (.tmp 30), type := 30, pos := "law.go:20", after := #[{ on := 23, ground := .data }], guard := none } : Oper).after
/-- what the operation stands behind -/
def ltsay1_a25 := ({ dst := some 32, op := .call { callee := .value (.func 7), args := #[.tmp 21, .tmp 24, .tmp 27, .tmp 29, .tmp 31], argTypes := #[24, 3, 3, 30, 30] }, type := 23, pos := "law.go:20", after := #[{ on := 14, ground := .data }, { on := 17, ground := .data }, { on := 20, ground := .data }, { on := 22, ground := .data }, { on := 24, ground := .data }, { on := 12, ground := .chain }], guard := none } : Oper).after
/-- what the operation stands behind -/
def ltsay1_a26 := ({ dst := some 33, op := .binOp .eql 23 (.tmp 19) (.tmp 32) 23, type := 4, pos := "law.go:20", after := #[{ on := 12, ground := .data }, { on := 25, ground := .data }], guard := none } : Oper).after
/-- what the operation stands behind -/
def ltsay1_a27 := ({ dst := some 34, op := .move (.tmp 33), type := 4, pos := "law.go:20", after := #[{ on := 26, ground := .data }, { on := 25, ground := .chain }], guard := none } : Oper).after
/-- what the operation stands behind -/
def ltsay1_a28 := ({ dst := some 35, op := .load 23 (.tmp 3), type := 23, pos := "law.go:20", after := #[{ on := 27, ground := .guard }], guard := some (27, true) } : Oper).after
/-- what the operation stands behind -/
def ltsay1_a29 := ({ dst := some 36, op := .load 23 (.tmp 4), type := 23, pos := "law.go:20", after := #[{ on := 27, ground := .guard }], guard := some (27, true) } : Oper).after
/-- what the operation stands behind -/
def ltsay1_a30 := ({ dst := some 37, op := .call { callee := .value (.func 8), args := #[.tmp 35, .tmp 36], argTypes := #[23, 23] }, type := 23, pos := "law.go:20", after := #[{ on := 28, ground := .data }, { on := 29, ground := .data }, { on := 27, ground := .chain }, { on := 27, ground := .guard }], guard := some (27, true) } : Oper).after
/-- what the operation stands behind -/
def ltsay1_a31 := ({ dst := some 38, op := .load 23 (.tmp 3), type := 23, pos := "law.go:20", after := #[{ on := 27, ground := .guard }], guard := some (27, true) } : Oper).after
/-- what the operation stands behind -/
def ltsay1_a32 := ({ dst := some 39, op := .load 23 (.tmp 4), type := 23, pos := "law.go:20", after := #[{ on := 27, ground := .guard }], guard := some (27, true) } : Oper).after
/-- what the operation stands behind -/
def ltsay1_a33 := ({ dst := some 40, op := .call { callee := .value (.func 9), args := #[.tmp 38, .tmp 39], argTypes := #[23, 23] }, type := 23, pos := "law.go:20", after := #[{ on := 31, ground := .data }, { on := 32, ground := .data }, { on := 30, ground := .chain }, { on := 27, ground := .guard }], guard := some (27, true) } : Oper).after
/-- what the operation stands behind -/
def ltsay1_a34 := ({ dst := some 41, op := .binOp .eql 23 (.tmp 37) (.tmp 40) 23, type := 4, pos := "law.go:20", after := #[{ on := 30, ground := .data }, { on := 33, ground := .data }, { on := 27, ground := .guard }], guard := some (27, true) } : Oper).after
/-- what the operation stands behind -/
def ltsay1_a35 := ({ dst := some 42, op := .pick (.tmp 34) (.tmp 41) (.const (.bool false)), type := 4, pos := "law.go:20", after := #[{ on := 27, ground := .data }, { on := 34, ground := .data }], guard := none } : Oper).after
/-- what the operation stands behind -/
def ltsay1_a36 := ({ dst := some 43, op := .move (.tmp 42), type := 4, pos := "law.go:20", after := #[{ on := 35, ground := .data }, { on := 33, ground := .chain }], guard := none } : Oper).after
/-- what the operation stands behind -/
def ltsay1_a37 := ({ dst := some 44, op := .call { callee := .value (.func 10), args := #[], argTypes := #[] }, type := 23, pos := "law.go:20", after := #[{ on := 36, ground := .chain }, { on := 36, ground := .guard }], guard := some (36, true) } : Oper).after
/-- what the operation stands behind -/
def ltsay1_a38 := ({ dst := some 45, op := .call { callee := .value (.func 11), args := #[], argTypes := #[] }, type := 23, pos := "law.go:20", after := #[{ on := 37, ground := .chain }, { on := 36, ground := .guard }], guard := some (36, true) } : Oper).after
/-- what the operation stands behind -/
def ltsay1_a39 := ({ dst := some 46, op := .binOp .eql 23 (.tmp 44) (.tmp 45) 23, type := 4, pos := "law.go:20", after := #[{ on := 37, ground := .data }, { on := 38, ground := .data }, { on := 36, ground := .guard }], guard := some (36, true) } : Oper).after
/-- what the operation stands behind -/
def ltsay1_a40 := ({ dst := some 47, op := .pick (.tmp 43) (.tmp 46) (.const (.bool false)), type := 4, pos := "law.go:20", after := #[{ on := 36, ground := .data }, { on := 39, ground := .data }], guard := none } : Oper).after
/-- what the operation stands behind -/
def ltsay1_a41 := ({ dst := some 48, op := .move (.tmp 47), type := 4, pos := "law.go:20", after := #[{ on := 40, ground := .data }, { on := 38, ground := .chain }], guard := none } : Oper).after
/-- what the operation stands behind -/
def ltsay1_a42 := ({ dst := some 49, op := .fieldAddr 32 (.tmp 5) 1, type := 0, pos := "law.go:20", after := #[{ on := 41, ground := .guard }], guard := some (41, true) } : Oper).after
/-- what the operation stands behind -/
def ltsay1_a43 := ({ dst := some 50, op := .indexAddr 25 (.tmp 49) (.const (.int .i64 0)), type := 0, pos := "law.go:20", after := #[{ on := 42, ground := .data }, { on := 41, ground := .guard }], guard := some (41, true) } : Oper).after
/-- what the operation stands behind -/
def ltsay1_a44 := ({ dst := some 51, op := .load 3 (.tmp 50), type := 3, pos := "law.go:20", after := #[{ on := 43, ground := .data }, { on := 41, ground := .guard }], guard := some (41, true) } : Oper).after
/-- what the operation stands behind -/
def ltsay1_a45 := ({ dst := some 52, op := .fieldAddr 32 (.tmp 5) 1, type := 0, pos := "law.go:20", after := #[{ on := 41, ground := .guard }], guard := some (41, true) } : Oper).after
/-- what the operation stands behind -/
def ltsay1_a46 := ({ dst := some 53, op := .indexAddr 25 (.tmp 52) (.const (.int .i64 1)), type := 0, pos := "law.go:20", after := #[{ on := 45, ground := .data }, { on := 41, ground := .guard }], guard := some (41, true) } : Oper).after
/-- what the operation stands behind -/
def ltsay1_a47 := ({ dst := some 54, op := .load 3 (.tmp 53), type := 3, pos := "law.go:20", after := #[{ on := 46, ground := .data }, { on := 41, ground := .guard }], guard := some (41, true) } : Oper).after
/-- what the operation stands behind -/
def ltsay1_a48 := ({ dst := some 55, op := .fieldAddr 32 (.tmp 5) 1, type := 0, pos := "law.go:20", after := #[{ on := 41, ground := .guard }], guard := some (41, true) } : Oper).after
/-- what the operation stands behind -/
def ltsay1_a49 := ({ dst := some 56, op := .indexAddr 25 (.tmp 55) (.const (.int .i64 2)), type := 0, pos := "law.go:20", after := #[{ on := 48, ground := .data }, { on := 41, ground := .guard }], guard := some (41, true) } : Oper).after
/-- what the operation stands behind -/
def ltsay1_a50 := ({ dst := some 57, op := .load 3 (.tmp 56), type := 3, pos := "law.go:20", after := #[{ on := 49, ground := .data }, { on := 41, ground := .guard }], guard := some (41, true) } : Oper).after
/-- what the operation stands behind -/
def ltsay1_a51 := ({ dst := some 58, op := .call { callee := .value (.func 12), args := #[.tmp 51, .tmp 54, .tmp 57], argTypes := #[3, 3, 3] }, type := 3, pos := "law.go:20", after := #[{ on := 44, ground := .data }, { on := 47, ground := .data }, { on := 50, ground := .data }, { on := 41, ground := .chain }, { on := 41, ground := .guard }], guard := some (41, true) } : Oper).after
/-- what the operation stands behind -/
def ltsay1_a52 := ({ dst := some 59, op := .fieldAddr 32 (.tmp 5) 1, type := 0, pos := "law.go:20", after := #[{ on := 41, ground := .guard }], guard := some (41, true) } : Oper).after
/-- what the operation stands behind -/
def ltsay1_a53 := ({ dst := some 60, op := .indexAddr 25 (.tmp 59) (.const (.int .i64 0)), type := 0, pos := "law.go:20", after := #[{ on := 52, ground := .data }, { on := 41, ground := .guard }], guard := some (41, true) } : Oper).after
/-- what the operation stands behind -/
def ltsay1_a54 := ({ dst := some 61, op := .load 3 (.tmp 60), type := 3, pos := "law.go:20", after := #[{ on := 53, ground := .data }, { on := 41, ground := .guard }], guard := some (41, true) } : Oper).after
/-- what the operation stands behind -/
def ltsay1_a55 := ({ dst := some 62, op := .fieldAddr 32 (.tmp 5) 1, type := 0, pos := "law.go:20", after := #[{ on := 41, ground := .guard }], guard := some (41, true) } : Oper).after
/-- what the operation stands behind -/
def ltsay1_a56 := ({ dst := some 63, op := .indexAddr 25 (.tmp 62) (.const (.int .i64 1)), type := 0, pos := "law.go:20", after := #[{ on := 55, ground := .data }, { on := 41, ground := .guard }], guard := some (41, true) } : Oper).after
/-- what the operation stands behind -/
def ltsay1_a57 := ({ dst := some 64, op := .load 3 (.tmp 63), type := 3, pos := "law.go:20", after := #[{ on := 56, ground := .data }, { on := 41, ground := .guard }], guard := some (41, true) } : Oper).after
/-- what the operation stands behind -/
def ltsay1_a58 := ({ dst := some 65, op := .fieldAddr 32 (.tmp 5) 1, type := 0, pos := "law.go:20", after := #[{ on := 41, ground := .guard }], guard := some (41, true) } : Oper).after
/-- what the operation stands behind -/
def ltsay1_a59 := ({ dst := some 66, op := .indexAddr 25 (.tmp 65) (.const (.int .i64 2)), type := 0, pos := "law.go:20", after := #[{ on := 58, ground := .data }, { on := 41, ground := .guard }], guard := some (41, true) } : Oper).after
/-- what the operation stands behind -/
def ltsay1_a60 := ({ dst := some 67, op := .load 3 (.tmp 66), type := 3, pos := "law.go:20", after := #[{ on := 59, ground := .data }, { on := 41, ground := .guard }], guard := some (41, true) } : Oper).after
/-- what the operation stands behind -/
def ltsay1_a61 := ({ dst := some 68, op := .call { callee := .value (.func 13), args := #[.tmp 61, .tmp 64, .tmp 67], argTypes := #[3, 3, 3] }, type := 3, pos := "law.go:20", after := #[{ on := 54, ground := .data }, { on := 57, ground := .data }, { on := 60, ground := .data }, { on := 51, ground := .chain }, { on := 41, ground := .guard }], guard := some (41, true) } : Oper).after
/-- what the operation stands behind -/
def ltsay1_a62 := ({ dst := some 69, op := .binOp .eql 3 (.tmp 58) (.tmp 68) 3, type := 4, pos := "law.go:20", after := #[{ on := 51, ground := .data }, { on := 61, ground := .data }, { on := 41, ground := .guard }], guard := some (41, true) } : Oper).after
/-- what the operation stands behind -/
def ltsay1_a63 := ({ dst := some 70, op := .pick (.tmp 48) (.tmp 69) (.const (.bool false)), type := 4, pos := "law.go:20", after := #[{ on := 41, ground := .data }, { on := 62, ground := .data }], guard := none } : Oper).after
/-- what the operation stands behind -/
def ltsay1_a64 := ({ dst := some 71, op := .move (.tmp 70), type := 4, pos := "law.go:20", after := #[{ on := 63, ground := .data }, { on := 61, ground := .chain }], guard := none } : Oper).after
/-- what the operation stands behind -/
def ltsay1_a65 := ({ dst := some 72, op := .call { callee := .value (.func 14), args := #[], argTypes := #[] }, type := 4, pos := "law.go:20", after := #[{ on := 64, ground := .chain }, { on := 64, ground := .guard }], guard := some (64, true) } : Oper).after
/-- what the operation stands behind -/
def ltsay1_a66 := ({ dst := some 73, op := .pick (.tmp 71) (.tmp 72) (.const (.bool false)), type := 4, pos := "law.go:20", after := #[{ on := 64, ground := .data }, { on := 65, ground := .data }], guard := none } : Oper).after
/-- what the operation stands behind -/
def ltsay1_a67 := ({ dst := some 6, op := .assign (.tmp 73), type := 4, pos := "law.go:20", after := ([{ on := 66, ground := .data }, { on := 65, ground := .chain }, { on := 0, ground := .phase }, { on := 1, ground := .phase }, { on := 2, ground := .phase }, { on := 3, ground := .phase }, { on := 4, ground := .phase }, { on := 5, ground := .phase }, { on := 6, ground := .phase }, { on := 7, ground := .phase }, { on := 8, ground := .phase }, { on := 9, ground := .phase }, { on := 10, ground := .phase }, { on := 11, ground := .phase }, { on := 12, ground := .phase }, { on := 13, ground := .phase }, { on := 14, ground := .phase }, { on := 15, ground := .phase }, { on := 16, ground := .phase }, { on := 17, ground := .phase }, { on := 18, ground := .phase }, { on := 19, ground := .phase }, { on := 20, ground := .phase }, { on := 21, ground := .phase }, { on := 22, ground := .phase }, { on := 23, ground := .phase }, { on := 24, ground := .phase }, { on := 25, ground := .phase }, { on := 26, ground := .phase }, { on := 27, ground := .phase }, { on := 28, ground := .phase }, { on := 29, ground := .phase }, { on := 30, ground := .phase }, { on := 31, ground := .phase }].append [{ on := 32, ground := .phase }, { on := 33, ground := .phase }, { on := 34, ground := .phase }, { on := 35, ground := .phase }, { on := 36, ground := .phase }, { on := 37, ground := .phase }, { on := 38, ground := .phase }, { on := 39, ground := .phase }, { on := 40, ground := .phase }, { on := 41, ground := .phase }, { on := 42, ground := .phase }, { on := 43, ground := .phase }, { on := 44, ground := .phase }, { on := 45, ground := .phase }, { on := 46, ground := .phase }, { on := 47, ground := .phase }, { on := 48, ground := .phase }, { on := 49, ground := .phase }, { on := 50, ground := .phase }, { on := 51, ground := .phase }, { on := 52, ground := .phase }, { on := 53, ground := .phase }, { on := 54, ground := .phase }, { on := 55, ground := .phase }, { on := 56, ground := .phase }, { on := 57, ground := .phase }, { on := 58, ground := .phase }, { on := 59, ground := .phase }, { on := 60, ground := .phase }, { on := 61, ground := .phase }, { on := 62, ground := .phase }, { on := 63, ground := .phase }, { on := 64, ground := .phase }, { on := 65, ground := .phase }, { on := 66, ground := .phase }]).toArray, guard := none } : Oper).after

set_option maxHeartbeats 80000000 in
set_option maxRecDepth 100000 in
theorem Says33_core (a b n j : La) (cs arr pa qb : Array Value) (x y z u : Int) (w : World)
    (hA : Hid ((Tryd.prog.info? 24).map (·.size) = some arr.size)) (hP : Hid ((Tryd.prog.info? 30).map (·.size) = some pa.size)) (hQ : Hid ((Tryd.prog.info? 30).map (·.size) = some qb.size))
    (RA : Hid (∀ (W : World) b, W.rangeAt b 0 cs.toList → W.rangeAt b 0 arr.toList)) (RP : Hid (∀ (W : World) b, W.rangeAt b 0 cs.toList → W.rangeAt b 25 pa.toList)) (RQ : Hid (∀ (W : World) b, W.rangeAt b 0 cs.toList → W.rangeAt b 45 qb.toList))
    (C0 : Hid (cs.toList[22]? = some (.int .i64 x))) (C1 : Hid (cs.toList[23]? = some (.int .i64 y))) (C2 : Hid (cs.toList[24]? = some (.int .i64 z)))
    (NO : Hid (∀ w', Below w.heap.size w w' → Calls Tryd.prog 6 #[.agg arr, .int .i64 x, .int .i64 y, .agg pa, .agg qb] w' fun e w'' => e = .returned (.agg #[.int .i64 n.u, .bool n.am, .int .i64 n.al, .int .i64 n.sp, .bool n.fo, .bool n.no]) ∧ Below w'.heap.size w' w''))
    (JO : Hid (∀ w', Below w.heap.size w w' → Calls Tryd.prog 8 #[lv a, lv b] w' fun e w'' => e = .returned (.agg #[.int .i64 j.u, .bool j.am, .int .i64 j.al, .int .i64 j.sp, .bool j.fo, .bool j.no]) ∧ Below w'.heap.size w' w''))
    (NE : Hid (∀ w', Below w.heap.size w w' → Calls Tryd.prog 10 #[] w' fun e w'' => e = .returned (.agg #[.int .i64 6, .bool false, .int .i64 0, .int .i64 0, .bool false, .bool false]) ∧ Below w'.heap.size w' w''))
    (US : Hid (∀ w', Below w.heap.size w w' → Calls Tryd.prog 12 #[.int .i64 x, .int .i64 y, .int .i64 z] w' fun e w'' => e = .returned (.int .i64 u) ∧ Below w'.heap.size w' w''))
    (NO' : Hid (∀ w', Below w.heap.size w w' → Calls Tryd.prog 7 #[.agg arr, .int .i64 x, .int .i64 y, .agg pa, .agg qb] w' fun e w'' => e = .returned (.agg #[.int .i64 n.u, .bool n.am, .int .i64 n.al, .int .i64 n.sp, .bool n.fo, .bool n.no]) ∧ Below w'.heap.size w' w''))
    (JO' : Hid (∀ w', Below w.heap.size w w' → Calls Tryd.prog 9 #[lv a, lv b] w' fun e w'' => e = .returned (.agg #[.int .i64 j.u, .bool j.am, .int .i64 j.al, .int .i64 j.sp, .bool j.fo, .bool j.no]) ∧ Below w'.heap.size w' w''))
    (NE' : Hid (∀ w', Below w.heap.size w w' → Calls Tryd.prog 11 #[] w' fun e w'' => e = .returned (.agg #[.int .i64 6, .bool false, .int .i64 0, .int .i64 0, .bool false, .bool false]) ∧ Below w'.heap.size w' w''))
    (US' : Hid (∀ w', Below w.heap.size w w' → Calls Tryd.prog 13 #[.int .i64 x, .int .i64 y, .int .i64 z] w' fun e w'' => e = .returned (.int .i64 u) ∧ Below w'.heap.size w' w''))
    (AW : Hid (∀ w', Below w.heap.size w w' → Calls Tryd.prog 14 #[] w' fun e w'' => e = .returned (.bool true) ∧ Below w'.heap.size w' w''))
    (S0 : Hid (∀ w, (Op.equalIn 10000 23 (.agg #[.int .i64 n.u, .bool n.am, .int .i64 n.al, .int .i64 n.sp, .bool n.fo, .bool n.no]) (.agg #[.int .i64 n.u, .bool n.am, .int .i64 n.al, .int .i64 n.sp, .bool n.fo, .bool n.no])).run Tryd.prog w = .ok true w))
    (S1 : Hid (∀ w, (Op.equalIn 10000 23 (.agg #[.int .i64 j.u, .bool j.am, .int .i64 j.al, .int .i64 j.sp, .bool j.fo, .bool j.no]) (.agg #[.int .i64 j.u, .bool j.am, .int .i64 j.al, .int .i64 j.sp, .bool j.fo, .bool j.no])).run Tryd.prog w = .ok true w))
    (S2 : Hid (∀ w, (Op.equalIn 10000 23 (.agg #[.int .i64 6, .bool false, .int .i64 0, .int .i64 0, .bool false, .bool false]) (.agg #[.int .i64 6, .bool false, .int .i64 0, .int .i64 0, .bool false, .bool false])).run Tryd.prog w = .ok true w))
    : Calls Tryd.prog 3 #[lv a, lv b, .agg cs] w fun e w' => e = .returned (.bool true) ∧ Below w.heap.size w w' := by
  have hS1 := (((Sp.none w).more [.int .i64 a.u, .bool a.am, .int .i64 a.al, .int .i64 a.sp, .bool a.fo, .bool a.no] 23).more [.int .i64 b.u, .bool b.am, .int .i64 b.al, .int .i64 b.sp, .bool b.fo, .bool b.no] 23).more cs.toList 32
  simp only [heap1] at hS1
  have HS1 := Lib.hid (show Sp w [(w.heap.size, [some (.int .i64 a.u), some (.bool a.am), some (.int .i64 a.al), some (.int .i64 a.sp), some (.bool a.fo), some (.bool a.no)]), (w.heap.size + 1, [some (.int .i64 b.u), some (.bool b.am), some (.int .i64 b.al), some (.int .i64 b.sp), some (.bool b.fo), some (.bool b.no)]), (w.heap.size + 1 + 1, cs.toList.map some)] (((w.alloc (.cells #[.int .i64 a.u, .bool a.am, .int .i64 a.al, .int .i64 a.sp, .bool a.fo, .bool a.no] 23)).alloc (.cells #[.int .i64 b.u, .bool b.am, .int .i64 b.al, .int .i64 b.sp, .bool b.fo, .bool b.no] 23)).alloc (.cells cs 32)) from hS1)
  clear hS1
  have s0 := S0.out
  have s1 := S1.out
  have s2 := S2.out
  have ha := hA.out
  have hp := hP.out
  have hq := hQ.out
  clear hA hP hQ S0 S1 S2
  go_enter Tryd.func3, Tryd.ntmps3
  go_upto_region 1 with fail
  obtain ⟨w1, hX, hS⟩ := (HS1.out).named
  rw [← hX]
  clear hX HS1
  have HS2 := Lib.hid hS
  clear hS
  obtain ⟨bs1, hbs⟩ : ∃ bs : List (Nat × List (Option Value)), bs = [(w.heap.size, [some (.int .i64 a.u), some (.bool a.am), some (.int .i64 a.al), some (.int .i64 a.sp), some (.bool a.fo), some (.bool a.no)]), (w.heap.size + 1, [some (.int .i64 b.u), some (.bool b.am), some (.int .i64 b.al), some (.int .i64 b.sp), some (.bool b.fo), some (.bool b.no)]), (w.heap.size + 1 + 1, cs.toList.map some)] := ⟨_, rfl⟩
  have hT := (HS2.out).cast hbs
  have c0_0 : ∀ w', Sp w bs1 w' → w'.cell? ⟨w.heap.size, 0, none⟩ = some (.int .i64 a.u) := by rw [hbs]; exact fun w' h => h.at 0 rfl 0 rfl
  have c0_1 : ∀ w', Sp w bs1 w' → w'.cell? ⟨w.heap.size, 1, none⟩ = some (.bool a.am) := by rw [hbs]; exact fun w' h => h.at 0 rfl 1 rfl
  have c0_2 : ∀ w', Sp w bs1 w' → w'.cell? ⟨w.heap.size, 2, none⟩ = some (.int .i64 a.al) := by rw [hbs]; exact fun w' h => h.at 0 rfl 2 rfl
  have c0_3 : ∀ w', Sp w bs1 w' → w'.cell? ⟨w.heap.size, 3, none⟩ = some (.int .i64 a.sp) := by rw [hbs]; exact fun w' h => h.at 0 rfl 3 rfl
  have c0_4 : ∀ w', Sp w bs1 w' → w'.cell? ⟨w.heap.size, 4, none⟩ = some (.bool a.fo) := by rw [hbs]; exact fun w' h => h.at 0 rfl 4 rfl
  have c0_5 : ∀ w', Sp w bs1 w' → w'.cell? ⟨w.heap.size, 5, none⟩ = some (.bool a.no) := by rw [hbs]; exact fun w' h => h.at 0 rfl 5 rfl
  have c1_0 : ∀ w', Sp w bs1 w' → w'.cell? ⟨w.heap.size + 1, 0, none⟩ = some (.int .i64 b.u) := by rw [hbs]; exact fun w' h => h.at 1 rfl 0 rfl
  have c1_1 : ∀ w', Sp w bs1 w' → w'.cell? ⟨w.heap.size + 1, 1, none⟩ = some (.bool b.am) := by rw [hbs]; exact fun w' h => h.at 1 rfl 1 rfl
  have c1_2 : ∀ w', Sp w bs1 w' → w'.cell? ⟨w.heap.size + 1, 2, none⟩ = some (.int .i64 b.al) := by rw [hbs]; exact fun w' h => h.at 1 rfl 2 rfl
  have c1_3 : ∀ w', Sp w bs1 w' → w'.cell? ⟨w.heap.size + 1, 3, none⟩ = some (.int .i64 b.sp) := by rw [hbs]; exact fun w' h => h.at 1 rfl 3 rfl
  have c1_4 : ∀ w', Sp w bs1 w' → w'.cell? ⟨w.heap.size + 1, 4, none⟩ = some (.bool b.fo) := by rw [hbs]; exact fun w' h => h.at 1 rfl 4 rfl
  have c1_5 : ∀ w', Sp w bs1 w' → w'.cell? ⟨w.heap.size + 1, 5, none⟩ = some (.bool b.no) := by rw [hbs]; exact fun w' h => h.at 1 rfl 5 rfl
  have q22 : ∀ w', Sp w bs1 w' → w'.cell? ⟨w.heap.size + 1 + 1, 22, none⟩ = some (.int .i64 x) := fun w' h => (by have g := (h.cast hbs.symm).range 2 (l := cs.toList) rfl 22 _ C0.out; rwa [Nat.zero_add] at g)
  have q23 : ∀ w', Sp w bs1 w' → w'.cell? ⟨w.heap.size + 1 + 1, 23, none⟩ = some (.int .i64 y) := fun w' h => (by have g := (h.cast hbs.symm).range 2 (l := cs.toList) rfl 23 _ C1.out; rwa [Nat.zero_add] at g)
  have q24 : ∀ w', Sp w bs1 w' → w'.cell? ⟨w.heap.size + 1 + 1, 24, none⟩ = some (.int .i64 z) := fun w' h => (by have g := (h.cast hbs.symm).range 2 (l := cs.toList) rfl 24 _ C2.out; rwa [Nat.zero_add] at g)
  have RL0 : ∀ w', Sp w bs1 w' → w'.rangeAt (w.heap.size + 1 + 1) 0 arr.toList := by rw [hbs]; exact fun w' h => RA.out _ _ (h.range 2 (l := cs.toList) rfl)
  have RL1 : ∀ w', Sp w bs1 w' → w'.rangeAt (w.heap.size + 1 + 1) 0 arr.toList := by rw [hbs]; exact fun w' h => RA.out _ _ (h.range 2 (l := cs.toList) rfl)
  have RL2 : ∀ w', Sp w bs1 w' → w'.rangeAt (w.heap.size + 1 + 1) 25 pa.toList := by rw [hbs]; exact fun w' h => RP.out _ _ (h.range 2 (l := cs.toList) rfl)
  have RL3 : ∀ w', Sp w bs1 w' → w'.rangeAt (w.heap.size + 1 + 1) 25 pa.toList := by rw [hbs]; exact fun w' h => RP.out _ _ (h.range 2 (l := cs.toList) rfl)
  have RL4 : ∀ w', Sp w bs1 w' → w'.rangeAt (w.heap.size + 1 + 1) 45 qb.toList := by rw [hbs]; exact fun w' h => RQ.out _ _ (h.range 2 (l := cs.toList) rfl)
  have RL5 : ∀ w', Sp w bs1 w' → w'.rangeAt (w.heap.size + 1 + 1) 45 qb.toList := by rw [hbs]; exact fun w' h => RQ.out _ _ (h.range 2 (l := cs.toList) rfl)
  have nx : ∀ w', Sp w bs1 w' → Sp w [(w.heap.size, [some (.int .i64 a.u), some (.bool a.am), some (.int .i64 a.al), some (.int .i64 a.sp), some (.bool a.fo), some (.bool a.no)]), (w.heap.size + 1, [some (.int .i64 b.u), some (.bool b.am), some (.int .i64 b.al), some (.int .i64 b.sp), some (.bool b.fo), some (.bool b.no)]), (w.heap.size + 1 + 1, cs.toList.map some)] w' := by rw [hbs]; exact fun w' h => h
  have kS : ∀ w1 w2, Sp w bs1 w1 → Below w1.heap.size w1 w2 → Sp w bs1 w2 := fun _ _ h hb => h.keep hb
  clear hbs HS2
  try simp only [List.append_eq, List.cons_append, List.nil_append]
  change (Code.region 1 ltsay1 true).wp Tryd.prog _ _ _
  refine wp_region_noPanic ?_
  refine wp_region_held_drew (S := (Sp w bs1)) (by kernel_rfl) (hT.drew) (fun hHeld => ?_)
  refine wpAnyH_take (i := 0) (oi := ({ dst := some 7, op := .fieldAddr 32 (.tmp 5) 0, type := 0, pos := "law.go:20", after := #[], guard := none } : Oper)) (v := ?vs1_0) rfl ltsay1_plain (by as_aux_lemma => kernel_rfl) (by as_aux_lemma => kernel_rfl) (fun _ _ _ h => h) (Or.inl ⟨by rfl, ?ys1_0⟩) (by assumption) ?rs1_0
  case ys1_0 => (intro w hSw; (try dsimp only at hSw); go_simp; try with_reducible rfl)
  try simp only [Act.put, List.setIfInBounds_toArray, List.set_cons_zero, List.set_cons_succ]
  refine wpAnyH_take (i := 1) (oi := ({ dst := some 8, op := .load 24 (.tmp 7), type := 24, pos := "law.go:20", after := #[{ on := 0, ground := .data }], guard := none } : Oper)) rfl ltsay1_plain (by as_aux_lemma => kernel_rfl) (by as_aux_lemma => kernel_rfl) (fun _ _ _ h => h) (yields_load (by rfl) 24 _ rfl _ _ rfl _ _ RL0 Tryd.underlying24 rfl ha) (by assumption) ?_
  try simp only [Act.put, List.setIfInBounds_toArray, List.set_cons_zero, List.set_cons_succ]
  refine wpAnyH_take (i := 2) (oi := ({ dst := some 9, op := .fieldAddr 32 (.tmp 5) 1, type := 0, pos := "law.go:20", after := #[], guard := none } : Oper)) (v := ?vs1_2) rfl ltsay1_plain (by as_aux_lemma => kernel_rfl) (by as_aux_lemma => kernel_rfl) (fun _ _ _ h => h) (Or.inl ⟨by rfl, ?ys1_2⟩) (by assumption) ?rs1_2
  case ys1_2 => (intro w hSw; (try dsimp only at hSw); go_simp; try with_reducible rfl)
  try simp only [Act.put, List.setIfInBounds_toArray, List.set_cons_zero, List.set_cons_succ]
  refine wpAnyH_take (i := 3) (oi := ({ dst := some 10, op := .indexAddr 25 (.tmp 9) (.const (.int .i64 0)), type := 0, pos := "law.go:20", after := #[{ on := 2, ground := .data }], guard := none } : Oper)) (v := ?vs1_3) rfl ltsay1_plain (by as_aux_lemma => kernel_rfl) (by as_aux_lemma => kernel_rfl) (fun _ _ _ h => h) (Or.inl ⟨by rfl, ?ys1_3⟩) (by assumption) ?rs1_3
  case ys1_3 => (intro w hSw; (try dsimp only at hSw); go_simp; try with_reducible rfl)
  try simp only [Act.put, List.setIfInBounds_toArray, List.set_cons_zero, List.set_cons_succ]
  refine wpAnyH_take (i := 4) (oi := ({ dst := some 11, op := .load 3 (.tmp 10), type := 3, pos := "law.go:20", after := #[{ on := 3, ground := .data }], guard := none } : Oper)) (v := ?vs1_4) rfl ltsay1_plain (by as_aux_lemma => kernel_rfl) (by as_aux_lemma => kernel_rfl) (fun _ _ _ h => h) (Or.inl ⟨by rfl, ?ys1_4⟩) (by assumption) ?rs1_4
  case ys1_4 => (intro w hSw; (try dsimp only at hSw); go_simp; try with_reducible rfl)
  try simp only [Act.put, List.setIfInBounds_toArray, List.set_cons_zero, List.set_cons_succ]
  refine wpAnyH_take (i := 5) (oi := ({ dst := some 12, op := .fieldAddr 32 (.tmp 5) 1, type := 0, pos := "law.go:20", after := #[], guard := none } : Oper)) (v := ?vs1_5) rfl ltsay1_plain (by as_aux_lemma => kernel_rfl) (by as_aux_lemma => kernel_rfl) (fun _ _ _ h => h) (Or.inl ⟨by rfl, ?ys1_5⟩) (by assumption) ?rs1_5
  case ys1_5 => (intro w hSw; (try dsimp only at hSw); go_simp; try with_reducible rfl)
  try simp only [Act.put, List.setIfInBounds_toArray, List.set_cons_zero, List.set_cons_succ]
  refine wpAnyH_take (i := 6) (oi := ({ dst := some 13, op := .indexAddr 25 (.tmp 12) (.const (.int .i64 1)), type := 0, pos := "law.go:20", after := #[{ on := 5, ground := .data }], guard := none } : Oper)) (v := ?vs1_6) rfl ltsay1_plain (by as_aux_lemma => kernel_rfl) (by as_aux_lemma => kernel_rfl) (fun _ _ _ h => h) (Or.inl ⟨by rfl, ?ys1_6⟩) (by assumption) ?rs1_6
  case ys1_6 => (intro w hSw; (try dsimp only at hSw); go_simp; try with_reducible rfl)
  try simp only [Act.put, List.setIfInBounds_toArray, List.set_cons_zero, List.set_cons_succ]
  refine wpAnyH_take (i := 7) (oi := ({ dst := some 14, op := .load 3 (.tmp 13), type := 3, pos := "law.go:20", after := #[{ on := 6, ground := .data }], guard := none } : Oper)) (v := ?vs1_7) rfl ltsay1_plain (by as_aux_lemma => kernel_rfl) (by as_aux_lemma => kernel_rfl) (fun _ _ _ h => h) (Or.inl ⟨by rfl, ?ys1_7⟩) (by assumption) ?rs1_7
  case ys1_7 => (intro w hSw; (try dsimp only at hSw); go_simp; try with_reducible rfl)
  try simp only [Act.put, List.setIfInBounds_toArray, List.set_cons_zero, List.set_cons_succ]
  refine wpAnyH_take (i := 8) (oi := ({ dst := some 15, op := .fieldAddr 32 (.tmp 5) 2, type := 0, pos := "law.go:20", after := #[], guard := none } : Oper)) (v := ?vs1_8) rfl ltsay1_plain (by as_aux_lemma => kernel_rfl) (by as_aux_lemma => kernel_rfl) (fun _ _ _ h => h) (Or.inl ⟨by rfl, ?ys1_8⟩) (by assumption) ?rs1_8
  case ys1_8 => (intro w hSw; (try dsimp only at hSw); go_simp; try with_reducible rfl)
  try simp only [Act.put, List.setIfInBounds_toArray, List.set_cons_zero, List.set_cons_succ]
  refine wpAnyH_take (i := 9) (oi := ({ dst := some 16, op := .load 30 (.tmp 15), type := 30, pos := "law.go:20", after := #[{ on := 8, ground := .data }], guard := none } : Oper)) rfl ltsay1_plain (by as_aux_lemma => kernel_rfl) (by as_aux_lemma => kernel_rfl) (fun _ _ _ h => h) (yields_load (by rfl) 30 _ rfl _ _ rfl _ _ RL2 Tryd.underlying30 rfl hp) (by assumption) ?_
  try simp only [Act.put, List.setIfInBounds_toArray, List.set_cons_zero, List.set_cons_succ]
  refine wpAnyH_take (i := 10) (oi := ({ dst := some 17, op := .fieldAddr 32 (.tmp 5) 3, type := 0, pos := "law.go:20", after := #[], guard := none } : Oper)) (v := ?vs1_10) rfl ltsay1_plain (by as_aux_lemma => kernel_rfl) (by as_aux_lemma => kernel_rfl) (fun _ _ _ h => h) (Or.inl ⟨by rfl, ?ys1_10⟩) (by assumption) ?rs1_10
  case ys1_10 => (intro w hSw; (try dsimp only at hSw); go_simp; try with_reducible rfl)
  try simp only [Act.put, List.setIfInBounds_toArray, List.set_cons_zero, List.set_cons_succ]
  refine wpAnyH_take (i := 11) (oi := ({ dst := some 18, op := .load 30 (.tmp 17), type := 30, pos := "law.go:20", after := #[{ on := 10, ground := .data }], guard := none } : Oper)) rfl ltsay1_plain (by as_aux_lemma => kernel_rfl) (by as_aux_lemma => kernel_rfl) (fun _ _ _ h => h) (yields_load (by rfl) 30 _ rfl _ _ rfl _ _ RL4 Tryd.underlying30 rfl hq) (by assumption) ?_
  try simp only [Act.put, List.setIfInBounds_toArray, List.set_cons_zero, List.set_cons_succ]
  refine wpAnyH_take (i := 13) (oi := ({ dst := some 20, op := .fieldAddr 32 (.tmp 5) 0, type := 0, pos := "law.go:20", after := #[], guard := none } : Oper)) (v := ?vs1_13) rfl ltsay1_plain (by as_aux_lemma => kernel_rfl) (by as_aux_lemma => kernel_rfl) (fun _ _ _ h => h) (Or.inl ⟨by rfl, ?ys1_13⟩) (by assumption) ?rs1_13
  case ys1_13 => (intro w hSw; (try dsimp only at hSw); go_simp; try with_reducible rfl)
  try simp only [Act.put, List.setIfInBounds_toArray, List.set_cons_zero, List.set_cons_succ]
  refine wpAnyH_take (i := 14) (oi := ({ dst := some 21, op := .load 24 (.tmp 20), type := 24, pos := "law.go:20", after := #[{ on := 13, ground := .data }], guard := none } : Oper)) rfl ltsay1_plain (by as_aux_lemma => kernel_rfl) (by as_aux_lemma => kernel_rfl) (fun _ _ _ h => h) (yields_load (by rfl) 24 _ rfl _ _ rfl _ _ RL1 Tryd.underlying24 rfl ha) (by assumption) ?_
  try simp only [Act.put, List.setIfInBounds_toArray, List.set_cons_zero, List.set_cons_succ]
  refine wpAnyH_take (i := 15) (oi := ({ dst := some 22, op := .fieldAddr 32 (.tmp 5) 1, type := 0, pos := "law.go:20", after := #[], guard := none } : Oper)) (v := ?vs1_15) rfl ltsay1_plain (by as_aux_lemma => kernel_rfl) (by as_aux_lemma => kernel_rfl) (fun _ _ _ h => h) (Or.inl ⟨by rfl, ?ys1_15⟩) (by assumption) ?rs1_15
  case ys1_15 => (intro w hSw; (try dsimp only at hSw); go_simp; try with_reducible rfl)
  try simp only [Act.put, List.setIfInBounds_toArray, List.set_cons_zero, List.set_cons_succ]
  refine wpAnyH_take (i := 16) (oi := ({ dst := some 23, op := .indexAddr 25 (.tmp 22) (.const (.int .i64 0)), type := 0, pos := "law.go:20", after := #[{ on := 15, ground := .data }], guard := none } : Oper)) (v := ?vs1_16) rfl ltsay1_plain (by as_aux_lemma => kernel_rfl) (by as_aux_lemma => kernel_rfl) (fun _ _ _ h => h) (Or.inl ⟨by rfl, ?ys1_16⟩) (by assumption) ?rs1_16
  case ys1_16 => (intro w hSw; (try dsimp only at hSw); go_simp; try with_reducible rfl)
  try simp only [Act.put, List.setIfInBounds_toArray, List.set_cons_zero, List.set_cons_succ]
  refine wpAnyH_take (i := 17) (oi := ({ dst := some 24, op := .load 3 (.tmp 23), type := 3, pos := "law.go:20", after := #[{ on := 16, ground := .data }], guard := none } : Oper)) (v := ?vs1_17) rfl ltsay1_plain (by as_aux_lemma => kernel_rfl) (by as_aux_lemma => kernel_rfl) (fun _ _ _ h => h) (Or.inl ⟨by rfl, ?ys1_17⟩) (by assumption) ?rs1_17
  case ys1_17 => (intro w hSw; (try dsimp only at hSw); go_simp; try with_reducible rfl)
  try simp only [Act.put, List.setIfInBounds_toArray, List.set_cons_zero, List.set_cons_succ]
  refine wpAnyH_take (i := 18) (oi := ({ dst := some 25, op := .fieldAddr 32 (.tmp 5) 1, type := 0, pos := "law.go:20", after := #[], guard := none } : Oper)) (v := ?vs1_18) rfl ltsay1_plain (by as_aux_lemma => kernel_rfl) (by as_aux_lemma => kernel_rfl) (fun _ _ _ h => h) (Or.inl ⟨by rfl, ?ys1_18⟩) (by assumption) ?rs1_18
  case ys1_18 => (intro w hSw; (try dsimp only at hSw); go_simp; try with_reducible rfl)
  try simp only [Act.put, List.setIfInBounds_toArray, List.set_cons_zero, List.set_cons_succ]
  refine wpAnyH_take (i := 19) (oi := ({ dst := some 26, op := .indexAddr 25 (.tmp 25) (.const (.int .i64 1)), type := 0, pos := "law.go:20", after := #[{ on := 18, ground := .data }], guard := none } : Oper)) (v := ?vs1_19) rfl ltsay1_plain (by as_aux_lemma => kernel_rfl) (by as_aux_lemma => kernel_rfl) (fun _ _ _ h => h) (Or.inl ⟨by rfl, ?ys1_19⟩) (by assumption) ?rs1_19
  case ys1_19 => (intro w hSw; (try dsimp only at hSw); go_simp; try with_reducible rfl)
  try simp only [Act.put, List.setIfInBounds_toArray, List.set_cons_zero, List.set_cons_succ]
  refine wpAnyH_take (i := 20) (oi := ({ dst := some 27, op := .load 3 (.tmp 26), type := 3, pos := "law.go:20", after := #[{ on := 19, ground := .data }], guard := none } : Oper)) (v := ?vs1_20) rfl ltsay1_plain (by as_aux_lemma => kernel_rfl) (by as_aux_lemma => kernel_rfl) (fun _ _ _ h => h) (Or.inl ⟨by rfl, ?ys1_20⟩) (by assumption) ?rs1_20
  case ys1_20 => (intro w hSw; (try dsimp only at hSw); go_simp; try with_reducible rfl)
  try simp only [Act.put, List.setIfInBounds_toArray, List.set_cons_zero, List.set_cons_succ]
  refine wpAnyH_take (i := 21) (oi := ({ dst := some 28, op := .fieldAddr 32 (.tmp 5) 2, type := 0, pos := "law.go:20", after := #[], guard := none } : Oper)) (v := ?vs1_21) rfl ltsay1_plain (by as_aux_lemma => kernel_rfl) (by as_aux_lemma => kernel_rfl) (fun _ _ _ h => h) (Or.inl ⟨by rfl, ?ys1_21⟩) (by assumption) ?rs1_21
  case ys1_21 => (intro w hSw; (try dsimp only at hSw); go_simp; try with_reducible rfl)
  try simp only [Act.put, List.setIfInBounds_toArray, List.set_cons_zero, List.set_cons_succ]
  refine wpAnyH_take (i := 22) (oi := ({ dst := some 29, op := .load 30 (.tmp 28), type := 30, pos := "law.go:20", after := #[{ on := 21, ground := .data }], guard := none } : Oper)) rfl ltsay1_plain (by as_aux_lemma => kernel_rfl) (by as_aux_lemma => kernel_rfl) (fun _ _ _ h => h) (yields_load (by rfl) 30 _ rfl _ _ rfl _ _ RL3 Tryd.underlying30 rfl hp) (by assumption) ?_
  try simp only [Act.put, List.setIfInBounds_toArray, List.set_cons_zero, List.set_cons_succ]
  refine wpAnyH_take (i := 23) (oi := ({ dst := some 30, op := .fieldAddr 32 (.tmp 5) 3, type := 0, pos := "law.go:20", after := #[], guard := none } : Oper)) (v := ?vs1_23) rfl ltsay1_plain (by as_aux_lemma => kernel_rfl) (by as_aux_lemma => kernel_rfl) (fun _ _ _ h => h) (Or.inl ⟨by rfl, ?ys1_23⟩) (by assumption) ?rs1_23
  case ys1_23 => (intro w hSw; (try dsimp only at hSw); go_simp; try with_reducible rfl)
  try simp only [Act.put, List.setIfInBounds_toArray, List.set_cons_zero, List.set_cons_succ]
  refine wpAnyH_take (i := 24) (oi := ({ dst := some 31, op := .load 30 (.tmp 30), type := 30, pos := "law.go:20", after := #[{ on := 23, ground := .data }], guard := none } : Oper)) rfl ltsay1_plain (by as_aux_lemma => kernel_rfl) (by as_aux_lemma => kernel_rfl) (fun _ _ _ h => h) (yields_load (by rfl) 30 _ rfl _ _ rfl _ _ RL5 Tryd.underlying30 rfl hq) (by assumption) ?_
  try simp only [Act.put, List.setIfInBounds_toArray, List.set_cons_zero, List.set_cons_succ]
  refine wpAnyH_ready (rs := [12]) (by as_aux_lemma => kernel_rfl) (by simp) ?_
  refine AllReadyH.cons (o := ({ dst := some 19, op := .call { callee := .value (.func 6), args := #[.tmp 8, .tmp 11, .tmp 14, .tmp 16, .tmp 18], argTypes := #[24, 3, 3, 30, 30] }, type := 23, pos := "law.go:20", after := #[{ on := 1, ground := .data }, { on := 4, ground := .data }, { on := 7, ground := .data }, { on := 9, ground := .data }, { on := 11, ground := .data }], guard := none } : Oper)) rfl (fun KK hK => ?_) AllReadyH.nil
  rw [if_pos (by rfl)]
  go_simp
  go_at_call 6; refine (NO.out _ (Sp.below (by assumption))).mono ?_; rintro e w2 ⟨rfl, hb2⟩
  go_wp2_with fail
  refine hK.out _ _ ?_ (fun hHeld2 => ?_)
  · exact kS _ _ (by assumption) hb2
  clear hK KK hb2
  try simp only [Act.put, List.setIfInBounds_toArray, List.set_cons_zero, List.set_cons_succ]
  refine wpAnyH_ready (rs := [25]) (by as_aux_lemma => kernel_rfl) (by simp) ?_
  refine AllReadyH.cons (o := ({ dst := some 32, op := .call { callee := .value (.func 7), args := #[.tmp 21, .tmp 24, .tmp 27, .tmp 29, .tmp 31], argTypes := #[24, 3, 3, 30, 30] }, type := 23, pos := "law.go:20", after := #[{ on := 14, ground := .data }, { on := 17, ground := .data }, { on := 20, ground := .data }, { on := 22, ground := .data }, { on := 24, ground := .data }, { on := 12, ground := .chain }], guard := none } : Oper)) rfl (fun KK hK => ?_) AllReadyH.nil
  rw [if_pos (by rfl)]
  go_simp
  go_at_call 7; refine (NO'.out _ (Sp.below (by assumption))).mono ?_; rintro e w3 ⟨rfl, hb3⟩
  go_wp2_with fail
  refine hK.out _ _ ?_ (fun hHeld3 => ?_)
  · exact kS _ _ (by assumption) hb3
  clear hK KK hb3 hHeld2
  try simp only [Act.put, List.setIfInBounds_toArray, List.set_cons_zero, List.set_cons_succ]
  refine wpAnyH_take (i := 26) (oi := ({ dst := some 33, op := .binOp .eql 23 (.tmp 19) (.tmp 32) 23, type := 4, pos := "law.go:20", after := #[{ on := 12, ground := .data }, { on := 25, ground := .data }], guard := none } : Oper)) (v := ?vs1_26) rfl ltsay1_plain (by as_aux_lemma => kernel_rfl) (by as_aux_lemma => kernel_rfl) (fun _ _ _ h => h) (Or.inl ⟨by rfl, ?ys1_26⟩) (by assumption) ?rs1_26
  case ys1_26 => (intro w hSw; (try dsimp only at hSw); go_simp; try with_reducible rfl)
  try simp only [Act.put, List.setIfInBounds_toArray, List.set_cons_zero, List.set_cons_succ]
  refine wpAnyH_take (i := 27) (oi := ({ dst := some 34, op := .move (.tmp 33), type := 4, pos := "law.go:20", after := #[{ on := 26, ground := .data }, { on := 25, ground := .chain }], guard := none } : Oper)) (v := ?vs1_27) rfl ltsay1_plain (by as_aux_lemma => kernel_rfl) (by as_aux_lemma => kernel_rfl) (fun _ _ _ h => h) (Or.inl ⟨by rfl, ?ys1_27⟩) (by assumption) ?rs1_27
  case ys1_27 => (intro w hSw; (try dsimp only at hSw); go_simp; try with_reducible rfl)
  try simp only [Act.put, List.setIfInBounds_toArray, List.set_cons_zero, List.set_cons_succ]
  refine wpAnyH_take (i := 28) (oi := ({ dst := some 35, op := .load 23 (.tmp 3), type := 23, pos := "law.go:20", after := #[{ on := 27, ground := .guard }], guard := some (27, true) } : Oper)) (v := ?vs1_28) rfl ltsay1_plain (by as_aux_lemma => kernel_rfl) (by as_aux_lemma => kernel_rfl) (fun _ _ _ h => h) (Or.inl ⟨by rfl, ?ys1_28⟩) (by assumption) ?rs1_28
  case ys1_28 => (intro w hSw; (try dsimp only at hSw); go_simp; try with_reducible rfl)
  try simp only [Act.put, List.setIfInBounds_toArray, List.set_cons_zero, List.set_cons_succ]
  refine wpAnyH_take (i := 29) (oi := ({ dst := some 36, op := .load 23 (.tmp 4), type := 23, pos := "law.go:20", after := #[{ on := 27, ground := .guard }], guard := some (27, true) } : Oper)) (v := ?vs1_29) rfl ltsay1_plain (by as_aux_lemma => kernel_rfl) (by as_aux_lemma => kernel_rfl) (fun _ _ _ h => h) (Or.inl ⟨by rfl, ?ys1_29⟩) (by assumption) ?rs1_29
  case ys1_29 => (intro w hSw; (try dsimp only at hSw); go_simp; try with_reducible rfl)
  try simp only [Act.put, List.setIfInBounds_toArray, List.set_cons_zero, List.set_cons_succ]
  refine wpAnyH_take (i := 31) (oi := ({ dst := some 38, op := .load 23 (.tmp 3), type := 23, pos := "law.go:20", after := #[{ on := 27, ground := .guard }], guard := some (27, true) } : Oper)) (v := ?vs1_31) rfl ltsay1_plain (by as_aux_lemma => kernel_rfl) (by as_aux_lemma => kernel_rfl) (fun _ _ _ h => h) (Or.inl ⟨by rfl, ?ys1_31⟩) (by assumption) ?rs1_31
  case ys1_31 => (intro w hSw; (try dsimp only at hSw); go_simp; try with_reducible rfl)
  try simp only [Act.put, List.setIfInBounds_toArray, List.set_cons_zero, List.set_cons_succ]
  refine wpAnyH_take (i := 32) (oi := ({ dst := some 39, op := .load 23 (.tmp 4), type := 23, pos := "law.go:20", after := #[{ on := 27, ground := .guard }], guard := some (27, true) } : Oper)) (v := ?vs1_32) rfl ltsay1_plain (by as_aux_lemma => kernel_rfl) (by as_aux_lemma => kernel_rfl) (fun _ _ _ h => h) (Or.inl ⟨by rfl, ?ys1_32⟩) (by assumption) ?rs1_32
  case ys1_32 => (intro w hSw; (try dsimp only at hSw); go_simp; try with_reducible rfl)
  try simp only [Act.put, List.setIfInBounds_toArray, List.set_cons_zero, List.set_cons_succ]
  refine wpAnyH_ready (rs := [30]) (by as_aux_lemma => kernel_rfl) (by simp) ?_
  refine AllReadyH.cons (o := ({ dst := some 37, op := .call { callee := .value (.func 8), args := #[.tmp 35, .tmp 36], argTypes := #[23, 23] }, type := 23, pos := "law.go:20", after := #[{ on := 28, ground := .data }, { on := 29, ground := .data }, { on := 27, ground := .chain }, { on := 27, ground := .guard }], guard := some (27, true) } : Oper)) rfl (fun KK hK => ?_) AllReadyH.nil
  rw [if_pos (by rfl)]
  go_simp
  go_at_call 8; refine (JO.out _ (Sp.below (by assumption))).mono ?_; rintro e w4 ⟨rfl, hb4⟩
  go_wp2_with fail
  refine hK.out _ _ ?_ (fun hHeld4 => ?_)
  · exact kS _ _ (by assumption) hb4
  clear hK KK hb4 hHeld3
  try simp only [Act.put, List.setIfInBounds_toArray, List.set_cons_zero, List.set_cons_succ]
  refine wpAnyH_ready (rs := [33]) (by as_aux_lemma => kernel_rfl) (by simp) ?_
  refine AllReadyH.cons (o := ({ dst := some 40, op := .call { callee := .value (.func 9), args := #[.tmp 38, .tmp 39], argTypes := #[23, 23] }, type := 23, pos := "law.go:20", after := #[{ on := 31, ground := .data }, { on := 32, ground := .data }, { on := 30, ground := .chain }, { on := 27, ground := .guard }], guard := some (27, true) } : Oper)) rfl (fun KK hK => ?_) AllReadyH.nil
  rw [if_pos (by rfl)]
  go_simp
  go_at_call 9; refine (JO'.out _ (Sp.below (by assumption))).mono ?_; rintro e w5 ⟨rfl, hb5⟩
  go_wp2_with fail
  refine hK.out _ _ ?_ (fun hHeld5 => ?_)
  · exact kS _ _ (by assumption) hb5
  clear hK KK hb5 hHeld4
  try simp only [Act.put, List.setIfInBounds_toArray, List.set_cons_zero, List.set_cons_succ]
  refine wpAnyH_take (i := 34) (oi := ({ dst := some 41, op := .binOp .eql 23 (.tmp 37) (.tmp 40) 23, type := 4, pos := "law.go:20", after := #[{ on := 30, ground := .data }, { on := 33, ground := .data }, { on := 27, ground := .guard }], guard := some (27, true) } : Oper)) (v := ?vs1_34) rfl ltsay1_plain (by as_aux_lemma => kernel_rfl) (by as_aux_lemma => kernel_rfl) (fun _ _ _ h => h) (Or.inl ⟨by rfl, ?ys1_34⟩) (by assumption) ?rs1_34
  case ys1_34 => (intro w hSw; (try dsimp only at hSw); go_simp; try with_reducible rfl)
  try simp only [Act.put, List.setIfInBounds_toArray, List.set_cons_zero, List.set_cons_succ]
  refine wpAnyH_take (i := 35) (oi := ({ dst := some 42, op := .pick (.tmp 34) (.tmp 41) (.const (.bool false)), type := 4, pos := "law.go:20", after := #[{ on := 27, ground := .data }, { on := 34, ground := .data }], guard := none } : Oper)) (v := ?vs1_35) rfl ltsay1_plain (by as_aux_lemma => kernel_rfl) (by as_aux_lemma => kernel_rfl) (fun _ _ _ h => h) (Or.inl ⟨by rfl, ?ys1_35⟩) (by assumption) ?rs1_35
  case ys1_35 => (intro w hSw; (try dsimp only at hSw); go_simp; try with_reducible rfl)
  try simp only [Act.put, List.setIfInBounds_toArray, List.set_cons_zero, List.set_cons_succ]
  refine wpAnyH_take (i := 36) (oi := ({ dst := some 43, op := .move (.tmp 42), type := 4, pos := "law.go:20", after := #[{ on := 35, ground := .data }, { on := 33, ground := .chain }], guard := none } : Oper)) (v := ?vs1_36) rfl ltsay1_plain (by as_aux_lemma => kernel_rfl) (by as_aux_lemma => kernel_rfl) (fun _ _ _ h => h) (Or.inl ⟨by rfl, ?ys1_36⟩) (by assumption) ?rs1_36
  case ys1_36 => (intro w hSw; (try dsimp only at hSw); go_simp; try with_reducible rfl)
  try simp only [Act.put, List.setIfInBounds_toArray, List.set_cons_zero, List.set_cons_succ]
  refine wpAnyH_ready (rs := [37]) (by as_aux_lemma => kernel_rfl) (by simp) ?_
  refine AllReadyH.cons (o := ({ dst := some 44, op := .call { callee := .value (.func 10), args := #[], argTypes := #[] }, type := 23, pos := "law.go:20", after := #[{ on := 36, ground := .chain }, { on := 36, ground := .guard }], guard := some (36, true) } : Oper)) rfl (fun KK hK => ?_) AllReadyH.nil
  rw [if_pos (by rfl)]
  go_simp
  go_at_call 10; refine (NE.out _ (Sp.below (by assumption))).mono ?_; rintro e w6 ⟨rfl, hb6⟩
  go_wp2_with fail
  refine hK.out _ _ ?_ (fun hHeld6 => ?_)
  · exact kS _ _ (by assumption) hb6
  clear hK KK hb6 hHeld5
  try simp only [Act.put, List.setIfInBounds_toArray, List.set_cons_zero, List.set_cons_succ]
  refine wpAnyH_ready (rs := [38]) (by as_aux_lemma => kernel_rfl) (by simp) ?_
  refine AllReadyH.cons (o := ({ dst := some 45, op := .call { callee := .value (.func 11), args := #[], argTypes := #[] }, type := 23, pos := "law.go:20", after := #[{ on := 37, ground := .chain }, { on := 36, ground := .guard }], guard := some (36, true) } : Oper)) rfl (fun KK hK => ?_) AllReadyH.nil
  rw [if_pos (by rfl)]
  go_simp
  go_at_call 11; refine (NE'.out _ (Sp.below (by assumption))).mono ?_; rintro e w7 ⟨rfl, hb7⟩
  go_wp2_with fail
  refine hK.out _ _ ?_ (fun hHeld7 => ?_)
  · exact kS _ _ (by assumption) hb7
  clear hK KK hb7 hHeld6
  try simp only [Act.put, List.setIfInBounds_toArray, List.set_cons_zero, List.set_cons_succ]
  refine wpAnyH_take (i := 39) (oi := ({ dst := some 46, op := .binOp .eql 23 (.tmp 44) (.tmp 45) 23, type := 4, pos := "law.go:20", after := #[{ on := 37, ground := .data }, { on := 38, ground := .data }, { on := 36, ground := .guard }], guard := some (36, true) } : Oper)) (v := ?vs1_39) rfl ltsay1_plain (by as_aux_lemma => kernel_rfl) (by as_aux_lemma => kernel_rfl) (fun _ _ _ h => h) (Or.inl ⟨by rfl, ?ys1_39⟩) (by assumption) ?rs1_39
  case ys1_39 => (intro w hSw; (try dsimp only at hSw); go_simp; try with_reducible rfl)
  try simp only [Act.put, List.setIfInBounds_toArray, List.set_cons_zero, List.set_cons_succ]
  refine wpAnyH_take (i := 40) (oi := ({ dst := some 47, op := .pick (.tmp 43) (.tmp 46) (.const (.bool false)), type := 4, pos := "law.go:20", after := #[{ on := 36, ground := .data }, { on := 39, ground := .data }], guard := none } : Oper)) (v := ?vs1_40) rfl ltsay1_plain (by as_aux_lemma => kernel_rfl) (by as_aux_lemma => kernel_rfl) (fun _ _ _ h => h) (Or.inl ⟨by rfl, ?ys1_40⟩) (by assumption) ?rs1_40
  case ys1_40 => (intro w hSw; (try dsimp only at hSw); go_simp; try with_reducible rfl)
  try simp only [Act.put, List.setIfInBounds_toArray, List.set_cons_zero, List.set_cons_succ]
  refine wpAnyH_take (i := 41) (oi := ({ dst := some 48, op := .move (.tmp 47), type := 4, pos := "law.go:20", after := #[{ on := 40, ground := .data }, { on := 38, ground := .chain }], guard := none } : Oper)) (v := ?vs1_41) rfl ltsay1_plain (by as_aux_lemma => kernel_rfl) (by as_aux_lemma => kernel_rfl) (fun _ _ _ h => h) (Or.inl ⟨by rfl, ?ys1_41⟩) (by assumption) ?rs1_41
  case ys1_41 => (intro w hSw; (try dsimp only at hSw); go_simp; try with_reducible rfl)
  try simp only [Act.put, List.setIfInBounds_toArray, List.set_cons_zero, List.set_cons_succ]
  refine wpAnyH_take (i := 42) (oi := ({ dst := some 49, op := .fieldAddr 32 (.tmp 5) 1, type := 0, pos := "law.go:20", after := #[{ on := 41, ground := .guard }], guard := some (41, true) } : Oper)) (v := ?vs1_42) rfl ltsay1_plain (by as_aux_lemma => kernel_rfl) (by as_aux_lemma => kernel_rfl) (fun _ _ _ h => h) (Or.inl ⟨by rfl, ?ys1_42⟩) (by assumption) ?rs1_42
  case ys1_42 => (intro w hSw; (try dsimp only at hSw); go_simp; try with_reducible rfl)
  try simp only [Act.put, List.setIfInBounds_toArray, List.set_cons_zero, List.set_cons_succ]
  refine wpAnyH_take (i := 43) (oi := ({ dst := some 50, op := .indexAddr 25 (.tmp 49) (.const (.int .i64 0)), type := 0, pos := "law.go:20", after := #[{ on := 42, ground := .data }, { on := 41, ground := .guard }], guard := some (41, true) } : Oper)) (v := ?vs1_43) rfl ltsay1_plain (by as_aux_lemma => kernel_rfl) (by as_aux_lemma => kernel_rfl) (fun _ _ _ h => h) (Or.inl ⟨by rfl, ?ys1_43⟩) (by assumption) ?rs1_43
  case ys1_43 => (intro w hSw; (try dsimp only at hSw); go_simp; try with_reducible rfl)
  try simp only [Act.put, List.setIfInBounds_toArray, List.set_cons_zero, List.set_cons_succ]
  refine wpAnyH_take (i := 44) (oi := ({ dst := some 51, op := .load 3 (.tmp 50), type := 3, pos := "law.go:20", after := #[{ on := 43, ground := .data }, { on := 41, ground := .guard }], guard := some (41, true) } : Oper)) (v := ?vs1_44) rfl ltsay1_plain (by as_aux_lemma => kernel_rfl) (by as_aux_lemma => kernel_rfl) (fun _ _ _ h => h) (Or.inl ⟨by rfl, ?ys1_44⟩) (by assumption) ?rs1_44
  case ys1_44 => (intro w hSw; (try dsimp only at hSw); go_simp; try with_reducible rfl)
  try simp only [Act.put, List.setIfInBounds_toArray, List.set_cons_zero, List.set_cons_succ]
  refine wpAnyH_take (i := 45) (oi := ({ dst := some 52, op := .fieldAddr 32 (.tmp 5) 1, type := 0, pos := "law.go:20", after := #[{ on := 41, ground := .guard }], guard := some (41, true) } : Oper)) (v := ?vs1_45) rfl ltsay1_plain (by as_aux_lemma => kernel_rfl) (by as_aux_lemma => kernel_rfl) (fun _ _ _ h => h) (Or.inl ⟨by rfl, ?ys1_45⟩) (by assumption) ?rs1_45
  case ys1_45 => (intro w hSw; (try dsimp only at hSw); go_simp; try with_reducible rfl)
  try simp only [Act.put, List.setIfInBounds_toArray, List.set_cons_zero, List.set_cons_succ]
  refine wpAnyH_take (i := 46) (oi := ({ dst := some 53, op := .indexAddr 25 (.tmp 52) (.const (.int .i64 1)), type := 0, pos := "law.go:20", after := #[{ on := 45, ground := .data }, { on := 41, ground := .guard }], guard := some (41, true) } : Oper)) (v := ?vs1_46) rfl ltsay1_plain (by as_aux_lemma => kernel_rfl) (by as_aux_lemma => kernel_rfl) (fun _ _ _ h => h) (Or.inl ⟨by rfl, ?ys1_46⟩) (by assumption) ?rs1_46
  case ys1_46 => (intro w hSw; (try dsimp only at hSw); go_simp; try with_reducible rfl)
  try simp only [Act.put, List.setIfInBounds_toArray, List.set_cons_zero, List.set_cons_succ]
  refine wpAnyH_take (i := 47) (oi := ({ dst := some 54, op := .load 3 (.tmp 53), type := 3, pos := "law.go:20", after := #[{ on := 46, ground := .data }, { on := 41, ground := .guard }], guard := some (41, true) } : Oper)) (v := ?vs1_47) rfl ltsay1_plain (by as_aux_lemma => kernel_rfl) (by as_aux_lemma => kernel_rfl) (fun _ _ _ h => h) (Or.inl ⟨by rfl, ?ys1_47⟩) (by assumption) ?rs1_47
  case ys1_47 => (intro w hSw; (try dsimp only at hSw); go_simp; try with_reducible rfl)
  try simp only [Act.put, List.setIfInBounds_toArray, List.set_cons_zero, List.set_cons_succ]
  refine wpAnyH_take (i := 48) (oi := ({ dst := some 55, op := .fieldAddr 32 (.tmp 5) 1, type := 0, pos := "law.go:20", after := #[{ on := 41, ground := .guard }], guard := some (41, true) } : Oper)) (v := ?vs1_48) rfl ltsay1_plain (by as_aux_lemma => kernel_rfl) (by as_aux_lemma => kernel_rfl) (fun _ _ _ h => h) (Or.inl ⟨by rfl, ?ys1_48⟩) (by assumption) ?rs1_48
  case ys1_48 => (intro w hSw; (try dsimp only at hSw); go_simp; try with_reducible rfl)
  try simp only [Act.put, List.setIfInBounds_toArray, List.set_cons_zero, List.set_cons_succ]
  refine wpAnyH_take (i := 49) (oi := ({ dst := some 56, op := .indexAddr 25 (.tmp 55) (.const (.int .i64 2)), type := 0, pos := "law.go:20", after := #[{ on := 48, ground := .data }, { on := 41, ground := .guard }], guard := some (41, true) } : Oper)) (v := ?vs1_49) rfl ltsay1_plain (by as_aux_lemma => kernel_rfl) (by as_aux_lemma => kernel_rfl) (fun _ _ _ h => h) (Or.inl ⟨by rfl, ?ys1_49⟩) (by assumption) ?rs1_49
  case ys1_49 => (intro w hSw; (try dsimp only at hSw); go_simp; try with_reducible rfl)
  try simp only [Act.put, List.setIfInBounds_toArray, List.set_cons_zero, List.set_cons_succ]
  refine wpAnyH_take (i := 50) (oi := ({ dst := some 57, op := .load 3 (.tmp 56), type := 3, pos := "law.go:20", after := #[{ on := 49, ground := .data }, { on := 41, ground := .guard }], guard := some (41, true) } : Oper)) (v := ?vs1_50) rfl ltsay1_plain (by as_aux_lemma => kernel_rfl) (by as_aux_lemma => kernel_rfl) (fun _ _ _ h => h) (Or.inl ⟨by rfl, ?ys1_50⟩) (by assumption) ?rs1_50
  case ys1_50 => (intro w hSw; (try dsimp only at hSw); go_simp; try with_reducible rfl)
  try simp only [Act.put, List.setIfInBounds_toArray, List.set_cons_zero, List.set_cons_succ]
  refine wpAnyH_take (i := 52) (oi := ({ dst := some 59, op := .fieldAddr 32 (.tmp 5) 1, type := 0, pos := "law.go:20", after := #[{ on := 41, ground := .guard }], guard := some (41, true) } : Oper)) (v := ?vs1_52) rfl ltsay1_plain (by as_aux_lemma => kernel_rfl) (by as_aux_lemma => kernel_rfl) (fun _ _ _ h => h) (Or.inl ⟨by rfl, ?ys1_52⟩) (by assumption) ?rs1_52
  case ys1_52 => (intro w hSw; (try dsimp only at hSw); go_simp; try with_reducible rfl)
  try simp only [Act.put, List.setIfInBounds_toArray, List.set_cons_zero, List.set_cons_succ]
  refine wpAnyH_take (i := 53) (oi := ({ dst := some 60, op := .indexAddr 25 (.tmp 59) (.const (.int .i64 0)), type := 0, pos := "law.go:20", after := #[{ on := 52, ground := .data }, { on := 41, ground := .guard }], guard := some (41, true) } : Oper)) (v := ?vs1_53) rfl ltsay1_plain (by as_aux_lemma => kernel_rfl) (by as_aux_lemma => kernel_rfl) (fun _ _ _ h => h) (Or.inl ⟨by rfl, ?ys1_53⟩) (by assumption) ?rs1_53
  case ys1_53 => (intro w hSw; (try dsimp only at hSw); go_simp; try with_reducible rfl)
  try simp only [Act.put, List.setIfInBounds_toArray, List.set_cons_zero, List.set_cons_succ]
  refine wpAnyH_take (i := 54) (oi := ({ dst := some 61, op := .load 3 (.tmp 60), type := 3, pos := "law.go:20", after := #[{ on := 53, ground := .data }, { on := 41, ground := .guard }], guard := some (41, true) } : Oper)) (v := ?vs1_54) rfl ltsay1_plain (by as_aux_lemma => kernel_rfl) (by as_aux_lemma => kernel_rfl) (fun _ _ _ h => h) (Or.inl ⟨by rfl, ?ys1_54⟩) (by assumption) ?rs1_54
  case ys1_54 => (intro w hSw; (try dsimp only at hSw); go_simp; try with_reducible rfl)
  try simp only [Act.put, List.setIfInBounds_toArray, List.set_cons_zero, List.set_cons_succ]
  refine wpAnyH_take (i := 55) (oi := ({ dst := some 62, op := .fieldAddr 32 (.tmp 5) 1, type := 0, pos := "law.go:20", after := #[{ on := 41, ground := .guard }], guard := some (41, true) } : Oper)) (v := ?vs1_55) rfl ltsay1_plain (by as_aux_lemma => kernel_rfl) (by as_aux_lemma => kernel_rfl) (fun _ _ _ h => h) (Or.inl ⟨by rfl, ?ys1_55⟩) (by assumption) ?rs1_55
  case ys1_55 => (intro w hSw; (try dsimp only at hSw); go_simp; try with_reducible rfl)
  try simp only [Act.put, List.setIfInBounds_toArray, List.set_cons_zero, List.set_cons_succ]
  refine wpAnyH_take (i := 56) (oi := ({ dst := some 63, op := .indexAddr 25 (.tmp 62) (.const (.int .i64 1)), type := 0, pos := "law.go:20", after := #[{ on := 55, ground := .data }, { on := 41, ground := .guard }], guard := some (41, true) } : Oper)) (v := ?vs1_56) rfl ltsay1_plain (by as_aux_lemma => kernel_rfl) (by as_aux_lemma => kernel_rfl) (fun _ _ _ h => h) (Or.inl ⟨by rfl, ?ys1_56⟩) (by assumption) ?rs1_56
  case ys1_56 => (intro w hSw; (try dsimp only at hSw); go_simp; try with_reducible rfl)
  try simp only [Act.put, List.setIfInBounds_toArray, List.set_cons_zero, List.set_cons_succ]
  refine wpAnyH_take (i := 57) (oi := ({ dst := some 64, op := .load 3 (.tmp 63), type := 3, pos := "law.go:20", after := #[{ on := 56, ground := .data }, { on := 41, ground := .guard }], guard := some (41, true) } : Oper)) (v := ?vs1_57) rfl ltsay1_plain (by as_aux_lemma => kernel_rfl) (by as_aux_lemma => kernel_rfl) (fun _ _ _ h => h) (Or.inl ⟨by rfl, ?ys1_57⟩) (by assumption) ?rs1_57
  case ys1_57 => (intro w hSw; (try dsimp only at hSw); go_simp; try with_reducible rfl)
  try simp only [Act.put, List.setIfInBounds_toArray, List.set_cons_zero, List.set_cons_succ]
  refine wpAnyH_take (i := 58) (oi := ({ dst := some 65, op := .fieldAddr 32 (.tmp 5) 1, type := 0, pos := "law.go:20", after := #[{ on := 41, ground := .guard }], guard := some (41, true) } : Oper)) (v := ?vs1_58) rfl ltsay1_plain (by as_aux_lemma => kernel_rfl) (by as_aux_lemma => kernel_rfl) (fun _ _ _ h => h) (Or.inl ⟨by rfl, ?ys1_58⟩) (by assumption) ?rs1_58
  case ys1_58 => (intro w hSw; (try dsimp only at hSw); go_simp; try with_reducible rfl)
  try simp only [Act.put, List.setIfInBounds_toArray, List.set_cons_zero, List.set_cons_succ]
  refine wpAnyH_take (i := 59) (oi := ({ dst := some 66, op := .indexAddr 25 (.tmp 65) (.const (.int .i64 2)), type := 0, pos := "law.go:20", after := #[{ on := 58, ground := .data }, { on := 41, ground := .guard }], guard := some (41, true) } : Oper)) (v := ?vs1_59) rfl ltsay1_plain (by as_aux_lemma => kernel_rfl) (by as_aux_lemma => kernel_rfl) (fun _ _ _ h => h) (Or.inl ⟨by rfl, ?ys1_59⟩) (by assumption) ?rs1_59
  case ys1_59 => (intro w hSw; (try dsimp only at hSw); go_simp; try with_reducible rfl)
  try simp only [Act.put, List.setIfInBounds_toArray, List.set_cons_zero, List.set_cons_succ]
  refine wpAnyH_take (i := 60) (oi := ({ dst := some 67, op := .load 3 (.tmp 66), type := 3, pos := "law.go:20", after := #[{ on := 59, ground := .data }, { on := 41, ground := .guard }], guard := some (41, true) } : Oper)) (v := ?vs1_60) rfl ltsay1_plain (by as_aux_lemma => kernel_rfl) (by as_aux_lemma => kernel_rfl) (fun _ _ _ h => h) (Or.inl ⟨by rfl, ?ys1_60⟩) (by assumption) ?rs1_60
  case ys1_60 => (intro w hSw; (try dsimp only at hSw); go_simp; try with_reducible rfl)
  try simp only [Act.put, List.setIfInBounds_toArray, List.set_cons_zero, List.set_cons_succ]
  refine wpAnyH_ready (rs := [51]) (by as_aux_lemma => kernel_rfl) (by simp) ?_
  refine AllReadyH.cons (o := ({ dst := some 58, op := .call { callee := .value (.func 12), args := #[.tmp 51, .tmp 54, .tmp 57], argTypes := #[3, 3, 3] }, type := 3, pos := "law.go:20", after := #[{ on := 44, ground := .data }, { on := 47, ground := .data }, { on := 50, ground := .data }, { on := 41, ground := .chain }, { on := 41, ground := .guard }], guard := some (41, true) } : Oper)) rfl (fun KK hK => ?_) AllReadyH.nil
  rw [if_pos (by rfl)]
  go_simp
  go_at_call 12; refine (US.out _ (Sp.below (by assumption))).mono ?_; rintro e w8 ⟨rfl, hb8⟩
  go_wp2_with fail
  refine hK.out _ _ ?_ (fun hHeld8 => ?_)
  · exact kS _ _ (by assumption) hb8
  clear hK KK hb8 hHeld7
  try simp only [Act.put, List.setIfInBounds_toArray, List.set_cons_zero, List.set_cons_succ]
  refine wpAnyH_ready (rs := [61]) (by as_aux_lemma => kernel_rfl) (by simp) ?_
  refine AllReadyH.cons (o := ({ dst := some 68, op := .call { callee := .value (.func 13), args := #[.tmp 61, .tmp 64, .tmp 67], argTypes := #[3, 3, 3] }, type := 3, pos := "law.go:20", after := #[{ on := 54, ground := .data }, { on := 57, ground := .data }, { on := 60, ground := .data }, { on := 51, ground := .chain }, { on := 41, ground := .guard }], guard := some (41, true) } : Oper)) rfl (fun KK hK => ?_) AllReadyH.nil
  rw [if_pos (by rfl)]
  go_simp
  go_at_call 13; refine (US'.out _ (Sp.below (by assumption))).mono ?_; rintro e w9 ⟨rfl, hb9⟩
  go_wp2_with fail
  refine hK.out _ _ ?_ (fun hHeld9 => ?_)
  · exact kS _ _ (by assumption) hb9
  clear hK KK hb9 hHeld8
  try simp only [Act.put, List.setIfInBounds_toArray, List.set_cons_zero, List.set_cons_succ]
  refine wpAnyH_take (i := 62) (oi := ({ dst := some 69, op := .binOp .eql 3 (.tmp 58) (.tmp 68) 3, type := 4, pos := "law.go:20", after := #[{ on := 51, ground := .data }, { on := 61, ground := .data }, { on := 41, ground := .guard }], guard := some (41, true) } : Oper)) (v := ?vs1_62) rfl ltsay1_plain (by as_aux_lemma => kernel_rfl) (by as_aux_lemma => kernel_rfl) (fun _ _ _ h => h) (Or.inl ⟨by rfl, ?ys1_62⟩) (by assumption) ?rs1_62
  case ys1_62 => (intro w hSw; (try dsimp only at hSw); go_simp; try with_reducible rfl)
  try simp only [Act.put, List.setIfInBounds_toArray, List.set_cons_zero, List.set_cons_succ]
  refine wpAnyH_take (i := 63) (oi := ({ dst := some 70, op := .pick (.tmp 48) (.tmp 69) (.const (.bool false)), type := 4, pos := "law.go:20", after := #[{ on := 41, ground := .data }, { on := 62, ground := .data }], guard := none } : Oper)) (v := ?vs1_63) rfl ltsay1_plain (by as_aux_lemma => kernel_rfl) (by as_aux_lemma => kernel_rfl) (fun _ _ _ h => h) (Or.inl ⟨by rfl, ?ys1_63⟩) (by assumption) ?rs1_63
  case ys1_63 => (intro w hSw; (try dsimp only at hSw); go_simp; try with_reducible rfl)
  try simp only [Act.put, List.setIfInBounds_toArray, List.set_cons_zero, List.set_cons_succ]
  refine wpAnyH_take (i := 64) (oi := ({ dst := some 71, op := .move (.tmp 70), type := 4, pos := "law.go:20", after := #[{ on := 63, ground := .data }, { on := 61, ground := .chain }], guard := none } : Oper)) (v := ?vs1_64) rfl ltsay1_plain (by as_aux_lemma => kernel_rfl) (by as_aux_lemma => kernel_rfl) (fun _ _ _ h => h) (Or.inl ⟨by rfl, ?ys1_64⟩) (by assumption) ?rs1_64
  case ys1_64 => (intro w hSw; (try dsimp only at hSw); go_simp; try with_reducible rfl)
  try simp only [Act.put, List.setIfInBounds_toArray, List.set_cons_zero, List.set_cons_succ]
  refine wpAnyH_ready (rs := [65]) (by as_aux_lemma => kernel_rfl) (by simp) ?_
  refine AllReadyH.cons (o := ({ dst := some 72, op := .call { callee := .value (.func 14), args := #[], argTypes := #[] }, type := 4, pos := "law.go:20", after := #[{ on := 64, ground := .chain }, { on := 64, ground := .guard }], guard := some (64, true) } : Oper)) rfl (fun KK hK => ?_) AllReadyH.nil
  rw [if_pos (by rfl)]
  go_simp
  go_at_call 14; refine (AW.out _ (Sp.below (by assumption))).mono ?_; rintro e w10 ⟨rfl, hb10⟩
  go_wp2_with fail
  refine hK.out _ _ ?_ (fun hHeld10 => ?_)
  · exact kS _ _ (by assumption) hb10
  clear hK KK hb10 hHeld9
  try simp only [Act.put, List.setIfInBounds_toArray, List.set_cons_zero, List.set_cons_succ]
  refine wpAnyH_take (i := 66) (oi := ({ dst := some 73, op := .pick (.tmp 71) (.tmp 72) (.const (.bool false)), type := 4, pos := "law.go:20", after := #[{ on := 64, ground := .data }, { on := 65, ground := .data }], guard := none } : Oper)) (v := ?vs1_66) rfl ltsay1_plain (by as_aux_lemma => kernel_rfl) (by as_aux_lemma => kernel_rfl) (fun _ _ _ h => h) (Or.inl ⟨by rfl, ?ys1_66⟩) (by assumption) ?rs1_66
  case ys1_66 => (intro w hSw; (try dsimp only at hSw); go_simp; try with_reducible rfl)
  try simp only [Act.put, List.setIfInBounds_toArray, List.set_cons_zero, List.set_cons_succ]
  refine wpAnyH_take (i := 67) (oi := ({ dst := some 6, op := .assign (.tmp 73), type := 4, pos := "law.go:20", after := ([{ on := 66, ground := .data }, { on := 65, ground := .chain }, { on := 0, ground := .phase }, { on := 1, ground := .phase }, { on := 2, ground := .phase }, { on := 3, ground := .phase }, { on := 4, ground := .phase }, { on := 5, ground := .phase }, { on := 6, ground := .phase }, { on := 7, ground := .phase }, { on := 8, ground := .phase }, { on := 9, ground := .phase }, { on := 10, ground := .phase }, { on := 11, ground := .phase }, { on := 12, ground := .phase }, { on := 13, ground := .phase }, { on := 14, ground := .phase }, { on := 15, ground := .phase }, { on := 16, ground := .phase }, { on := 17, ground := .phase }, { on := 18, ground := .phase }, { on := 19, ground := .phase }, { on := 20, ground := .phase }, { on := 21, ground := .phase }, { on := 22, ground := .phase }, { on := 23, ground := .phase }, { on := 24, ground := .phase }, { on := 25, ground := .phase }, { on := 26, ground := .phase }, { on := 27, ground := .phase }, { on := 28, ground := .phase }, { on := 29, ground := .phase }, { on := 30, ground := .phase }, { on := 31, ground := .phase }].append [{ on := 32, ground := .phase }, { on := 33, ground := .phase }, { on := 34, ground := .phase }, { on := 35, ground := .phase }, { on := 36, ground := .phase }, { on := 37, ground := .phase }, { on := 38, ground := .phase }, { on := 39, ground := .phase }, { on := 40, ground := .phase }, { on := 41, ground := .phase }, { on := 42, ground := .phase }, { on := 43, ground := .phase }, { on := 44, ground := .phase }, { on := 45, ground := .phase }, { on := 46, ground := .phase }, { on := 47, ground := .phase }, { on := 48, ground := .phase }, { on := 49, ground := .phase }, { on := 50, ground := .phase }, { on := 51, ground := .phase }, { on := 52, ground := .phase }, { on := 53, ground := .phase }, { on := 54, ground := .phase }, { on := 55, ground := .phase }, { on := 56, ground := .phase }, { on := 57, ground := .phase }, { on := 58, ground := .phase }, { on := 59, ground := .phase }, { on := 60, ground := .phase }, { on := 61, ground := .phase }, { on := 62, ground := .phase }, { on := 63, ground := .phase }, { on := 64, ground := .phase }, { on := 65, ground := .phase }, { on := 66, ground := .phase }]).toArray, guard := none } : Oper)) (v := ?vs1_67) rfl ltsay1_plain (by as_aux_lemma => kernel_rfl) (by as_aux_lemma => kernel_rfl) (fun _ _ _ h => h) (Or.inl ⟨by rfl, ?ys1_67⟩) (by assumption) ?rs1_67
  case ys1_67 => (intro w hSw; (try dsimp only at hSw); go_simp; try with_reducible rfl)
  try simp only [Act.put, List.setIfInBounds_toArray, List.set_cons_zero, List.set_cons_succ]
  refine wpAnyH_done (by as_aux_lemma => kernel_rfl) ?_ _
  refine NoPanic.normal ?_
  have N1 := nx _ hHeld10
  have HS3 := Lib.hid N1
  clear c0_0 c0_1 c0_2 c0_3 c0_4 c0_5 c1_0 c1_1 c1_2 c1_3 c1_4 c1_5 q22 q23 q24 RL0 RL1 RL2 RL3 RL4 RL5 nx kS hT N1
  have BH := Lib.hid HS3.out.below
  go_wp2_with fail
  exact bodyPost_ret (v := .bool true) (by simp [results, Tryd.results3, go_sem, *]) rfl ⟨rfl, BH.out⟩
theorem Says33_all (a b : La) (al : List Bool) (hl : al.length = 22) (x y z : Int) (p q : Qd) (w : World) (n : PairsAt w) : Calls Tryd.prog 3 #[lv a, lv b, .agg (ca33 al x y z p q)] w fun e w' => e = .returned (.bool true) ∧ Below w.heap.size w w' :=
  Says33_core a b (nowL al x y p q) (jn a b) (ca33 al x y z p q) (bl al) (qa p) (qa q) x y z (us x y z) w (Lib.hid (info22 hl)) (Lib.hid (info_qa p)) (Lib.hid (info_qa q)) (Lib.hid fun _ _ h => case_alive h) (Lib.hid fun _ _ h => case_alt hl h) (Lib.hid fun _ _ h => case_speed hl h) (Lib.hid (case_set hl 0 rfl)) (Lib.hid (case_set hl 1 rfl)) (Lib.hid (case_set hl 2 rfl))
    (Lib.hid fun w' B => Lat.Now_any al hl x y p q w' (n.keep B)) (Lib.hid fun w' _ => Lat.Join_any a b w') (Lib.hid fun w' _ => Lat.New_any w') (Lib.hid fun w' _ => Lat.Usable_any x y z w')
    (Lib.hid fun w' _ => Ref33.Now_any al hl x y p q w') (Lib.hid fun w' _ => Ref33.Join_any a b w') (Lib.hid fun w' _ => Ref33.New_any w') (Lib.hid fun w' _ => Ref33.Usable_any x y z w') (Lib.hid fun w' B => awake_any w' (n.keep B)) (Lib.hid (la_same (nowL al x y p q))) (Lib.hid (la_same (jn a b))) (Lib.hid (la_same new0))

end Law33
end Go.Proofs.YtldbkompebefmaaDoor
