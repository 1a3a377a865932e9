/- LatchJoins. -/
import Derived.Test.YtldbkompebefmaaDoorLtI
import Derived.Test.YtldbkompebefmaaDoorLtLd
import Derived.Lib.MinMax
import Derived.Deep.RegionWith
import Derived.Deep.CutBlock
import Derived.Deep.CutRange
import Derived.BigRegion
namespace Go.Proofs.YtldbkompebefmaaDoor
open Go.RowKit Ld Lat Obs

namespace Law33
open Lat
/-- The operations of a drawn region, as the translation has them. -/
def ltjoi2 : Array Oper := #[
  { dst := some 11, op := .load 23 (.tmp 7), type := 23, pos := "law.go:34", after := #[], guard := none },
  { dst := some 12, op := .load 23 (.tmp 3), type := 23, pos := "law.go:34", after := #[], guard := none },
  { dst := some 13, op := .call { callee := .value (.func 15), args := #[.tmp 11, .tmp 12], argTypes := #[23, 23] }, type := 4, pos := "law.go:34", after := #[{ on := 0, ground := .data }, { on := 1, ground := .data }], guard := none },
  { dst := some 14, op := .unOp .not 4 (.tmp 13), type := 4, pos := "law.go:34", after := #[{ on := 2, ground := .data }], guard := none },
  { dst := some 15, op := .move (.tmp 14), type := 4, pos := "law.go:34", after := #[{ on := 3, ground := .data }, { on := 2, ground := .chain }], guard := none },
  { dst := some 16, op := .load 23 (.tmp 7), type := 23, pos := "law.go:34", after := #[{ on := 4, ground := .guard }], guard := some (4, false) },
  { dst := some 17, op := .load 23 (.tmp 4), type := 23, pos := "law.go:34", after := #[{ on := 4, ground := .guard }], guard := some (4, false) },
  { dst := some 18, op := .call { callee := .value (.func 15), args := #[.tmp 16, .tmp 17], argTypes := #[23, 23] }, type := 4, pos := "law.go:34", after := #[{ on := 5, ground := .data }, { on := 6, ground := .data }, { on := 4, ground := .chain }, { on := 4, ground := .guard }], guard := some (4, false) },
  { dst := some 19, op := .unOp .not 4 (.tmp 18), type := 4, pos := "law.go:34", after := #[{ on := 7, ground := .data }, { on := 4, ground := .guard }], guard := some (4, false) },
  { dst := some 20, op := .pick (.tmp 15) (.const (.bool true)) (.tmp 19), type := 4, pos := "law.go:34", after := #[{ on := 4, ground := .data }, { on := 8, ground := .data }], guard := none },
  { dst := some 21, op := .move (.tmp 20), type := 4, pos := "law.go:34", after := #[{ on := 9, ground := .data }, { on := 7, ground := .chain }], guard := none },
  { dst := some 22, op := .load 23 (.tmp 7), type := 23, pos := "law.go:34", after := #[{ on := 10, ground := .guard }], guard := some (10, false) },
  { dst := some 23, op := .load 23 (.tmp 4), type := 23, pos := "law.go:34", after := #[{ on := 10, ground := .guard }], guard := some (10, false) },
  { dst := some 24, op := .load 23 (.tmp 3), type := 23, pos := "law.go:34", after := #[{ on := 10, ground := .guard }], guard := some (10, false) },
  { dst := some 25, op := .call { callee := .value (.func 8), args := #[.tmp 23, .tmp 24], argTypes := #[23, 23] }, type := 23, pos := "law.go:34", after := #[{ on := 12, ground := .data }, { on := 13, ground := .data }, { on := 10, ground := .chain }, { on := 10, ground := .guard }], guard := some (10, false) },
  { dst := some 26, op := .binOp .neq 23 (.tmp 22) (.tmp 25) 23, type := 4, pos := "law.go:34", after := #[{ on := 11, ground := .data }, { on := 14, ground := .data }, { on := 10, ground := .guard }], guard := some (10, false) },
  { dst := some 27, op := .pick (.tmp 21) (.const (.bool true)) (.tmp 26), type := 4, pos := "law.go:34", after := #[{ on := 10, ground := .data }, { on := 15, ground := .data }], guard := none },
  { dst := some 28, op := .move (.tmp 27), type := 4, pos := "law.go:34", after := #[{ on := 16, ground := .data }, { on := 14, ground := .chain }], guard := none },
  { dst := some 29, op := .load 23 (.tmp 7), type := 23, pos := "law.go:34", after := #[{ on := 17, ground := .guard }], guard := some (17, false) },
  { dst := some 30, op := .load 23 (.tmp 3), type := 23, pos := "law.go:34", after := #[{ on := 17, ground := .guard }], guard := some (17, false) },
  { dst := some 31, op := .call { callee := .value (.func 8), args := #[.tmp 29, .tmp 30], argTypes := #[23, 23] }, type := 23, pos := "law.go:34", after := #[{ on := 18, ground := .data }, { on := 19, ground := .data }, { on := 17, ground := .chain }, { on := 17, ground := .guard }], guard := some (17, false) },
  { dst := some 32, op := .load 23 (.tmp 7), type := 23, pos := "law.go:34", after := #[{ on := 17, ground := .guard }], guard := some (17, false) },
  { dst := some 33, op := .binOp .neq 23 (.tmp 31) (.tmp 32) 23, type := 4, pos := "law.go:34", after := #[{ on := 20, ground := .data }, { on := 21, ground := .data }, { on := 17, ground := .guard }], guard := some (17, false) },
  { dst := some 34, op := .pick (.tmp 28) (.const (.bool true)) (.tmp 33), type := 4, pos := "law.go:34", after := #[{ on := 17, ground := .data }, { on := 22, ground := .data }], guard := none },
  { dst := some 35, op := .move (.tmp 34), type := 4, pos := "law.go:34", after := #[{ on := 23, ground := .data }, { on := 20, ground := .chain }], guard := none },
  { dst := some 36, op := .load 23 (.tmp 3), type := 23, pos := "law.go:34", after := #[{ on := 24, ground := .guard }], guard := some (24, false) },
  { dst := some 37, op := .load 23 (.tmp 4), type := 23, pos := "law.go:34", after := #[{ on := 24, ground := .guard }], guard := some (24, false) },
  { dst := some 38, op := .call { callee := .value (.func 8), args := #[.tmp 36, .tmp 37], argTypes := #[23, 23] }, type := 23, pos := "law.go:34", after := #[{ on := 25, ground := .data }, { on := 26, ground := .data }, { on := 24, ground := .chain }, { on := 24, ground := .guard }], guard := some (24, false) },
  { dst := some 39, op := .load 23 (.tmp 5), type := 23, pos := "law.go:34", after := #[{ on := 24, ground := .guard }], guard := some (24, false) },
  { dst := some 40, op := .call { callee := .value (.func 8), args := #[.tmp 38, .tmp 39], argTypes := #[23, 23] }, type := 23, pos := "law.go:34", after := #[{ on := 27, ground := .data }, { on := 28, ground := .data }, { on := 27, ground := .chain }, { on := 24, ground := .guard }], guard := some (24, false) },
  { dst := some 41, op := .load 23 (.tmp 3), type := 23, pos := "law.go:34", after := #[{ on := 24, ground := .guard }], guard := some (24, false) },
  { dst := some 42, op := .load 23 (.tmp 4), type := 23, pos := "law.go:34", after := #[{ on := 24, ground := .guard }], guard := some (24, false) },
  { dst := some 43, op := .load 23 (.tmp 5), type := 23, pos := "law.go:34", after := #[{ on := 24, ground := .guard }], guard := some (24, false) },
  { dst := some 44, op := .call { callee := .value (.func 8), args := #[.tmp 42, .tmp 43], argTypes := #[23, 23] }, type := 23, pos := "law.go:34", after := #[{ on := 31, ground := .data }, { on := 32, ground := .data }, { on := 29, ground := .chain }, { on := 24, ground := .guard }], guard := some (24, false) },
  { dst := some 45, op := .call { callee := .value (.func 8), args := #[.tmp 41, .tmp 44], argTypes := #[23, 23] }, type := 23, pos := "law.go:34", after := #[{ on := 30, ground := .data }, { on := 33, ground := .data }, { on := 33, ground := .chain }, { on := 24, ground := .guard }], guard := some (24, false) },
  { dst := some 46, op := .binOp .neq 23 (.tmp 40) (.tmp 45) 23, type := 4, pos := "law.go:34", after := #[{ on := 29, ground := .data }, { on := 34, ground := .data }, { on := 24, ground := .guard }], guard := some (24, false) },
  { dst := some 47, op := .pick (.tmp 35) (.const (.bool true)) (.tmp 46), type := 4, pos := "law.go:34", after := #[{ on := 24, ground := .data }, { on := 35, ground := .data }], guard := none }]
theorem ltjoi2_plain : Region.noSelect ltjoi2 = true := by kernel_rfl

/-- The operations of a drawn region, as the translation has them. -/
def ltjoi6 : Array Oper := #[
  { dst := some 62, op := .load 23 (.tmp 7), type := 23, pos := "law.go:40", after := #[], guard := none },
  { dst := some 63, op := .call { callee := .value (.func 16), args := #[.tmp 62], argTypes := #[23] }, type := 3, pos := "law.go:40", after := #[{ on := 0, ground := .data }], guard := none },
  { dst := some 64, op := .load 23 (.tmp 3), type := 23, pos := "law.go:40", after := #[], guard := none },
  { dst := some 65, op := .call { callee := .value (.func 16), args := #[.tmp 64], argTypes := #[23] }, type := 3, pos := "law.go:40", after := #[{ on := 2, ground := .data }, { on := 1, ground := .chain }], guard := none },
  { dst := some 66, op := .binOp .geq 3 (.tmp 63) (.tmp 65) 3, type := 4, pos := "law.go:40", after := #[{ on := 1, ground := .data }, { on := 3, ground := .data }], guard := none },
  { dst := some 67, op := .move (.tmp 66), type := 4, pos := "law.go:40", after := #[{ on := 4, ground := .data }, { on := 3, ground := .chain }], guard := none },
  { dst := some 68, op := .load 23 (.tmp 7), type := 23, pos := "law.go:40", after := #[{ on := 5, ground := .guard }], guard := some (5, true) },
  { dst := some 69, op := .call { callee := .value (.func 16), args := #[.tmp 68], argTypes := #[23] }, type := 3, pos := "law.go:40", after := #[{ on := 6, ground := .data }, { on := 5, ground := .chain }, { on := 5, ground := .guard }], guard := some (5, true) },
  { dst := some 70, op := .load 23 (.tmp 4), type := 23, pos := "law.go:40", after := #[{ on := 5, ground := .guard }], guard := some (5, true) },
  { dst := some 71, op := .call { callee := .value (.func 16), args := #[.tmp 70], argTypes := #[23] }, type := 3, pos := "law.go:40", after := #[{ on := 8, ground := .data }, { on := 7, ground := .chain }, { on := 5, ground := .guard }], guard := some (5, true) },
  { dst := some 72, op := .binOp .geq 3 (.tmp 69) (.tmp 71) 3, type := 4, pos := "law.go:40", after := #[{ on := 7, ground := .data }, { on := 9, ground := .data }, { on := 5, ground := .guard }], guard := some (5, true) },
  { dst := some 73, op := .pick (.tmp 67) (.tmp 72) (.const (.bool false)), type := 4, pos := "law.go:40", after := #[{ on := 5, ground := .data }, { on := 10, ground := .data }], guard := none },
  { dst := some 74, op := .move (.tmp 73), type := 4, pos := "law.go:40", after := #[{ on := 11, ground := .data }, { on := 9, ground := .chain }], guard := none },
  { dst := some 75, op := .call { callee := .value (.func 14), args := #[], argTypes := #[] }, type := 4, pos := "law.go:40", after := #[{ on := 12, ground := .chain }, { on := 12, ground := .guard }], guard := some (12, true) },
  { dst := some 76, op := .pick (.tmp 74) (.tmp 75) (.const (.bool false)), type := 4, pos := "law.go:40", after := #[{ on := 12, ground := .data }, { on := 13, ground := .data }], guard := none },
  { dst := some 6, op := .assign (.tmp 76), type := 4, pos := "law.go:40", after := #[{ on := 14, ground := .data }, { on := 13, ground := .chain }, { on := 0, ground := .phase }, { on := 1, ground := .phase }, { on := 2, ground := .phase }, { on := 3, ground := .phase }, { on := 4, ground := .phase }, { on := 5, ground := .phase }, { on := 6, ground := .phase }, { on := 7, ground := .phase }, { on := 8, ground := .phase }, { on := 9, ground := .phase }, { on := 10, ground := .phase }, { on := 11, ground := .phase }, { on := 12, ground := .phase }, { on := 13, ground := .phase }, { on := 14, ground := .phase }], guard := none }]
theorem ltjoi6_plain : Region.noSelect ltjoi6 = true := by kernel_rfl

set_option maxHeartbeats 80000000 in
set_option maxRecDepth 100000 in
theorem Joins33_core (a b c j m k : La) (d h f : Bool) (x y z : Int) (w : World)
    (JAB : Hid (∀ w', Below w.heap.size w w' → Calls Tryd.prog 8 #[lv a, lv b] w' fun e w'' => e = .returned (.agg #[.int .i64 j.u, .bool j.am, .int .i64 j.al, .int .i64 j.sp, .bool j.fo, .bool j.no]) ∧ Below w'.heap.size w' w''))
    (WJA : Hid (∀ w', Below w.heap.size w w' → Calls Tryd.prog 15 #[lv j, lv a] w' fun e w'' => e = .returned (.bool true) ∧ Below w'.heap.size w' w''))
    (WJB : Hid (∀ w', Below w.heap.size w w' → Calls Tryd.prog 15 #[lv j, lv b] w' fun e w'' => e = .returned (.bool true) ∧ Below w'.heap.size w' w''))
    (JBA : Hid (∀ w', Below w.heap.size w w' → Calls Tryd.prog 8 #[lv b, lv a] w' fun e w'' => e = .returned (.agg #[.int .i64 j.u, .bool j.am, .int .i64 j.al, .int .i64 j.sp, .bool j.fo, .bool j.no]) ∧ Below w'.heap.size w' w''))
    (JJA : Hid (∀ w', Below w.heap.size w w' → Calls Tryd.prog 8 #[lv j, lv a] w' fun e w'' => e = .returned (.agg #[.int .i64 j.u, .bool j.am, .int .i64 j.al, .int .i64 j.sp, .bool j.fo, .bool j.no]) ∧ Below w'.heap.size w' w''))
    (JJC : Hid (∀ w', Below w.heap.size w w' → Calls Tryd.prog 8 #[lv j, lv c] w' fun e w'' => e = .returned (.agg #[.int .i64 m.u, .bool m.am, .int .i64 m.al, .int .i64 m.sp, .bool m.fo, .bool m.no]) ∧ Below w'.heap.size w' w''))
    (JBC : Hid (∀ w', Below w.heap.size w w' → Calls Tryd.prog 8 #[lv b, lv c] w' fun e w'' => e = .returned (.agg #[.int .i64 k.u, .bool k.am, .int .i64 k.al, .int .i64 k.sp, .bool k.fo, .bool k.no]) ∧ Below w'.heap.size w' w''))
    (JAK : Hid (∀ w', Below w.heap.size w w' → Calls Tryd.prog 8 #[lv a, lv k] w' fun e w'' => e = .returned (.agg #[.int .i64 m.u, .bool m.am, .int .i64 m.al, .int .i64 m.sp, .bool m.fo, .bool m.no]) ∧ Below w'.heap.size w' w''))
    (WCA : Hid (∀ w', Below w.heap.size w w' → Calls Tryd.prog 15 #[lv c, lv a] w' fun e w'' => e = .returned (.bool d) ∧ Below w'.heap.size w' w''))
    (WCB : Hid (∀ w', Below w.heap.size w w' → Calls Tryd.prog 15 #[lv c, lv b] w' fun e w'' => e = .returned (.bool h) ∧ Below w'.heap.size w' w''))
    (WCJ : Hid (∀ w', Below w.heap.size w w' → Calls Tryd.prog 15 #[lv c, lv j] w' fun e w'' => e = .returned (.bool f) ∧ Below w'.heap.size w' w''))
    (MJ : Hid (∀ w', Below w.heap.size w w' → Calls Tryd.prog 16 #[lv j] w' fun e w'' => e = .returned (.int .i64 x) ∧ Below w'.heap.size w' w''))
    (MA : Hid (∀ w', Below w.heap.size w w' → Calls Tryd.prog 16 #[lv a] w' fun e w'' => e = .returned (.int .i64 y) ∧ Below w'.heap.size w' w''))
    (MB : Hid (∀ w', Below w.heap.size w w' → Calls Tryd.prog 16 #[lv b] w' fun e w'' => e = .returned (.int .i64 z) ∧ Below w'.heap.size w' w''))
    (AW : Hid (∀ w', Below w.heap.size w w' → Calls Tryd.prog 14 #[] w' fun e w'' => e = .returned (.bool true) ∧ Below w'.heap.size w' w''))
    (S0 : Hid (∀ w, (Op.equalIn 10000 23 (.agg #[.int .i64 j.u, .bool j.am, .int .i64 j.al, .int .i64 j.sp, .bool j.fo, .bool j.no]) (.agg #[.int .i64 j.u, .bool j.am, .int .i64 j.al, .int .i64 j.sp, .bool j.fo, .bool j.no])).run Tryd.prog w = .ok true w))
    (S1 : Hid (∀ w, (Op.equalIn 10000 23 (.agg #[.int .i64 m.u, .bool m.am, .int .i64 m.al, .int .i64 m.sp, .bool m.fo, .bool m.no]) (.agg #[.int .i64 m.u, .bool m.am, .int .i64 m.al, .int .i64 m.sp, .bool m.fo, .bool m.no])).run Tryd.prog w = .ok true w))
    (HF : Hid (d = true → h = true → f = true)) (G1 : Hid (decide (y ≤ x) = true)) (G2 : Hid (decide (z ≤ x) = true))
    : Calls Tryd.prog 4 #[lv a, lv b, lv c] w fun e w' => e = .returned (.bool true) ∧ Below w.heap.size w w' := by
  have hS1 := (((Sp.none w).more [.int .i64 a.u, .bool a.am, .int .i64 a.al, .int .i64 a.sp, .bool a.fo, .bool a.no] 23).more [.int .i64 b.u, .bool b.am, .int .i64 b.al, .int .i64 b.sp, .bool b.fo, .bool b.no] 23).more [.int .i64 c.u, .bool c.am, .int .i64 c.al, .int .i64 c.sp, .bool c.fo, .bool c.no] 23
  simp only [heap1] at hS1
  have HS1 := Lib.hid hS1
  clear hS1
  go_enter Tryd.func4, Tryd.ntmps4
  go_upto_region 1 with fail
  obtain ⟨w1, hX, hS⟩ := (HS1.out).named
  rw [← hX]
  clear hX HS1
  have HS2 := Lib.hid hS
  clear hS
  have k0_0 := (HS2.out).at 0 rfl 0 (v := .int .i64 a.u) rfl
  have k0_1 := (HS2.out).at 0 rfl 1 (v := .bool a.am) rfl
  have k0_2 := (HS2.out).at 0 rfl 2 (v := .int .i64 a.al) rfl
  have k0_3 := (HS2.out).at 0 rfl 3 (v := .int .i64 a.sp) rfl
  have k0_4 := (HS2.out).at 0 rfl 4 (v := .bool a.fo) rfl
  have k0_5 := (HS2.out).at 0 rfl 5 (v := .bool a.no) rfl
  have k1_0 := (HS2.out).at 1 rfl 0 (v := .int .i64 b.u) rfl
  have k1_1 := (HS2.out).at 1 rfl 1 (v := .bool b.am) rfl
  have k1_2 := (HS2.out).at 1 rfl 2 (v := .int .i64 b.al) rfl
  have k1_3 := (HS2.out).at 1 rfl 3 (v := .int .i64 b.sp) rfl
  have k1_4 := (HS2.out).at 1 rfl 4 (v := .bool b.fo) rfl
  have k1_5 := (HS2.out).at 1 rfl 5 (v := .bool b.no) rfl
  go_wp2_with fail
  refine (JAB.out _ HS2.out.below).mono ?_; rintro e w2 ⟨rfl, hb2⟩
  have hS3 := (HS2.out).keep hb2
  have HS3 := Lib.hid hS3
  clear hS3 HS2
  clear hb2
  clear k0_0 k0_1 k0_2 k0_3 k0_4 k0_5 k1_0 k1_1 k1_2 k1_3 k1_4 k1_5
  go_upto_region 2 with fail
  have hS4 := (HS3.out).more [.int .i64 j.u, .bool j.am, .int .i64 j.al, .int .i64 j.sp, .bool j.fo, .bool j.no] 23
  have HS4 := Lib.hid hS4
  clear hS4 HS3
  obtain ⟨w3, hX, hS⟩ := (HS4.out).named
  rw [← hX]
  clear hX HS4
  have HS5 := Lib.hid hS
  clear hS
  have s0 := S0.out
  have s1 := S1.out
  clear S0 S1
  obtain ⟨bs1, hbs⟩ : ∃ bs : List (Nat × List (Option Value)), bs = [(w.heap.size, [some (.int .i64 a.u), some (.bool a.am), some (.int .i64 a.al), some (.int .i64 a.sp), some (.bool a.fo), some (.bool a.no)]), (w.heap.size + 1, [some (.int .i64 b.u), some (.bool b.am), some (.int .i64 b.al), some (.int .i64 b.sp), some (.bool b.fo), some (.bool b.no)]), (w.heap.size + 1 + 1, [some (.int .i64 c.u), some (.bool c.am), some (.int .i64 c.al), some (.int .i64 c.sp), some (.bool c.fo), some (.bool c.no)]), (w2.heap.size, [some (.int .i64 j.u), some (.bool j.am), some (.int .i64 j.al), some (.int .i64 j.sp), some (.bool j.fo), some (.bool j.no)])] := ⟨_, rfl⟩
  have hT := (HS5.out).cast hbs
  have c0_0 : ∀ w', Sp w bs1 w' → w'.cell? ⟨w.heap.size, 0, none⟩ = some (.int .i64 a.u) := by rw [hbs]; exact fun w' h => h.at 0 rfl 0 rfl
  have c0_1 : ∀ w', Sp w bs1 w' → w'.cell? ⟨w.heap.size, 1, none⟩ = some (.bool a.am) := by rw [hbs]; exact fun w' h => h.at 0 rfl 1 rfl
  have c0_2 : ∀ w', Sp w bs1 w' → w'.cell? ⟨w.heap.size, 2, none⟩ = some (.int .i64 a.al) := by rw [hbs]; exact fun w' h => h.at 0 rfl 2 rfl
  have c0_3 : ∀ w', Sp w bs1 w' → w'.cell? ⟨w.heap.size, 3, none⟩ = some (.int .i64 a.sp) := by rw [hbs]; exact fun w' h => h.at 0 rfl 3 rfl
  have c0_4 : ∀ w', Sp w bs1 w' → w'.cell? ⟨w.heap.size, 4, none⟩ = some (.bool a.fo) := by rw [hbs]; exact fun w' h => h.at 0 rfl 4 rfl
  have c0_5 : ∀ w', Sp w bs1 w' → w'.cell? ⟨w.heap.size, 5, none⟩ = some (.bool a.no) := by rw [hbs]; exact fun w' h => h.at 0 rfl 5 rfl
  have c1_0 : ∀ w', Sp w bs1 w' → w'.cell? ⟨w.heap.size + 1, 0, none⟩ = some (.int .i64 b.u) := by rw [hbs]; exact fun w' h => h.at 1 rfl 0 rfl
  have c1_1 : ∀ w', Sp w bs1 w' → w'.cell? ⟨w.heap.size + 1, 1, none⟩ = some (.bool b.am) := by rw [hbs]; exact fun w' h => h.at 1 rfl 1 rfl
  have c1_2 : ∀ w', Sp w bs1 w' → w'.cell? ⟨w.heap.size + 1, 2, none⟩ = some (.int .i64 b.al) := by rw [hbs]; exact fun w' h => h.at 1 rfl 2 rfl
  have c1_3 : ∀ w', Sp w bs1 w' → w'.cell? ⟨w.heap.size + 1, 3, none⟩ = some (.int .i64 b.sp) := by rw [hbs]; exact fun w' h => h.at 1 rfl 3 rfl
  have c1_4 : ∀ w', Sp w bs1 w' → w'.cell? ⟨w.heap.size + 1, 4, none⟩ = some (.bool b.fo) := by rw [hbs]; exact fun w' h => h.at 1 rfl 4 rfl
  have c1_5 : ∀ w', Sp w bs1 w' → w'.cell? ⟨w.heap.size + 1, 5, none⟩ = some (.bool b.no) := by rw [hbs]; exact fun w' h => h.at 1 rfl 5 rfl
  have c2_0 : ∀ w', Sp w bs1 w' → w'.cell? ⟨w.heap.size + 1 + 1, 0, none⟩ = some (.int .i64 c.u) := by rw [hbs]; exact fun w' h => h.at 2 rfl 0 rfl
  have c2_1 : ∀ w', Sp w bs1 w' → w'.cell? ⟨w.heap.size + 1 + 1, 1, none⟩ = some (.bool c.am) := by rw [hbs]; exact fun w' h => h.at 2 rfl 1 rfl
  have c2_2 : ∀ w', Sp w bs1 w' → w'.cell? ⟨w.heap.size + 1 + 1, 2, none⟩ = some (.int .i64 c.al) := by rw [hbs]; exact fun w' h => h.at 2 rfl 2 rfl
  have c2_3 : ∀ w', Sp w bs1 w' → w'.cell? ⟨w.heap.size + 1 + 1, 3, none⟩ = some (.int .i64 c.sp) := by rw [hbs]; exact fun w' h => h.at 2 rfl 3 rfl
  have c2_4 : ∀ w', Sp w bs1 w' → w'.cell? ⟨w.heap.size + 1 + 1, 4, none⟩ = some (.bool c.fo) := by rw [hbs]; exact fun w' h => h.at 2 rfl 4 rfl
  have c2_5 : ∀ w', Sp w bs1 w' → w'.cell? ⟨w.heap.size + 1 + 1, 5, none⟩ = some (.bool c.no) := by rw [hbs]; exact fun w' h => h.at 2 rfl 5 rfl
  have c3_0 : ∀ w', Sp w bs1 w' → w'.cell? ⟨w2.heap.size, 0, none⟩ = some (.int .i64 j.u) := by rw [hbs]; exact fun w' h => h.at 3 rfl 0 rfl
  have c3_1 : ∀ w', Sp w bs1 w' → w'.cell? ⟨w2.heap.size, 1, none⟩ = some (.bool j.am) := by rw [hbs]; exact fun w' h => h.at 3 rfl 1 rfl
  have c3_2 : ∀ w', Sp w bs1 w' → w'.cell? ⟨w2.heap.size, 2, none⟩ = some (.int .i64 j.al) := by rw [hbs]; exact fun w' h => h.at 3 rfl 2 rfl
  have c3_3 : ∀ w', Sp w bs1 w' → w'.cell? ⟨w2.heap.size, 3, none⟩ = some (.int .i64 j.sp) := by rw [hbs]; exact fun w' h => h.at 3 rfl 3 rfl
  have c3_4 : ∀ w', Sp w bs1 w' → w'.cell? ⟨w2.heap.size, 4, none⟩ = some (.bool j.fo) := by rw [hbs]; exact fun w' h => h.at 3 rfl 4 rfl
  have c3_5 : ∀ w', Sp w bs1 w' → w'.cell? ⟨w2.heap.size, 5, none⟩ = some (.bool j.no) := by rw [hbs]; exact fun w' h => h.at 3 rfl 5 rfl
  have nx : ∀ w', Sp w bs1 w' → Sp w [(w.heap.size, [some (.int .i64 a.u), some (.bool a.am), some (.int .i64 a.al), some (.int .i64 a.sp), some (.bool a.fo), some (.bool a.no)]), (w.heap.size + 1, [some (.int .i64 b.u), some (.bool b.am), some (.int .i64 b.al), some (.int .i64 b.sp), some (.bool b.fo), some (.bool b.no)]), (w.heap.size + 1 + 1, [some (.int .i64 c.u), some (.bool c.am), some (.int .i64 c.al), some (.int .i64 c.sp), some (.bool c.fo), some (.bool c.no)]), (w2.heap.size, [some (.int .i64 j.u), some (.bool j.am), some (.int .i64 j.al), some (.int .i64 j.sp), some (.bool j.fo), some (.bool j.no)])] w' := by rw [hbs]; exact fun w' h => h
  have kS : ∀ w1 w2, Sp w bs1 w1 → Below w1.heap.size w1 w2 → Sp w bs1 w2 := fun _ _ h hb => h.keep hb
  clear hbs HS5
  change (Code.region 2 ltjoi2 true).wp Tryd.prog _ _ _
  refine wp_region_noPanic ?_
  refine wp_region_held_drew (S := (Sp w bs1)) (by kernel_rfl) (hT.drew) (fun hHeld => ?_)
  refine wpAnyH_take (i := 0) (oi := ({ dst := some 11, op := .load 23 (.tmp 7), type := 23, pos := "law.go:34", after := #[], guard := none } : Oper)) (v := ?vs1_0) rfl ltjoi2_plain (by as_aux_lemma => kernel_rfl) (by as_aux_lemma => kernel_rfl) (fun _ _ _ h => h) (Or.inl ⟨by rfl, ?ys1_0⟩) (by assumption) ?rs1_0
  case ys1_0 => (intro w hSw; (try dsimp only at hSw); go_simp; try with_reducible rfl)
  try simp only [Act.put, List.setIfInBounds_toArray, List.set_cons_zero, List.set_cons_succ]
  refine wpAnyH_take (i := 1) (oi := ({ dst := some 12, op := .load 23 (.tmp 3), type := 23, pos := "law.go:34", after := #[], guard := none } : Oper)) (v := ?vs1_1) rfl ltjoi2_plain (by as_aux_lemma => kernel_rfl) (by as_aux_lemma => kernel_rfl) (fun _ _ _ h => h) (Or.inl ⟨by rfl, ?ys1_1⟩) (by assumption) ?rs1_1
  case ys1_1 => (intro w hSw; (try dsimp only at hSw); go_simp; try with_reducible rfl)
  try simp only [Act.put, List.setIfInBounds_toArray, List.set_cons_zero, List.set_cons_succ]
  refine wpAnyH_ready (rs := [2]) (by as_aux_lemma => kernel_rfl) (by simp) ?_
  refine AllReadyH.cons (o := ({ dst := some 13, op := .call { callee := .value (.func 15), args := #[.tmp 11, .tmp 12], argTypes := #[23, 23] }, type := 4, pos := "law.go:34", after := #[{ on := 0, ground := .data }, { on := 1, ground := .data }], guard := none } : Oper)) rfl (fun KK hK => ?_) AllReadyH.nil
  rw [if_pos (by rfl)]
  go_simp
  go_at_call 15; refine (WJA.out _ (Sp.below (by assumption))).mono ?_; rintro e w4 ⟨rfl, hb4⟩
  go_wp2_with fail
  refine hK.out _ _ ?_ (fun hHeld4 => ?_)
  · exact kS _ _ (by assumption) hb4
  clear hK KK hb4
  try simp only [Act.put, List.setIfInBounds_toArray, List.set_cons_zero, List.set_cons_succ]
  refine wpAnyH_take (i := 3) (oi := ({ dst := some 14, op := .unOp .not 4 (.tmp 13), type := 4, pos := "law.go:34", after := #[{ on := 2, ground := .data }], guard := none } : Oper)) (v := ?vs1_3) rfl ltjoi2_plain (by as_aux_lemma => kernel_rfl) (by as_aux_lemma => kernel_rfl) (fun _ _ _ h => h) (Or.inl ⟨by rfl, ?ys1_3⟩) (by assumption) ?rs1_3
  case ys1_3 => (intro w hSw; (try dsimp only at hSw); go_simp; try with_reducible rfl)
  try simp only [Act.put, List.setIfInBounds_toArray, List.set_cons_zero, List.set_cons_succ]
  refine wpAnyH_take (i := 4) (oi := ({ dst := some 15, op := .move (.tmp 14), type := 4, pos := "law.go:34", after := #[{ on := 3, ground := .data }, { on := 2, ground := .chain }], guard := none } : Oper)) (v := ?vs1_4) rfl ltjoi2_plain (by as_aux_lemma => kernel_rfl) (by as_aux_lemma => kernel_rfl) (fun _ _ _ h => h) (Or.inl ⟨by rfl, ?ys1_4⟩) (by assumption) ?rs1_4
  case ys1_4 => (intro w hSw; (try dsimp only at hSw); go_simp; try with_reducible rfl)
  try simp only [Act.put, List.setIfInBounds_toArray, List.set_cons_zero, List.set_cons_succ]
  refine wpAnyH_take (i := 5) (oi := ({ dst := some 16, op := .load 23 (.tmp 7), type := 23, pos := "law.go:34", after := #[{ on := 4, ground := .guard }], guard := some (4, false) } : Oper)) (v := ?vs1_5) rfl ltjoi2_plain (by as_aux_lemma => kernel_rfl) (by as_aux_lemma => kernel_rfl) (fun _ _ _ h => h) (Or.inl ⟨by rfl, ?ys1_5⟩) (by assumption) ?rs1_5
  case ys1_5 => (intro w hSw; (try dsimp only at hSw); go_simp; try with_reducible rfl)
  try simp only [Act.put, List.setIfInBounds_toArray, List.set_cons_zero, List.set_cons_succ]
  refine wpAnyH_take (i := 6) (oi := ({ dst := some 17, op := .load 23 (.tmp 4), type := 23, pos := "law.go:34", after := #[{ on := 4, ground := .guard }], guard := some (4, false) } : Oper)) (v := ?vs1_6) rfl ltjoi2_plain (by as_aux_lemma => kernel_rfl) (by as_aux_lemma => kernel_rfl) (fun _ _ _ h => h) (Or.inl ⟨by rfl, ?ys1_6⟩) (by assumption) ?rs1_6
  case ys1_6 => (intro w hSw; (try dsimp only at hSw); go_simp; try with_reducible rfl)
  try simp only [Act.put, List.setIfInBounds_toArray, List.set_cons_zero, List.set_cons_succ]
  refine wpAnyH_ready (rs := [7]) (by as_aux_lemma => kernel_rfl) (by simp) ?_
  refine AllReadyH.cons (o := ({ dst := some 18, op := .call { callee := .value (.func 15), args := #[.tmp 16, .tmp 17], argTypes := #[23, 23] }, type := 4, pos := "law.go:34", after := #[{ on := 5, ground := .data }, { on := 6, ground := .data }, { on := 4, ground := .chain }, { on := 4, ground := .guard }], guard := some (4, false) } : Oper)) rfl (fun KK hK => ?_) AllReadyH.nil
  rw [if_pos (by rfl)]
  go_simp
  go_at_call 15; refine (WJB.out _ (Sp.below (by assumption))).mono ?_; rintro e w5 ⟨rfl, hb5⟩
  go_wp2_with fail
  refine hK.out _ _ ?_ (fun hHeld5 => ?_)
  · exact kS _ _ (by assumption) hb5
  clear hK KK hb5 hHeld4
  try simp only [Act.put, List.setIfInBounds_toArray, List.set_cons_zero, List.set_cons_succ]
  refine wpAnyH_take (i := 8) (oi := ({ dst := some 19, op := .unOp .not 4 (.tmp 18), type := 4, pos := "law.go:34", after := #[{ on := 7, ground := .data }, { on := 4, ground := .guard }], guard := some (4, false) } : Oper)) (v := ?vs1_8) rfl ltjoi2_plain (by as_aux_lemma => kernel_rfl) (by as_aux_lemma => kernel_rfl) (fun _ _ _ h => h) (Or.inl ⟨by rfl, ?ys1_8⟩) (by assumption) ?rs1_8
  case ys1_8 => (intro w hSw; (try dsimp only at hSw); go_simp; try with_reducible rfl)
  try simp only [Act.put, List.setIfInBounds_toArray, List.set_cons_zero, List.set_cons_succ]
  refine wpAnyH_take (i := 9) (oi := ({ dst := some 20, op := .pick (.tmp 15) (.const (.bool true)) (.tmp 19), type := 4, pos := "law.go:34", after := #[{ on := 4, ground := .data }, { on := 8, ground := .data }], guard := none } : Oper)) (v := ?vs1_9) rfl ltjoi2_plain (by as_aux_lemma => kernel_rfl) (by as_aux_lemma => kernel_rfl) (fun _ _ _ h => h) (Or.inl ⟨by rfl, ?ys1_9⟩) (by assumption) ?rs1_9
  case ys1_9 => (intro w hSw; (try dsimp only at hSw); go_simp; try with_reducible rfl)
  try simp only [Act.put, List.setIfInBounds_toArray, List.set_cons_zero, List.set_cons_succ]
  refine wpAnyH_take (i := 10) (oi := ({ dst := some 21, op := .move (.tmp 20), type := 4, pos := "law.go:34", after := #[{ on := 9, ground := .data }, { on := 7, ground := .chain }], guard := none } : Oper)) (v := ?vs1_10) rfl ltjoi2_plain (by as_aux_lemma => kernel_rfl) (by as_aux_lemma => kernel_rfl) (fun _ _ _ h => h) (Or.inl ⟨by rfl, ?ys1_10⟩) (by assumption) ?rs1_10
  case ys1_10 => (intro w hSw; (try dsimp only at hSw); go_simp; try with_reducible rfl)
  try simp only [Act.put, List.setIfInBounds_toArray, List.set_cons_zero, List.set_cons_succ]
  refine wpAnyH_take (i := 11) (oi := ({ dst := some 22, op := .load 23 (.tmp 7), type := 23, pos := "law.go:34", after := #[{ on := 10, ground := .guard }], guard := some (10, false) } : Oper)) (v := ?vs1_11) rfl ltjoi2_plain (by as_aux_lemma => kernel_rfl) (by as_aux_lemma => kernel_rfl) (fun _ _ _ h => h) (Or.inl ⟨by rfl, ?ys1_11⟩) (by assumption) ?rs1_11
  case ys1_11 => (intro w hSw; (try dsimp only at hSw); go_simp; try with_reducible rfl)
  try simp only [Act.put, List.setIfInBounds_toArray, List.set_cons_zero, List.set_cons_succ]
  refine wpAnyH_take (i := 12) (oi := ({ dst := some 23, op := .load 23 (.tmp 4), type := 23, pos := "law.go:34", after := #[{ on := 10, ground := .guard }], guard := some (10, false) } : Oper)) (v := ?vs1_12) rfl ltjoi2_plain (by as_aux_lemma => kernel_rfl) (by as_aux_lemma => kernel_rfl) (fun _ _ _ h => h) (Or.inl ⟨by rfl, ?ys1_12⟩) (by assumption) ?rs1_12
  case ys1_12 => (intro w hSw; (try dsimp only at hSw); go_simp; try with_reducible rfl)
  try simp only [Act.put, List.setIfInBounds_toArray, List.set_cons_zero, List.set_cons_succ]
  refine wpAnyH_take (i := 13) (oi := ({ dst := some 24, op := .load 23 (.tmp 3), type := 23, pos := "law.go:34", after := #[{ on := 10, ground := .guard }], guard := some (10, false) } : Oper)) (v := ?vs1_13) rfl ltjoi2_plain (by as_aux_lemma => kernel_rfl) (by as_aux_lemma => kernel_rfl) (fun _ _ _ h => h) (Or.inl ⟨by rfl, ?ys1_13⟩) (by assumption) ?rs1_13
  case ys1_13 => (intro w hSw; (try dsimp only at hSw); go_simp; try with_reducible rfl)
  try simp only [Act.put, List.setIfInBounds_toArray, List.set_cons_zero, List.set_cons_succ]
  refine wpAnyH_ready (rs := [14]) (by as_aux_lemma => kernel_rfl) (by simp) ?_
  refine AllReadyH.cons (o := ({ dst := some 25, op := .call { callee := .value (.func 8), args := #[.tmp 23, .tmp 24], argTypes := #[23, 23] }, type := 23, pos := "law.go:34", after := #[{ on := 12, ground := .data }, { on := 13, ground := .data }, { on := 10, ground := .chain }, { on := 10, ground := .guard }], guard := some (10, false) } : Oper)) rfl (fun KK hK => ?_) AllReadyH.nil
  rw [if_pos (by rfl)]
  go_simp
  go_at_call 8; refine (JBA.out _ (Sp.below (by assumption))).mono ?_; rintro e w6 ⟨rfl, hb6⟩
  go_wp2_with fail
  refine hK.out _ _ ?_ (fun hHeld6 => ?_)
  · exact kS _ _ (by assumption) hb6
  clear hK KK hb6 hHeld5
  try simp only [Act.put, List.setIfInBounds_toArray, List.set_cons_zero, List.set_cons_succ]
  refine wpAnyH_take (i := 15) (oi := ({ dst := some 26, op := .binOp .neq 23 (.tmp 22) (.tmp 25) 23, type := 4, pos := "law.go:34", after := #[{ on := 11, ground := .data }, { on := 14, ground := .data }, { on := 10, ground := .guard }], guard := some (10, false) } : Oper)) (v := ?vs1_15) rfl ltjoi2_plain (by as_aux_lemma => kernel_rfl) (by as_aux_lemma => kernel_rfl) (fun _ _ _ h => h) (Or.inl ⟨by rfl, ?ys1_15⟩) (by assumption) ?rs1_15
  case ys1_15 => (intro w hSw; (try dsimp only at hSw); go_simp; try with_reducible rfl)
  try simp only [Act.put, List.setIfInBounds_toArray, List.set_cons_zero, List.set_cons_succ]
  refine wpAnyH_take (i := 16) (oi := ({ dst := some 27, op := .pick (.tmp 21) (.const (.bool true)) (.tmp 26), type := 4, pos := "law.go:34", after := #[{ on := 10, ground := .data }, { on := 15, ground := .data }], guard := none } : Oper)) (v := ?vs1_16) rfl ltjoi2_plain (by as_aux_lemma => kernel_rfl) (by as_aux_lemma => kernel_rfl) (fun _ _ _ h => h) (Or.inl ⟨by rfl, ?ys1_16⟩) (by assumption) ?rs1_16
  case ys1_16 => (intro w hSw; (try dsimp only at hSw); go_simp; try with_reducible rfl)
  try simp only [Act.put, List.setIfInBounds_toArray, List.set_cons_zero, List.set_cons_succ]
  refine wpAnyH_take (i := 17) (oi := ({ dst := some 28, op := .move (.tmp 27), type := 4, pos := "law.go:34", after := #[{ on := 16, ground := .data }, { on := 14, ground := .chain }], guard := none } : Oper)) (v := ?vs1_17) rfl ltjoi2_plain (by as_aux_lemma => kernel_rfl) (by as_aux_lemma => kernel_rfl) (fun _ _ _ h => h) (Or.inl ⟨by rfl, ?ys1_17⟩) (by assumption) ?rs1_17
  case ys1_17 => (intro w hSw; (try dsimp only at hSw); go_simp; try with_reducible rfl)
  try simp only [Act.put, List.setIfInBounds_toArray, List.set_cons_zero, List.set_cons_succ]
  refine wpAnyH_take (i := 18) (oi := ({ dst := some 29, op := .load 23 (.tmp 7), type := 23, pos := "law.go:34", after := #[{ on := 17, ground := .guard }], guard := some (17, false) } : Oper)) (v := ?vs1_18) rfl ltjoi2_plain (by as_aux_lemma => kernel_rfl) (by as_aux_lemma => kernel_rfl) (fun _ _ _ h => h) (Or.inl ⟨by rfl, ?ys1_18⟩) (by assumption) ?rs1_18
  case ys1_18 => (intro w hSw; (try dsimp only at hSw); go_simp; try with_reducible rfl)
  try simp only [Act.put, List.setIfInBounds_toArray, List.set_cons_zero, List.set_cons_succ]
  refine wpAnyH_take (i := 19) (oi := ({ dst := some 30, op := .load 23 (.tmp 3), type := 23, pos := "law.go:34", after := #[{ on := 17, ground := .guard }], guard := some (17, false) } : Oper)) (v := ?vs1_19) rfl ltjoi2_plain (by as_aux_lemma => kernel_rfl) (by as_aux_lemma => kernel_rfl) (fun _ _ _ h => h) (Or.inl ⟨by rfl, ?ys1_19⟩) (by assumption) ?rs1_19
  case ys1_19 => (intro w hSw; (try dsimp only at hSw); go_simp; try with_reducible rfl)
  try simp only [Act.put, List.setIfInBounds_toArray, List.set_cons_zero, List.set_cons_succ]
  refine wpAnyH_take (i := 21) (oi := ({ dst := some 32, op := .load 23 (.tmp 7), type := 23, pos := "law.go:34", after := #[{ on := 17, ground := .guard }], guard := some (17, false) } : Oper)) (v := ?vs1_21) rfl ltjoi2_plain (by as_aux_lemma => kernel_rfl) (by as_aux_lemma => kernel_rfl) (fun _ _ _ h => h) (Or.inl ⟨by rfl, ?ys1_21⟩) (by assumption) ?rs1_21
  case ys1_21 => (intro w hSw; (try dsimp only at hSw); go_simp; try with_reducible rfl)
  try simp only [Act.put, List.setIfInBounds_toArray, List.set_cons_zero, List.set_cons_succ]
  refine wpAnyH_ready (rs := [20]) (by as_aux_lemma => kernel_rfl) (by simp) ?_
  refine AllReadyH.cons (o := ({ dst := some 31, op := .call { callee := .value (.func 8), args := #[.tmp 29, .tmp 30], argTypes := #[23, 23] }, type := 23, pos := "law.go:34", after := #[{ on := 18, ground := .data }, { on := 19, ground := .data }, { on := 17, ground := .chain }, { on := 17, ground := .guard }], guard := some (17, false) } : Oper)) rfl (fun KK hK => ?_) AllReadyH.nil
  rw [if_pos (by rfl)]
  go_simp
  go_at_call 8; refine (JJA.out _ (Sp.below (by assumption))).mono ?_; rintro e w7 ⟨rfl, hb7⟩
  go_wp2_with fail
  refine hK.out _ _ ?_ (fun hHeld7 => ?_)
  · exact kS _ _ (by assumption) hb7
  clear hK KK hb7 hHeld6
  try simp only [Act.put, List.setIfInBounds_toArray, List.set_cons_zero, List.set_cons_succ]
  refine wpAnyH_take (i := 22) (oi := ({ dst := some 33, op := .binOp .neq 23 (.tmp 31) (.tmp 32) 23, type := 4, pos := "law.go:34", after := #[{ on := 20, ground := .data }, { on := 21, ground := .data }, { on := 17, ground := .guard }], guard := some (17, false) } : Oper)) (v := ?vs1_22) rfl ltjoi2_plain (by as_aux_lemma => kernel_rfl) (by as_aux_lemma => kernel_rfl) (fun _ _ _ h => h) (Or.inl ⟨by rfl, ?ys1_22⟩) (by assumption) ?rs1_22
  case ys1_22 => (intro w hSw; (try dsimp only at hSw); go_simp; try with_reducible rfl)
  try simp only [Act.put, List.setIfInBounds_toArray, List.set_cons_zero, List.set_cons_succ]
  refine wpAnyH_take (i := 23) (oi := ({ dst := some 34, op := .pick (.tmp 28) (.const (.bool true)) (.tmp 33), type := 4, pos := "law.go:34", after := #[{ on := 17, ground := .data }, { on := 22, ground := .data }], guard := none } : Oper)) (v := ?vs1_23) rfl ltjoi2_plain (by as_aux_lemma => kernel_rfl) (by as_aux_lemma => kernel_rfl) (fun _ _ _ h => h) (Or.inl ⟨by rfl, ?ys1_23⟩) (by assumption) ?rs1_23
  case ys1_23 => (intro w hSw; (try dsimp only at hSw); go_simp; try with_reducible rfl)
  try simp only [Act.put, List.setIfInBounds_toArray, List.set_cons_zero, List.set_cons_succ]
  refine wpAnyH_take (i := 24) (oi := ({ dst := some 35, op := .move (.tmp 34), type := 4, pos := "law.go:34", after := #[{ on := 23, ground := .data }, { on := 20, ground := .chain }], guard := none } : Oper)) (v := ?vs1_24) rfl ltjoi2_plain (by as_aux_lemma => kernel_rfl) (by as_aux_lemma => kernel_rfl) (fun _ _ _ h => h) (Or.inl ⟨by rfl, ?ys1_24⟩) (by assumption) ?rs1_24
  case ys1_24 => (intro w hSw; (try dsimp only at hSw); go_simp; try with_reducible rfl)
  try simp only [Act.put, List.setIfInBounds_toArray, List.set_cons_zero, List.set_cons_succ]
  refine wpAnyH_take (i := 25) (oi := ({ dst := some 36, op := .load 23 (.tmp 3), type := 23, pos := "law.go:34", after := #[{ on := 24, ground := .guard }], guard := some (24, false) } : Oper)) (v := ?vs1_25) rfl ltjoi2_plain (by as_aux_lemma => kernel_rfl) (by as_aux_lemma => kernel_rfl) (fun _ _ _ h => h) (Or.inl ⟨by rfl, ?ys1_25⟩) (by assumption) ?rs1_25
  case ys1_25 => (intro w hSw; (try dsimp only at hSw); go_simp; try with_reducible rfl)
  try simp only [Act.put, List.setIfInBounds_toArray, List.set_cons_zero, List.set_cons_succ]
  refine wpAnyH_take (i := 26) (oi := ({ dst := some 37, op := .load 23 (.tmp 4), type := 23, pos := "law.go:34", after := #[{ on := 24, ground := .guard }], guard := some (24, false) } : Oper)) (v := ?vs1_26) rfl ltjoi2_plain (by as_aux_lemma => kernel_rfl) (by as_aux_lemma => kernel_rfl) (fun _ _ _ h => h) (Or.inl ⟨by rfl, ?ys1_26⟩) (by assumption) ?rs1_26
  case ys1_26 => (intro w hSw; (try dsimp only at hSw); go_simp; try with_reducible rfl)
  try simp only [Act.put, List.setIfInBounds_toArray, List.set_cons_zero, List.set_cons_succ]
  refine wpAnyH_take (i := 28) (oi := ({ dst := some 39, op := .load 23 (.tmp 5), type := 23, pos := "law.go:34", after := #[{ on := 24, ground := .guard }], guard := some (24, false) } : Oper)) (v := ?vs1_28) rfl ltjoi2_plain (by as_aux_lemma => kernel_rfl) (by as_aux_lemma => kernel_rfl) (fun _ _ _ h => h) (Or.inl ⟨by rfl, ?ys1_28⟩) (by assumption) ?rs1_28
  case ys1_28 => (intro w hSw; (try dsimp only at hSw); go_simp; try with_reducible rfl)
  try simp only [Act.put, List.setIfInBounds_toArray, List.set_cons_zero, List.set_cons_succ]
  refine wpAnyH_take (i := 30) (oi := ({ dst := some 41, op := .load 23 (.tmp 3), type := 23, pos := "law.go:34", after := #[{ on := 24, ground := .guard }], guard := some (24, false) } : Oper)) (v := ?vs1_30) rfl ltjoi2_plain (by as_aux_lemma => kernel_rfl) (by as_aux_lemma => kernel_rfl) (fun _ _ _ h => h) (Or.inl ⟨by rfl, ?ys1_30⟩) (by assumption) ?rs1_30
  case ys1_30 => (intro w hSw; (try dsimp only at hSw); go_simp; try with_reducible rfl)
  try simp only [Act.put, List.setIfInBounds_toArray, List.set_cons_zero, List.set_cons_succ]
  refine wpAnyH_take (i := 31) (oi := ({ dst := some 42, op := .load 23 (.tmp 4), type := 23, pos := "law.go:34", after := #[{ on := 24, ground := .guard }], guard := some (24, false) } : Oper)) (v := ?vs1_31) rfl ltjoi2_plain (by as_aux_lemma => kernel_rfl) (by as_aux_lemma => kernel_rfl) (fun _ _ _ h => h) (Or.inl ⟨by rfl, ?ys1_31⟩) (by assumption) ?rs1_31
  case ys1_31 => (intro w hSw; (try dsimp only at hSw); go_simp; try with_reducible rfl)
  try simp only [Act.put, List.setIfInBounds_toArray, List.set_cons_zero, List.set_cons_succ]
  refine wpAnyH_take (i := 32) (oi := ({ dst := some 43, op := .load 23 (.tmp 5), type := 23, pos := "law.go:34", after := #[{ on := 24, ground := .guard }], guard := some (24, false) } : Oper)) (v := ?vs1_32) rfl ltjoi2_plain (by as_aux_lemma => kernel_rfl) (by as_aux_lemma => kernel_rfl) (fun _ _ _ h => h) (Or.inl ⟨by rfl, ?ys1_32⟩) (by assumption) ?rs1_32
  case ys1_32 => (intro w hSw; (try dsimp only at hSw); go_simp; try with_reducible rfl)
  try simp only [Act.put, List.setIfInBounds_toArray, List.set_cons_zero, List.set_cons_succ]
  refine wpAnyH_ready (rs := [27]) (by as_aux_lemma => kernel_rfl) (by simp) ?_
  refine AllReadyH.cons (o := ({ dst := some 38, op := .call { callee := .value (.func 8), args := #[.tmp 36, .tmp 37], argTypes := #[23, 23] }, type := 23, pos := "law.go:34", after := #[{ on := 25, ground := .data }, { on := 26, ground := .data }, { on := 24, ground := .chain }, { on := 24, ground := .guard }], guard := some (24, false) } : Oper)) rfl (fun KK hK => ?_) AllReadyH.nil
  rw [if_pos (by rfl)]
  go_simp
  go_at_call 8; refine (JAB.out _ (Sp.below (by assumption))).mono ?_; rintro e w8 ⟨rfl, hb8⟩
  go_wp2_with fail
  refine hK.out _ _ ?_ (fun hHeld8 => ?_)
  · exact kS _ _ (by assumption) hb8
  clear hK KK hb8 hHeld7
  try simp only [Act.put, List.setIfInBounds_toArray, List.set_cons_zero, List.set_cons_succ]
  refine wpAnyH_ready (rs := [29]) (by as_aux_lemma => kernel_rfl) (by simp) ?_
  refine AllReadyH.cons (o := ({ dst := some 40, op := .call { callee := .value (.func 8), args := #[.tmp 38, .tmp 39], argTypes := #[23, 23] }, type := 23, pos := "law.go:34", after := #[{ on := 27, ground := .data }, { on := 28, ground := .data }, { on := 27, ground := .chain }, { on := 24, ground := .guard }], guard := some (24, false) } : Oper)) rfl (fun KK hK => ?_) AllReadyH.nil
  rw [if_pos (by rfl)]
  go_simp
  go_at_call 8; refine (JJC.out _ (Sp.below (by assumption))).mono ?_; rintro e w9 ⟨rfl, hb9⟩
  go_wp2_with fail
  refine hK.out _ _ ?_ (fun hHeld9 => ?_)
  · exact kS _ _ (by assumption) hb9
  clear hK KK hb9 hHeld8
  try simp only [Act.put, List.setIfInBounds_toArray, List.set_cons_zero, List.set_cons_succ]
  refine wpAnyH_ready (rs := [33]) (by as_aux_lemma => kernel_rfl) (by simp) ?_
  refine AllReadyH.cons (o := ({ dst := some 44, op := .call { callee := .value (.func 8), args := #[.tmp 42, .tmp 43], argTypes := #[23, 23] }, type := 23, pos := "law.go:34", after := #[{ on := 31, ground := .data }, { on := 32, ground := .data }, { on := 29, ground := .chain }, { on := 24, ground := .guard }], guard := some (24, false) } : Oper)) rfl (fun KK hK => ?_) AllReadyH.nil
  rw [if_pos (by rfl)]
  go_simp
  go_at_call 8; refine (JBC.out _ (Sp.below (by assumption))).mono ?_; rintro e w10 ⟨rfl, hb10⟩
  go_wp2_with fail
  refine hK.out _ _ ?_ (fun hHeld10 => ?_)
  · exact kS _ _ (by assumption) hb10
  clear hK KK hb10 hHeld9
  try simp only [Act.put, List.setIfInBounds_toArray, List.set_cons_zero, List.set_cons_succ]
  refine wpAnyH_ready (rs := [34]) (by as_aux_lemma => kernel_rfl) (by simp) ?_
  refine AllReadyH.cons (o := ({ dst := some 45, op := .call { callee := .value (.func 8), args := #[.tmp 41, .tmp 44], argTypes := #[23, 23] }, type := 23, pos := "law.go:34", after := #[{ on := 30, ground := .data }, { on := 33, ground := .data }, { on := 33, ground := .chain }, { on := 24, ground := .guard }], guard := some (24, false) } : Oper)) rfl (fun KK hK => ?_) AllReadyH.nil
  rw [if_pos (by rfl)]
  go_simp
  go_at_call 8; refine (JAK.out _ (Sp.below (by assumption))).mono ?_; rintro e w11 ⟨rfl, hb11⟩
  go_wp2_with fail
  refine hK.out _ _ ?_ (fun hHeld11 => ?_)
  · exact kS _ _ (by assumption) hb11
  clear hK KK hb11 hHeld10
  try simp only [Act.put, List.setIfInBounds_toArray, List.set_cons_zero, List.set_cons_succ]
  refine wpAnyH_take (i := 35) (oi := ({ dst := some 46, op := .binOp .neq 23 (.tmp 40) (.tmp 45) 23, type := 4, pos := "law.go:34", after := #[{ on := 29, ground := .data }, { on := 34, ground := .data }, { on := 24, ground := .guard }], guard := some (24, false) } : Oper)) (v := ?vs1_35) rfl ltjoi2_plain (by as_aux_lemma => kernel_rfl) (by as_aux_lemma => kernel_rfl) (fun _ _ _ h => h) (Or.inl ⟨by rfl, ?ys1_35⟩) (by assumption) ?rs1_35
  case ys1_35 => (intro w hSw; (try dsimp only at hSw); go_simp; try with_reducible rfl)
  try simp only [Act.put, List.setIfInBounds_toArray, List.set_cons_zero, List.set_cons_succ]
  refine wpAnyH_take (i := 36) (oi := ({ dst := some 47, op := .pick (.tmp 35) (.const (.bool true)) (.tmp 46), type := 4, pos := "law.go:34", after := #[{ on := 24, ground := .data }, { on := 35, ground := .data }], guard := none } : Oper)) (v := ?vs1_36) rfl ltjoi2_plain (by as_aux_lemma => kernel_rfl) (by as_aux_lemma => kernel_rfl) (fun _ _ _ h => h) (Or.inl ⟨by rfl, ?ys1_36⟩) (by assumption) ?rs1_36
  case ys1_36 => (intro w hSw; (try dsimp only at hSw); go_simp; try with_reducible rfl)
  try simp only [Act.put, List.setIfInBounds_toArray, List.set_cons_zero, List.set_cons_succ]
  refine wpAnyH_done (by as_aux_lemma => kernel_rfl) ?_ _
  refine NoPanic.normal ?_
  have N1 := nx _ hHeld11
  have HS6 := Lib.hid N1
  clear c0_0 c0_1 c0_2 c0_3 c0_4 c0_5 c1_0 c1_1 c1_2 c1_3 c1_4 c1_5 c2_0 c2_1 c2_2 c2_3 c2_4 c2_5 c3_0 c3_1 c3_2 c3_3 c3_4 c3_5 nx kS hT N1
  clear WJA WJB JBA JJA JAB JJC JBC JAK s0 s1
  cases d
  · clear WCB WCJ HF
    have k0_0 := (HS6.out).at 0 rfl 0 (v := .int .i64 a.u) rfl
    have k0_1 := (HS6.out).at 0 rfl 1 (v := .bool a.am) rfl
    have k0_2 := (HS6.out).at 0 rfl 2 (v := .int .i64 a.al) rfl
    have k0_3 := (HS6.out).at 0 rfl 3 (v := .int .i64 a.sp) rfl
    have k0_4 := (HS6.out).at 0 rfl 4 (v := .bool a.fo) rfl
    have k0_5 := (HS6.out).at 0 rfl 5 (v := .bool a.no) rfl
    have k1_0 := (HS6.out).at 1 rfl 0 (v := .int .i64 b.u) rfl
    have k1_1 := (HS6.out).at 1 rfl 1 (v := .bool b.am) rfl
    have k1_2 := (HS6.out).at 1 rfl 2 (v := .int .i64 b.al) rfl
    have k1_3 := (HS6.out).at 1 rfl 3 (v := .int .i64 b.sp) rfl
    have k1_4 := (HS6.out).at 1 rfl 4 (v := .bool b.fo) rfl
    have k1_5 := (HS6.out).at 1 rfl 5 (v := .bool b.no) rfl
    have k2_0 := (HS6.out).at 2 rfl 0 (v := .int .i64 c.u) rfl
    have k2_1 := (HS6.out).at 2 rfl 1 (v := .bool c.am) rfl
    have k2_2 := (HS6.out).at 2 rfl 2 (v := .int .i64 c.al) rfl
    have k2_3 := (HS6.out).at 2 rfl 3 (v := .int .i64 c.sp) rfl
    have k2_4 := (HS6.out).at 2 rfl 4 (v := .bool c.fo) rfl
    have k2_5 := (HS6.out).at 2 rfl 5 (v := .bool c.no) rfl
    have k3_0 := (HS6.out).at 3 rfl 0 (v := .int .i64 j.u) rfl
    have k3_1 := (HS6.out).at 3 rfl 1 (v := .bool j.am) rfl
    have k3_2 := (HS6.out).at 3 rfl 2 (v := .int .i64 j.al) rfl
    have k3_3 := (HS6.out).at 3 rfl 3 (v := .int .i64 j.sp) rfl
    have k3_4 := (HS6.out).at 3 rfl 4 (v := .bool j.fo) rfl
    have k3_5 := (HS6.out).at 3 rfl 5 (v := .bool j.no) rfl
    go_wp2_with fail
    refine (WCA.out _ HS6.out.below).mono ?_; rintro e w12 ⟨rfl, hb12⟩
    have hS7 := (HS6.out).keep hb12
    have HS7 := Lib.hid hS7
    clear hS7 HS6
    clear hb12
    clear WCA k0_0 k0_1 k0_2 k0_3 k0_4 k0_5 k1_0 k1_1 k1_2 k1_3 k1_4 k1_5 k2_0 k2_1 k2_2 k2_3 k2_4 k2_5 k3_0 k3_1 k3_2 k3_3 k3_4 k3_5
    go_upto_region 6 with fail
    have g1 := G1.out
    have g2 := G2.out
    clear G1 G2
    obtain ⟨bs2, hbs⟩ : ∃ bs : List (Nat × List (Option Value)), bs = [(w.heap.size, [some (.int .i64 a.u), some (.bool a.am), some (.int .i64 a.al), some (.int .i64 a.sp), some (.bool a.fo), some (.bool a.no)]), (w.heap.size + 1, [some (.int .i64 b.u), some (.bool b.am), some (.int .i64 b.al), some (.int .i64 b.sp), some (.bool b.fo), some (.bool b.no)]), (w.heap.size + 1 + 1, [some (.int .i64 c.u), some (.bool c.am), some (.int .i64 c.al), some (.int .i64 c.sp), some (.bool c.fo), some (.bool c.no)]), (w2.heap.size, [some (.int .i64 j.u), some (.bool j.am), some (.int .i64 j.al), some (.int .i64 j.sp), some (.bool j.fo), some (.bool j.no)])] := ⟨_, rfl⟩
    have hT := (HS7.out).cast hbs
    have c0_0 : ∀ w', Sp w bs2 w' → w'.cell? ⟨w.heap.size, 0, none⟩ = some (.int .i64 a.u) := by rw [hbs]; exact fun w' h => h.at 0 rfl 0 rfl
    have c0_1 : ∀ w', Sp w bs2 w' → w'.cell? ⟨w.heap.size, 1, none⟩ = some (.bool a.am) := by rw [hbs]; exact fun w' h => h.at 0 rfl 1 rfl
    have c0_2 : ∀ w', Sp w bs2 w' → w'.cell? ⟨w.heap.size, 2, none⟩ = some (.int .i64 a.al) := by rw [hbs]; exact fun w' h => h.at 0 rfl 2 rfl
    have c0_3 : ∀ w', Sp w bs2 w' → w'.cell? ⟨w.heap.size, 3, none⟩ = some (.int .i64 a.sp) := by rw [hbs]; exact fun w' h => h.at 0 rfl 3 rfl
    have c0_4 : ∀ w', Sp w bs2 w' → w'.cell? ⟨w.heap.size, 4, none⟩ = some (.bool a.fo) := by rw [hbs]; exact fun w' h => h.at 0 rfl 4 rfl
    have c0_5 : ∀ w', Sp w bs2 w' → w'.cell? ⟨w.heap.size, 5, none⟩ = some (.bool a.no) := by rw [hbs]; exact fun w' h => h.at 0 rfl 5 rfl
    have c1_0 : ∀ w', Sp w bs2 w' → w'.cell? ⟨w.heap.size + 1, 0, none⟩ = some (.int .i64 b.u) := by rw [hbs]; exact fun w' h => h.at 1 rfl 0 rfl
    have c1_1 : ∀ w', Sp w bs2 w' → w'.cell? ⟨w.heap.size + 1, 1, none⟩ = some (.bool b.am) := by rw [hbs]; exact fun w' h => h.at 1 rfl 1 rfl
    have c1_2 : ∀ w', Sp w bs2 w' → w'.cell? ⟨w.heap.size + 1, 2, none⟩ = some (.int .i64 b.al) := by rw [hbs]; exact fun w' h => h.at 1 rfl 2 rfl
    have c1_3 : ∀ w', Sp w bs2 w' → w'.cell? ⟨w.heap.size + 1, 3, none⟩ = some (.int .i64 b.sp) := by rw [hbs]; exact fun w' h => h.at 1 rfl 3 rfl
    have c1_4 : ∀ w', Sp w bs2 w' → w'.cell? ⟨w.heap.size + 1, 4, none⟩ = some (.bool b.fo) := by rw [hbs]; exact fun w' h => h.at 1 rfl 4 rfl
    have c1_5 : ∀ w', Sp w bs2 w' → w'.cell? ⟨w.heap.size + 1, 5, none⟩ = some (.bool b.no) := by rw [hbs]; exact fun w' h => h.at 1 rfl 5 rfl
    have c3_0 : ∀ w', Sp w bs2 w' → w'.cell? ⟨w2.heap.size, 0, none⟩ = some (.int .i64 j.u) := by rw [hbs]; exact fun w' h => h.at 3 rfl 0 rfl
    have c3_1 : ∀ w', Sp w bs2 w' → w'.cell? ⟨w2.heap.size, 1, none⟩ = some (.bool j.am) := by rw [hbs]; exact fun w' h => h.at 3 rfl 1 rfl
    have c3_2 : ∀ w', Sp w bs2 w' → w'.cell? ⟨w2.heap.size, 2, none⟩ = some (.int .i64 j.al) := by rw [hbs]; exact fun w' h => h.at 3 rfl 2 rfl
    have c3_3 : ∀ w', Sp w bs2 w' → w'.cell? ⟨w2.heap.size, 3, none⟩ = some (.int .i64 j.sp) := by rw [hbs]; exact fun w' h => h.at 3 rfl 3 rfl
    have c3_4 : ∀ w', Sp w bs2 w' → w'.cell? ⟨w2.heap.size, 4, none⟩ = some (.bool j.fo) := by rw [hbs]; exact fun w' h => h.at 3 rfl 4 rfl
    have c3_5 : ∀ w', Sp w bs2 w' → w'.cell? ⟨w2.heap.size, 5, none⟩ = some (.bool j.no) := by rw [hbs]; exact fun w' h => h.at 3 rfl 5 rfl
    have nx : ∀ w', Sp w bs2 w' → Sp w [(w.heap.size, [some (.int .i64 a.u), some (.bool a.am), some (.int .i64 a.al), some (.int .i64 a.sp), some (.bool a.fo), some (.bool a.no)]), (w.heap.size + 1, [some (.int .i64 b.u), some (.bool b.am), some (.int .i64 b.al), some (.int .i64 b.sp), some (.bool b.fo), some (.bool b.no)]), (w.heap.size + 1 + 1, [some (.int .i64 c.u), some (.bool c.am), some (.int .i64 c.al), some (.int .i64 c.sp), some (.bool c.fo), some (.bool c.no)]), (w2.heap.size, [some (.int .i64 j.u), some (.bool j.am), some (.int .i64 j.al), some (.int .i64 j.sp), some (.bool j.fo), some (.bool j.no)])] w' := by rw [hbs]; exact fun w' h => h
    have kS : ∀ w1 w2, Sp w bs2 w1 → Below w1.heap.size w1 w2 → Sp w bs2 w2 := fun _ _ h hb => h.keep hb
    clear hbs HS7
    change (Code.region 6 ltjoi6 true).wp Tryd.prog _ _ _
    refine wp_region_noPanic ?_
    refine wp_region_held_drew (S := (Sp w bs2)) (by kernel_rfl) (hT.drew) (fun hHeld => ?_)
    refine wpAnyH_take (i := 0) (oi := ({ dst := some 62, op := .load 23 (.tmp 7), type := 23, pos := "law.go:40", after := #[], guard := none } : Oper)) (v := ?vs2_0) rfl ltjoi6_plain (by as_aux_lemma => kernel_rfl) (by as_aux_lemma => kernel_rfl) (fun _ _ _ h => h) (Or.inl ⟨by rfl, ?ys2_0⟩) (by assumption) ?rs2_0
    case ys2_0 => (intro w hSw; (try dsimp only at hSw); go_simp; try with_reducible rfl)
    try simp only [Act.put, List.setIfInBounds_toArray, List.set_cons_zero, List.set_cons_succ]
    refine wpAnyH_take (i := 2) (oi := ({ dst := some 64, op := .load 23 (.tmp 3), type := 23, pos := "law.go:40", after := #[], guard := none } : Oper)) (v := ?vs2_2) rfl ltjoi6_plain (by as_aux_lemma => kernel_rfl) (by as_aux_lemma => kernel_rfl) (fun _ _ _ h => h) (Or.inl ⟨by rfl, ?ys2_2⟩) (by assumption) ?rs2_2
    case ys2_2 => (intro w hSw; (try dsimp only at hSw); go_simp; try with_reducible rfl)
    try simp only [Act.put, List.setIfInBounds_toArray, List.set_cons_zero, List.set_cons_succ]
    refine wpAnyH_ready (rs := [1]) (by as_aux_lemma => kernel_rfl) (by simp) ?_
    refine AllReadyH.cons (o := ({ dst := some 63, op := .call { callee := .value (.func 16), args := #[.tmp 62], argTypes := #[23] }, type := 3, pos := "law.go:40", after := #[{ on := 0, ground := .data }], guard := none } : Oper)) rfl (fun KK hK => ?_) AllReadyH.nil
    rw [if_pos (by rfl)]
    go_simp
    go_at_call 16; refine (MJ.out _ (Sp.below (by assumption))).mono ?_; rintro e w13 ⟨rfl, hb13⟩
    go_wp2_with fail
    refine hK.out _ _ ?_ (fun hHeld13 => ?_)
    · exact kS _ _ (by assumption) hb13
    clear hK KK hb13
    try simp only [Act.put, List.setIfInBounds_toArray, List.set_cons_zero, List.set_cons_succ]
    refine wpAnyH_ready (rs := [3]) (by as_aux_lemma => kernel_rfl) (by simp) ?_
    refine AllReadyH.cons (o := ({ dst := some 65, op := .call { callee := .value (.func 16), args := #[.tmp 64], argTypes := #[23] }, type := 3, pos := "law.go:40", after := #[{ on := 2, ground := .data }, { on := 1, ground := .chain }], guard := none } : Oper)) rfl (fun KK hK => ?_) AllReadyH.nil
    rw [if_pos (by rfl)]
    go_simp
    go_at_call 16; refine (MA.out _ (Sp.below (by assumption))).mono ?_; rintro e w14 ⟨rfl, hb14⟩
    go_wp2_with fail
    refine hK.out _ _ ?_ (fun hHeld14 => ?_)
    · exact kS _ _ (by assumption) hb14
    clear hK KK hb14 hHeld13
    try simp only [Act.put, List.setIfInBounds_toArray, List.set_cons_zero, List.set_cons_succ]
    refine wpAnyH_take (i := 4) (oi := ({ dst := some 66, op := .binOp .geq 3 (.tmp 63) (.tmp 65) 3, type := 4, pos := "law.go:40", after := #[{ on := 1, ground := .data }, { on := 3, ground := .data }], guard := none } : Oper)) (v := ?vs2_4) rfl ltjoi6_plain (by as_aux_lemma => kernel_rfl) (by as_aux_lemma => kernel_rfl) (fun _ _ _ h => h) (Or.inl ⟨by rfl, ?ys2_4⟩) (by assumption) ?rs2_4
    case ys2_4 => (intro w hSw; (try dsimp only at hSw); go_simp; try with_reducible rfl)
    try simp only [Act.put, List.setIfInBounds_toArray, List.set_cons_zero, List.set_cons_succ]
    refine wpAnyH_take (i := 5) (oi := ({ dst := some 67, op := .move (.tmp 66), type := 4, pos := "law.go:40", after := #[{ on := 4, ground := .data }, { on := 3, ground := .chain }], guard := none } : Oper)) (v := ?vs2_5) rfl ltjoi6_plain (by as_aux_lemma => kernel_rfl) (by as_aux_lemma => kernel_rfl) (fun _ _ _ h => h) (Or.inl ⟨by rfl, ?ys2_5⟩) (by assumption) ?rs2_5
    case ys2_5 => (intro w hSw; (try dsimp only at hSw); go_simp; try with_reducible rfl)
    try simp only [Act.put, List.setIfInBounds_toArray, List.set_cons_zero, List.set_cons_succ]
    refine wpAnyH_take (i := 6) (oi := ({ dst := some 68, op := .load 23 (.tmp 7), type := 23, pos := "law.go:40", after := #[{ on := 5, ground := .guard }], guard := some (5, true) } : Oper)) (v := ?vs2_6) rfl ltjoi6_plain (by as_aux_lemma => kernel_rfl) (by as_aux_lemma => kernel_rfl) (fun _ _ _ h => h) (Or.inl ⟨by rfl, ?ys2_6⟩) (by assumption) ?rs2_6
    case ys2_6 => (intro w hSw; (try dsimp only at hSw); go_simp; try with_reducible rfl)
    try simp only [Act.put, List.setIfInBounds_toArray, List.set_cons_zero, List.set_cons_succ]
    refine wpAnyH_take (i := 8) (oi := ({ dst := some 70, op := .load 23 (.tmp 4), type := 23, pos := "law.go:40", after := #[{ on := 5, ground := .guard }], guard := some (5, true) } : Oper)) (v := ?vs2_8) rfl ltjoi6_plain (by as_aux_lemma => kernel_rfl) (by as_aux_lemma => kernel_rfl) (fun _ _ _ h => h) (Or.inl ⟨by rfl, ?ys2_8⟩) (by assumption) ?rs2_8
    case ys2_8 => (intro w hSw; (try dsimp only at hSw); go_simp; try with_reducible rfl)
    try simp only [Act.put, List.setIfInBounds_toArray, List.set_cons_zero, List.set_cons_succ]
    refine wpAnyH_ready (rs := [7]) (by as_aux_lemma => kernel_rfl) (by simp) ?_
    refine AllReadyH.cons (o := ({ dst := some 69, op := .call { callee := .value (.func 16), args := #[.tmp 68], argTypes := #[23] }, type := 3, pos := "law.go:40", after := #[{ on := 6, ground := .data }, { on := 5, ground := .chain }, { on := 5, ground := .guard }], guard := some (5, true) } : Oper)) rfl (fun KK hK => ?_) AllReadyH.nil
    rw [if_pos (by rfl)]
    go_simp
    go_at_call 16; refine (MJ.out _ (Sp.below (by assumption))).mono ?_; rintro e w15 ⟨rfl, hb15⟩
    go_wp2_with fail
    refine hK.out _ _ ?_ (fun hHeld15 => ?_)
    · exact kS _ _ (by assumption) hb15
    clear hK KK hb15 hHeld14
    try simp only [Act.put, List.setIfInBounds_toArray, List.set_cons_zero, List.set_cons_succ]
    refine wpAnyH_ready (rs := [9]) (by as_aux_lemma => kernel_rfl) (by simp) ?_
    refine AllReadyH.cons (o := ({ dst := some 71, op := .call { callee := .value (.func 16), args := #[.tmp 70], argTypes := #[23] }, type := 3, pos := "law.go:40", after := #[{ on := 8, ground := .data }, { on := 7, ground := .chain }, { on := 5, ground := .guard }], guard := some (5, true) } : Oper)) rfl (fun KK hK => ?_) AllReadyH.nil
    rw [if_pos (by rfl)]
    go_simp
    go_at_call 16; refine (MB.out _ (Sp.below (by assumption))).mono ?_; rintro e w16 ⟨rfl, hb16⟩
    go_wp2_with fail
    refine hK.out _ _ ?_ (fun hHeld16 => ?_)
    · exact kS _ _ (by assumption) hb16
    clear hK KK hb16 hHeld15
    try simp only [Act.put, List.setIfInBounds_toArray, List.set_cons_zero, List.set_cons_succ]
    refine wpAnyH_take (i := 10) (oi := ({ dst := some 72, op := .binOp .geq 3 (.tmp 69) (.tmp 71) 3, type := 4, pos := "law.go:40", after := #[{ on := 7, ground := .data }, { on := 9, ground := .data }, { on := 5, ground := .guard }], guard := some (5, true) } : Oper)) (v := ?vs2_10) rfl ltjoi6_plain (by as_aux_lemma => kernel_rfl) (by as_aux_lemma => kernel_rfl) (fun _ _ _ h => h) (Or.inl ⟨by rfl, ?ys2_10⟩) (by assumption) ?rs2_10
    case ys2_10 => (intro w hSw; (try dsimp only at hSw); go_simp; try with_reducible rfl)
    try simp only [Act.put, List.setIfInBounds_toArray, List.set_cons_zero, List.set_cons_succ]
    refine wpAnyH_take (i := 11) (oi := ({ dst := some 73, op := .pick (.tmp 67) (.tmp 72) (.const (.bool false)), type := 4, pos := "law.go:40", after := #[{ on := 5, ground := .data }, { on := 10, ground := .data }], guard := none } : Oper)) (v := ?vs2_11) rfl ltjoi6_plain (by as_aux_lemma => kernel_rfl) (by as_aux_lemma => kernel_rfl) (fun _ _ _ h => h) (Or.inl ⟨by rfl, ?ys2_11⟩) (by assumption) ?rs2_11
    case ys2_11 => (intro w hSw; (try dsimp only at hSw); go_simp; try with_reducible rfl)
    try simp only [Act.put, List.setIfInBounds_toArray, List.set_cons_zero, List.set_cons_succ]
    refine wpAnyH_take (i := 12) (oi := ({ dst := some 74, op := .move (.tmp 73), type := 4, pos := "law.go:40", after := #[{ on := 11, ground := .data }, { on := 9, ground := .chain }], guard := none } : Oper)) (v := ?vs2_12) rfl ltjoi6_plain (by as_aux_lemma => kernel_rfl) (by as_aux_lemma => kernel_rfl) (fun _ _ _ h => h) (Or.inl ⟨by rfl, ?ys2_12⟩) (by assumption) ?rs2_12
    case ys2_12 => (intro w hSw; (try dsimp only at hSw); go_simp; try with_reducible rfl)
    try simp only [Act.put, List.setIfInBounds_toArray, List.set_cons_zero, List.set_cons_succ]
    refine wpAnyH_ready (rs := [13]) (by as_aux_lemma => kernel_rfl) (by simp) ?_
    refine AllReadyH.cons (o := ({ dst := some 75, op := .call { callee := .value (.func 14), args := #[], argTypes := #[] }, type := 4, pos := "law.go:40", after := #[{ on := 12, ground := .chain }, { on := 12, ground := .guard }], guard := some (12, true) } : Oper)) rfl (fun KK hK => ?_) AllReadyH.nil
    rw [if_pos (by rfl)]
    go_simp
    go_at_call 14; refine (AW.out _ (Sp.below (by assumption))).mono ?_; rintro e w17 ⟨rfl, hb17⟩
    go_wp2_with fail
    refine hK.out _ _ ?_ (fun hHeld17 => ?_)
    · exact kS _ _ (by assumption) hb17
    clear hK KK hb17 hHeld16
    try simp only [Act.put, List.setIfInBounds_toArray, List.set_cons_zero, List.set_cons_succ]
    refine wpAnyH_take (i := 14) (oi := ({ dst := some 76, op := .pick (.tmp 74) (.tmp 75) (.const (.bool false)), type := 4, pos := "law.go:40", after := #[{ on := 12, ground := .data }, { on := 13, ground := .data }], guard := none } : Oper)) (v := ?vs2_14) rfl ltjoi6_plain (by as_aux_lemma => kernel_rfl) (by as_aux_lemma => kernel_rfl) (fun _ _ _ h => h) (Or.inl ⟨by rfl, ?ys2_14⟩) (by assumption) ?rs2_14
    case ys2_14 => (intro w hSw; (try dsimp only at hSw); go_simp; try with_reducible rfl)
    try simp only [Act.put, List.setIfInBounds_toArray, List.set_cons_zero, List.set_cons_succ]
    refine wpAnyH_take (i := 15) (oi := ({ dst := some 6, op := .assign (.tmp 76), type := 4, pos := "law.go:40", after := #[{ on := 14, ground := .data }, { on := 13, ground := .chain }, { on := 0, ground := .phase }, { on := 1, ground := .phase }, { on := 2, ground := .phase }, { on := 3, ground := .phase }, { on := 4, ground := .phase }, { on := 5, ground := .phase }, { on := 6, ground := .phase }, { on := 7, ground := .phase }, { on := 8, ground := .phase }, { on := 9, ground := .phase }, { on := 10, ground := .phase }, { on := 11, ground := .phase }, { on := 12, ground := .phase }, { on := 13, ground := .phase }, { on := 14, ground := .phase }], guard := none } : Oper)) (v := ?vs2_15) rfl ltjoi6_plain (by as_aux_lemma => kernel_rfl) (by as_aux_lemma => kernel_rfl) (fun _ _ _ h => h) (Or.inl ⟨by rfl, ?ys2_15⟩) (by assumption) ?rs2_15
    case ys2_15 => (intro w hSw; (try dsimp only at hSw); go_simp; try with_reducible rfl)
    try simp only [Act.put, List.setIfInBounds_toArray, List.set_cons_zero, List.set_cons_succ]
    refine wpAnyH_done (by as_aux_lemma => kernel_rfl) ?_ _
    refine NoPanic.normal ?_
    have N1 := nx _ hHeld17
    have HS8 := Lib.hid N1
    clear c0_0 c0_1 c0_2 c0_3 c0_4 c0_5 c1_0 c1_1 c1_2 c1_3 c1_4 c1_5 c3_0 c3_1 c3_2 c3_3 c3_4 c3_5 nx kS hT N1
    have BH := Lib.hid HS8.out.below
    go_wp2_with fail
    exact bodyPost_ret (v := .bool true) (by simp [results, Tryd.results4, go_sem, *]) rfl ⟨rfl, BH.out⟩
  · skip
    have k0_0 := (HS6.out).at 0 rfl 0 (v := .int .i64 a.u) rfl
    have k0_1 := (HS6.out).at 0 rfl 1 (v := .bool a.am) rfl
    have k0_2 := (HS6.out).at 0 rfl 2 (v := .int .i64 a.al) rfl
    have k0_3 := (HS6.out).at 0 rfl 3 (v := .int .i64 a.sp) rfl
    have k0_4 := (HS6.out).at 0 rfl 4 (v := .bool a.fo) rfl
    have k0_5 := (HS6.out).at 0 rfl 5 (v := .bool a.no) rfl
    have k1_0 := (HS6.out).at 1 rfl 0 (v := .int .i64 b.u) rfl
    have k1_1 := (HS6.out).at 1 rfl 1 (v := .bool b.am) rfl
    have k1_2 := (HS6.out).at 1 rfl 2 (v := .int .i64 b.al) rfl
    have k1_3 := (HS6.out).at 1 rfl 3 (v := .int .i64 b.sp) rfl
    have k1_4 := (HS6.out).at 1 rfl 4 (v := .bool b.fo) rfl
    have k1_5 := (HS6.out).at 1 rfl 5 (v := .bool b.no) rfl
    have k2_0 := (HS6.out).at 2 rfl 0 (v := .int .i64 c.u) rfl
    have k2_1 := (HS6.out).at 2 rfl 1 (v := .bool c.am) rfl
    have k2_2 := (HS6.out).at 2 rfl 2 (v := .int .i64 c.al) rfl
    have k2_3 := (HS6.out).at 2 rfl 3 (v := .int .i64 c.sp) rfl
    have k2_4 := (HS6.out).at 2 rfl 4 (v := .bool c.fo) rfl
    have k2_5 := (HS6.out).at 2 rfl 5 (v := .bool c.no) rfl
    have k3_0 := (HS6.out).at 3 rfl 0 (v := .int .i64 j.u) rfl
    have k3_1 := (HS6.out).at 3 rfl 1 (v := .bool j.am) rfl
    have k3_2 := (HS6.out).at 3 rfl 2 (v := .int .i64 j.al) rfl
    have k3_3 := (HS6.out).at 3 rfl 3 (v := .int .i64 j.sp) rfl
    have k3_4 := (HS6.out).at 3 rfl 4 (v := .bool j.fo) rfl
    have k3_5 := (HS6.out).at 3 rfl 5 (v := .bool j.no) rfl
    go_wp2_with fail
    refine (WCA.out _ HS6.out.below).mono ?_; rintro e w12 ⟨rfl, hb12⟩
    have hS7 := (HS6.out).keep hb12
    have HS7 := Lib.hid hS7
    clear hS7 HS6
    clear hb12
    clear WCA k0_0 k0_1 k0_2 k0_3 k0_4 k0_5 k1_0 k1_1 k1_2 k1_3 k1_4 k1_5 k2_0 k2_1 k2_2 k2_3 k2_4 k2_5 k3_0 k3_1 k3_2 k3_3 k3_4 k3_5
    cases h
    · clear WCJ HF
      have k0_0 := (HS7.out).at 0 rfl 0 (v := .int .i64 a.u) rfl
      have k0_1 := (HS7.out).at 0 rfl 1 (v := .bool a.am) rfl
      have k0_2 := (HS7.out).at 0 rfl 2 (v := .int .i64 a.al) rfl
      have k0_3 := (HS7.out).at 0 rfl 3 (v := .int .i64 a.sp) rfl
      have k0_4 := (HS7.out).at 0 rfl 4 (v := .bool a.fo) rfl
      have k0_5 := (HS7.out).at 0 rfl 5 (v := .bool a.no) rfl
      have k1_0 := (HS7.out).at 1 rfl 0 (v := .int .i64 b.u) rfl
      have k1_1 := (HS7.out).at 1 rfl 1 (v := .bool b.am) rfl
      have k1_2 := (HS7.out).at 1 rfl 2 (v := .int .i64 b.al) rfl
      have k1_3 := (HS7.out).at 1 rfl 3 (v := .int .i64 b.sp) rfl
      have k1_4 := (HS7.out).at 1 rfl 4 (v := .bool b.fo) rfl
      have k1_5 := (HS7.out).at 1 rfl 5 (v := .bool b.no) rfl
      have k2_0 := (HS7.out).at 2 rfl 0 (v := .int .i64 c.u) rfl
      have k2_1 := (HS7.out).at 2 rfl 1 (v := .bool c.am) rfl
      have k2_2 := (HS7.out).at 2 rfl 2 (v := .int .i64 c.al) rfl
      have k2_3 := (HS7.out).at 2 rfl 3 (v := .int .i64 c.sp) rfl
      have k2_4 := (HS7.out).at 2 rfl 4 (v := .bool c.fo) rfl
      have k2_5 := (HS7.out).at 2 rfl 5 (v := .bool c.no) rfl
      have k3_0 := (HS7.out).at 3 rfl 0 (v := .int .i64 j.u) rfl
      have k3_1 := (HS7.out).at 3 rfl 1 (v := .bool j.am) rfl
      have k3_2 := (HS7.out).at 3 rfl 2 (v := .int .i64 j.al) rfl
      have k3_3 := (HS7.out).at 3 rfl 3 (v := .int .i64 j.sp) rfl
      have k3_4 := (HS7.out).at 3 rfl 4 (v := .bool j.fo) rfl
      have k3_5 := (HS7.out).at 3 rfl 5 (v := .bool j.no) rfl
      go_wp2_with fail
      refine (WCB.out _ HS7.out.below).mono ?_; rintro e w13 ⟨rfl, hb13⟩
      have hS8 := (HS7.out).keep hb13
      have HS8 := Lib.hid hS8
      clear hS8 HS7
      clear hb13
      clear WCB k0_0 k0_1 k0_2 k0_3 k0_4 k0_5 k1_0 k1_1 k1_2 k1_3 k1_4 k1_5 k2_0 k2_1 k2_2 k2_3 k2_4 k2_5 k3_0 k3_1 k3_2 k3_3 k3_4 k3_5
      go_upto_region 6 with fail
      have g1 := G1.out
      have g2 := G2.out
      clear G1 G2
      obtain ⟨bs3, hbs⟩ : ∃ bs : List (Nat × List (Option Value)), bs = [(w.heap.size, [some (.int .i64 a.u), some (.bool a.am), some (.int .i64 a.al), some (.int .i64 a.sp), some (.bool a.fo), some (.bool a.no)]), (w.heap.size + 1, [some (.int .i64 b.u), some (.bool b.am), some (.int .i64 b.al), some (.int .i64 b.sp), some (.bool b.fo), some (.bool b.no)]), (w.heap.size + 1 + 1, [some (.int .i64 c.u), some (.bool c.am), some (.int .i64 c.al), some (.int .i64 c.sp), some (.bool c.fo), some (.bool c.no)]), (w2.heap.size, [some (.int .i64 j.u), some (.bool j.am), some (.int .i64 j.al), some (.int .i64 j.sp), some (.bool j.fo), some (.bool j.no)])] := ⟨_, rfl⟩
      have hT := (HS8.out).cast hbs
      have c0_0 : ∀ w', Sp w bs3 w' → w'.cell? ⟨w.heap.size, 0, none⟩ = some (.int .i64 a.u) := by rw [hbs]; exact fun w' h => h.at 0 rfl 0 rfl
      have c0_1 : ∀ w', Sp w bs3 w' → w'.cell? ⟨w.heap.size, 1, none⟩ = some (.bool a.am) := by rw [hbs]; exact fun w' h => h.at 0 rfl 1 rfl
      have c0_2 : ∀ w', Sp w bs3 w' → w'.cell? ⟨w.heap.size, 2, none⟩ = some (.int .i64 a.al) := by rw [hbs]; exact fun w' h => h.at 0 rfl 2 rfl
      have c0_3 : ∀ w', Sp w bs3 w' → w'.cell? ⟨w.heap.size, 3, none⟩ = some (.int .i64 a.sp) := by rw [hbs]; exact fun w' h => h.at 0 rfl 3 rfl
      have c0_4 : ∀ w', Sp w bs3 w' → w'.cell? ⟨w.heap.size, 4, none⟩ = some (.bool a.fo) := by rw [hbs]; exact fun w' h => h.at 0 rfl 4 rfl
      have c0_5 : ∀ w', Sp w bs3 w' → w'.cell? ⟨w.heap.size, 5, none⟩ = some (.bool a.no) := by rw [hbs]; exact fun w' h => h.at 0 rfl 5 rfl
      have c1_0 : ∀ w', Sp w bs3 w' → w'.cell? ⟨w.heap.size + 1, 0, none⟩ = some (.int .i64 b.u) := by rw [hbs]; exact fun w' h => h.at 1 rfl 0 rfl
      have c1_1 : ∀ w', Sp w bs3 w' → w'.cell? ⟨w.heap.size + 1, 1, none⟩ = some (.bool b.am) := by rw [hbs]; exact fun w' h => h.at 1 rfl 1 rfl
      have c1_2 : ∀ w', Sp w bs3 w' → w'.cell? ⟨w.heap.size + 1, 2, none⟩ = some (.int .i64 b.al) := by rw [hbs]; exact fun w' h => h.at 1 rfl 2 rfl
      have c1_3 : ∀ w', Sp w bs3 w' → w'.cell? ⟨w.heap.size + 1, 3, none⟩ = some (.int .i64 b.sp) := by rw [hbs]; exact fun w' h => h.at 1 rfl 3 rfl
      have c1_4 : ∀ w', Sp w bs3 w' → w'.cell? ⟨w.heap.size + 1, 4, none⟩ = some (.bool b.fo) := by rw [hbs]; exact fun w' h => h.at 1 rfl 4 rfl
      have c1_5 : ∀ w', Sp w bs3 w' → w'.cell? ⟨w.heap.size + 1, 5, none⟩ = some (.bool b.no) := by rw [hbs]; exact fun w' h => h.at 1 rfl 5 rfl
      have c3_0 : ∀ w', Sp w bs3 w' → w'.cell? ⟨w2.heap.size, 0, none⟩ = some (.int .i64 j.u) := by rw [hbs]; exact fun w' h => h.at 3 rfl 0 rfl
      have c3_1 : ∀ w', Sp w bs3 w' → w'.cell? ⟨w2.heap.size, 1, none⟩ = some (.bool j.am) := by rw [hbs]; exact fun w' h => h.at 3 rfl 1 rfl
      have c3_2 : ∀ w', Sp w bs3 w' → w'.cell? ⟨w2.heap.size, 2, none⟩ = some (.int .i64 j.al) := by rw [hbs]; exact fun w' h => h.at 3 rfl 2 rfl
      have c3_3 : ∀ w', Sp w bs3 w' → w'.cell? ⟨w2.heap.size, 3, none⟩ = some (.int .i64 j.sp) := by rw [hbs]; exact fun w' h => h.at 3 rfl 3 rfl
      have c3_4 : ∀ w', Sp w bs3 w' → w'.cell? ⟨w2.heap.size, 4, none⟩ = some (.bool j.fo) := by rw [hbs]; exact fun w' h => h.at 3 rfl 4 rfl
      have c3_5 : ∀ w', Sp w bs3 w' → w'.cell? ⟨w2.heap.size, 5, none⟩ = some (.bool j.no) := by rw [hbs]; exact fun w' h => h.at 3 rfl 5 rfl
      have nx : ∀ w', Sp w bs3 w' → Sp w [(w.heap.size, [some (.int .i64 a.u), some (.bool a.am), some (.int .i64 a.al), some (.int .i64 a.sp), some (.bool a.fo), some (.bool a.no)]), (w.heap.size + 1, [some (.int .i64 b.u), some (.bool b.am), some (.int .i64 b.al), some (.int .i64 b.sp), some (.bool b.fo), some (.bool b.no)]), (w.heap.size + 1 + 1, [some (.int .i64 c.u), some (.bool c.am), some (.int .i64 c.al), some (.int .i64 c.sp), some (.bool c.fo), some (.bool c.no)]), (w2.heap.size, [some (.int .i64 j.u), some (.bool j.am), some (.int .i64 j.al), some (.int .i64 j.sp), some (.bool j.fo), some (.bool j.no)])] w' := by rw [hbs]; exact fun w' h => h
      have kS : ∀ w1 w2, Sp w bs3 w1 → Below w1.heap.size w1 w2 → Sp w bs3 w2 := fun _ _ h hb => h.keep hb
      clear hbs HS8
      change (Code.region 6 ltjoi6 true).wp Tryd.prog _ _ _
      refine wp_region_noPanic ?_
      refine wp_region_held_drew (S := (Sp w bs3)) (by kernel_rfl) (hT.drew) (fun hHeld => ?_)
      refine wpAnyH_take (i := 0) (oi := ({ dst := some 62, op := .load 23 (.tmp 7), type := 23, pos := "law.go:40", after := #[], guard := none } : Oper)) (v := ?vs3_0) rfl ltjoi6_plain (by as_aux_lemma => kernel_rfl) (by as_aux_lemma => kernel_rfl) (fun _ _ _ h => h) (Or.inl ⟨by rfl, ?ys3_0⟩) (by assumption) ?rs3_0
      case ys3_0 => (intro w hSw; (try dsimp only at hSw); go_simp; try with_reducible rfl)
      try simp only [Act.put, List.setIfInBounds_toArray, List.set_cons_zero, List.set_cons_succ]
      refine wpAnyH_take (i := 2) (oi := ({ dst := some 64, op := .load 23 (.tmp 3), type := 23, pos := "law.go:40", after := #[], guard := none } : Oper)) (v := ?vs3_2) rfl ltjoi6_plain (by as_aux_lemma => kernel_rfl) (by as_aux_lemma => kernel_rfl) (fun _ _ _ h => h) (Or.inl ⟨by rfl, ?ys3_2⟩) (by assumption) ?rs3_2
      case ys3_2 => (intro w hSw; (try dsimp only at hSw); go_simp; try with_reducible rfl)
      try simp only [Act.put, List.setIfInBounds_toArray, List.set_cons_zero, List.set_cons_succ]
      refine wpAnyH_ready (rs := [1]) (by as_aux_lemma => kernel_rfl) (by simp) ?_
      refine AllReadyH.cons (o := ({ dst := some 63, op := .call { callee := .value (.func 16), args := #[.tmp 62], argTypes := #[23] }, type := 3, pos := "law.go:40", after := #[{ on := 0, ground := .data }], guard := none } : Oper)) rfl (fun KK hK => ?_) AllReadyH.nil
      rw [if_pos (by rfl)]
      go_simp
      go_at_call 16; refine (MJ.out _ (Sp.below (by assumption))).mono ?_; rintro e w14 ⟨rfl, hb14⟩
      go_wp2_with fail
      refine hK.out _ _ ?_ (fun hHeld14 => ?_)
      · exact kS _ _ (by assumption) hb14
      clear hK KK hb14
      try simp only [Act.put, List.setIfInBounds_toArray, List.set_cons_zero, List.set_cons_succ]
      refine wpAnyH_ready (rs := [3]) (by as_aux_lemma => kernel_rfl) (by simp) ?_
      refine AllReadyH.cons (o := ({ dst := some 65, op := .call { callee := .value (.func 16), args := #[.tmp 64], argTypes := #[23] }, type := 3, pos := "law.go:40", after := #[{ on := 2, ground := .data }, { on := 1, ground := .chain }], guard := none } : Oper)) rfl (fun KK hK => ?_) AllReadyH.nil
      rw [if_pos (by rfl)]
      go_simp
      go_at_call 16; refine (MA.out _ (Sp.below (by assumption))).mono ?_; rintro e w15 ⟨rfl, hb15⟩
      go_wp2_with fail
      refine hK.out _ _ ?_ (fun hHeld15 => ?_)
      · exact kS _ _ (by assumption) hb15
      clear hK KK hb15 hHeld14
      try simp only [Act.put, List.setIfInBounds_toArray, List.set_cons_zero, List.set_cons_succ]
      refine wpAnyH_take (i := 4) (oi := ({ dst := some 66, op := .binOp .geq 3 (.tmp 63) (.tmp 65) 3, type := 4, pos := "law.go:40", after := #[{ on := 1, ground := .data }, { on := 3, ground := .data }], guard := none } : Oper)) (v := ?vs3_4) rfl ltjoi6_plain (by as_aux_lemma => kernel_rfl) (by as_aux_lemma => kernel_rfl) (fun _ _ _ h => h) (Or.inl ⟨by rfl, ?ys3_4⟩) (by assumption) ?rs3_4
      case ys3_4 => (intro w hSw; (try dsimp only at hSw); go_simp; try with_reducible rfl)
      try simp only [Act.put, List.setIfInBounds_toArray, List.set_cons_zero, List.set_cons_succ]
      refine wpAnyH_take (i := 5) (oi := ({ dst := some 67, op := .move (.tmp 66), type := 4, pos := "law.go:40", after := #[{ on := 4, ground := .data }, { on := 3, ground := .chain }], guard := none } : Oper)) (v := ?vs3_5) rfl ltjoi6_plain (by as_aux_lemma => kernel_rfl) (by as_aux_lemma => kernel_rfl) (fun _ _ _ h => h) (Or.inl ⟨by rfl, ?ys3_5⟩) (by assumption) ?rs3_5
      case ys3_5 => (intro w hSw; (try dsimp only at hSw); go_simp; try with_reducible rfl)
      try simp only [Act.put, List.setIfInBounds_toArray, List.set_cons_zero, List.set_cons_succ]
      refine wpAnyH_take (i := 6) (oi := ({ dst := some 68, op := .load 23 (.tmp 7), type := 23, pos := "law.go:40", after := #[{ on := 5, ground := .guard }], guard := some (5, true) } : Oper)) (v := ?vs3_6) rfl ltjoi6_plain (by as_aux_lemma => kernel_rfl) (by as_aux_lemma => kernel_rfl) (fun _ _ _ h => h) (Or.inl ⟨by rfl, ?ys3_6⟩) (by assumption) ?rs3_6
      case ys3_6 => (intro w hSw; (try dsimp only at hSw); go_simp; try with_reducible rfl)
      try simp only [Act.put, List.setIfInBounds_toArray, List.set_cons_zero, List.set_cons_succ]
      refine wpAnyH_take (i := 8) (oi := ({ dst := some 70, op := .load 23 (.tmp 4), type := 23, pos := "law.go:40", after := #[{ on := 5, ground := .guard }], guard := some (5, true) } : Oper)) (v := ?vs3_8) rfl ltjoi6_plain (by as_aux_lemma => kernel_rfl) (by as_aux_lemma => kernel_rfl) (fun _ _ _ h => h) (Or.inl ⟨by rfl, ?ys3_8⟩) (by assumption) ?rs3_8
      case ys3_8 => (intro w hSw; (try dsimp only at hSw); go_simp; try with_reducible rfl)
      try simp only [Act.put, List.setIfInBounds_toArray, List.set_cons_zero, List.set_cons_succ]
      refine wpAnyH_ready (rs := [7]) (by as_aux_lemma => kernel_rfl) (by simp) ?_
      refine AllReadyH.cons (o := ({ dst := some 69, op := .call { callee := .value (.func 16), args := #[.tmp 68], argTypes := #[23] }, type := 3, pos := "law.go:40", after := #[{ on := 6, ground := .data }, { on := 5, ground := .chain }, { on := 5, ground := .guard }], guard := some (5, true) } : Oper)) rfl (fun KK hK => ?_) AllReadyH.nil
      rw [if_pos (by rfl)]
      go_simp
      go_at_call 16; refine (MJ.out _ (Sp.below (by assumption))).mono ?_; rintro e w16 ⟨rfl, hb16⟩
      go_wp2_with fail
      refine hK.out _ _ ?_ (fun hHeld16 => ?_)
      · exact kS _ _ (by assumption) hb16
      clear hK KK hb16 hHeld15
      try simp only [Act.put, List.setIfInBounds_toArray, List.set_cons_zero, List.set_cons_succ]
      refine wpAnyH_ready (rs := [9]) (by as_aux_lemma => kernel_rfl) (by simp) ?_
      refine AllReadyH.cons (o := ({ dst := some 71, op := .call { callee := .value (.func 16), args := #[.tmp 70], argTypes := #[23] }, type := 3, pos := "law.go:40", after := #[{ on := 8, ground := .data }, { on := 7, ground := .chain }, { on := 5, ground := .guard }], guard := some (5, true) } : Oper)) rfl (fun KK hK => ?_) AllReadyH.nil
      rw [if_pos (by rfl)]
      go_simp
      go_at_call 16; refine (MB.out _ (Sp.below (by assumption))).mono ?_; rintro e w17 ⟨rfl, hb17⟩
      go_wp2_with fail
      refine hK.out _ _ ?_ (fun hHeld17 => ?_)
      · exact kS _ _ (by assumption) hb17
      clear hK KK hb17 hHeld16
      try simp only [Act.put, List.setIfInBounds_toArray, List.set_cons_zero, List.set_cons_succ]
      refine wpAnyH_take (i := 10) (oi := ({ dst := some 72, op := .binOp .geq 3 (.tmp 69) (.tmp 71) 3, type := 4, pos := "law.go:40", after := #[{ on := 7, ground := .data }, { on := 9, ground := .data }, { on := 5, ground := .guard }], guard := some (5, true) } : Oper)) (v := ?vs3_10) rfl ltjoi6_plain (by as_aux_lemma => kernel_rfl) (by as_aux_lemma => kernel_rfl) (fun _ _ _ h => h) (Or.inl ⟨by rfl, ?ys3_10⟩) (by assumption) ?rs3_10
      case ys3_10 => (intro w hSw; (try dsimp only at hSw); go_simp; try with_reducible rfl)
      try simp only [Act.put, List.setIfInBounds_toArray, List.set_cons_zero, List.set_cons_succ]
      refine wpAnyH_take (i := 11) (oi := ({ dst := some 73, op := .pick (.tmp 67) (.tmp 72) (.const (.bool false)), type := 4, pos := "law.go:40", after := #[{ on := 5, ground := .data }, { on := 10, ground := .data }], guard := none } : Oper)) (v := ?vs3_11) rfl ltjoi6_plain (by as_aux_lemma => kernel_rfl) (by as_aux_lemma => kernel_rfl) (fun _ _ _ h => h) (Or.inl ⟨by rfl, ?ys3_11⟩) (by assumption) ?rs3_11
      case ys3_11 => (intro w hSw; (try dsimp only at hSw); go_simp; try with_reducible rfl)
      try simp only [Act.put, List.setIfInBounds_toArray, List.set_cons_zero, List.set_cons_succ]
      refine wpAnyH_take (i := 12) (oi := ({ dst := some 74, op := .move (.tmp 73), type := 4, pos := "law.go:40", after := #[{ on := 11, ground := .data }, { on := 9, ground := .chain }], guard := none } : Oper)) (v := ?vs3_12) rfl ltjoi6_plain (by as_aux_lemma => kernel_rfl) (by as_aux_lemma => kernel_rfl) (fun _ _ _ h => h) (Or.inl ⟨by rfl, ?ys3_12⟩) (by assumption) ?rs3_12
      case ys3_12 => (intro w hSw; (try dsimp only at hSw); go_simp; try with_reducible rfl)
      try simp only [Act.put, List.setIfInBounds_toArray, List.set_cons_zero, List.set_cons_succ]
      refine wpAnyH_ready (rs := [13]) (by as_aux_lemma => kernel_rfl) (by simp) ?_
      refine AllReadyH.cons (o := ({ dst := some 75, op := .call { callee := .value (.func 14), args := #[], argTypes := #[] }, type := 4, pos := "law.go:40", after := #[{ on := 12, ground := .chain }, { on := 12, ground := .guard }], guard := some (12, true) } : Oper)) rfl (fun KK hK => ?_) AllReadyH.nil
      rw [if_pos (by rfl)]
      go_simp
      go_at_call 14; refine (AW.out _ (Sp.below (by assumption))).mono ?_; rintro e w18 ⟨rfl, hb18⟩
      go_wp2_with fail
      refine hK.out _ _ ?_ (fun hHeld18 => ?_)
      · exact kS _ _ (by assumption) hb18
      clear hK KK hb18 hHeld17
      try simp only [Act.put, List.setIfInBounds_toArray, List.set_cons_zero, List.set_cons_succ]
      refine wpAnyH_take (i := 14) (oi := ({ dst := some 76, op := .pick (.tmp 74) (.tmp 75) (.const (.bool false)), type := 4, pos := "law.go:40", after := #[{ on := 12, ground := .data }, { on := 13, ground := .data }], guard := none } : Oper)) (v := ?vs3_14) rfl ltjoi6_plain (by as_aux_lemma => kernel_rfl) (by as_aux_lemma => kernel_rfl) (fun _ _ _ h => h) (Or.inl ⟨by rfl, ?ys3_14⟩) (by assumption) ?rs3_14
      case ys3_14 => (intro w hSw; (try dsimp only at hSw); go_simp; try with_reducible rfl)
      try simp only [Act.put, List.setIfInBounds_toArray, List.set_cons_zero, List.set_cons_succ]
      refine wpAnyH_take (i := 15) (oi := ({ dst := some 6, op := .assign (.tmp 76), type := 4, pos := "law.go:40", after := #[{ on := 14, ground := .data }, { on := 13, ground := .chain }, { on := 0, ground := .phase }, { on := 1, ground := .phase }, { on := 2, ground := .phase }, { on := 3, ground := .phase }, { on := 4, ground := .phase }, { on := 5, ground := .phase }, { on := 6, ground := .phase }, { on := 7, ground := .phase }, { on := 8, ground := .phase }, { on := 9, ground := .phase }, { on := 10, ground := .phase }, { on := 11, ground := .phase }, { on := 12, ground := .phase }, { on := 13, ground := .phase }, { on := 14, ground := .phase }], guard := none } : Oper)) (v := ?vs3_15) rfl ltjoi6_plain (by as_aux_lemma => kernel_rfl) (by as_aux_lemma => kernel_rfl) (fun _ _ _ h => h) (Or.inl ⟨by rfl, ?ys3_15⟩) (by assumption) ?rs3_15
      case ys3_15 => (intro w hSw; (try dsimp only at hSw); go_simp; try with_reducible rfl)
      try simp only [Act.put, List.setIfInBounds_toArray, List.set_cons_zero, List.set_cons_succ]
      refine wpAnyH_done (by as_aux_lemma => kernel_rfl) ?_ _
      refine NoPanic.normal ?_
      have N1 := nx _ hHeld18
      have HS9 := Lib.hid N1
      clear c0_0 c0_1 c0_2 c0_3 c0_4 c0_5 c1_0 c1_1 c1_2 c1_3 c1_4 c1_5 c3_0 c3_1 c3_2 c3_3 c3_4 c3_5 nx kS hT N1
      have BH := Lib.hid HS9.out.below
      go_wp2_with fail
      exact bodyPost_ret (v := .bool true) (by simp [results, Tryd.results4, go_sem, *]) rfl ⟨rfl, BH.out⟩
    · obtain rfl : f = true := HF.out (by trivial) (by trivial)
      clear HF
      have k0_0 := (HS7.out).at 0 rfl 0 (v := .int .i64 a.u) rfl
      have k0_1 := (HS7.out).at 0 rfl 1 (v := .bool a.am) rfl
      have k0_2 := (HS7.out).at 0 rfl 2 (v := .int .i64 a.al) rfl
      have k0_3 := (HS7.out).at 0 rfl 3 (v := .int .i64 a.sp) rfl
      have k0_4 := (HS7.out).at 0 rfl 4 (v := .bool a.fo) rfl
      have k0_5 := (HS7.out).at 0 rfl 5 (v := .bool a.no) rfl
      have k1_0 := (HS7.out).at 1 rfl 0 (v := .int .i64 b.u) rfl
      have k1_1 := (HS7.out).at 1 rfl 1 (v := .bool b.am) rfl
      have k1_2 := (HS7.out).at 1 rfl 2 (v := .int .i64 b.al) rfl
      have k1_3 := (HS7.out).at 1 rfl 3 (v := .int .i64 b.sp) rfl
      have k1_4 := (HS7.out).at 1 rfl 4 (v := .bool b.fo) rfl
      have k1_5 := (HS7.out).at 1 rfl 5 (v := .bool b.no) rfl
      have k2_0 := (HS7.out).at 2 rfl 0 (v := .int .i64 c.u) rfl
      have k2_1 := (HS7.out).at 2 rfl 1 (v := .bool c.am) rfl
      have k2_2 := (HS7.out).at 2 rfl 2 (v := .int .i64 c.al) rfl
      have k2_3 := (HS7.out).at 2 rfl 3 (v := .int .i64 c.sp) rfl
      have k2_4 := (HS7.out).at 2 rfl 4 (v := .bool c.fo) rfl
      have k2_5 := (HS7.out).at 2 rfl 5 (v := .bool c.no) rfl
      have k3_0 := (HS7.out).at 3 rfl 0 (v := .int .i64 j.u) rfl
      have k3_1 := (HS7.out).at 3 rfl 1 (v := .bool j.am) rfl
      have k3_2 := (HS7.out).at 3 rfl 2 (v := .int .i64 j.al) rfl
      have k3_3 := (HS7.out).at 3 rfl 3 (v := .int .i64 j.sp) rfl
      have k3_4 := (HS7.out).at 3 rfl 4 (v := .bool j.fo) rfl
      have k3_5 := (HS7.out).at 3 rfl 5 (v := .bool j.no) rfl
      go_wp2_with fail
      refine (WCB.out _ HS7.out.below).mono ?_; rintro e w13 ⟨rfl, hb13⟩
      have hS8 := (HS7.out).keep hb13
      have HS8 := Lib.hid hS8
      clear hS8 HS7
      clear hb13
      clear WCB k0_0 k0_1 k0_2 k0_3 k0_4 k0_5 k1_0 k1_1 k1_2 k1_3 k1_4 k1_5 k2_0 k2_1 k2_2 k2_3 k2_4 k2_5 k3_0 k3_1 k3_2 k3_3 k3_4 k3_5
      have k0_0 := (HS8.out).at 0 rfl 0 (v := .int .i64 a.u) rfl
      have k0_1 := (HS8.out).at 0 rfl 1 (v := .bool a.am) rfl
      have k0_2 := (HS8.out).at 0 rfl 2 (v := .int .i64 a.al) rfl
      have k0_3 := (HS8.out).at 0 rfl 3 (v := .int .i64 a.sp) rfl
      have k0_4 := (HS8.out).at 0 rfl 4 (v := .bool a.fo) rfl
      have k0_5 := (HS8.out).at 0 rfl 5 (v := .bool a.no) rfl
      have k1_0 := (HS8.out).at 1 rfl 0 (v := .int .i64 b.u) rfl
      have k1_1 := (HS8.out).at 1 rfl 1 (v := .bool b.am) rfl
      have k1_2 := (HS8.out).at 1 rfl 2 (v := .int .i64 b.al) rfl
      have k1_3 := (HS8.out).at 1 rfl 3 (v := .int .i64 b.sp) rfl
      have k1_4 := (HS8.out).at 1 rfl 4 (v := .bool b.fo) rfl
      have k1_5 := (HS8.out).at 1 rfl 5 (v := .bool b.no) rfl
      have k2_0 := (HS8.out).at 2 rfl 0 (v := .int .i64 c.u) rfl
      have k2_1 := (HS8.out).at 2 rfl 1 (v := .bool c.am) rfl
      have k2_2 := (HS8.out).at 2 rfl 2 (v := .int .i64 c.al) rfl
      have k2_3 := (HS8.out).at 2 rfl 3 (v := .int .i64 c.sp) rfl
      have k2_4 := (HS8.out).at 2 rfl 4 (v := .bool c.fo) rfl
      have k2_5 := (HS8.out).at 2 rfl 5 (v := .bool c.no) rfl
      have k3_0 := (HS8.out).at 3 rfl 0 (v := .int .i64 j.u) rfl
      have k3_1 := (HS8.out).at 3 rfl 1 (v := .bool j.am) rfl
      have k3_2 := (HS8.out).at 3 rfl 2 (v := .int .i64 j.al) rfl
      have k3_3 := (HS8.out).at 3 rfl 3 (v := .int .i64 j.sp) rfl
      have k3_4 := (HS8.out).at 3 rfl 4 (v := .bool j.fo) rfl
      have k3_5 := (HS8.out).at 3 rfl 5 (v := .bool j.no) rfl
      go_wp2_with fail
      refine (WCJ.out _ HS8.out.below).mono ?_; rintro e w14 ⟨rfl, hb14⟩
      have hS9 := (HS8.out).keep hb14
      have HS9 := Lib.hid hS9
      clear hS9 HS8
      clear hb14
      clear WCJ k0_0 k0_1 k0_2 k0_3 k0_4 k0_5 k1_0 k1_1 k1_2 k1_3 k1_4 k1_5 k2_0 k2_1 k2_2 k2_3 k2_4 k2_5 k3_0 k3_1 k3_2 k3_3 k3_4 k3_5
      go_upto_region 6 with fail
      have g1 := G1.out
      have g2 := G2.out
      clear G1 G2
      obtain ⟨bs4, hbs⟩ : ∃ bs : List (Nat × List (Option Value)), bs = [(w.heap.size, [some (.int .i64 a.u), some (.bool a.am), some (.int .i64 a.al), some (.int .i64 a.sp), some (.bool a.fo), some (.bool a.no)]), (w.heap.size + 1, [some (.int .i64 b.u), some (.bool b.am), some (.int .i64 b.al), some (.int .i64 b.sp), some (.bool b.fo), some (.bool b.no)]), (w.heap.size + 1 + 1, [some (.int .i64 c.u), some (.bool c.am), some (.int .i64 c.al), some (.int .i64 c.sp), some (.bool c.fo), some (.bool c.no)]), (w2.heap.size, [some (.int .i64 j.u), some (.bool j.am), some (.int .i64 j.al), some (.int .i64 j.sp), some (.bool j.fo), some (.bool j.no)])] := ⟨_, rfl⟩
      have hT := (HS9.out).cast hbs
      have c0_0 : ∀ w', Sp w bs4 w' → w'.cell? ⟨w.heap.size, 0, none⟩ = some (.int .i64 a.u) := by rw [hbs]; exact fun w' h => h.at 0 rfl 0 rfl
      have c0_1 : ∀ w', Sp w bs4 w' → w'.cell? ⟨w.heap.size, 1, none⟩ = some (.bool a.am) := by rw [hbs]; exact fun w' h => h.at 0 rfl 1 rfl
      have c0_2 : ∀ w', Sp w bs4 w' → w'.cell? ⟨w.heap.size, 2, none⟩ = some (.int .i64 a.al) := by rw [hbs]; exact fun w' h => h.at 0 rfl 2 rfl
      have c0_3 : ∀ w', Sp w bs4 w' → w'.cell? ⟨w.heap.size, 3, none⟩ = some (.int .i64 a.sp) := by rw [hbs]; exact fun w' h => h.at 0 rfl 3 rfl
      have c0_4 : ∀ w', Sp w bs4 w' → w'.cell? ⟨w.heap.size, 4, none⟩ = some (.bool a.fo) := by rw [hbs]; exact fun w' h => h.at 0 rfl 4 rfl
      have c0_5 : ∀ w', Sp w bs4 w' → w'.cell? ⟨w.heap.size, 5, none⟩ = some (.bool a.no) := by rw [hbs]; exact fun w' h => h.at 0 rfl 5 rfl
      have c1_0 : ∀ w', Sp w bs4 w' → w'.cell? ⟨w.heap.size + 1, 0, none⟩ = some (.int .i64 b.u) := by rw [hbs]; exact fun w' h => h.at 1 rfl 0 rfl
      have c1_1 : ∀ w', Sp w bs4 w' → w'.cell? ⟨w.heap.size + 1, 1, none⟩ = some (.bool b.am) := by rw [hbs]; exact fun w' h => h.at 1 rfl 1 rfl
      have c1_2 : ∀ w', Sp w bs4 w' → w'.cell? ⟨w.heap.size + 1, 2, none⟩ = some (.int .i64 b.al) := by rw [hbs]; exact fun w' h => h.at 1 rfl 2 rfl
      have c1_3 : ∀ w', Sp w bs4 w' → w'.cell? ⟨w.heap.size + 1, 3, none⟩ = some (.int .i64 b.sp) := by rw [hbs]; exact fun w' h => h.at 1 rfl 3 rfl
      have c1_4 : ∀ w', Sp w bs4 w' → w'.cell? ⟨w.heap.size + 1, 4, none⟩ = some (.bool b.fo) := by rw [hbs]; exact fun w' h => h.at 1 rfl 4 rfl
      have c1_5 : ∀ w', Sp w bs4 w' → w'.cell? ⟨w.heap.size + 1, 5, none⟩ = some (.bool b.no) := by rw [hbs]; exact fun w' h => h.at 1 rfl 5 rfl
      have c3_0 : ∀ w', Sp w bs4 w' → w'.cell? ⟨w2.heap.size, 0, none⟩ = some (.int .i64 j.u) := by rw [hbs]; exact fun w' h => h.at 3 rfl 0 rfl
      have c3_1 : ∀ w', Sp w bs4 w' → w'.cell? ⟨w2.heap.size, 1, none⟩ = some (.bool j.am) := by rw [hbs]; exact fun w' h => h.at 3 rfl 1 rfl
      have c3_2 : ∀ w', Sp w bs4 w' → w'.cell? ⟨w2.heap.size, 2, none⟩ = some (.int .i64 j.al) := by rw [hbs]; exact fun w' h => h.at 3 rfl 2 rfl
      have c3_3 : ∀ w', Sp w bs4 w' → w'.cell? ⟨w2.heap.size, 3, none⟩ = some (.int .i64 j.sp) := by rw [hbs]; exact fun w' h => h.at 3 rfl 3 rfl
      have c3_4 : ∀ w', Sp w bs4 w' → w'.cell? ⟨w2.heap.size, 4, none⟩ = some (.bool j.fo) := by rw [hbs]; exact fun w' h => h.at 3 rfl 4 rfl
      have c3_5 : ∀ w', Sp w bs4 w' → w'.cell? ⟨w2.heap.size, 5, none⟩ = some (.bool j.no) := by rw [hbs]; exact fun w' h => h.at 3 rfl 5 rfl
      have nx : ∀ w', Sp w bs4 w' → Sp w [(w.heap.size, [some (.int .i64 a.u), some (.bool a.am), some (.int .i64 a.al), some (.int .i64 a.sp), some (.bool a.fo), some (.bool a.no)]), (w.heap.size + 1, [some (.int .i64 b.u), some (.bool b.am), some (.int .i64 b.al), some (.int .i64 b.sp), some (.bool b.fo), some (.bool b.no)]), (w.heap.size + 1 + 1, [some (.int .i64 c.u), some (.bool c.am), some (.int .i64 c.al), some (.int .i64 c.sp), some (.bool c.fo), some (.bool c.no)]), (w2.heap.size, [some (.int .i64 j.u), some (.bool j.am), some (.int .i64 j.al), some (.int .i64 j.sp), some (.bool j.fo), some (.bool j.no)])] w' := by rw [hbs]; exact fun w' h => h
      have kS : ∀ w1 w2, Sp w bs4 w1 → Below w1.heap.size w1 w2 → Sp w bs4 w2 := fun _ _ h hb => h.keep hb
      clear hbs HS9
      change (Code.region 6 ltjoi6 true).wp Tryd.prog _ _ _
      refine wp_region_noPanic ?_
      refine wp_region_held_drew (S := (Sp w bs4)) (by kernel_rfl) (hT.drew) (fun hHeld => ?_)
      refine wpAnyH_take (i := 0) (oi := ({ dst := some 62, op := .load 23 (.tmp 7), type := 23, pos := "law.go:40", after := #[], guard := none } : Oper)) (v := ?vs4_0) rfl ltjoi6_plain (by as_aux_lemma => kernel_rfl) (by as_aux_lemma => kernel_rfl) (fun _ _ _ h => h) (Or.inl ⟨by rfl, ?ys4_0⟩) (by assumption) ?rs4_0
      case ys4_0 => (intro w hSw; (try dsimp only at hSw); go_simp; try with_reducible rfl)
      try simp only [Act.put, List.setIfInBounds_toArray, List.set_cons_zero, List.set_cons_succ]
      refine wpAnyH_take (i := 2) (oi := ({ dst := some 64, op := .load 23 (.tmp 3), type := 23, pos := "law.go:40", after := #[], guard := none } : Oper)) (v := ?vs4_2) rfl ltjoi6_plain (by as_aux_lemma => kernel_rfl) (by as_aux_lemma => kernel_rfl) (fun _ _ _ h => h) (Or.inl ⟨by rfl, ?ys4_2⟩) (by assumption) ?rs4_2
      case ys4_2 => (intro w hSw; (try dsimp only at hSw); go_simp; try with_reducible rfl)
      try simp only [Act.put, List.setIfInBounds_toArray, List.set_cons_zero, List.set_cons_succ]
      refine wpAnyH_ready (rs := [1]) (by as_aux_lemma => kernel_rfl) (by simp) ?_
      refine AllReadyH.cons (o := ({ dst := some 63, op := .call { callee := .value (.func 16), args := #[.tmp 62], argTypes := #[23] }, type := 3, pos := "law.go:40", after := #[{ on := 0, ground := .data }], guard := none } : Oper)) rfl (fun KK hK => ?_) AllReadyH.nil
      rw [if_pos (by rfl)]
      go_simp
      go_at_call 16; refine (MJ.out _ (Sp.below (by assumption))).mono ?_; rintro e w15 ⟨rfl, hb15⟩
      go_wp2_with fail
      refine hK.out _ _ ?_ (fun hHeld15 => ?_)
      · exact kS _ _ (by assumption) hb15
      clear hK KK hb15
      try simp only [Act.put, List.setIfInBounds_toArray, List.set_cons_zero, List.set_cons_succ]
      refine wpAnyH_ready (rs := [3]) (by as_aux_lemma => kernel_rfl) (by simp) ?_
      refine AllReadyH.cons (o := ({ dst := some 65, op := .call { callee := .value (.func 16), args := #[.tmp 64], argTypes := #[23] }, type := 3, pos := "law.go:40", after := #[{ on := 2, ground := .data }, { on := 1, ground := .chain }], guard := none } : Oper)) rfl (fun KK hK => ?_) AllReadyH.nil
      rw [if_pos (by rfl)]
      go_simp
      go_at_call 16; refine (MA.out _ (Sp.below (by assumption))).mono ?_; rintro e w16 ⟨rfl, hb16⟩
      go_wp2_with fail
      refine hK.out _ _ ?_ (fun hHeld16 => ?_)
      · exact kS _ _ (by assumption) hb16
      clear hK KK hb16 hHeld15
      try simp only [Act.put, List.setIfInBounds_toArray, List.set_cons_zero, List.set_cons_succ]
      refine wpAnyH_take (i := 4) (oi := ({ dst := some 66, op := .binOp .geq 3 (.tmp 63) (.tmp 65) 3, type := 4, pos := "law.go:40", after := #[{ on := 1, ground := .data }, { on := 3, ground := .data }], guard := none } : Oper)) (v := ?vs4_4) rfl ltjoi6_plain (by as_aux_lemma => kernel_rfl) (by as_aux_lemma => kernel_rfl) (fun _ _ _ h => h) (Or.inl ⟨by rfl, ?ys4_4⟩) (by assumption) ?rs4_4
      case ys4_4 => (intro w hSw; (try dsimp only at hSw); go_simp; try with_reducible rfl)
      try simp only [Act.put, List.setIfInBounds_toArray, List.set_cons_zero, List.set_cons_succ]
      refine wpAnyH_take (i := 5) (oi := ({ dst := some 67, op := .move (.tmp 66), type := 4, pos := "law.go:40", after := #[{ on := 4, ground := .data }, { on := 3, ground := .chain }], guard := none } : Oper)) (v := ?vs4_5) rfl ltjoi6_plain (by as_aux_lemma => kernel_rfl) (by as_aux_lemma => kernel_rfl) (fun _ _ _ h => h) (Or.inl ⟨by rfl, ?ys4_5⟩) (by assumption) ?rs4_5
      case ys4_5 => (intro w hSw; (try dsimp only at hSw); go_simp; try with_reducible rfl)
      try simp only [Act.put, List.setIfInBounds_toArray, List.set_cons_zero, List.set_cons_succ]
      refine wpAnyH_take (i := 6) (oi := ({ dst := some 68, op := .load 23 (.tmp 7), type := 23, pos := "law.go:40", after := #[{ on := 5, ground := .guard }], guard := some (5, true) } : Oper)) (v := ?vs4_6) rfl ltjoi6_plain (by as_aux_lemma => kernel_rfl) (by as_aux_lemma => kernel_rfl) (fun _ _ _ h => h) (Or.inl ⟨by rfl, ?ys4_6⟩) (by assumption) ?rs4_6
      case ys4_6 => (intro w hSw; (try dsimp only at hSw); go_simp; try with_reducible rfl)
      try simp only [Act.put, List.setIfInBounds_toArray, List.set_cons_zero, List.set_cons_succ]
      refine wpAnyH_take (i := 8) (oi := ({ dst := some 70, op := .load 23 (.tmp 4), type := 23, pos := "law.go:40", after := #[{ on := 5, ground := .guard }], guard := some (5, true) } : Oper)) (v := ?vs4_8) rfl ltjoi6_plain (by as_aux_lemma => kernel_rfl) (by as_aux_lemma => kernel_rfl) (fun _ _ _ h => h) (Or.inl ⟨by rfl, ?ys4_8⟩) (by assumption) ?rs4_8
      case ys4_8 => (intro w hSw; (try dsimp only at hSw); go_simp; try with_reducible rfl)
      try simp only [Act.put, List.setIfInBounds_toArray, List.set_cons_zero, List.set_cons_succ]
      refine wpAnyH_ready (rs := [7]) (by as_aux_lemma => kernel_rfl) (by simp) ?_
      refine AllReadyH.cons (o := ({ dst := some 69, op := .call { callee := .value (.func 16), args := #[.tmp 68], argTypes := #[23] }, type := 3, pos := "law.go:40", after := #[{ on := 6, ground := .data }, { on := 5, ground := .chain }, { on := 5, ground := .guard }], guard := some (5, true) } : Oper)) rfl (fun KK hK => ?_) AllReadyH.nil
      rw [if_pos (by rfl)]
      go_simp
      go_at_call 16; refine (MJ.out _ (Sp.below (by assumption))).mono ?_; rintro e w17 ⟨rfl, hb17⟩
      go_wp2_with fail
      refine hK.out _ _ ?_ (fun hHeld17 => ?_)
      · exact kS _ _ (by assumption) hb17
      clear hK KK hb17 hHeld16
      try simp only [Act.put, List.setIfInBounds_toArray, List.set_cons_zero, List.set_cons_succ]
      refine wpAnyH_ready (rs := [9]) (by as_aux_lemma => kernel_rfl) (by simp) ?_
      refine AllReadyH.cons (o := ({ dst := some 71, op := .call { callee := .value (.func 16), args := #[.tmp 70], argTypes := #[23] }, type := 3, pos := "law.go:40", after := #[{ on := 8, ground := .data }, { on := 7, ground := .chain }, { on := 5, ground := .guard }], guard := some (5, true) } : Oper)) rfl (fun KK hK => ?_) AllReadyH.nil
      rw [if_pos (by rfl)]
      go_simp
      go_at_call 16; refine (MB.out _ (Sp.below (by assumption))).mono ?_; rintro e w18 ⟨rfl, hb18⟩
      go_wp2_with fail
      refine hK.out _ _ ?_ (fun hHeld18 => ?_)
      · exact kS _ _ (by assumption) hb18
      clear hK KK hb18 hHeld17
      try simp only [Act.put, List.setIfInBounds_toArray, List.set_cons_zero, List.set_cons_succ]
      refine wpAnyH_take (i := 10) (oi := ({ dst := some 72, op := .binOp .geq 3 (.tmp 69) (.tmp 71) 3, type := 4, pos := "law.go:40", after := #[{ on := 7, ground := .data }, { on := 9, ground := .data }, { on := 5, ground := .guard }], guard := some (5, true) } : Oper)) (v := ?vs4_10) rfl ltjoi6_plain (by as_aux_lemma => kernel_rfl) (by as_aux_lemma => kernel_rfl) (fun _ _ _ h => h) (Or.inl ⟨by rfl, ?ys4_10⟩) (by assumption) ?rs4_10
      case ys4_10 => (intro w hSw; (try dsimp only at hSw); go_simp; try with_reducible rfl)
      try simp only [Act.put, List.setIfInBounds_toArray, List.set_cons_zero, List.set_cons_succ]
      refine wpAnyH_take (i := 11) (oi := ({ dst := some 73, op := .pick (.tmp 67) (.tmp 72) (.const (.bool false)), type := 4, pos := "law.go:40", after := #[{ on := 5, ground := .data }, { on := 10, ground := .data }], guard := none } : Oper)) (v := ?vs4_11) rfl ltjoi6_plain (by as_aux_lemma => kernel_rfl) (by as_aux_lemma => kernel_rfl) (fun _ _ _ h => h) (Or.inl ⟨by rfl, ?ys4_11⟩) (by assumption) ?rs4_11
      case ys4_11 => (intro w hSw; (try dsimp only at hSw); go_simp; try with_reducible rfl)
      try simp only [Act.put, List.setIfInBounds_toArray, List.set_cons_zero, List.set_cons_succ]
      refine wpAnyH_take (i := 12) (oi := ({ dst := some 74, op := .move (.tmp 73), type := 4, pos := "law.go:40", after := #[{ on := 11, ground := .data }, { on := 9, ground := .chain }], guard := none } : Oper)) (v := ?vs4_12) rfl ltjoi6_plain (by as_aux_lemma => kernel_rfl) (by as_aux_lemma => kernel_rfl) (fun _ _ _ h => h) (Or.inl ⟨by rfl, ?ys4_12⟩) (by assumption) ?rs4_12
      case ys4_12 => (intro w hSw; (try dsimp only at hSw); go_simp; try with_reducible rfl)
      try simp only [Act.put, List.setIfInBounds_toArray, List.set_cons_zero, List.set_cons_succ]
      refine wpAnyH_ready (rs := [13]) (by as_aux_lemma => kernel_rfl) (by simp) ?_
      refine AllReadyH.cons (o := ({ dst := some 75, op := .call { callee := .value (.func 14), args := #[], argTypes := #[] }, type := 4, pos := "law.go:40", after := #[{ on := 12, ground := .chain }, { on := 12, ground := .guard }], guard := some (12, true) } : Oper)) rfl (fun KK hK => ?_) AllReadyH.nil
      rw [if_pos (by rfl)]
      go_simp
      go_at_call 14; refine (AW.out _ (Sp.below (by assumption))).mono ?_; rintro e w19 ⟨rfl, hb19⟩
      go_wp2_with fail
      refine hK.out _ _ ?_ (fun hHeld19 => ?_)
      · exact kS _ _ (by assumption) hb19
      clear hK KK hb19 hHeld18
      try simp only [Act.put, List.setIfInBounds_toArray, List.set_cons_zero, List.set_cons_succ]
      refine wpAnyH_take (i := 14) (oi := ({ dst := some 76, op := .pick (.tmp 74) (.tmp 75) (.const (.bool false)), type := 4, pos := "law.go:40", after := #[{ on := 12, ground := .data }, { on := 13, ground := .data }], guard := none } : Oper)) (v := ?vs4_14) rfl ltjoi6_plain (by as_aux_lemma => kernel_rfl) (by as_aux_lemma => kernel_rfl) (fun _ _ _ h => h) (Or.inl ⟨by rfl, ?ys4_14⟩) (by assumption) ?rs4_14
      case ys4_14 => (intro w hSw; (try dsimp only at hSw); go_simp; try with_reducible rfl)
      try simp only [Act.put, List.setIfInBounds_toArray, List.set_cons_zero, List.set_cons_succ]
      refine wpAnyH_take (i := 15) (oi := ({ dst := some 6, op := .assign (.tmp 76), type := 4, pos := "law.go:40", after := #[{ on := 14, ground := .data }, { on := 13, ground := .chain }, { on := 0, ground := .phase }, { on := 1, ground := .phase }, { on := 2, ground := .phase }, { on := 3, ground := .phase }, { on := 4, ground := .phase }, { on := 5, ground := .phase }, { on := 6, ground := .phase }, { on := 7, ground := .phase }, { on := 8, ground := .phase }, { on := 9, ground := .phase }, { on := 10, ground := .phase }, { on := 11, ground := .phase }, { on := 12, ground := .phase }, { on := 13, ground := .phase }, { on := 14, ground := .phase }], guard := none } : Oper)) (v := ?vs4_15) rfl ltjoi6_plain (by as_aux_lemma => kernel_rfl) (by as_aux_lemma => kernel_rfl) (fun _ _ _ h => h) (Or.inl ⟨by rfl, ?ys4_15⟩) (by assumption) ?rs4_15
      case ys4_15 => (intro w hSw; (try dsimp only at hSw); go_simp; try with_reducible rfl)
      try simp only [Act.put, List.setIfInBounds_toArray, List.set_cons_zero, List.set_cons_succ]
      refine wpAnyH_done (by as_aux_lemma => kernel_rfl) ?_ _
      refine NoPanic.normal ?_
      have N1 := nx _ hHeld19
      have HS10 := Lib.hid N1
      clear c0_0 c0_1 c0_2 c0_3 c0_4 c0_5 c1_0 c1_1 c1_2 c1_3 c1_4 c1_5 c3_0 c3_1 c3_2 c3_3 c3_4 c3_5 nx kS hT N1
      have BH := Lib.hid HS10.out.below
      go_wp2_with fail
      exact bodyPost_ret (v := .bool true) (by simp [results, Tryd.results4, go_sem, *]) rfl ⟨rfl, BH.out⟩
theorem Joins33_all (a b c : La) (w : World) (n : PairsAt w) : Calls Tryd.prog 4 #[lv a, lv b, lv c] w fun e w' => e = .returned (.bool true) ∧ Below w.heap.size w w' := by
  have hb : ∀ x y w', Calls Tryd.prog 8 #[lv x, lv y] w' fun e w'' => e = .returned (lv (jn x y)) ∧ Below w'.heap.size w' w'' := fun x y w' => Join_any x y w'
  refine Joins33_core a b c (jn a b) (jn (jn a b) c) (jn b c) (worse c a) (worse c b) (worse c (jn a b)) (mode (jn a b)) (mode a) (mode b) w (Lib.hid fun w' _ => hb a b w') (Lib.hid fun w' _ => ?_) (Lib.hid fun w' _ => ?_) (Lib.hid fun w' _ => ?_) (Lib.hid fun w' _ => ?_)
    (Lib.hid fun w' _ => hb _ c w') (Lib.hid fun w' _ => hb b c w') (Lib.hid fun w' _ => ?_) (Lib.hid fun w' _ => Worse_any c a w') (Lib.hid fun w' _ => Worse_any c b w') (Lib.hid fun w' _ => Worse_any c _ w') (Lib.hid fun w' _ => Mode_any _ w') (Lib.hid fun w' _ => Mode_any a w') (Lib.hid fun w' _ => Mode_any b w') (Lib.hid fun w' B => awake_any w' (n.keep B))
    (Lib.hid (la_same (jn a b))) (Lib.hid (la_same (jn (jn a b) c))) (Lib.hid jn_best) (Lib.hid (decide_eq_true (jn_mode a b).1)) (Lib.hid (decide_eq_true (jn_mode a b).2))
  · have h := Worse_any (jn a b) a w'; rwa [jn_left] at h
  · have h := Worse_any (jn a b) b w'; rwa [jn_right] at h
  · have h := hb b a w'; rwa [jn_comm] at h
  · have h := hb (jn a b) a w'; rwa [jn_again] at h
  · have h := hb a (jn b c) w'; rwa [jn_assoc] at h

end Law33
end Go.Proofs.YtldbkompebefmaaDoor
