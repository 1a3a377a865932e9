/- The law's own example. -/
import Derived.Test.YtkjkmnclnedfhaaDoorAiX
import Derived.BigRegion
namespace Go.Proofs.YtkjkmnclnedfhaaDoor
open Go.RowKit Obs

/-- The operations of a drawn region, as the translation has them. -/
def aaw11 : Array Oper := #[
  { dst := some 36, op := .load 32 (.tmp 3), type := 32, pos := "law.go:24", after := #[], guard := none },
  { dst := some 37, op := .call { callee := .value (.func 11), args := #[.tmp 36, .const (.int .i64 1000)], argTypes := #[32, 2] }, type := 4, pos := "law.go:24", after := #[{ on := 0, ground := .data }], guard := none },
  { dst := some 38, op := .move (.tmp 37), type := 4, pos := "law.go:24", after := #[{ on := 1, ground := .data }, { on := 1, ground := .chain }], guard := none },
  { dst := some 39, op := .fieldAddr 32 (.tmp 3) 1, type := 0, pos := "law.go:24", after := #[{ on := 2, ground := .guard }], guard := some (2, true) },
  { dst := some 40, op := .load 2 (.tmp 39), type := 2, pos := "law.go:24", after := #[{ on := 3, ground := .data }, { on := 2, ground := .guard }], guard := some (2, true) },
  { dst := some 41, op := .fieldAddr 32 (.tmp 3) 0, type := 0, pos := "law.go:24", after := #[{ on := 2, ground := .guard }], guard := some (2, true) },
  { dst := some 42, op := .load 2 (.tmp 41), type := 2, pos := "law.go:24", after := #[{ on := 5, ground := .data }, { on := 2, ground := .guard }], guard := some (2, true) },
  { dst := some 43, op := .binOp .sub 2 (.tmp 40) (.tmp 42) 2, type := 2, pos := "law.go:24", after := #[{ on := 4, ground := .data }, { on := 6, ground := .data }, { on := 2, ground := .guard }], guard := some (2, true) },
  { dst := some 44, op := .binOp .lss 2 (.tmp 43) (.const (.int .i64 500)) 2, type := 4, pos := "law.go:24", after := #[{ on := 7, ground := .data }, { on := 2, ground := .guard }], guard := some (2, true) },
  { dst := some 45, op := .pick (.tmp 38) (.tmp 44) (.const (.bool false)), type := 4, pos := "law.go:24", after := #[{ on := 2, ground := .data }, { on := 8, ground := .data }], guard := none },
  { dst := some 46, op := .move (.tmp 45), type := 4, pos := "law.go:24", after := #[{ on := 9, ground := .data }, { on := 2, ground := .chain }], guard := none },
  { dst := some 47, op := .load 32 (.tmp 4), type := 32, pos := "law.go:24", after := #[{ on := 10, ground := .guard }], guard := some (10, true) },
  { dst := some 48, op := .call { callee := .value (.func 11), args := #[.tmp 47, .const (.int .i64 100)], argTypes := #[32, 2] }, type := 4, pos := "law.go:24", after := #[{ on := 11, ground := .data }, { on := 10, ground := .chain }, { on := 10, ground := .guard }], guard := some (10, true) },
  { dst := some 49, op := .pick (.tmp 46) (.tmp 48) (.const (.bool false)), type := 4, pos := "law.go:24", after := #[{ on := 10, ground := .data }, { on := 12, ground := .data }], guard := none },
  { dst := some 50, op := .move (.tmp 49), type := 4, pos := "law.go:24", after := #[{ on := 13, ground := .data }, { on := 12, ground := .chain }], guard := none },
  { dst := some 51, op := .fieldAddr 32 (.tmp 4) 1, type := 0, pos := "law.go:24", after := #[{ on := 14, ground := .guard }], guard := some (14, true) },
  { dst := some 52, op := .load 2 (.tmp 51), type := 2, pos := "law.go:24", after := #[{ on := 15, ground := .data }, { on := 14, ground := .guard }], guard := some (14, true) },
  { dst := some 53, op := .fieldAddr 32 (.tmp 4) 0, type := 0, pos := "law.go:24", after := #[{ on := 14, ground := .guard }], guard := some (14, true) },
  { dst := some 54, op := .load 2 (.tmp 53), type := 2, pos := "law.go:24", after := #[{ on := 17, ground := .data }, { on := 14, ground := .guard }], guard := some (14, true) },
  { dst := some 55, op := .binOp .sub 2 (.tmp 52) (.tmp 54) 2, type := 2, pos := "law.go:24", after := #[{ on := 16, ground := .data }, { on := 18, ground := .data }, { on := 14, ground := .guard }], guard := some (14, true) },
  { dst := some 56, op := .binOp .lss 2 (.tmp 55) (.const (.int .i64 30)) 2, type := 4, pos := "law.go:24", after := #[{ on := 19, ground := .data }, { on := 14, ground := .guard }], guard := some (14, true) },
  { dst := some 57, op := .pick (.tmp 50) (.tmp 56) (.const (.bool false)), type := 4, pos := "law.go:24", after := #[{ on := 14, ground := .data }, { on := 20, ground := .data }], guard := none },
  { dst := some 58, op := .move (.tmp 57), type := 4, pos := "law.go:24", after := #[{ on := 21, ground := .data }, { on := 14, ground := .chain }], guard := none },
  { dst := some 59, op := .load 22 (.tmp 5), type := 22, pos := "law.go:24", after := #[{ on := 22, ground := .guard }], guard := some (22, true) },
  { dst := some 60, op := .build 22 #[(0, .const (.int .i64 100)), (1, .const (.int .i64 101)), (2, .const (.int .i64 105))], type := 22, pos := "law.go:24", after := #[{ on := 22, ground := .guard }], guard := some (22, true) },
  { dst := some 61, op := .binOp .eql 22 (.tmp 59) (.tmp 60) 22, type := 4, pos := "law.go:24", after := #[{ on := 23, ground := .data }, { on := 24, ground := .data }, { on := 22, ground := .guard }], guard := some (22, true) },
  { dst := some 62, op := .pick (.tmp 58) (.tmp 61) (.const (.bool false)), type := 4, pos := "law.go:24", after := #[{ on := 22, ground := .data }, { on := 25, ground := .data }], guard := none },
  { dst := some 63, op := .move (.tmp 62), type := 4, pos := "law.go:24", after := #[{ on := 26, ground := .data }, { on := 22, ground := .chain }], guard := none },
  { dst := some 64, op := .indexAddr 23 (.tmp 6) (.const (.int .i64 2)), type := 0, pos := "law.go:24", after := #[{ on := 27, ground := .guard }], guard := some (27, true) },
  { dst := some 65, op := .load 4 (.tmp 64), type := 4, pos := "law.go:24", after := #[{ on := 28, ground := .data }, { on := 27, ground := .guard }], guard := some (27, true) },
  { dst := some 66, op := .pick (.tmp 63) (.tmp 65) (.const (.bool false)), type := 4, pos := "law.go:24", after := #[{ on := 27, ground := .data }, { on := 29, ground := .data }], guard := none },
  { dst := some 67, op := .move (.tmp 66), type := 4, pos := "law.go:24", after := #[{ on := 30, ground := .data }, { on := 27, ground := .chain }], guard := none },
  { dst := some 68, op := .indexAddr 23 (.tmp 8) (.const (.int .i64 0)), type := 0, pos := "law.go:24", after := #[{ on := 31, ground := .guard }], guard := some (31, true) },
  { dst := some 69, op := .load 4 (.tmp 68), type := 4, pos := "law.go:24", after := #[{ on := 32, ground := .data }, { on := 31, ground := .guard }], guard := some (31, true) },
  { dst := some 70, op := .unOp .not 4 (.tmp 69), type := 4, pos := "law.go:24", after := #[{ on := 33, ground := .data }, { on := 31, ground := .guard }], guard := some (31, true) },
  { dst := some 71, op := .pick (.tmp 67) (.tmp 70) (.const (.bool false)), type := 4, pos := "law.go:24", after := #[{ on := 31, ground := .data }, { on := 34, ground := .data }], guard := none },
  { dst := some 72, op := .move (.tmp 71), type := 4, pos := "law.go:24", after := #[{ on := 35, ground := .data }, { on := 31, ground := .chain }], guard := none },
  { dst := some 73, op := .call { callee := .value (.func 17), args := #[], argTypes := #[] }, type := 61, pos := "law.go:24", after := #[{ on := 36, ground := .chain }, { on := 36, ground := .guard }], guard := some (36, true) },
  { dst := some 74, op := .call { callee := .value (.func 17), args := #[], argTypes := #[] }, type := 61, pos := "law.go:24", after := #[{ on := 37, ground := .chain }, { on := 36, ground := .guard }], guard := some (36, true) },
  { dst := some 75, op := .field 61 (.tmp 74) 8, type := 25, pos := "law.go:24", after := #[{ on := 38, ground := .data }, { on := 36, ground := .guard }], guard := some (36, true) },
  { dst := some 76, op := .call { callee := .value (.func 7), args := #[.tmp 75], argTypes := #[25] }, type := 35, pos := "law.go:24", after := #[{ on := 39, ground := .data }, { on := 38, ground := .chain }, { on := 36, ground := .guard }], guard := some (36, true) },
  { dst := some 77, op := .load 55 (.tmp 1), type := 55, pos := "law.go:24", after := #[{ on := 36, ground := .guard }], guard := some (36, true) },
  { dst := some 78, op := .call { callee := .value (.func 19), args := #[.tmp 73, .tmp 76, .tmp 77], argTypes := #[61, 35, 55] }, type := 35, pos := "law.go:24", after := #[{ on := 37, ground := .data }, { on := 40, ground := .data }, { on := 41, ground := .data }, { on := 40, ground := .chain }, { on := 36, ground := .guard }], guard := some (36, true) },
  { dst := some 79, op := .index 35 (.tmp 78) (.const (.int .i64 0)), type := 34, pos := "law.go:24", after := #[{ on := 42, ground := .data }, { on := 36, ground := .guard }], guard := some (36, true) },
  { dst := some 80, op := .field 34 (.tmp 79) 1, type := 32, pos := "law.go:24", after := #[{ on := 43, ground := .data }, { on := 36, ground := .guard }], guard := some (36, true) },
  { dst := some 81, op := .field 32 (.tmp 80) 1, type := 2, pos := "law.go:24", after := #[{ on := 44, ground := .data }, { on := 36, ground := .guard }], guard := some (36, true) },
  { dst := some 82, op := .binOp .lss 2 (.tmp 81) (.const (.int .i64 50)) 2, type := 4, pos := "law.go:24", after := #[{ on := 45, ground := .data }, { on := 36, ground := .guard }], guard := some (36, true) },
  { dst := some 83, op := .pick (.tmp 72) (.tmp 82) (.const (.bool false)), type := 4, pos := "law.go:24", after := #[{ on := 36, ground := .data }, { on := 46, ground := .data }], guard := none },
  { dst := some 84, op := .move (.tmp 83), type := 4, pos := "law.go:24", after := #[{ on := 47, ground := .data }, { on := 42, ground := .chain }], guard := none },
  { dst := some 85, op := .call { callee := .value (.func 17), args := #[], argTypes := #[] }, type := 61, pos := "law.go:24", after := #[{ on := 48, ground := .chain }, { on := 48, ground := .guard }], guard := some (48, true) },
  { dst := some 86, op := .call { callee := .value (.func 17), args := #[], argTypes := #[] }, type := 61, pos := "law.go:24", after := #[{ on := 49, ground := .chain }, { on := 48, ground := .guard }], guard := some (48, true) },
  { dst := some 87, op := .field 61 (.tmp 86) 9, type := 25, pos := "law.go:24", after := #[{ on := 50, ground := .data }, { on := 48, ground := .guard }], guard := some (48, true) },
  { dst := some 88, op := .call { callee := .value (.func 7), args := #[.tmp 87], argTypes := #[25] }, type := 35, pos := "law.go:24", after := #[{ on := 51, ground := .data }, { on := 50, ground := .chain }, { on := 48, ground := .guard }], guard := some (48, true) },
  { dst := some 89, op := .load 55 (.tmp 1), type := 55, pos := "law.go:24", after := #[{ on := 48, ground := .guard }], guard := some (48, true) },
  { dst := some 90, op := .call { callee := .value (.func 20), args := #[.tmp 85, .tmp 88, .tmp 89], argTypes := #[61, 35, 55] }, type := 35, pos := "law.go:24", after := #[{ on := 49, ground := .data }, { on := 52, ground := .data }, { on := 53, ground := .data }, { on := 52, ground := .chain }, { on := 48, ground := .guard }], guard := some (48, true) },
  { dst := some 91, op := .index 35 (.tmp 90) (.const (.int .i64 0)), type := 34, pos := "law.go:24", after := #[{ on := 54, ground := .data }, { on := 48, ground := .guard }], guard := some (48, true) },
  { dst := some 92, op := .field 34 (.tmp 91) 2, type := 4, pos := "law.go:24", after := #[{ on := 55, ground := .data }, { on := 48, ground := .guard }], guard := some (48, true) },
  { dst := some 93, op := .unOp .not 4 (.tmp 92), type := 4, pos := "law.go:24", after := #[{ on := 56, ground := .data }, { on := 48, ground := .guard }], guard := some (48, true) },
  { dst := some 94, op := .pick (.tmp 84) (.tmp 93) (.const (.bool false)), type := 4, pos := "law.go:24", after := #[{ on := 48, ground := .data }, { on := 57, ground := .data }], guard := none },
  { dst := some 0, op := .assign (.tmp 94), type := 4, pos := "law.go:24", after := #[{ on := 58, ground := .data }, { on := 54, ground := .chain }, { on := 0, ground := .phase }, { on := 1, ground := .phase }, { on := 2, ground := .phase }, { on := 3, ground := .phase }, { on := 4, ground := .phase }, { on := 5, ground := .phase }, { on := 6, ground := .phase }, { on := 7, ground := .phase }, { on := 8, ground := .phase }, { on := 9, ground := .phase }, { on := 10, ground := .phase }, { on := 11, ground := .phase }, { on := 12, ground := .phase }, { on := 13, ground := .phase }, { on := 14, ground := .phase }, { on := 15, ground := .phase }, { on := 16, ground := .phase }, { on := 17, ground := .phase }, { on := 18, ground := .phase }, { on := 19, ground := .phase }, { on := 20, ground := .phase }, { on := 21, ground := .phase }, { on := 22, ground := .phase }, { on := 23, ground := .phase }, { on := 24, ground := .phase }, { on := 25, ground := .phase }, { on := 26, ground := .phase }, { on := 27, ground := .phase }, { on := 28, ground := .phase }, { on := 29, ground := .phase }, { on := 30, ground := .phase }, { on := 31, ground := .phase }, { on := 32, ground := .phase }, { on := 33, ground := .phase }, { on := 34, ground := .phase }, { on := 35, ground := .phase }, { on := 36, ground := .phase }, { on := 37, ground := .phase }, { on := 38, ground := .phase }, { on := 39, ground := .phase }, { on := 40, ground := .phase }, { on := 41, ground := .phase }, { on := 42, ground := .phase }, { on := 43, ground := .phase }, { on := 44, ground := .phase }, { on := 45, ground := .phase }, { on := 46, ground := .phase }, { on := 47, ground := .phase }, { on := 48, ground := .phase }, { on := 49, ground := .phase }, { on := 50, ground := .phase }, { on := 51, ground := .phase }, { on := 52, ground := .phase }, { on := 53, ground := .phase }, { on := 54, ground := .phase }, { on := 55, ground := .phase }, { on := 56, ground := .phase }, { on := 57, ground := .phase }, { on := 58, ground := .phase }], guard := none }]
theorem aaw11_plain : Region.noSelect aaw11 = true := by kernel_rfl

set_option maxHeartbeats 40000000 in
set_option maxRecDepth 100000 in
theorem awake_core (cf : Array Value) (a c : Ai) (aL aH sL sH dA dS e0 e1 e2 e3 i0 i1 i2 i3 : Int) (e4 : Bool) (qA gA qS gS : Qd) (w : World)
    (US : Hid (∀ w', Below w.heap.size w w' → Calls Tryd.prog 17 #[] w' fun e w'' => e = .returned (.agg cf) ∧ Below w'.heap.size w' w''))
    (BO : Hid (∀ w' ba, Below w.heap.size w w' → CameRd w' ba 2 [rdF 12, rdF 12] → Calls Tryd.prog 16 #[.agg cf, .slice ba 2 2] w' fun e w'' => e = .returned (.tuple #[sv aL aH, sv sL sH]) ∧ Below w'.heap.size w' w''))
    (P9 : Hid (∀ w', Calls Tryd.prog 18 #[.agg (ra (rdF 12)), .int .i64 9] w' fun e w'' => e = .returned (.tuple #[.agg #[.int .i64 100, .int .i64 101, .int .i64 105], .agg #[.bool true, .bool true, .bool true]]) ∧ Below w'.heap.size w' w''))
    (P10 : Hid (∀ w', Calls Tryd.prog 18 #[.agg (ra (rdF 12)), .int .i64 10] w' fun e w'' => e = .returned (.tuple #[.agg #[.int .i64 0, .int .i64 0, .int .i64 0], .agg #[.bool false, .bool false, .bool false]]) ∧ Below w'.heap.size w' w''))
    (H1 : Hid (∀ w', Calls Tryd.prog 11 #[sv aL aH, .int .i64 1000] w' fun e w'' => e = .returned (.bool true) ∧ Below w'.heap.size w' w''))
    (H2 : Hid (∀ w', Calls Tryd.prog 11 #[sv sL sH, .int .i64 100] w' fun e w'' => e = .returned (.bool true) ∧ Below w'.heap.size w' w''))
    (S1 : Hid (∀ w', Below w.heap.size w w' → Calls Tryd.prog 7 #[av a] w' fun e w'' => e = .returned (qv qA) ∧ Below w'.heap.size w' w''))
    (AL : Hid (∀ w', Below w.heap.size w w' → Calls Tryd.prog 19 #[.agg cf, qv qA, .agg (ra (rdF 12))] w' fun e w'' => e = .returned (qv gA) ∧ Below w'.heap.size w' w''))
    (S2 : Hid (∀ w', Below w.heap.size w w' → Calls Tryd.prog 7 #[av c] w' fun e w'' => e = .returned (qv qS) ∧ Below w'.heap.size w' w''))
    (SP : Hid (∀ w', Below w.heap.size w w' → Calls Tryd.prog 20 #[.agg cf, qv qS, .agg (ra (rdF 12))] w' fun e w'' => e = .returned (qv gS) ∧ Below w'.heap.size w' w''))
    (F8 : Hid (∀ w, (Instr.field 61 (.agg cf) 8).run Tryd.prog w = .ok (av a) w)) (F9 : Hid (∀ w, (Instr.field 61 (.agg cf) 9).run Tryd.prog w = .ok (av c) w))
    (IA : Hid (∀ w, (Instr.index 35 (.agg (qa gA)) (.int .i64 0)).run Tryd.prog w = .ok (.agg #[.int .i64 e0, .int .i64 e1, .int .i64 e2, .int .i64 e3, .bool e4]) w)) (IS : Hid (∀ w, (Instr.index 35 (.agg (qa gS)) (.int .i64 0)).run Tryd.prog w = .ok (.agg #[.int .i64 i0, .int .i64 i1, .int .i64 i2, .int .i64 i3, .bool false]) w))
    (D1 : Hid (IntKind.i64.wrap (aH - aL) = dA)) (D2 : Hid (decide (dA < 500) = true)) (D3 : Hid (IntKind.i64.wrap (sH - sL) = dS)) (D4 : Hid (decide (dS < 30) = true)) (D5 : Hid (decide (e3 < 50) = true))
    : Calls Tryd.prog 5 #[] w fun e w' => e = .returned (.bool true) ∧ Below w.heap.size w w' := by
  have hS1 := (Sp.none w).more [.int .i64 0, .int .i64 0, .int .i64 0, .int .i64 0, .int .i64 0, .int .i64 0, .int .i64 0, .int .i64 0, .int .i64 0, .int .i64 0, .int .i64 0, .int .i64 0, .bool false, .bool false, .bool false, .bool false, .bool false, .bool false, .bool false, .bool false, .bool false, .bool false, .bool false, .bool false] 55
  have HS1 := Lib.hid hS1
  clear hS1
  have T24 := (HS1.out).free_row 0 rfl (n := 24) rfl
  have T12 : (w.alloc (.cells #[.int .i64 0, .int .i64 0, .int .i64 0, .int .i64 0, .int .i64 0, .int .i64 0, .int .i64 0, .int .i64 0, .int .i64 0, .int .i64 0, .int .i64 0, .int .i64 0, .bool false, .bool false, .bool false, .bool false, .bool false, .bool false, .bool false, .bool false, .bool false, .bool false, .bool false, .bool false] 55)).there w.heap.size 0 12 := fun j hj => T24 j (by omega)
  have hi12 : (Tryd.prog.info? 52).map (·.size) = some 12 := by kernel_rfl
  have h112 : (#[.int .i64 0, .int .i64 0, .int .i64 0, .int .i64 0, .int .i64 0, .int .i64 0, .int .i64 1005, .int .i64 1004, .int .i64 1000, .int .i64 100, .int .i64 101, .int .i64 105] : Array Value).all (·.oneCell') = true := by simp [Value.oneCell']
  have HS2 := Lib.hid (show Sp w [(w.heap.size, (rc (rdF 0)).map some)] ((w.alloc (.cells #[.int .i64 0, .int .i64 0, .int .i64 0, .int .i64 0, .int .i64 0, .int .i64 0, .int .i64 0, .int .i64 0, .int .i64 0, .int .i64 0, .int .i64 0, .int .i64 0, .bool false, .bool false, .bool false, .bool false, .bool false, .bool false, .bool false, .bool false, .bool false, .bool false, .bool false, .bool false] 55)).setCells w.heap.size 0 [.int .i64 0, .int .i64 0, .int .i64 0, .int .i64 0, .int .i64 0, .int .i64 0, .int .i64 1005, .int .i64 1004, .int .i64 1000, .int .i64 100, .int .i64 101, .int .i64 105]) from sp_cells_aux 0 [.int .i64 0, .int .i64 0, .int .i64 0, .int .i64 0, .int .i64 0, .int .i64 0, .int .i64 1005, .int .i64 1004, .int .i64 1000, .int .i64 100, .int .i64 101, .int .i64 105] 0 _ _ _ HS1.out rfl (by decide))
  clear T24 HS1
  go_enter Tryd.func5, Tryd.ntmps5
  go_upto_region 2 with fail
  go_upto_region 3 with (first | refine wpList_store_mid rfl 52 _ _ rfl w.heap.size 0 #[.int .i64 0, .int .i64 0, .int .i64 0, .int .i64 0, .int .i64 0, .int .i64 0, .int .i64 1005, .int .i64 1004, .int .i64 1000, .int .i64 100, .int .i64 101, .int .i64 105] rfl rfl T12 hi12 h112 ?_)
  clear T12 hi12 h112
  obtain ⟨w1, hX, hS⟩ := (HS2.out).named
  rw [← hX]
  clear hX HS2
  have HS3 := Lib.hid hS
  clear hS
  go_wp2_with fail
  go_loopw [11] (fun i wr => ∃ j : Nat, j ≤ 12 ∧ i = .int .i64 j ∧ Sp w [(w.heap.size, (rc (rdF j)).map some)] wr) (fun i _ => 12 - (intOf i).toNat)
  case atStart => exact ⟨0, by omega, rfl, HS3.out⟩
  case round =>
    clear HS3
    obtain ⟨j, hj, rfl, hS⟩ := hrel
    by_cases hc : (j : Int) < 12
    · skip
      have hj12 : j < 12 := by omega
      have hj0 : (0 : Int) ≤ j := by omega
      obtain ⟨z, lz, fz⟩ := hS.there 0 rfl (12 + j) (rdF_at j hj12)
      have hN := hS.put 0 rfl (12 + j) (.bool true)
      have HF := Lib.hid (show Sp w [(w.heap.size, (rc (rdF (j + 1))).map some)] (wr.setCell ⟨w.heap.size, 12 + j, none⟩ (.bool true)) from rdF_set j hj12 ▸ hN)
      clear hS hN hj hj12
      go_wp2_with fail
      go_roundw
      case rel => first | exact ⟨j + 1, by omega, rfl, HF.out⟩ | ((repeat apply Exists.intro); exact ⟨⟨j + 1, by omega, rfl, HF.out⟩, rfl⟩)
      case measure => simp [intOf]; omega
    · obtain rfl : j = 12 := by omega
      clear hj hc
      generalize rdF 12 = R at *
      have HS4 := Lib.hid hS
      clear hS
      have hir := sizeRd R
      go_upto_region 8 with fail
      go_cut [3, 4] from 3 to 26 (fun ta ts wx => ∃ ga gs, ta = .pointer (some ⟨ga, 0, none⟩) ∧ ts = .pointer (some ⟨gs, 0, none⟩) ∧ Sp w [(w.heap.size, (rc R).map some), (ga, [some (.int .i64 aL), some (.int .i64 aH)]), (gs, [some (.int .i64 sL), some (.int .i64 sH)])] wx)
      case first =>
        change (Code.region 8 aaw8 true).wp _ _ _ _
        refine aw8_core cf R aL aH sL sH w _ _ _ _ _ _ _ _ _ _ _ _ _ US BO HS4 (fun ga gs _ _ _ _ _ _ _ _ wz N2 => ?_)
        go_wp2_with fail
        go_meet
        exact ⟨ga, gs, rfl, rfl, N2⟩
      case rest =>
        rename World => w3
        obtain ⟨ga, gs, rfl, rfl, hS⟩ := hcut
        have HS5 := Lib.hid hS
        clear hS BO HS4
        have HR := Lib.hid ((HS5.out).range 0 (l := rc R) rfl)
        go_upto_region 9 with fail
        go_wp2_with (refine list_load_any rfl 55 _ rfl _ 0 rfl (ra R) _ HR.out Tryd.underlying55 rfl hir ?_)
        clear HR
        refine (P9.out _).mono ?_; rintro e w4 ⟨rfl, hb4⟩
        have hS6 := (HS5.out).keep hb4
        have HS6 := Lib.hid hS6
        clear hS6 HS5
        clear hb4
        clear P9
        go_upto_region 10 with fail
        have hS7 := (HS6.out).more [.int .i64 100, .int .i64 101, .int .i64 105] 22
        have HS7 := Lib.hid hS7
        clear hS7 HS6
        have hS8 := (HS7.out).more [.bool true, .bool true, .bool true] 23
        simp only [heap1] at hS8
        have HS8 := Lib.hid hS8
        clear hS8 HS7
        obtain ⟨w5, hX, hS⟩ := (HS8.out).named
        rw [← hX]
        clear hX HS8
        have HS9 := Lib.hid hS
        clear hS
        have HR := Lib.hid ((HS9.out).range 0 (l := rc R) rfl)
        go_upto_region 10 with fail
        go_wp2_with (refine list_load_any rfl 55 _ rfl _ 0 rfl (ra R) _ HR.out Tryd.underlying55 rfl hir ?_)
        clear HR
        refine (P10.out _).mono ?_; rintro e w6 ⟨rfl, hb6⟩
        have hS10 := (HS9.out).keep hb6
        have HS10 := Lib.hid hS10
        clear hS10 HS9
        clear hb6
        clear P10
        go_upto_region 11 with fail
        have hS11 := (HS10.out).more [.int .i64 0, .int .i64 0, .int .i64 0] 22
        have HS11 := Lib.hid hS11
        clear hS11 HS10
        have hS12 := (HS11.out).more [.bool false, .bool false, .bool false] 23
        simp only [heap1] at hS12
        have HS12 := Lib.hid hS12
        clear hS12 HS11
        obtain ⟨w7, hX, hS⟩ := (HS12.out).named
        rw [← hX]
        clear hX HS12
        have HS13 := Lib.hid hS
        clear hS
        have d0 := D1.out
        have d1 := D2.out
        have d2 := D3.out
        have d3 := D4.out
        have d4 := D5.out
        have d5 := F8.out
        have d6 := F9.out
        have d7 := IA.out
        have d8 := IS.out
        have eq3 : ∀ w, (Op.equalIn 10000 22 (.agg #[.int .i64 100, .int .i64 101, .int .i64 105]) (.agg #[.int .i64 100, .int .i64 101, .int .i64 105])).run Tryd.prog w = .ok true w := fun w => by kernel_rfl
        have fo1 : ∀ x0 x1 x2 x3 x4 w, (Instr.field 34 (.agg #[.int .i64 x0, .int .i64 x1, .int .i64 x2, .int .i64 x3, .bool x4]) 1).run Tryd.prog w = .ok (.agg #[.int .i64 x2, .int .i64 x3]) w := fun _ _ _ _ _ _ => by kernel_rfl
        have fo2 : ∀ x0 x1 x2 x3 x4 w, (Instr.field 34 (.agg #[.int .i64 x0, .int .i64 x1, .int .i64 x2, .int .i64 x3, .bool x4]) 2).run Tryd.prog w = .ok (.bool x4) w := fun _ _ _ _ _ _ => by kernel_rfl
        have fs1 : ∀ x0 x1 w, (Instr.field 32 (.agg #[.int .i64 x0, .int .i64 x1]) 1).run Tryd.prog w = .ok (.int .i64 x1) w := fun _ _ _ => by kernel_rfl
        obtain ⟨bs1, hbs⟩ : ∃ bs : List (Nat × List (Option Value)), bs = [(w.heap.size, (rc R).map some), (ga, [some (.int .i64 aL), some (.int .i64 aH)]), (gs, [some (.int .i64 sL), some (.int .i64 sH)]), (w4.heap.size, [some (.int .i64 100), some (.int .i64 101), some (.int .i64 105)]), (w4.heap.size + 1, [some (.bool true), some (.bool true), some (.bool true)]), (w6.heap.size, [some (.int .i64 0), some (.int .i64 0), some (.int .i64 0)]), (w6.heap.size + 1, [some (.bool false), some (.bool false), some (.bool false)])] := ⟨_, rfl⟩
        have hT := (HS13.out).cast hbs
        have c1_0 : ∀ w', Sp w bs1 w' → w'.cell? ⟨ga, 0, none⟩ = some (.int .i64 aL) := by rw [hbs]; exact fun w' h => h.at 1 rfl 0 rfl
        have c1_1 : ∀ w', Sp w bs1 w' → w'.cell? ⟨ga, 1, none⟩ = some (.int .i64 aH) := by rw [hbs]; exact fun w' h => h.at 1 rfl 1 rfl
        have c2_0 : ∀ w', Sp w bs1 w' → w'.cell? ⟨gs, 0, none⟩ = some (.int .i64 sL) := by rw [hbs]; exact fun w' h => h.at 2 rfl 0 rfl
        have c2_1 : ∀ w', Sp w bs1 w' → w'.cell? ⟨gs, 1, none⟩ = some (.int .i64 sH) := by rw [hbs]; exact fun w' h => h.at 2 rfl 1 rfl
        have c3_0 : ∀ w', Sp w bs1 w' → w'.cell? ⟨w4.heap.size, 0, none⟩ = some (.int .i64 100) := by rw [hbs]; exact fun w' h => h.at 3 rfl 0 rfl
        have c3_1 : ∀ w', Sp w bs1 w' → w'.cell? ⟨w4.heap.size, 1, none⟩ = some (.int .i64 101) := by rw [hbs]; exact fun w' h => h.at 3 rfl 1 rfl
        have c3_2 : ∀ w', Sp w bs1 w' → w'.cell? ⟨w4.heap.size, 2, none⟩ = some (.int .i64 105) := by rw [hbs]; exact fun w' h => h.at 3 rfl 2 rfl
        have c4_2 : ∀ w', Sp w bs1 w' → w'.cell? ⟨w4.heap.size + 1, 2, none⟩ = some (.bool true) := by rw [hbs]; exact fun w' h => h.at 4 rfl 2 rfl
        have c6_0 : ∀ w', Sp w bs1 w' → w'.cell? ⟨w6.heap.size + 1, 0, none⟩ = some (.bool false) := by rw [hbs]; exact fun w' h => h.at 6 rfl 0 rfl
        have RL0 : ∀ w', Sp w bs1 w' → w'.rangeAt (w.heap.size) 0 (ra R).toList := by rw [hbs]; exact fun w' h => h.range 0 (l := rc R) rfl
        have nx : ∀ w', Sp w bs1 w' → Sp w [(w.heap.size, (rc R).map some), (ga, [some (.int .i64 aL), some (.int .i64 aH)]), (gs, [some (.int .i64 sL), some (.int .i64 sH)]), (w4.heap.size, [some (.int .i64 100), some (.int .i64 101), some (.int .i64 105)]), (w4.heap.size + 1, [some (.bool true), some (.bool true), some (.bool true)]), (w6.heap.size, [some (.int .i64 0), some (.int .i64 0), some (.int .i64 0)]), (w6.heap.size + 1, [some (.bool false), some (.bool false), some (.bool false)])] w' := by rw [hbs]; exact fun w' h => h
        have kS : ∀ w1 w2, Sp w bs1 w1 → Below w1.heap.size w1 w2 → Sp w bs1 w2 := fun _ _ h hb => h.keep hb
        clear hbs HS13
        try simp only [List.append_eq, List.cons_append, List.nil_append]
        change (Code.region 11 aaw11 true).wp Tryd.prog _ _ _
        refine wp_region_noPanic ?_
        refine wp_region_held_drew (S := (Sp w bs1)) (by kernel_rfl) (hT.drew) (fun hHeld => ?_)
        refine wpAnyH_take (i := 0) (oi := ({ dst := some 36, op := .load 32 (.tmp 3), type := 32, pos := "law.go:24", after := #[], guard := none } : Oper)) (v := ?vs1_0) rfl aaw11_plain (by as_aux_lemma => kernel_rfl) (by as_aux_lemma => kernel_rfl) (fun _ _ _ h => h) (Or.inl ⟨by rfl, ?ys1_0⟩) (by assumption) ?rs1_0
        case ys1_0 => (intro w hSw; (try dsimp only at hSw); go_simp; try with_reducible rfl)
        try simp only [Act.put, List.setIfInBounds_toArray, List.set_cons_zero, List.set_cons_succ]
        refine wpAnyH_ready (rs := [1]) (by as_aux_lemma => kernel_rfl) (by simp) ?_
        refine AllReadyH.cons (o := ({ dst := some 37, op := .call { callee := .value (.func 11), args := #[.tmp 36, .const (.int .i64 1000)], argTypes := #[32, 2] }, type := 4, pos := "law.go:24", after := #[{ on := 0, ground := .data }], guard := none } : Oper)) rfl (fun KK hK => ?_) AllReadyH.nil
        rw [if_pos (by rfl)]
        go_simp
        go_at_call 11; refine (H1.out _).mono ?_; rintro e w8 ⟨rfl, hb8⟩
        go_wp2_with fail
        refine hK.out _ _ ?_ (fun hHeld8 => ?_)
        · exact kS _ _ (by assumption) hb8
        clear hK KK hb8
        try simp only [Act.put, List.setIfInBounds_toArray, List.set_cons_zero, List.set_cons_succ]
        refine wpAnyH_take (i := 2) (oi := ({ dst := some 38, op := .move (.tmp 37), type := 4, pos := "law.go:24", after := #[{ on := 1, ground := .data }, { on := 1, ground := .chain }], guard := none } : Oper)) (v := ?vs1_2) rfl aaw11_plain (by as_aux_lemma => kernel_rfl) (by as_aux_lemma => kernel_rfl) (fun _ _ _ h => h) (Or.inl ⟨by rfl, ?ys1_2⟩) (by assumption) ?rs1_2
        case ys1_2 => (intro w hSw; (try dsimp only at hSw); go_simp; try with_reducible rfl)
        try simp only [Act.put, List.setIfInBounds_toArray, List.set_cons_zero, List.set_cons_succ]
        refine wpAnyH_take (i := 3) (oi := ({ dst := some 39, op := .fieldAddr 32 (.tmp 3) 1, type := 0, pos := "law.go:24", after := #[{ on := 2, ground := .guard }], guard := some (2, true) } : Oper)) (v := ?vs1_3) rfl aaw11_plain (by as_aux_lemma => kernel_rfl) (by as_aux_lemma => kernel_rfl) (fun _ _ _ h => h) (Or.inl ⟨by rfl, ?ys1_3⟩) (by assumption) ?rs1_3
        case ys1_3 => (intro w hSw; (try dsimp only at hSw); go_simp; try with_reducible rfl)
        try simp only [Act.put, List.setIfInBounds_toArray, List.set_cons_zero, List.set_cons_succ]
        refine wpAnyH_take (i := 4) (oi := ({ dst := some 40, op := .load 2 (.tmp 39), type := 2, pos := "law.go:24", after := #[{ on := 3, ground := .data }, { on := 2, ground := .guard }], guard := some (2, true) } : Oper)) (v := ?vs1_4) rfl aaw11_plain (by as_aux_lemma => kernel_rfl) (by as_aux_lemma => kernel_rfl) (fun _ _ _ h => h) (Or.inl ⟨by rfl, ?ys1_4⟩) (by assumption) ?rs1_4
        case ys1_4 => (intro w hSw; (try dsimp only at hSw); go_simp; try with_reducible rfl)
        try simp only [Act.put, List.setIfInBounds_toArray, List.set_cons_zero, List.set_cons_succ]
        refine wpAnyH_take (i := 5) (oi := ({ dst := some 41, op := .fieldAddr 32 (.tmp 3) 0, type := 0, pos := "law.go:24", after := #[{ on := 2, ground := .guard }], guard := some (2, true) } : Oper)) (v := ?vs1_5) rfl aaw11_plain (by as_aux_lemma => kernel_rfl) (by as_aux_lemma => kernel_rfl) (fun _ _ _ h => h) (Or.inl ⟨by rfl, ?ys1_5⟩) (by assumption) ?rs1_5
        case ys1_5 => (intro w hSw; (try dsimp only at hSw); go_simp; try with_reducible rfl)
        try simp only [Act.put, List.setIfInBounds_toArray, List.set_cons_zero, List.set_cons_succ]
        refine wpAnyH_take (i := 6) (oi := ({ dst := some 42, op := .load 2 (.tmp 41), type := 2, pos := "law.go:24", after := #[{ on := 5, ground := .data }, { on := 2, ground := .guard }], guard := some (2, true) } : Oper)) (v := ?vs1_6) rfl aaw11_plain (by as_aux_lemma => kernel_rfl) (by as_aux_lemma => kernel_rfl) (fun _ _ _ h => h) (Or.inl ⟨by rfl, ?ys1_6⟩) (by assumption) ?rs1_6
        case ys1_6 => (intro w hSw; (try dsimp only at hSw); go_simp; try with_reducible rfl)
        try simp only [Act.put, List.setIfInBounds_toArray, List.set_cons_zero, List.set_cons_succ]
        refine wpAnyH_take (i := 7) (oi := ({ dst := some 43, op := .binOp .sub 2 (.tmp 40) (.tmp 42) 2, type := 2, pos := "law.go:24", after := #[{ on := 4, ground := .data }, { on := 6, ground := .data }, { on := 2, ground := .guard }], guard := some (2, true) } : Oper)) (v := ?vs1_7) rfl aaw11_plain (by as_aux_lemma => kernel_rfl) (by as_aux_lemma => kernel_rfl) (fun _ _ _ h => h) (Or.inl ⟨by rfl, ?ys1_7⟩) (by assumption) ?rs1_7
        case ys1_7 => (intro w hSw; (try dsimp only at hSw); go_simp; try with_reducible rfl)
        try simp only [Act.put, List.setIfInBounds_toArray, List.set_cons_zero, List.set_cons_succ]
        refine wpAnyH_take (i := 8) (oi := ({ dst := some 44, op := .binOp .lss 2 (.tmp 43) (.const (.int .i64 500)) 2, type := 4, pos := "law.go:24", after := #[{ on := 7, ground := .data }, { on := 2, ground := .guard }], guard := some (2, true) } : Oper)) (v := ?vs1_8) rfl aaw11_plain (by as_aux_lemma => kernel_rfl) (by as_aux_lemma => kernel_rfl) (fun _ _ _ h => h) (Or.inl ⟨by rfl, ?ys1_8⟩) (by assumption) ?rs1_8
        case ys1_8 => (intro w hSw; (try dsimp only at hSw); go_simp; try with_reducible rfl)
        try simp only [Act.put, List.setIfInBounds_toArray, List.set_cons_zero, List.set_cons_succ]
        refine wpAnyH_take (i := 9) (oi := ({ dst := some 45, op := .pick (.tmp 38) (.tmp 44) (.const (.bool false)), type := 4, pos := "law.go:24", after := #[{ on := 2, ground := .data }, { on := 8, ground := .data }], guard := none } : Oper)) (v := ?vs1_9) rfl aaw11_plain (by as_aux_lemma => kernel_rfl) (by as_aux_lemma => kernel_rfl) (fun _ _ _ h => h) (Or.inl ⟨by rfl, ?ys1_9⟩) (by assumption) ?rs1_9
        case ys1_9 => (intro w hSw; (try dsimp only at hSw); go_simp; try with_reducible rfl)
        try simp only [Act.put, List.setIfInBounds_toArray, List.set_cons_zero, List.set_cons_succ]
        refine wpAnyH_take (i := 10) (oi := ({ dst := some 46, op := .move (.tmp 45), type := 4, pos := "law.go:24", after := #[{ on := 9, ground := .data }, { on := 2, ground := .chain }], guard := none } : Oper)) (v := ?vs1_10) rfl aaw11_plain (by as_aux_lemma => kernel_rfl) (by as_aux_lemma => kernel_rfl) (fun _ _ _ h => h) (Or.inl ⟨by rfl, ?ys1_10⟩) (by assumption) ?rs1_10
        case ys1_10 => (intro w hSw; (try dsimp only at hSw); go_simp; try with_reducible rfl)
        try simp only [Act.put, List.setIfInBounds_toArray, List.set_cons_zero, List.set_cons_succ]
        refine wpAnyH_take (i := 11) (oi := ({ dst := some 47, op := .load 32 (.tmp 4), type := 32, pos := "law.go:24", after := #[{ on := 10, ground := .guard }], guard := some (10, true) } : Oper)) (v := ?vs1_11) rfl aaw11_plain (by as_aux_lemma => kernel_rfl) (by as_aux_lemma => kernel_rfl) (fun _ _ _ h => h) (Or.inl ⟨by rfl, ?ys1_11⟩) (by assumption) ?rs1_11
        case ys1_11 => (intro w hSw; (try dsimp only at hSw); go_simp; try with_reducible rfl)
        try simp only [Act.put, List.setIfInBounds_toArray, List.set_cons_zero, List.set_cons_succ]
        refine wpAnyH_ready (rs := [12]) (by as_aux_lemma => kernel_rfl) (by simp) ?_
        refine AllReadyH.cons (o := ({ dst := some 48, op := .call { callee := .value (.func 11), args := #[.tmp 47, .const (.int .i64 100)], argTypes := #[32, 2] }, type := 4, pos := "law.go:24", after := #[{ on := 11, ground := .data }, { on := 10, ground := .chain }, { on := 10, ground := .guard }], guard := some (10, true) } : Oper)) rfl (fun KK hK => ?_) AllReadyH.nil
        rw [if_pos (by rfl)]
        go_simp
        go_at_call 11; refine (H2.out _).mono ?_; rintro e w9 ⟨rfl, hb9⟩
        go_wp2_with fail
        refine hK.out _ _ ?_ (fun hHeld9 => ?_)
        · exact kS _ _ (by assumption) hb9
        clear hK KK hb9 hHeld8
        try simp only [Act.put, List.setIfInBounds_toArray, List.set_cons_zero, List.set_cons_succ]
        refine wpAnyH_take (i := 13) (oi := ({ dst := some 49, op := .pick (.tmp 46) (.tmp 48) (.const (.bool false)), type := 4, pos := "law.go:24", after := #[{ on := 10, ground := .data }, { on := 12, ground := .data }], guard := none } : Oper)) (v := ?vs1_13) rfl aaw11_plain (by as_aux_lemma => kernel_rfl) (by as_aux_lemma => kernel_rfl) (fun _ _ _ h => h) (Or.inl ⟨by rfl, ?ys1_13⟩) (by assumption) ?rs1_13
        case ys1_13 => (intro w hSw; (try dsimp only at hSw); go_simp; try with_reducible rfl)
        try simp only [Act.put, List.setIfInBounds_toArray, List.set_cons_zero, List.set_cons_succ]
        refine wpAnyH_take (i := 14) (oi := ({ dst := some 50, op := .move (.tmp 49), type := 4, pos := "law.go:24", after := #[{ on := 13, ground := .data }, { on := 12, ground := .chain }], guard := none } : Oper)) (v := ?vs1_14) rfl aaw11_plain (by as_aux_lemma => kernel_rfl) (by as_aux_lemma => kernel_rfl) (fun _ _ _ h => h) (Or.inl ⟨by rfl, ?ys1_14⟩) (by assumption) ?rs1_14
        case ys1_14 => (intro w hSw; (try dsimp only at hSw); go_simp; try with_reducible rfl)
        try simp only [Act.put, List.setIfInBounds_toArray, List.set_cons_zero, List.set_cons_succ]
        refine wpAnyH_take (i := 15) (oi := ({ dst := some 51, op := .fieldAddr 32 (.tmp 4) 1, type := 0, pos := "law.go:24", after := #[{ on := 14, ground := .guard }], guard := some (14, true) } : Oper)) (v := ?vs1_15) rfl aaw11_plain (by as_aux_lemma => kernel_rfl) (by as_aux_lemma => kernel_rfl) (fun _ _ _ h => h) (Or.inl ⟨by rfl, ?ys1_15⟩) (by assumption) ?rs1_15
        case ys1_15 => (intro w hSw; (try dsimp only at hSw); go_simp; try with_reducible rfl)
        try simp only [Act.put, List.setIfInBounds_toArray, List.set_cons_zero, List.set_cons_succ]
        refine wpAnyH_take (i := 16) (oi := ({ dst := some 52, op := .load 2 (.tmp 51), type := 2, pos := "law.go:24", after := #[{ on := 15, ground := .data }, { on := 14, ground := .guard }], guard := some (14, true) } : Oper)) (v := ?vs1_16) rfl aaw11_plain (by as_aux_lemma => kernel_rfl) (by as_aux_lemma => kernel_rfl) (fun _ _ _ h => h) (Or.inl ⟨by rfl, ?ys1_16⟩) (by assumption) ?rs1_16
        case ys1_16 => (intro w hSw; (try dsimp only at hSw); go_simp; try with_reducible rfl)
        try simp only [Act.put, List.setIfInBounds_toArray, List.set_cons_zero, List.set_cons_succ]
        refine wpAnyH_take (i := 17) (oi := ({ dst := some 53, op := .fieldAddr 32 (.tmp 4) 0, type := 0, pos := "law.go:24", after := #[{ on := 14, ground := .guard }], guard := some (14, true) } : Oper)) (v := ?vs1_17) rfl aaw11_plain (by as_aux_lemma => kernel_rfl) (by as_aux_lemma => kernel_rfl) (fun _ _ _ h => h) (Or.inl ⟨by rfl, ?ys1_17⟩) (by assumption) ?rs1_17
        case ys1_17 => (intro w hSw; (try dsimp only at hSw); go_simp; try with_reducible rfl)
        try simp only [Act.put, List.setIfInBounds_toArray, List.set_cons_zero, List.set_cons_succ]
        refine wpAnyH_take (i := 18) (oi := ({ dst := some 54, op := .load 2 (.tmp 53), type := 2, pos := "law.go:24", after := #[{ on := 17, ground := .data }, { on := 14, ground := .guard }], guard := some (14, true) } : Oper)) (v := ?vs1_18) rfl aaw11_plain (by as_aux_lemma => kernel_rfl) (by as_aux_lemma => kernel_rfl) (fun _ _ _ h => h) (Or.inl ⟨by rfl, ?ys1_18⟩) (by assumption) ?rs1_18
        case ys1_18 => (intro w hSw; (try dsimp only at hSw); go_simp; try with_reducible rfl)
        try simp only [Act.put, List.setIfInBounds_toArray, List.set_cons_zero, List.set_cons_succ]
        refine wpAnyH_take (i := 19) (oi := ({ dst := some 55, op := .binOp .sub 2 (.tmp 52) (.tmp 54) 2, type := 2, pos := "law.go:24", after := #[{ on := 16, ground := .data }, { on := 18, ground := .data }, { on := 14, ground := .guard }], guard := some (14, true) } : Oper)) (v := ?vs1_19) rfl aaw11_plain (by as_aux_lemma => kernel_rfl) (by as_aux_lemma => kernel_rfl) (fun _ _ _ h => h) (Or.inl ⟨by rfl, ?ys1_19⟩) (by assumption) ?rs1_19
        case ys1_19 => (intro w hSw; (try dsimp only at hSw); go_simp; try with_reducible rfl)
        try simp only [Act.put, List.setIfInBounds_toArray, List.set_cons_zero, List.set_cons_succ]
        refine wpAnyH_take (i := 20) (oi := ({ dst := some 56, op := .binOp .lss 2 (.tmp 55) (.const (.int .i64 30)) 2, type := 4, pos := "law.go:24", after := #[{ on := 19, ground := .data }, { on := 14, ground := .guard }], guard := some (14, true) } : Oper)) (v := ?vs1_20) rfl aaw11_plain (by as_aux_lemma => kernel_rfl) (by as_aux_lemma => kernel_rfl) (fun _ _ _ h => h) (Or.inl ⟨by rfl, ?ys1_20⟩) (by assumption) ?rs1_20
        case ys1_20 => (intro w hSw; (try dsimp only at hSw); go_simp; try with_reducible rfl)
        try simp only [Act.put, List.setIfInBounds_toArray, List.set_cons_zero, List.set_cons_succ]
        refine wpAnyH_take (i := 21) (oi := ({ dst := some 57, op := .pick (.tmp 50) (.tmp 56) (.const (.bool false)), type := 4, pos := "law.go:24", after := #[{ on := 14, ground := .data }, { on := 20, ground := .data }], guard := none } : Oper)) (v := ?vs1_21) rfl aaw11_plain (by as_aux_lemma => kernel_rfl) (by as_aux_lemma => kernel_rfl) (fun _ _ _ h => h) (Or.inl ⟨by rfl, ?ys1_21⟩) (by assumption) ?rs1_21
        case ys1_21 => (intro w hSw; (try dsimp only at hSw); go_simp; try with_reducible rfl)
        try simp only [Act.put, List.setIfInBounds_toArray, List.set_cons_zero, List.set_cons_succ]
        refine wpAnyH_take (i := 22) (oi := ({ dst := some 58, op := .move (.tmp 57), type := 4, pos := "law.go:24", after := #[{ on := 21, ground := .data }, { on := 14, ground := .chain }], guard := none } : Oper)) (v := ?vs1_22) rfl aaw11_plain (by as_aux_lemma => kernel_rfl) (by as_aux_lemma => kernel_rfl) (fun _ _ _ h => h) (Or.inl ⟨by rfl, ?ys1_22⟩) (by assumption) ?rs1_22
        case ys1_22 => (intro w hSw; (try dsimp only at hSw); go_simp; try with_reducible rfl)
        try simp only [Act.put, List.setIfInBounds_toArray, List.set_cons_zero, List.set_cons_succ]
        refine wpAnyH_take (i := 23) (oi := ({ dst := some 59, op := .load 22 (.tmp 5), type := 22, pos := "law.go:24", after := #[{ on := 22, ground := .guard }], guard := some (22, true) } : Oper)) (v := ?vs1_23) rfl aaw11_plain (by as_aux_lemma => kernel_rfl) (by as_aux_lemma => kernel_rfl) (fun _ _ _ h => h) (Or.inl ⟨by rfl, ?ys1_23⟩) (by assumption) ?rs1_23
        case ys1_23 => (intro w hSw; (try dsimp only at hSw); go_simp; try with_reducible rfl)
        try simp only [Act.put, List.setIfInBounds_toArray, List.set_cons_zero, List.set_cons_succ]
        refine wpAnyH_take (i := 24) (oi := ({ dst := some 60, op := .build 22 #[(0, .const (.int .i64 100)), (1, .const (.int .i64 101)), (2, .const (.int .i64 105))], type := 22, pos := "law.go:24", after := #[{ on := 22, ground := .guard }], guard := some (22, true) } : Oper)) (v := ?vs1_24) rfl aaw11_plain (by as_aux_lemma => kernel_rfl) (by as_aux_lemma => kernel_rfl) (fun _ _ _ h => h) (Or.inl ⟨by rfl, ?ys1_24⟩) (by assumption) ?rs1_24
        case ys1_24 => (intro w hSw; (try dsimp only at hSw); go_simp; try with_reducible rfl)
        try simp only [Act.put, List.setIfInBounds_toArray, List.set_cons_zero, List.set_cons_succ]
        refine wpAnyH_take (i := 25) (oi := ({ dst := some 61, op := .binOp .eql 22 (.tmp 59) (.tmp 60) 22, type := 4, pos := "law.go:24", after := #[{ on := 23, ground := .data }, { on := 24, ground := .data }, { on := 22, ground := .guard }], guard := some (22, true) } : Oper)) (v := ?vs1_25) rfl aaw11_plain (by as_aux_lemma => kernel_rfl) (by as_aux_lemma => kernel_rfl) (fun _ _ _ h => h) (Or.inl ⟨by rfl, ?ys1_25⟩) (by assumption) ?rs1_25
        case ys1_25 => (intro w hSw; (try dsimp only at hSw); go_simp; try with_reducible rfl)
        try simp only [Act.put, List.setIfInBounds_toArray, List.set_cons_zero, List.set_cons_succ]
        refine wpAnyH_take (i := 26) (oi := ({ dst := some 62, op := .pick (.tmp 58) (.tmp 61) (.const (.bool false)), type := 4, pos := "law.go:24", after := #[{ on := 22, ground := .data }, { on := 25, ground := .data }], guard := none } : Oper)) (v := ?vs1_26) rfl aaw11_plain (by as_aux_lemma => kernel_rfl) (by as_aux_lemma => kernel_rfl) (fun _ _ _ h => h) (Or.inl ⟨by rfl, ?ys1_26⟩) (by assumption) ?rs1_26
        case ys1_26 => (intro w hSw; (try dsimp only at hSw); go_simp; try with_reducible rfl)
        try simp only [Act.put, List.setIfInBounds_toArray, List.set_cons_zero, List.set_cons_succ]
        refine wpAnyH_take (i := 27) (oi := ({ dst := some 63, op := .move (.tmp 62), type := 4, pos := "law.go:24", after := #[{ on := 26, ground := .data }, { on := 22, ground := .chain }], guard := none } : Oper)) (v := ?vs1_27) rfl aaw11_plain (by as_aux_lemma => kernel_rfl) (by as_aux_lemma => kernel_rfl) (fun _ _ _ h => h) (Or.inl ⟨by rfl, ?ys1_27⟩) (by assumption) ?rs1_27
        case ys1_27 => (intro w hSw; (try dsimp only at hSw); go_simp; try with_reducible rfl)
        try simp only [Act.put, List.setIfInBounds_toArray, List.set_cons_zero, List.set_cons_succ]
        refine wpAnyH_take (i := 28) (oi := ({ dst := some 64, op := .indexAddr 23 (.tmp 6) (.const (.int .i64 2)), type := 0, pos := "law.go:24", after := #[{ on := 27, ground := .guard }], guard := some (27, true) } : Oper)) (v := ?vs1_28) rfl aaw11_plain (by as_aux_lemma => kernel_rfl) (by as_aux_lemma => kernel_rfl) (fun _ _ _ h => h) (Or.inl ⟨by rfl, ?ys1_28⟩) (by assumption) ?rs1_28
        case ys1_28 => (intro w hSw; (try dsimp only at hSw); go_simp; try with_reducible rfl)
        try simp only [Act.put, List.setIfInBounds_toArray, List.set_cons_zero, List.set_cons_succ]
        refine wpAnyH_take (i := 29) (oi := ({ dst := some 65, op := .load 4 (.tmp 64), type := 4, pos := "law.go:24", after := #[{ on := 28, ground := .data }, { on := 27, ground := .guard }], guard := some (27, true) } : Oper)) (v := ?vs1_29) rfl aaw11_plain (by as_aux_lemma => kernel_rfl) (by as_aux_lemma => kernel_rfl) (fun _ _ _ h => h) (Or.inl ⟨by rfl, ?ys1_29⟩) (by assumption) ?rs1_29
        case ys1_29 => (intro w hSw; (try dsimp only at hSw); go_simp; try with_reducible rfl)
        try simp only [Act.put, List.setIfInBounds_toArray, List.set_cons_zero, List.set_cons_succ]
        refine wpAnyH_take (i := 30) (oi := ({ dst := some 66, op := .pick (.tmp 63) (.tmp 65) (.const (.bool false)), type := 4, pos := "law.go:24", after := #[{ on := 27, ground := .data }, { on := 29, ground := .data }], guard := none } : Oper)) (v := ?vs1_30) rfl aaw11_plain (by as_aux_lemma => kernel_rfl) (by as_aux_lemma => kernel_rfl) (fun _ _ _ h => h) (Or.inl ⟨by rfl, ?ys1_30⟩) (by assumption) ?rs1_30
        case ys1_30 => (intro w hSw; (try dsimp only at hSw); go_simp; try with_reducible rfl)
        try simp only [Act.put, List.setIfInBounds_toArray, List.set_cons_zero, List.set_cons_succ]
        refine wpAnyH_take (i := 31) (oi := ({ dst := some 67, op := .move (.tmp 66), type := 4, pos := "law.go:24", after := #[{ on := 30, ground := .data }, { on := 27, ground := .chain }], guard := none } : Oper)) (v := ?vs1_31) rfl aaw11_plain (by as_aux_lemma => kernel_rfl) (by as_aux_lemma => kernel_rfl) (fun _ _ _ h => h) (Or.inl ⟨by rfl, ?ys1_31⟩) (by assumption) ?rs1_31
        case ys1_31 => (intro w hSw; (try dsimp only at hSw); go_simp; try with_reducible rfl)
        try simp only [Act.put, List.setIfInBounds_toArray, List.set_cons_zero, List.set_cons_succ]
        refine wpAnyH_take (i := 32) (oi := ({ dst := some 68, op := .indexAddr 23 (.tmp 8) (.const (.int .i64 0)), type := 0, pos := "law.go:24", after := #[{ on := 31, ground := .guard }], guard := some (31, true) } : Oper)) (v := ?vs1_32) rfl aaw11_plain (by as_aux_lemma => kernel_rfl) (by as_aux_lemma => kernel_rfl) (fun _ _ _ h => h) (Or.inl ⟨by rfl, ?ys1_32⟩) (by assumption) ?rs1_32
        case ys1_32 => (intro w hSw; (try dsimp only at hSw); go_simp; try with_reducible rfl)
        try simp only [Act.put, List.setIfInBounds_toArray, List.set_cons_zero, List.set_cons_succ]
        refine wpAnyH_take (i := 33) (oi := ({ dst := some 69, op := .load 4 (.tmp 68), type := 4, pos := "law.go:24", after := #[{ on := 32, ground := .data }, { on := 31, ground := .guard }], guard := some (31, true) } : Oper)) (v := ?vs1_33) rfl aaw11_plain (by as_aux_lemma => kernel_rfl) (by as_aux_lemma => kernel_rfl) (fun _ _ _ h => h) (Or.inl ⟨by rfl, ?ys1_33⟩) (by assumption) ?rs1_33
        case ys1_33 => (intro w hSw; (try dsimp only at hSw); go_simp; try with_reducible rfl)
        try simp only [Act.put, List.setIfInBounds_toArray, List.set_cons_zero, List.set_cons_succ]
        refine wpAnyH_take (i := 34) (oi := ({ dst := some 70, op := .unOp .not 4 (.tmp 69), type := 4, pos := "law.go:24", after := #[{ on := 33, ground := .data }, { on := 31, ground := .guard }], guard := some (31, true) } : Oper)) (v := ?vs1_34) rfl aaw11_plain (by as_aux_lemma => kernel_rfl) (by as_aux_lemma => kernel_rfl) (fun _ _ _ h => h) (Or.inl ⟨by rfl, ?ys1_34⟩) (by assumption) ?rs1_34
        case ys1_34 => (intro w hSw; (try dsimp only at hSw); go_simp; try with_reducible rfl)
        try simp only [Act.put, List.setIfInBounds_toArray, List.set_cons_zero, List.set_cons_succ]
        refine wpAnyH_take (i := 35) (oi := ({ dst := some 71, op := .pick (.tmp 67) (.tmp 70) (.const (.bool false)), type := 4, pos := "law.go:24", after := #[{ on := 31, ground := .data }, { on := 34, ground := .data }], guard := none } : Oper)) (v := ?vs1_35) rfl aaw11_plain (by as_aux_lemma => kernel_rfl) (by as_aux_lemma => kernel_rfl) (fun _ _ _ h => h) (Or.inl ⟨by rfl, ?ys1_35⟩) (by assumption) ?rs1_35
        case ys1_35 => (intro w hSw; (try dsimp only at hSw); go_simp; try with_reducible rfl)
        try simp only [Act.put, List.setIfInBounds_toArray, List.set_cons_zero, List.set_cons_succ]
        refine wpAnyH_take (i := 36) (oi := ({ dst := some 72, op := .move (.tmp 71), type := 4, pos := "law.go:24", after := #[{ on := 35, ground := .data }, { on := 31, ground := .chain }], guard := none } : Oper)) (v := ?vs1_36) rfl aaw11_plain (by as_aux_lemma => kernel_rfl) (by as_aux_lemma => kernel_rfl) (fun _ _ _ h => h) (Or.inl ⟨by rfl, ?ys1_36⟩) (by assumption) ?rs1_36
        case ys1_36 => (intro w hSw; (try dsimp only at hSw); go_simp; try with_reducible rfl)
        try simp only [Act.put, List.setIfInBounds_toArray, List.set_cons_zero, List.set_cons_succ]
        refine wpAnyH_take (i := 41) (oi := ({ dst := some 77, op := .load 55 (.tmp 1), type := 55, pos := "law.go:24", after := #[{ on := 36, ground := .guard }], guard := some (36, true) } : Oper)) rfl aaw11_plain (by as_aux_lemma => kernel_rfl) (by as_aux_lemma => kernel_rfl) (fun _ _ _ h => h) (yields_load (by rfl) 55 _ rfl _ _ rfl _ _ RL0 Tryd.underlying55 rfl hir) (by assumption) ?_
        try simp only [Act.put, List.setIfInBounds_toArray, List.set_cons_zero, List.set_cons_succ]
        refine wpAnyH_ready (rs := [37]) (by as_aux_lemma => kernel_rfl) (by simp) ?_
        refine AllReadyH.cons (o := ({ dst := some 73, op := .call { callee := .value (.func 17), args := #[], argTypes := #[] }, type := 61, pos := "law.go:24", after := #[{ on := 36, ground := .chain }, { on := 36, ground := .guard }], guard := some (36, true) } : Oper)) rfl (fun KK hK => ?_) AllReadyH.nil
        rw [if_pos (by rfl)]
        go_simp
        go_at_call 17; refine (US.out _ (Sp.below (by assumption))).mono ?_; rintro e w10 ⟨rfl, hb10⟩
        go_wp2_with fail
        refine hK.out _ _ ?_ (fun hHeld10 => ?_)
        · exact kS _ _ (by assumption) hb10
        clear hK KK hb10 hHeld9
        try simp only [Act.put, List.setIfInBounds_toArray, List.set_cons_zero, List.set_cons_succ]
        refine wpAnyH_ready (rs := [38]) (by as_aux_lemma => kernel_rfl) (by simp) ?_
        refine AllReadyH.cons (o := ({ dst := some 74, op := .call { callee := .value (.func 17), args := #[], argTypes := #[] }, type := 61, pos := "law.go:24", after := #[{ on := 37, ground := .chain }, { on := 36, ground := .guard }], guard := some (36, true) } : Oper)) rfl (fun KK hK => ?_) AllReadyH.nil
        rw [if_pos (by rfl)]
        go_simp
        go_at_call 17; refine (US.out _ (Sp.below (by assumption))).mono ?_; rintro e w11 ⟨rfl, hb11⟩
        go_wp2_with fail
        refine hK.out _ _ ?_ (fun hHeld11 => ?_)
        · exact kS _ _ (by assumption) hb11
        clear hK KK hb11 hHeld10
        try simp only [Act.put, List.setIfInBounds_toArray, List.set_cons_zero, List.set_cons_succ]
        refine wpAnyH_take (i := 39) (oi := ({ dst := some 75, op := .field 61 (.tmp 74) 8, type := 25, pos := "law.go:24", after := #[{ on := 38, ground := .data }, { on := 36, ground := .guard }], guard := some (36, true) } : Oper)) (v := ?vs1_39) rfl aaw11_plain (by as_aux_lemma => kernel_rfl) (by as_aux_lemma => kernel_rfl) (fun _ _ _ h => h) (Or.inl ⟨by rfl, ?ys1_39⟩) (by assumption) ?rs1_39
        case ys1_39 => (intro w hSw; (try dsimp only at hSw); go_simp; try with_reducible rfl)
        try simp only [Act.put, List.setIfInBounds_toArray, List.set_cons_zero, List.set_cons_succ]
        refine wpAnyH_ready (rs := [40]) (by as_aux_lemma => kernel_rfl) (by simp) ?_
        refine AllReadyH.cons (o := ({ dst := some 76, op := .call { callee := .value (.func 7), args := #[.tmp 75], argTypes := #[25] }, type := 35, pos := "law.go:24", after := #[{ on := 39, ground := .data }, { on := 38, ground := .chain }, { on := 36, ground := .guard }], guard := some (36, true) } : Oper)) rfl (fun KK hK => ?_) AllReadyH.nil
        rw [if_pos (by rfl)]
        go_simp
        go_at_call 7; refine (S1.out _ (Sp.below (by assumption))).mono ?_; rintro e w12 ⟨rfl, hb12⟩
        go_wp2_with fail
        refine hK.out _ _ ?_ (fun hHeld12 => ?_)
        · exact kS _ _ (by assumption) hb12
        clear hK KK hb12 hHeld11
        try simp only [Act.put, List.setIfInBounds_toArray, List.set_cons_zero, List.set_cons_succ]
        refine wpAnyH_ready (rs := [42]) (by as_aux_lemma => kernel_rfl) (by simp) ?_
        refine AllReadyH.cons (o := ({ dst := some 78, op := .call { callee := .value (.func 19), args := #[.tmp 73, .tmp 76, .tmp 77], argTypes := #[61, 35, 55] }, type := 35, pos := "law.go:24", after := #[{ on := 37, ground := .data }, { on := 40, ground := .data }, { on := 41, ground := .data }, { on := 40, ground := .chain }, { on := 36, ground := .guard }], guard := some (36, true) } : Oper)) rfl (fun KK hK => ?_) AllReadyH.nil
        rw [if_pos (by rfl)]
        go_simp
        go_at_call 19; refine (AL.out _ (Sp.below (by assumption))).mono ?_; rintro e w13 ⟨rfl, hb13⟩
        go_wp2_with fail
        refine hK.out _ _ ?_ (fun hHeld13 => ?_)
        · exact kS _ _ (by assumption) hb13
        clear hK KK hb13 hHeld12
        try simp only [Act.put, List.setIfInBounds_toArray, List.set_cons_zero, List.set_cons_succ]
        refine wpAnyH_take (i := 43) (oi := ({ dst := some 79, op := .index 35 (.tmp 78) (.const (.int .i64 0)), type := 34, pos := "law.go:24", after := #[{ on := 42, ground := .data }, { on := 36, ground := .guard }], guard := some (36, true) } : Oper)) (v := ?vs1_43) rfl aaw11_plain (by as_aux_lemma => kernel_rfl) (by as_aux_lemma => kernel_rfl) (fun _ _ _ h => h) (Or.inl ⟨by rfl, ?ys1_43⟩) (by assumption) ?rs1_43
        case ys1_43 => (intro w hSw; (try dsimp only at hSw); go_simp; try with_reducible rfl)
        try simp only [Act.put, List.setIfInBounds_toArray, List.set_cons_zero, List.set_cons_succ]
        refine wpAnyH_take (i := 44) (oi := ({ dst := some 80, op := .field 34 (.tmp 79) 1, type := 32, pos := "law.go:24", after := #[{ on := 43, ground := .data }, { on := 36, ground := .guard }], guard := some (36, true) } : Oper)) (v := ?vs1_44) rfl aaw11_plain (by as_aux_lemma => kernel_rfl) (by as_aux_lemma => kernel_rfl) (fun _ _ _ h => h) (Or.inl ⟨by rfl, ?ys1_44⟩) (by assumption) ?rs1_44
        case ys1_44 => (intro w hSw; (try dsimp only at hSw); go_simp; try with_reducible rfl)
        try simp only [Act.put, List.setIfInBounds_toArray, List.set_cons_zero, List.set_cons_succ]
        refine wpAnyH_take (i := 45) (oi := ({ dst := some 81, op := .field 32 (.tmp 80) 1, type := 2, pos := "law.go:24", after := #[{ on := 44, ground := .data }, { on := 36, ground := .guard }], guard := some (36, true) } : Oper)) (v := ?vs1_45) rfl aaw11_plain (by as_aux_lemma => kernel_rfl) (by as_aux_lemma => kernel_rfl) (fun _ _ _ h => h) (Or.inl ⟨by rfl, ?ys1_45⟩) (by assumption) ?rs1_45
        case ys1_45 => (intro w hSw; (try dsimp only at hSw); go_simp; try with_reducible rfl)
        try simp only [Act.put, List.setIfInBounds_toArray, List.set_cons_zero, List.set_cons_succ]
        refine wpAnyH_take (i := 46) (oi := ({ dst := some 82, op := .binOp .lss 2 (.tmp 81) (.const (.int .i64 50)) 2, type := 4, pos := "law.go:24", after := #[{ on := 45, ground := .data }, { on := 36, ground := .guard }], guard := some (36, true) } : Oper)) (v := ?vs1_46) rfl aaw11_plain (by as_aux_lemma => kernel_rfl) (by as_aux_lemma => kernel_rfl) (fun _ _ _ h => h) (Or.inl ⟨by rfl, ?ys1_46⟩) (by assumption) ?rs1_46
        case ys1_46 => (intro w hSw; (try dsimp only at hSw); go_simp; try with_reducible rfl)
        try simp only [Act.put, List.setIfInBounds_toArray, List.set_cons_zero, List.set_cons_succ]
        refine wpAnyH_take (i := 47) (oi := ({ dst := some 83, op := .pick (.tmp 72) (.tmp 82) (.const (.bool false)), type := 4, pos := "law.go:24", after := #[{ on := 36, ground := .data }, { on := 46, ground := .data }], guard := none } : Oper)) (v := ?vs1_47) rfl aaw11_plain (by as_aux_lemma => kernel_rfl) (by as_aux_lemma => kernel_rfl) (fun _ _ _ h => h) (Or.inl ⟨by rfl, ?ys1_47⟩) (by assumption) ?rs1_47
        case ys1_47 => (intro w hSw; (try dsimp only at hSw); go_simp; try with_reducible rfl)
        try simp only [Act.put, List.setIfInBounds_toArray, List.set_cons_zero, List.set_cons_succ]
        refine wpAnyH_take (i := 48) (oi := ({ dst := some 84, op := .move (.tmp 83), type := 4, pos := "law.go:24", after := #[{ on := 47, ground := .data }, { on := 42, ground := .chain }], guard := none } : Oper)) (v := ?vs1_48) rfl aaw11_plain (by as_aux_lemma => kernel_rfl) (by as_aux_lemma => kernel_rfl) (fun _ _ _ h => h) (Or.inl ⟨by rfl, ?ys1_48⟩) (by assumption) ?rs1_48
        case ys1_48 => (intro w hSw; (try dsimp only at hSw); go_simp; try with_reducible rfl)
        try simp only [Act.put, List.setIfInBounds_toArray, List.set_cons_zero, List.set_cons_succ]
        refine wpAnyH_take (i := 53) (oi := ({ dst := some 89, op := .load 55 (.tmp 1), type := 55, pos := "law.go:24", after := #[{ on := 48, ground := .guard }], guard := some (48, true) } : Oper)) rfl aaw11_plain (by as_aux_lemma => kernel_rfl) (by as_aux_lemma => kernel_rfl) (fun _ _ _ h => h) (yields_load (by rfl) 55 _ rfl _ _ rfl _ _ RL0 Tryd.underlying55 rfl hir) (by assumption) ?_
        try simp only [Act.put, List.setIfInBounds_toArray, List.set_cons_zero, List.set_cons_succ]
        refine wpAnyH_ready (rs := [49]) (by as_aux_lemma => kernel_rfl) (by simp) ?_
        refine AllReadyH.cons (o := ({ dst := some 85, op := .call { callee := .value (.func 17), args := #[], argTypes := #[] }, type := 61, pos := "law.go:24", after := #[{ on := 48, ground := .chain }, { on := 48, ground := .guard }], guard := some (48, true) } : Oper)) rfl (fun KK hK => ?_) AllReadyH.nil
        rw [if_pos (by rfl)]
        go_simp
        go_at_call 17; refine (US.out _ (Sp.below (by assumption))).mono ?_; rintro e w14 ⟨rfl, hb14⟩
        go_wp2_with fail
        refine hK.out _ _ ?_ (fun hHeld14 => ?_)
        · exact kS _ _ (by assumption) hb14
        clear hK KK hb14 hHeld13
        try simp only [Act.put, List.setIfInBounds_toArray, List.set_cons_zero, List.set_cons_succ]
        refine wpAnyH_ready (rs := [50]) (by as_aux_lemma => kernel_rfl) (by simp) ?_
        refine AllReadyH.cons (o := ({ dst := some 86, op := .call { callee := .value (.func 17), args := #[], argTypes := #[] }, type := 61, pos := "law.go:24", after := #[{ on := 49, ground := .chain }, { on := 48, ground := .guard }], guard := some (48, true) } : Oper)) rfl (fun KK hK => ?_) AllReadyH.nil
        rw [if_pos (by rfl)]
        go_simp
        go_at_call 17; refine (US.out _ (Sp.below (by assumption))).mono ?_; rintro e w15 ⟨rfl, hb15⟩
        go_wp2_with fail
        refine hK.out _ _ ?_ (fun hHeld15 => ?_)
        · exact kS _ _ (by assumption) hb15
        clear hK KK hb15 hHeld14
        try simp only [Act.put, List.setIfInBounds_toArray, List.set_cons_zero, List.set_cons_succ]
        refine wpAnyH_take (i := 51) (oi := ({ dst := some 87, op := .field 61 (.tmp 86) 9, type := 25, pos := "law.go:24", after := #[{ on := 50, ground := .data }, { on := 48, ground := .guard }], guard := some (48, true) } : Oper)) (v := ?vs1_51) rfl aaw11_plain (by as_aux_lemma => kernel_rfl) (by as_aux_lemma => kernel_rfl) (fun _ _ _ h => h) (Or.inl ⟨by rfl, ?ys1_51⟩) (by assumption) ?rs1_51
        case ys1_51 => (intro w hSw; (try dsimp only at hSw); go_simp; try with_reducible rfl)
        try simp only [Act.put, List.setIfInBounds_toArray, List.set_cons_zero, List.set_cons_succ]
        refine wpAnyH_ready (rs := [52]) (by as_aux_lemma => kernel_rfl) (by simp) ?_
        refine AllReadyH.cons (o := ({ dst := some 88, op := .call { callee := .value (.func 7), args := #[.tmp 87], argTypes := #[25] }, type := 35, pos := "law.go:24", after := #[{ on := 51, ground := .data }, { on := 50, ground := .chain }, { on := 48, ground := .guard }], guard := some (48, true) } : Oper)) rfl (fun KK hK => ?_) AllReadyH.nil
        rw [if_pos (by rfl)]
        go_simp
        go_at_call 7; refine (S2.out _ (Sp.below (by assumption))).mono ?_; rintro e w16 ⟨rfl, hb16⟩
        go_wp2_with fail
        refine hK.out _ _ ?_ (fun hHeld16 => ?_)
        · exact kS _ _ (by assumption) hb16
        clear hK KK hb16 hHeld15
        try simp only [Act.put, List.setIfInBounds_toArray, List.set_cons_zero, List.set_cons_succ]
        refine wpAnyH_ready (rs := [54]) (by as_aux_lemma => kernel_rfl) (by simp) ?_
        refine AllReadyH.cons (o := ({ dst := some 90, op := .call { callee := .value (.func 20), args := #[.tmp 85, .tmp 88, .tmp 89], argTypes := #[61, 35, 55] }, type := 35, pos := "law.go:24", after := #[{ on := 49, ground := .data }, { on := 52, ground := .data }, { on := 53, ground := .data }, { on := 52, ground := .chain }, { on := 48, ground := .guard }], guard := some (48, true) } : Oper)) rfl (fun KK hK => ?_) AllReadyH.nil
        rw [if_pos (by rfl)]
        go_simp
        go_at_call 20; refine (SP.out _ (Sp.below (by assumption))).mono ?_; rintro e w17 ⟨rfl, hb17⟩
        go_wp2_with fail
        refine hK.out _ _ ?_ (fun hHeld17 => ?_)
        · exact kS _ _ (by assumption) hb17
        clear hK KK hb17 hHeld16
        try simp only [Act.put, List.setIfInBounds_toArray, List.set_cons_zero, List.set_cons_succ]
        refine wpAnyH_take (i := 55) (oi := ({ dst := some 91, op := .index 35 (.tmp 90) (.const (.int .i64 0)), type := 34, pos := "law.go:24", after := #[{ on := 54, ground := .data }, { on := 48, ground := .guard }], guard := some (48, true) } : Oper)) (v := ?vs1_55) rfl aaw11_plain (by as_aux_lemma => kernel_rfl) (by as_aux_lemma => kernel_rfl) (fun _ _ _ h => h) (Or.inl ⟨by rfl, ?ys1_55⟩) (by assumption) ?rs1_55
        case ys1_55 => (intro w hSw; (try dsimp only at hSw); go_simp; try with_reducible rfl)
        try simp only [Act.put, List.setIfInBounds_toArray, List.set_cons_zero, List.set_cons_succ]
        refine wpAnyH_take (i := 56) (oi := ({ dst := some 92, op := .field 34 (.tmp 91) 2, type := 4, pos := "law.go:24", after := #[{ on := 55, ground := .data }, { on := 48, ground := .guard }], guard := some (48, true) } : Oper)) (v := ?vs1_56) rfl aaw11_plain (by as_aux_lemma => kernel_rfl) (by as_aux_lemma => kernel_rfl) (fun _ _ _ h => h) (Or.inl ⟨by rfl, ?ys1_56⟩) (by assumption) ?rs1_56
        case ys1_56 => (intro w hSw; (try dsimp only at hSw); go_simp; try with_reducible rfl)
        try simp only [Act.put, List.setIfInBounds_toArray, List.set_cons_zero, List.set_cons_succ]
        refine wpAnyH_take (i := 57) (oi := ({ dst := some 93, op := .unOp .not 4 (.tmp 92), type := 4, pos := "law.go:24", after := #[{ on := 56, ground := .data }, { on := 48, ground := .guard }], guard := some (48, true) } : Oper)) (v := ?vs1_57) rfl aaw11_plain (by as_aux_lemma => kernel_rfl) (by as_aux_lemma => kernel_rfl) (fun _ _ _ h => h) (Or.inl ⟨by rfl, ?ys1_57⟩) (by assumption) ?rs1_57
        case ys1_57 => (intro w hSw; (try dsimp only at hSw); go_simp; try with_reducible rfl)
        try simp only [Act.put, List.setIfInBounds_toArray, List.set_cons_zero, List.set_cons_succ]
        refine wpAnyH_take (i := 58) (oi := ({ dst := some 94, op := .pick (.tmp 84) (.tmp 93) (.const (.bool false)), type := 4, pos := "law.go:24", after := #[{ on := 48, ground := .data }, { on := 57, ground := .data }], guard := none } : Oper)) (v := ?vs1_58) rfl aaw11_plain (by as_aux_lemma => kernel_rfl) (by as_aux_lemma => kernel_rfl) (fun _ _ _ h => h) (Or.inl ⟨by rfl, ?ys1_58⟩) (by assumption) ?rs1_58
        case ys1_58 => (intro w hSw; (try dsimp only at hSw); go_simp; try with_reducible rfl)
        try simp only [Act.put, List.setIfInBounds_toArray, List.set_cons_zero, List.set_cons_succ]
        refine wpAnyH_take (i := 59) (oi := ({ dst := some 0, op := .assign (.tmp 94), type := 4, pos := "law.go:24", after := #[{ on := 58, ground := .data }, { on := 54, ground := .chain }, { on := 0, ground := .phase }, { on := 1, ground := .phase }, { on := 2, ground := .phase }, { on := 3, ground := .phase }, { on := 4, ground := .phase }, { on := 5, ground := .phase }, { on := 6, ground := .phase }, { on := 7, ground := .phase }, { on := 8, ground := .phase }, { on := 9, ground := .phase }, { on := 10, ground := .phase }, { on := 11, ground := .phase }, { on := 12, ground := .phase }, { on := 13, ground := .phase }, { on := 14, ground := .phase }, { on := 15, ground := .phase }, { on := 16, ground := .phase }, { on := 17, ground := .phase }, { on := 18, ground := .phase }, { on := 19, ground := .phase }, { on := 20, ground := .phase }, { on := 21, ground := .phase }, { on := 22, ground := .phase }, { on := 23, ground := .phase }, { on := 24, ground := .phase }, { on := 25, ground := .phase }, { on := 26, ground := .phase }, { on := 27, ground := .phase }, { on := 28, ground := .phase }, { on := 29, ground := .phase }, { on := 30, ground := .phase }, { on := 31, ground := .phase }, { on := 32, ground := .phase }, { on := 33, ground := .phase }, { on := 34, ground := .phase }, { on := 35, ground := .phase }, { on := 36, ground := .phase }, { on := 37, ground := .phase }, { on := 38, ground := .phase }, { on := 39, ground := .phase }, { on := 40, ground := .phase }, { on := 41, ground := .phase }, { on := 42, ground := .phase }, { on := 43, ground := .phase }, { on := 44, ground := .phase }, { on := 45, ground := .phase }, { on := 46, ground := .phase }, { on := 47, ground := .phase }, { on := 48, ground := .phase }, { on := 49, ground := .phase }, { on := 50, ground := .phase }, { on := 51, ground := .phase }, { on := 52, ground := .phase }, { on := 53, ground := .phase }, { on := 54, ground := .phase }, { on := 55, ground := .phase }, { on := 56, ground := .phase }, { on := 57, ground := .phase }, { on := 58, ground := .phase }], guard := none } : Oper)) (v := ?vs1_59) rfl aaw11_plain (by as_aux_lemma => kernel_rfl) (by as_aux_lemma => kernel_rfl) (fun _ _ _ h => h) (Or.inl ⟨by rfl, ?ys1_59⟩) (by assumption) ?rs1_59
        case ys1_59 => (intro w hSw; (try dsimp only at hSw); go_simp; try with_reducible rfl)
        try simp only [Act.put, List.setIfInBounds_toArray, List.set_cons_zero]
        refine wpAnyH_done (by as_aux_lemma => kernel_rfl) ?_ _
        refine NoPanic.normal ?_
        have N1 := nx _ hHeld17
        have HS14 := Lib.hid N1
        clear c1_0 c1_1 c2_0 c2_1 c3_0 c3_1 c3_2 c4_2 c6_0 RL0 nx kS hT N1
        have BH := Lib.hid HS14.out.below
        clear HS14
        go_wp2_with fail
        go_ret
        exact ⟨rfl, BH.out⟩
end Go.Proofs.YtkjkmnclnedfhaaDoor
