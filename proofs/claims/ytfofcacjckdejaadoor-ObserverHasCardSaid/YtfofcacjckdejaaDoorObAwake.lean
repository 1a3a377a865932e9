/- Layer 29's law: its own examples. -/
import Derived.Test.YtfofcacjckdejaaDoorObStep
import Derived.Test.YtfofcacjckdejaaDoorObHas
import Derived.Test.YtfofcacjckdejaaDoorObCfgB
import Derived.Test.YtfofcacjckdejaaDoorV64
namespace Go.Proofs.YtfofcacjckdejaaDoor
open Go.RowKit Obs

/-- The operations of a drawn region, as the translation has them. -/
def oawake2 : Array Oper := #[
  { dst := some 10, op := .call { callee := .value (.func 12), args := #[], argTypes := #[] }, type := 25, pos := "law.go:17", after := #[], guard := none },
  { dst := some 11, op := .load 34 (.tmp 1), type := 34, pos := "law.go:17", after := #[], guard := none },
  { dst := some 12, op := .build 22 #[(0, .const (.int .i64 1005)), (1, .const (.int .i64 0)), (2, .const (.int .i64 5000))], type := 22, pos := "law.go:17", after := #[], guard := none },
  { dst := some 13, op := .build 23 #[(0, .const (.bool true)), (1, .const (.bool false)), (2, .const (.bool true))], type := 23, pos := "law.go:17", after := #[], guard := none },
  { dst := some 14, op := .call { callee := .value (.func 9), args := #[.tmp 10, .tmp 11, .const (.int .i64 2), .tmp 12, .tmp 13], argTypes := #[25, 34, 3, 22, 23] }, type := 34, pos := "law.go:17", after := #[{ on := 0, ground := .data }, { on := 1, ground := .data }, { on := 2, ground := .data }, { on := 3, ground := .data }, { on := 0, ground := .chain }], guard := none },
  { dst := some 2, op := .alloc 34, type := 0, pos := "law.go:17", after := #[], guard := none },
  { dst := none, op := .store 34 (.tmp 2) (.tmp 14), type := 0, pos := "law.go:17", after := #[{ on := 5, ground := .data }, { on := 4, ground := .data }, { on := 4, ground := .chain }, { on := 0, ground := .phase }, { on := 1, ground := .phase }, { on := 2, ground := .phase }, { on := 3, ground := .phase }, { on := 4, ground := .phase }, { on := 5, ground := .phase }], guard := none }]
theorem oawake2_plain : Region.noSelect oawake2 = true := by kernel_rfl

/-- The operations of a drawn region, as the translation has them. -/
def oawake3 : Array Oper := #[
  { dst := some 15, op := .call { callee := .value (.func 12), args := #[], argTypes := #[] }, type := 25, pos := "law.go:18", after := #[], guard := none },
  { dst := some 16, op := .load 34 (.tmp 1), type := 34, pos := "law.go:18", after := #[], guard := none },
  { dst := some 17, op := .build 22 #[(0, .const (.int .i64 1005)), (1, .const (.int .i64 0)), (2, .const (.int .i64 5000))], type := 22, pos := "law.go:18", after := #[], guard := none },
  { dst := some 18, op := .build 23 #[(0, .const (.bool true)), (1, .const (.bool false)), (2, .const (.bool true))], type := 23, pos := "law.go:18", after := #[], guard := none },
  { dst := some 19, op := .call { callee := .value (.func 9), args := #[.tmp 15, .tmp 16, .const (.int .i64 (-1)), .tmp 17, .tmp 18], argTypes := #[25, 34, 3, 22, 23] }, type := 34, pos := "law.go:18", after := #[{ on := 0, ground := .data }, { on := 1, ground := .data }, { on := 2, ground := .data }, { on := 3, ground := .data }, { on := 0, ground := .chain }], guard := none },
  { dst := some 3, op := .alloc 34, type := 0, pos := "law.go:18", after := #[], guard := none },
  { dst := none, op := .store 34 (.tmp 3) (.tmp 19), type := 0, pos := "law.go:18", after := #[{ on := 5, ground := .data }, { on := 4, ground := .data }, { on := 4, ground := .chain }, { on := 0, ground := .phase }, { on := 1, ground := .phase }, { on := 2, ground := .phase }, { on := 3, ground := .phase }, { on := 4, ground := .phase }, { on := 5, ground := .phase }], guard := none }]
theorem oawake3_plain : Region.noSelect oawake3 = true := by kernel_rfl

/-- The operations of a drawn region, as the translation has them. -/
def oawake4 : Array Oper := #[
  { dst := some 20, op := .load 34 (.tmp 1), type := 34, pos := "law.go:19", after := #[], guard := none },
  { dst := some 21, op := .call { callee := .value (.func 10), args := #[.tmp 20, .const (.int .i64 1000), .const (.int .i64 5)], argTypes := #[34, 2, 2] }, type := 4, pos := "law.go:19", after := #[{ on := 0, ground := .data }], guard := none },
  { dst := some 22, op := .move (.tmp 21), type := 4, pos := "law.go:19", after := #[{ on := 1, ground := .data }, { on := 1, ground := .chain }], guard := none },
  { dst := some 23, op := .fieldAddr 34 (.tmp 1) 0, type := 0, pos := "law.go:19", after := #[{ on := 2, ground := .guard }], guard := some (2, true) },
  { dst := some 24, op := .load 32 (.tmp 23), type := 32, pos := "law.go:19", after := #[{ on := 3, ground := .data }, { on := 2, ground := .guard }], guard := some (2, true) },
  { dst := some 25, op := .build 32 #[(0, .const (.int .i64 970)), (1, .const (.int .i64 1030))], type := 32, pos := "law.go:19", after := #[{ on := 2, ground := .guard }], guard := some (2, true) },
  { dst := some 26, op := .binOp .eql 32 (.tmp 24) (.tmp 25) 32, type := 4, pos := "law.go:19", after := #[{ on := 4, ground := .data }, { on := 5, ground := .data }, { on := 2, ground := .guard }], guard := some (2, true) },
  { dst := some 27, op := .pick (.tmp 22) (.tmp 26) (.const (.bool false)), type := 4, pos := "law.go:19", after := #[{ on := 2, ground := .data }, { on := 6, ground := .data }], guard := none },
  { dst := some 28, op := .move (.tmp 27), type := 4, pos := "law.go:19", after := #[{ on := 7, ground := .data }, { on := 2, ground := .chain }], guard := none },
  { dst := some 29, op := .fieldAddr 34 (.tmp 1) 1, type := 0, pos := "law.go:19", after := #[{ on := 8, ground := .guard }], guard := some (8, true) },
  { dst := some 30, op := .load 32 (.tmp 29), type := 32, pos := "law.go:19", after := #[{ on := 9, ground := .data }, { on := 8, ground := .guard }], guard := some (8, true) },
  { dst := some 31, op := .build 32 #[(0, .const (.int .i64 (-30))), (1, .const (.int .i64 40))], type := 32, pos := "law.go:19", after := #[{ on := 8, ground := .guard }], guard := some (8, true) },
  { dst := some 32, op := .binOp .eql 32 (.tmp 30) (.tmp 31) 32, type := 4, pos := "law.go:19", after := #[{ on := 10, ground := .data }, { on := 11, ground := .data }, { on := 8, ground := .guard }], guard := some (8, true) },
  { dst := some 33, op := .pick (.tmp 28) (.tmp 32) (.const (.bool false)), type := 4, pos := "law.go:19", after := #[{ on := 8, ground := .data }, { on := 12, ground := .data }], guard := none },
  { dst := some 34, op := .move (.tmp 33), type := 4, pos := "law.go:19", after := #[{ on := 13, ground := .data }, { on := 8, ground := .chain }], guard := none },
  { dst := some 35, op := .fieldAddr 34 (.tmp 2) 2, type := 0, pos := "law.go:19", after := #[{ on := 14, ground := .guard }], guard := some (14, true) },
  { dst := some 36, op := .load 4 (.tmp 35), type := 4, pos := "law.go:19", after := #[{ on := 15, ground := .data }, { on := 14, ground := .guard }], guard := some (14, true) },
  { dst := some 37, op := .unOp .not 4 (.tmp 36), type := 4, pos := "law.go:19", after := #[{ on := 16, ground := .data }, { on := 14, ground := .guard }], guard := some (14, true) },
  { dst := some 38, op := .pick (.tmp 34) (.tmp 37) (.const (.bool false)), type := 4, pos := "law.go:19", after := #[{ on := 14, ground := .data }, { on := 17, ground := .data }], guard := none },
  { dst := some 39, op := .move (.tmp 38), type := 4, pos := "law.go:19", after := #[{ on := 18, ground := .data }, { on := 14, ground := .chain }], guard := none },
  { dst := some 40, op := .fieldAddr 34 (.tmp 3) 2, type := 0, pos := "law.go:19", after := #[{ on := 19, ground := .guard }], guard := some (19, true) },
  { dst := some 41, op := .load 4 (.tmp 40), type := 4, pos := "law.go:19", after := #[{ on := 20, ground := .data }, { on := 19, ground := .guard }], guard := some (19, true) },
  { dst := some 42, op := .pick (.tmp 39) (.tmp 41) (.const (.bool false)), type := 4, pos := "law.go:19", after := #[{ on := 19, ground := .data }, { on := 21, ground := .data }], guard := none },
  { dst := some 43, op := .move (.tmp 42), type := 4, pos := "law.go:19", after := #[{ on := 22, ground := .data }, { on := 19, ground := .chain }], guard := none },
  { dst := some 44, op := .fieldAddr 34 (.tmp 3) 0, type := 0, pos := "law.go:19", after := #[{ on := 23, ground := .guard }], guard := some (23, true) },
  { dst := some 45, op := .load 32 (.tmp 44), type := 32, pos := "law.go:19", after := #[{ on := 24, ground := .data }, { on := 23, ground := .guard }], guard := some (23, true) },
  { dst := some 46, op := .build 32 #[], type := 32, pos := "law.go:19", after := #[{ on := 23, ground := .guard }], guard := some (23, true) },
  { dst := some 47, op := .binOp .eql 32 (.tmp 45) (.tmp 46) 32, type := 4, pos := "law.go:19", after := #[{ on := 25, ground := .data }, { on := 26, ground := .data }, { on := 23, ground := .guard }], guard := some (23, true) },
  { dst := some 48, op := .pick (.tmp 43) (.tmp 47) (.const (.bool false)), type := 4, pos := "law.go:19", after := #[{ on := 23, ground := .data }, { on := 27, ground := .data }], guard := none },
  { dst := some 49, op := .move (.tmp 48), type := 4, pos := "law.go:19", after := #[{ on := 28, ground := .data }, { on := 23, ground := .chain }], guard := none },
  { dst := some 50, op := .call { callee := .value (.func 12), args := #[], argTypes := #[] }, type := 25, pos := "law.go:19", after := #[{ on := 29, ground := .chain }, { on := 29, ground := .guard }], guard := some (29, true) },
  { dst := some 51, op := .load 34 (.tmp 3), type := 34, pos := "law.go:19", after := #[{ on := 29, ground := .guard }], guard := some (29, true) },
  { dst := some 52, op := .build 22 #[], type := 22, pos := "law.go:19", after := #[{ on := 29, ground := .guard }], guard := some (29, true) },
  { dst := some 53, op := .build 23 #[], type := 23, pos := "law.go:19", after := #[{ on := 29, ground := .guard }], guard := some (29, true) },
  { dst := some 54, op := .call { callee := .value (.func 9), args := #[.tmp 50, .tmp 51, .const (.int .i64 (-1)), .tmp 52, .tmp 53], argTypes := #[25, 34, 3, 22, 23] }, type := 34, pos := "law.go:19", after := #[{ on := 30, ground := .data }, { on := 31, ground := .data }, { on := 32, ground := .data }, { on := 33, ground := .data }, { on := 30, ground := .chain }, { on := 29, ground := .guard }], guard := some (29, true) },
  { dst := some 55, op := .load 34 (.tmp 3), type := 34, pos := "law.go:19", after := #[{ on := 29, ground := .guard }], guard := some (29, true) },
  { dst := some 56, op := .binOp .eql 34 (.tmp 54) (.tmp 55) 34, type := 4, pos := "law.go:19", after := #[{ on := 34, ground := .data }, { on := 35, ground := .data }, { on := 29, ground := .guard }], guard := some (29, true) },
  { dst := some 57, op := .pick (.tmp 49) (.tmp 56) (.const (.bool false)), type := 4, pos := "law.go:19", after := #[{ on := 29, ground := .data }, { on := 36, ground := .data }], guard := none },
  { dst := some 58, op := .move (.tmp 57), type := 4, pos := "law.go:19", after := #[{ on := 37, ground := .data }, { on := 34, ground := .chain }], guard := none },
  { dst := some 59, op := .call { callee := .value (.func 12), args := #[], argTypes := #[] }, type := 25, pos := "law.go:19", after := #[{ on := 38, ground := .chain }, { on := 38, ground := .guard }], guard := some (38, true) },
  { dst := some 60, op := .load 34 (.tmp 1), type := 34, pos := "law.go:19", after := #[{ on := 38, ground := .guard }], guard := some (38, true) },
  { dst := some 61, op := .call { callee := .value (.func 13), args := #[.tmp 59, .tmp 60], argTypes := #[25, 34] }, type := 34, pos := "law.go:19", after := #[{ on := 39, ground := .data }, { on := 40, ground := .data }, { on := 39, ground := .chain }, { on := 38, ground := .guard }], guard := some (38, true) },
  { dst := some 62, op := .field 34 (.tmp 61) 0, type := 32, pos := "law.go:19", after := #[{ on := 41, ground := .data }, { on := 38, ground := .guard }], guard := some (38, true) },
  { dst := some 63, op := .build 32 #[(0, .const (.int .i64 950)), (1, .const (.int .i64 1050))], type := 32, pos := "law.go:19", after := #[{ on := 38, ground := .guard }], guard := some (38, true) },
  { dst := some 64, op := .binOp .eql 32 (.tmp 62) (.tmp 63) 32, type := 4, pos := "law.go:19", after := #[{ on := 42, ground := .data }, { on := 43, ground := .data }, { on := 38, ground := .guard }], guard := some (38, true) },
  { dst := some 65, op := .pick (.tmp 58) (.tmp 64) (.const (.bool false)), type := 4, pos := "law.go:19", after := #[{ on := 38, ground := .data }, { on := 44, ground := .data }], guard := none },
  { dst := some 0, op := .assign (.tmp 65), type := 4, pos := "law.go:19", after := #[{ on := 45, ground := .data }, { on := 41, ground := .chain }, { on := 0, ground := .phase }, { on := 1, ground := .phase }, { on := 2, ground := .phase }, { on := 3, ground := .phase }, { on := 4, ground := .phase }, { on := 5, ground := .phase }, { on := 6, ground := .phase }, { on := 7, ground := .phase }, { on := 8, ground := .phase }, { on := 9, ground := .phase }, { on := 10, ground := .phase }, { on := 11, ground := .phase }, { on := 12, ground := .phase }, { on := 13, ground := .phase }, { on := 14, ground := .phase }, { on := 15, ground := .phase }, { on := 16, ground := .phase }, { on := 17, ground := .phase }, { on := 18, ground := .phase }, { on := 19, ground := .phase }, { on := 20, ground := .phase }, { on := 21, ground := .phase }, { on := 22, ground := .phase }, { on := 23, ground := .phase }, { on := 24, ground := .phase }, { on := 25, ground := .phase }, { on := 26, ground := .phase }, { on := 27, ground := .phase }, { on := 28, ground := .phase }, { on := 29, ground := .phase }, { on := 30, ground := .phase }, { on := 31, ground := .phase }, { on := 32, ground := .phase }, { on := 33, ground := .phase }, { on := 34, ground := .phase }, { on := 35, ground := .phase }, { on := 36, ground := .phase }, { on := 37, ground := .phase }, { on := 38, ground := .phase }, { on := 39, ground := .phase }, { on := 40, ground := .phase }, { on := 41, ground := .phase }, { on := 42, ground := .phase }, { on := 43, ground := .phase }, { on := 44, ground := .phase }, { on := 45, ground := .phase }], guard := none }]
theorem oawake4_plain : Region.noSelect oawake4 = true := by kernel_rfl

set_option maxHeartbeats 40000000 in
set_option maxRecDepth 100000 in
theorem awake_core (a : Ai) (w : World)
    (SO : Hid (∀ w', Below w.heap.size w w' → Calls Tryd.prog 12 #[] w' fun e w'' => e = .returned (av a) ∧ Below w'.heap.size w' w''))
    (ST : Hid (∀ w', Below w.heap.size w w' → Calls Tryd.prog 7 #[av a] w' fun e w'' => e = .returned (.agg #[.int .i64 (-60000), .int .i64 60000, .int .i64 (-200), .int .i64 200, .bool false]) ∧ Below w'.heap.size w' w''))
    (S1 : Hid (∀ w', Below w.heap.size w w' → Calls Tryd.prog 9 #[av a, .agg #[.int .i64 (-60000), .int .i64 60000, .int .i64 (-200), .int .i64 200, .bool false], .int .i64 (-1), .agg #[.int .i64 1005, .int .i64 0, .int .i64 1000], .agg #[.bool true, .bool false, .bool true]] w' fun e w'' => e = .returned (.agg #[.int .i64 970, .int .i64 1030, .int .i64 (-30), .int .i64 40, .bool false]) ∧ Below w'.heap.size w' w''))
    (S2 : Hid (∀ w', Below w.heap.size w w' → Calls Tryd.prog 9 #[av a, .agg #[.int .i64 970, .int .i64 1030, .int .i64 (-30), .int .i64 40, .bool false], .int .i64 2, .agg #[.int .i64 1005, .int .i64 0, .int .i64 5000], .agg #[.bool true, .bool false, .bool true]] w' fun e w'' => e = .returned (.agg #[.int .i64 959, .int .i64 1041, .int .i64 (-31), .int .i64 41, .bool false]) ∧ Below w'.heap.size w' w''))
    (S3 : Hid (∀ w', Below w.heap.size w w' → Calls Tryd.prog 9 #[av a, .agg #[.int .i64 970, .int .i64 1030, .int .i64 (-30), .int .i64 40, .bool false], .int .i64 (-1), .agg #[.int .i64 1005, .int .i64 0, .int .i64 5000], .agg #[.bool true, .bool false, .bool true]] w' fun e w'' => e = .returned (.agg #[.int .i64 0, .int .i64 0, .int .i64 0, .int .i64 0, .bool true]) ∧ Below w'.heap.size w' w''))
    (S4 : Hid (∀ w', Below w.heap.size w w' → Calls Tryd.prog 9 #[av a, .agg #[.int .i64 0, .int .i64 0, .int .i64 0, .int .i64 0, .bool true], .int .i64 (-1), .agg #[.int .i64 0, .int .i64 0, .int .i64 0], .agg #[.bool false, .bool false, .bool false]] w' fun e w'' => e = .returned (.agg #[.int .i64 0, .int .i64 0, .int .i64 0, .int .i64 0, .bool true]) ∧ Below w'.heap.size w' w''))
    (HA : Hid (∀ w', Below w.heap.size w w' → Calls Tryd.prog 10 #[.agg #[.int .i64 970, .int .i64 1030, .int .i64 (-30), .int .i64 40, .bool false], .int .i64 1000, .int .i64 5] w' fun e w'' => e = .returned (.bool true) ∧ Below w'.heap.size w' w''))
    (PR : Hid (∀ w', Below w.heap.size w w' → Calls Tryd.prog 13 #[av a, .agg #[.int .i64 970, .int .i64 1030, .int .i64 (-30), .int .i64 40, .bool false]] w' fun e w'' => e = .returned (.agg #[.int .i64 950, .int .i64 1050, .int .i64 (-31), .int .i64 41, .bool false]) ∧ Below w'.heap.size w' w''))
    : Calls Tryd.prog 5 #[] w fun e w' => e = .returned (.bool true) ∧ Below w.heap.size w w' := by
  go_enter Tryd.func5, Tryd.ntmps5
  go_wp2_with fail
  refine (SO.out _ (Below.refl _ _)).mono ?_; rintro e w1 ⟨rfl, hb1⟩
  have B1 := hb1
  go_wp2_with fail
  refine (SO.out _ B1).mono ?_; rintro e w2 ⟨rfl, hb2⟩
  have B2 := belowT B1 hb2
  go_wp2_with fail
  refine (ST.out _ B2).mono ?_; rintro e w3 ⟨rfl, hb3⟩
  have B3 := belowT B2 hb3
  go_wp2_with fail
  refine (S1.out _ B3).mono ?_; rintro e w4 ⟨rfl, hb4⟩
  have B4 := belowT B3 hb4
  have O1 := ownl w4 [.int .i64 970, .int .i64 1030, .int .i64 (-30), .int .i64 40, .bool false] 34
  have D1 := belowT B4 (below1 w4 (.cells #[.int .i64 970, .int .i64 1030, .int .i64 (-30), .int .i64 40, .bool false] 34))
  clear hb1 hb2 hb3 hb4 B1 B2 B3 B4 ST S1
  go_upto_region 2 with fail
  obtain ⟨W0, hW0⟩ : ∃ W0, W0 = w4.alloc (.cells #[.int .i64 970, .int .i64 1030, .int .i64 (-30), .int .i64 40, .bool false] 34) := ⟨_, rfl⟩
  rw [← hW0] at O1 D1
  have HW := Lib.hid hW0
  clear hW0
  rw [← HW.out]
  clear HW
  generalize w4.heap.size = x1 at *
  have a0 : ∀ w', Below W0.heap.size W0 w' → w'.cell? ⟨x1, 0, none⟩ = some (.int .i64 970) := fun w' h => (O1.keep h).1.at 0 rfl
  have a1 : ∀ w', Below W0.heap.size W0 w' → w'.cell? ⟨x1, 1, none⟩ = some (.int .i64 1030) := fun w' h => (O1.keep h).1.at 1 rfl
  have a2 : ∀ w', Below W0.heap.size W0 w' → w'.cell? ⟨x1, 2, none⟩ = some (.int .i64 (-30)) := fun w' h => (O1.keep h).1.at 2 rfl
  have a3 : ∀ w', Below W0.heap.size W0 w' → w'.cell? ⟨x1, 3, none⟩ = some (.int .i64 40) := fun w' h => (O1.keep h).1.at 3 rfl
  have a4 : ∀ w', Below W0.heap.size W0 w' → w'.cell? ⟨x1, 4, none⟩ = some (.bool false) := fun w' h => (O1.keep h).1.at 4 rfl
  go_cut [2] from 2 to 14 (fun p wx => ∃ X, p = .pointer (some ⟨X, 0, none⟩) ∧ Below W0.heap.size W0 wx ∧ OwnL wx X [.int .i64 959, .int .i64 1041, .int .i64 (-31), .int .i64 41, .bool false])
  case first =>
    change (Code.region 2 oawake2 true).wp Tryd.prog _ _ _
    refine wp_region_noPanic ?_
    refine wp_region_held_drew (S := fun w' => Below W0.heap.size W0 w') (by kernel_rfl) ((Below.refl _ _).drew) (fun hHeld => ?_)
    refine wpAnyH_take (i := 1) (oi := ({ dst := some 11, op := .load 34 (.tmp 1), type := 34, pos := "law.go:17", after := #[], guard := none } : Oper)) (v := ?vv2_1_) rfl oawake2_plain (by as_aux_lemma => kernel_rfl) (by as_aux_lemma => kernel_rfl) (fun _ _ _ h => h) (Or.inl ⟨by rfl, ?yv2_1_⟩) (by assumption) ?rv2_1_
    case yv2_1_ => (intro w hSw; (try dsimp only at hSw); go_simp; try with_reducible rfl)
    try simp only [Act.put, List.setIfInBounds_toArray, List.set_cons_zero, List.set_cons_succ]
    refine wpAnyH_take (i := 2) (oi := ({ dst := some 12, op := .build 22 #[(0, .const (.int .i64 1005)), (1, .const (.int .i64 0)), (2, .const (.int .i64 5000))], type := 22, pos := "law.go:17", after := #[], guard := none } : Oper)) (v := ?vv2_2_) rfl oawake2_plain (by as_aux_lemma => kernel_rfl) (by as_aux_lemma => kernel_rfl) (fun _ _ _ h => h) (Or.inl ⟨by rfl, ?yv2_2_⟩) (by assumption) ?rv2_2_
    case yv2_2_ => (intro w hSw; (try dsimp only at hSw); go_simp; try with_reducible rfl)
    try simp only [Act.put, List.setIfInBounds_toArray, List.set_cons_zero, List.set_cons_succ]
    refine wpAnyH_take (i := 3) (oi := ({ dst := some 13, op := .build 23 #[(0, .const (.bool true)), (1, .const (.bool false)), (2, .const (.bool true))], type := 23, pos := "law.go:17", after := #[], guard := none } : Oper)) (v := ?vv2_3_) rfl oawake2_plain (by as_aux_lemma => kernel_rfl) (by as_aux_lemma => kernel_rfl) (fun _ _ _ h => h) (Or.inl ⟨by rfl, ?yv2_3_⟩) (by assumption) ?rv2_3_
    case yv2_3_ => (intro w hSw; (try dsimp only at hSw); go_simp; try with_reducible rfl)
    try simp only [Act.put, List.setIfInBounds_toArray, List.set_cons_zero, List.set_cons_succ]
    refine wpAnyH_ready (rs := [0, 5]) (by as_aux_lemma => kernel_rfl) (by simp) ?_
    refine AllReadyH.cons (o := ({ dst := some 10, op := .call { callee := .value (.func 12), args := #[], argTypes := #[] }, type := 25, pos := "law.go:17", after := #[], guard := none } : Oper)) rfl (fun KK hK => ?_) (AllReadyH.cons (o := ({ dst := some 2, op := .alloc 34, type := 0, pos := "law.go:17", after := #[], guard := none } : Oper)) rfl (fun KK hK => ?_) AllReadyH.nil)
    · skip
      rw [if_pos (by rfl)]
      go_simp
      go_at_call 12; refine (SO.out _ (belowT D1 (by assumption))).mono ?_; rintro e w20 ⟨rfl, hb20⟩
      go_wp2_with fail
      refine hK.out _ _ ?_ (fun hHeld20 => ?_)
      · exact belowT (by assumption) hb20
      have H20 : Below W0.heap.size W0 w20 := by assumption
      have S20 := H20.size
      clear hK KK hb20
      try simp only [Act.put, List.setIfInBounds_toArray, List.set_cons_zero, List.set_cons_succ]
      refine wpAnyH_ready (rs := [4, 5]) (by as_aux_lemma => kernel_rfl) (by simp) ?_
      refine AllReadyH.cons (o := ({ dst := some 14, op := .call { callee := .value (.func 9), args := #[.tmp 10, .tmp 11, .const (.int .i64 2), .tmp 12, .tmp 13], argTypes := #[25, 34, 3, 22, 23] }, type := 34, pos := "law.go:17", after := #[{ on := 0, ground := .data }, { on := 1, ground := .data }, { on := 2, ground := .data }, { on := 3, ground := .data }, { on := 0, ground := .chain }], guard := none } : Oper)) rfl (fun KK hK => ?_) (AllReadyH.cons (o := ({ dst := some 2, op := .alloc 34, type := 0, pos := "law.go:17", after := #[], guard := none } : Oper)) rfl (fun KK hK => ?_) AllReadyH.nil)
      · skip
        rw [if_pos (by rfl)]
        go_simp
        go_at_call 9; refine (S2.out _ (belowT D1 (by assumption))).mono ?_; rintro e w21 ⟨rfl, hb21⟩
        go_wp2_with fail
        refine hK.out _ _ ?_ (fun hHeld21 => ?_)
        · exact belowT (by assumption) hb21
        have H21 : Below W0.heap.size W0 w21 := by assumption
        have S21 := H21.size
        clear hK KK hb21
        try simp only [Act.put, List.setIfInBounds_toArray, List.set_cons_zero, List.set_cons_succ]
        refine wpAnyH_ready (rs := [5]) (by as_aux_lemma => kernel_rfl) (by simp) ?_
        refine AllReadyH.cons (o := ({ dst := some 2, op := .alloc 34, type := 0, pos := "law.go:17", after := #[], guard := none } : Oper)) rfl (fun KK hK => ?_) AllReadyH.nil
        rw [if_pos (by rfl)]
        go_simp
        refine hK.out _ _ ?_ (fun _hHeldA => ?_)
        · first | exact belowT (by assumption) (below1 _ _) | exact (belowT (by assumption) (below1 _ _)).drew
        clear hK KK
        try simp only [Act.put, List.setIfInBounds_toArray, List.set_cons_zero, List.set_cons_succ]
        refine wpAnyH_ready (rs := [6]) (by as_aux_lemma => kernel_rfl) (by simp) ?_
        refine AllReadyH.cons (o := ({ dst := none, op := .store 34 (.tmp 2) (.tmp 14), type := 0, pos := "law.go:17", after := #[{ on := 5, ground := .data }, { on := 4, ground := .data }, { on := 4, ground := .chain }, { on := 0, ground := .phase }, { on := 1, ground := .phase }, { on := 2, ground := .phase }, { on := 3, ground := .phase }, { on := 4, ground := .phase }, { on := 5, ground := .phase }], guard := none } : Oper)) rfl (fun KK hK => ?_) AllReadyH.nil
        rw [if_pos (by rfl)]
        have p0 := (ownl w21 [.int .i64 0, .int .i64 0, .int .i64 0, .int .i64 0, .bool false] 34).1.at 0 rfl
        have q0 := (ownl w21 [.int .i64 0, .int .i64 0, .int .i64 0, .int .i64 0, .bool false] 34).2 0 (by simp)
        have p1 := (ownl w21 [.int .i64 0, .int .i64 0, .int .i64 0, .int .i64 0, .bool false] 34).1.at 1 rfl
        have q1 := (ownl w21 [.int .i64 0, .int .i64 0, .int .i64 0, .int .i64 0, .bool false] 34).2 1 (by simp)
        have p2 := (ownl w21 [.int .i64 0, .int .i64 0, .int .i64 0, .int .i64 0, .bool false] 34).1.at 2 rfl
        have q2 := (ownl w21 [.int .i64 0, .int .i64 0, .int .i64 0, .int .i64 0, .bool false] 34).2 2 (by simp)
        have p3 := (ownl w21 [.int .i64 0, .int .i64 0, .int .i64 0, .int .i64 0, .bool false] 34).1.at 3 rfl
        have q3 := (ownl w21 [.int .i64 0, .int .i64 0, .int .i64 0, .int .i64 0, .bool false] 34).2 3 (by simp)
        have p4 := (ownl w21 [.int .i64 0, .int .i64 0, .int .i64 0, .int .i64 0, .bool false] 34).1.at 4 rfl
        have q4 := (ownl w21 [.int .i64 0, .int .i64 0, .int .i64 0, .int .i64 0, .bool false] 34).2 4 (by simp)
        go_simp
        refine hK.out _ _ ?_ (fun _hHeldS => ?_)
        · exact belowT H21 (below1 w21 (.cells #[.int .i64 959, .int .i64 1041, .int .i64 (-31), .int .i64 41, .bool false] 34))
        clear hK KK
        try simp only [Act.put, List.setIfInBounds_toArray, List.set_cons_zero, List.set_cons_succ]
        refine wpAnyH_done (by as_aux_lemma => kernel_rfl) ?_ _
        refine NoPanic.normal ?_
        go_wp2_with fail
        go_meet
        exact ⟨_, rfl, belowT H21 (below1 w21 (.cells #[.int .i64 959, .int .i64 1041, .int .i64 (-31), .int .i64 41, .bool false] 34)), ownl w21 [.int .i64 959, .int .i64 1041, .int .i64 (-31), .int .i64 41, .bool false] 34⟩
      · skip
        rw [if_pos (by rfl)]
        go_simp
        refine hK.out _ _ ?_ (fun _hHeldA => ?_)
        · first | exact belowT (by assumption) (below1 _ _) | exact (belowT (by assumption) (below1 _ _)).drew
        clear hK KK
        try simp only [Act.put, List.setIfInBounds_toArray, List.set_cons_zero, List.set_cons_succ]
        refine wpAnyH_ready (rs := [4]) (by as_aux_lemma => kernel_rfl) (by simp) ?_
        refine AllReadyH.cons (o := ({ dst := some 14, op := .call { callee := .value (.func 9), args := #[.tmp 10, .tmp 11, .const (.int .i64 2), .tmp 12, .tmp 13], argTypes := #[25, 34, 3, 22, 23] }, type := 34, pos := "law.go:17", after := #[{ on := 0, ground := .data }, { on := 1, ground := .data }, { on := 2, ground := .data }, { on := 3, ground := .data }, { on := 0, ground := .chain }], guard := none } : Oper)) rfl (fun KK hK => ?_) AllReadyH.nil
        rw [if_pos (by rfl)]
        go_simp
        go_at_call 9; refine (S2.out _ (belowT D1 (by assumption))).mono ?_; rintro e w21 ⟨rfl, hb21⟩
        go_wp2_with fail
        refine hK.out _ _ ?_ (fun hHeld21 => ?_)
        · exact belowT (by assumption) hb21
        have OA := (ownl w20 [.int .i64 0, .int .i64 0, .int .i64 0, .int .i64 0, .bool false] 34).keep hb21
        have H21 : Below W0.heap.size W0 w21 := by assumption
        have S21 := H21.size
        clear hK KK hb21
        try simp only [Act.put, List.setIfInBounds_toArray, List.set_cons_zero, List.set_cons_succ]
        refine wpAnyH_ready (rs := [6]) (by as_aux_lemma => kernel_rfl) (by simp) ?_
        refine AllReadyH.cons (o := ({ dst := none, op := .store 34 (.tmp 2) (.tmp 14), type := 0, pos := "law.go:17", after := #[{ on := 5, ground := .data }, { on := 4, ground := .data }, { on := 4, ground := .chain }, { on := 0, ground := .phase }, { on := 1, ground := .phase }, { on := 2, ground := .phase }, { on := 3, ground := .phase }, { on := 4, ground := .phase }, { on := 5, ground := .phase }], guard := none } : Oper)) rfl (fun KK hK => ?_) AllReadyH.nil
        rw [if_pos (by rfl)]
        have p0 := (OA).1.at 0 rfl
        have q0 := (OA).2 0 (by simp)
        have p1 := (OA).1.at 1 rfl
        have q1 := (OA).2 1 (by simp)
        have p2 := (OA).1.at 2 rfl
        have q2 := (OA).2 2 (by simp)
        have p3 := (OA).1.at 3 rfl
        have q3 := (OA).2 3 (by simp)
        have p4 := (OA).1.at 4 rfl
        have q4 := (OA).2 4 (by simp)
        go_simp
        refine hK.out _ _ ?_ (fun _hHeldS => ?_)
        · exact (((((H21).setCell (p := ⟨w20.heap.size, 0, none⟩) (show W0.heap.size ≤ w20.heap.size by omega) (.int .i64 959)).setCell (p := ⟨w20.heap.size, 1, none⟩) (show W0.heap.size ≤ w20.heap.size by omega) (.int .i64 1041)).setCell (p := ⟨w20.heap.size, 2, none⟩) (show W0.heap.size ≤ w20.heap.size by omega) (.int .i64 (-31))).setCell (p := ⟨w20.heap.size, 3, none⟩) (show W0.heap.size ≤ w20.heap.size by omega) (.int .i64 41)).setCell (p := ⟨w20.heap.size, 4, none⟩) (show W0.heap.size ≤ w20.heap.size by omega) (.bool false)
        clear hK KK
        try simp only [Act.put, List.setIfInBounds_toArray, List.set_cons_zero, List.set_cons_succ]
        refine wpAnyH_done (by as_aux_lemma => kernel_rfl) ?_ _
        refine NoPanic.normal ?_
        go_wp2_with fail
        go_meet
        exact ⟨_, rfl, (((((H21).setCell (p := ⟨w20.heap.size, 0, none⟩) (show W0.heap.size ≤ w20.heap.size by omega) (.int .i64 959)).setCell (p := ⟨w20.heap.size, 1, none⟩) (show W0.heap.size ≤ w20.heap.size by omega) (.int .i64 1041)).setCell (p := ⟨w20.heap.size, 2, none⟩) (show W0.heap.size ≤ w20.heap.size by omega) (.int .i64 (-31))).setCell (p := ⟨w20.heap.size, 3, none⟩) (show W0.heap.size ≤ w20.heap.size by omega) (.int .i64 41)).setCell (p := ⟨w20.heap.size, 4, none⟩) (show W0.heap.size ≤ w20.heap.size by omega) (.bool false), (((((OA).set 0 (.int .i64 959)).set 1 (.int .i64 1041)).set 2 (.int .i64 (-31))).set 3 (.int .i64 41)).set 4 (.bool false)⟩
    · skip
      rw [if_pos (by rfl)]
      go_simp
      refine hK.out _ _ ?_ (fun _hHeldA => ?_)
      · first | exact below1 W0 (.cells #[.int .i64 0, .int .i64 0, .int .i64 0, .int .i64 0, .bool false] 34) | exact (below1 W0 (.cells #[.int .i64 0, .int .i64 0, .int .i64 0, .int .i64 0, .bool false] 34)).drew
      clear hK KK
      try simp only [Act.put, List.setIfInBounds_toArray, List.set_cons_zero, List.set_cons_succ]
      refine wpAnyH_ready (rs := [0]) (by as_aux_lemma => kernel_rfl) (by simp) ?_
      refine AllReadyH.cons (o := ({ dst := some 10, op := .call { callee := .value (.func 12), args := #[], argTypes := #[] }, type := 25, pos := "law.go:17", after := #[], guard := none } : Oper)) rfl (fun KK hK => ?_) AllReadyH.nil
      rw [if_pos (by rfl)]
      go_simp
      go_at_call 12; refine (SO.out _ (belowT D1 (by assumption))).mono ?_; rintro e w20 ⟨rfl, hb20⟩
      go_wp2_with fail
      refine hK.out _ _ ?_ (fun hHeld20 => ?_)
      · exact belowT (by assumption) hb20
      have OA := ((ownl W0 [.int .i64 0, .int .i64 0, .int .i64 0, .int .i64 0, .bool false] 34).drew).keep hb20
      have H20 : Below W0.heap.size W0 w20 := by assumption
      have S20 := H20.size
      clear hK KK hb20
      try simp only [Act.put, List.setIfInBounds_toArray, List.set_cons_zero, List.set_cons_succ]
      refine wpAnyH_ready (rs := [4]) (by as_aux_lemma => kernel_rfl) (by simp) ?_
      refine AllReadyH.cons (o := ({ dst := some 14, op := .call { callee := .value (.func 9), args := #[.tmp 10, .tmp 11, .const (.int .i64 2), .tmp 12, .tmp 13], argTypes := #[25, 34, 3, 22, 23] }, type := 34, pos := "law.go:17", after := #[{ on := 0, ground := .data }, { on := 1, ground := .data }, { on := 2, ground := .data }, { on := 3, ground := .data }, { on := 0, ground := .chain }], guard := none } : Oper)) rfl (fun KK hK => ?_) AllReadyH.nil
      rw [if_pos (by rfl)]
      go_simp
      go_at_call 9; refine (S2.out _ (belowT D1 (by assumption))).mono ?_; rintro e w21 ⟨rfl, hb21⟩
      go_wp2_with fail
      refine hK.out _ _ ?_ (fun hHeld21 => ?_)
      · exact belowT (by assumption) hb21
      replace OA := (OA).keep hb21
      have H21 : Below W0.heap.size W0 w21 := by assumption
      have S21 := H21.size
      clear hK KK hb21
      try simp only [Act.put, List.setIfInBounds_toArray, List.set_cons_zero, List.set_cons_succ]
      refine wpAnyH_ready (rs := [6]) (by as_aux_lemma => kernel_rfl) (by simp) ?_
      refine AllReadyH.cons (o := ({ dst := none, op := .store 34 (.tmp 2) (.tmp 14), type := 0, pos := "law.go:17", after := #[{ on := 5, ground := .data }, { on := 4, ground := .data }, { on := 4, ground := .chain }, { on := 0, ground := .phase }, { on := 1, ground := .phase }, { on := 2, ground := .phase }, { on := 3, ground := .phase }, { on := 4, ground := .phase }, { on := 5, ground := .phase }], guard := none } : Oper)) rfl (fun KK hK => ?_) AllReadyH.nil
      rw [if_pos (by rfl)]
      have p0 := (OA).1.at 0 rfl
      have q0 := (OA).2 0 (by simp)
      have p1 := (OA).1.at 1 rfl
      have q1 := (OA).2 1 (by simp)
      have p2 := (OA).1.at 2 rfl
      have q2 := (OA).2 2 (by simp)
      have p3 := (OA).1.at 3 rfl
      have q3 := (OA).2 3 (by simp)
      have p4 := (OA).1.at 4 rfl
      have q4 := (OA).2 4 (by simp)
      go_simp
      refine hK.out _ _ ?_ (fun _hHeldS => ?_)
      · exact (((((H21).setCell (p := ⟨W0.heap.size, 0, none⟩) (show W0.heap.size ≤ W0.heap.size by omega) (.int .i64 959)).setCell (p := ⟨W0.heap.size, 1, none⟩) (show W0.heap.size ≤ W0.heap.size by omega) (.int .i64 1041)).setCell (p := ⟨W0.heap.size, 2, none⟩) (show W0.heap.size ≤ W0.heap.size by omega) (.int .i64 (-31))).setCell (p := ⟨W0.heap.size, 3, none⟩) (show W0.heap.size ≤ W0.heap.size by omega) (.int .i64 41)).setCell (p := ⟨W0.heap.size, 4, none⟩) (show W0.heap.size ≤ W0.heap.size by omega) (.bool false)
      clear hK KK
      try simp only [Act.put, List.setIfInBounds_toArray, List.set_cons_zero, List.set_cons_succ]
      refine wpAnyH_done (by as_aux_lemma => kernel_rfl) ?_ _
      refine NoPanic.normal ?_
      go_wp2_with fail
      go_meet
      exact ⟨_, rfl, (((((H21).setCell (p := ⟨W0.heap.size, 0, none⟩) (show W0.heap.size ≤ W0.heap.size by omega) (.int .i64 959)).setCell (p := ⟨W0.heap.size, 1, none⟩) (show W0.heap.size ≤ W0.heap.size by omega) (.int .i64 1041)).setCell (p := ⟨W0.heap.size, 2, none⟩) (show W0.heap.size ≤ W0.heap.size by omega) (.int .i64 (-31))).setCell (p := ⟨W0.heap.size, 3, none⟩) (show W0.heap.size ≤ W0.heap.size by omega) (.int .i64 41)).setCell (p := ⟨W0.heap.size, 4, none⟩) (show W0.heap.size ≤ W0.heap.size by omega) (.bool false), (((((OA).set 0 (.int .i64 959)).set 1 (.int .i64 1041)).set 2 (.int .i64 (-31))).set 3 (.int .i64 41)).set 4 (.bool false)⟩
  case rest =>
    rename World => W0
    obtain ⟨x2, rfl, E1, O2⟩ := hcut
    have O1 := O1.keep E1
    replace D1 := belowT D1 E1
    clear a0 a1 a2 a3 a4 S2 E1
    go_upto_region 3 with fail
    have a0 : ∀ w', Below W0.heap.size W0 w' → w'.cell? ⟨x1, 0, none⟩ = some (.int .i64 970) := fun w' h => (O1.keep h).1.at 0 rfl
    have a1 : ∀ w', Below W0.heap.size W0 w' → w'.cell? ⟨x1, 1, none⟩ = some (.int .i64 1030) := fun w' h => (O1.keep h).1.at 1 rfl
    have a2 : ∀ w', Below W0.heap.size W0 w' → w'.cell? ⟨x1, 2, none⟩ = some (.int .i64 (-30)) := fun w' h => (O1.keep h).1.at 2 rfl
    have a3 : ∀ w', Below W0.heap.size W0 w' → w'.cell? ⟨x1, 3, none⟩ = some (.int .i64 40) := fun w' h => (O1.keep h).1.at 3 rfl
    have a4 : ∀ w', Below W0.heap.size W0 w' → w'.cell? ⟨x1, 4, none⟩ = some (.bool false) := fun w' h => (O1.keep h).1.at 4 rfl
    go_cut [3] from 3 to 19 (fun p wx => ∃ X, p = .pointer (some ⟨X, 0, none⟩) ∧ Below W0.heap.size W0 wx ∧ OwnL wx X [.int .i64 0, .int .i64 0, .int .i64 0, .int .i64 0, .bool true])
    case first =>
      change (Code.region 3 oawake3 true).wp Tryd.prog _ _ _
      refine wp_region_noPanic ?_
      refine wp_region_held_drew (S := fun w' => Below W0.heap.size W0 w') (by kernel_rfl) ((Below.refl _ _).drew) (fun hHeld => ?_)
      refine wpAnyH_take (i := 1) (oi := ({ dst := some 16, op := .load 34 (.tmp 1), type := 34, pos := "law.go:18", after := #[], guard := none } : Oper)) (v := ?vv3_1_) rfl oawake3_plain (by as_aux_lemma => kernel_rfl) (by as_aux_lemma => kernel_rfl) (fun _ _ _ h => h) (Or.inl ⟨by rfl, ?yv3_1_⟩) (by assumption) ?rv3_1_
      case yv3_1_ => (intro w hSw; (try dsimp only at hSw); go_simp; try with_reducible rfl)
      try simp only [Act.put, List.setIfInBounds_toArray, List.set_cons_zero, List.set_cons_succ]
      refine wpAnyH_take (i := 2) (oi := ({ dst := some 17, op := .build 22 #[(0, .const (.int .i64 1005)), (1, .const (.int .i64 0)), (2, .const (.int .i64 5000))], type := 22, pos := "law.go:18", after := #[], guard := none } : Oper)) (v := ?vv3_2_) rfl oawake3_plain (by as_aux_lemma => kernel_rfl) (by as_aux_lemma => kernel_rfl) (fun _ _ _ h => h) (Or.inl ⟨by rfl, ?yv3_2_⟩) (by assumption) ?rv3_2_
      case yv3_2_ => (intro w hSw; (try dsimp only at hSw); go_simp; try with_reducible rfl)
      try simp only [Act.put, List.setIfInBounds_toArray, List.set_cons_zero, List.set_cons_succ]
      refine wpAnyH_take (i := 3) (oi := ({ dst := some 18, op := .build 23 #[(0, .const (.bool true)), (1, .const (.bool false)), (2, .const (.bool true))], type := 23, pos := "law.go:18", after := #[], guard := none } : Oper)) (v := ?vv3_3_) rfl oawake3_plain (by as_aux_lemma => kernel_rfl) (by as_aux_lemma => kernel_rfl) (fun _ _ _ h => h) (Or.inl ⟨by rfl, ?yv3_3_⟩) (by assumption) ?rv3_3_
      case yv3_3_ => (intro w hSw; (try dsimp only at hSw); go_simp; try with_reducible rfl)
      try simp only [Act.put, List.setIfInBounds_toArray, List.set_cons_zero, List.set_cons_succ]
      refine wpAnyH_ready (rs := [0, 5]) (by as_aux_lemma => kernel_rfl) (by simp) ?_
      refine AllReadyH.cons (o := ({ dst := some 15, op := .call { callee := .value (.func 12), args := #[], argTypes := #[] }, type := 25, pos := "law.go:18", after := #[], guard := none } : Oper)) rfl (fun KK hK => ?_) (AllReadyH.cons (o := ({ dst := some 3, op := .alloc 34, type := 0, pos := "law.go:18", after := #[], guard := none } : Oper)) rfl (fun KK hK => ?_) AllReadyH.nil)
      · skip
        rw [if_pos (by rfl)]
        go_simp
        go_at_call 12; refine (SO.out _ (belowT D1 (by assumption))).mono ?_; rintro e w20 ⟨rfl, hb20⟩
        go_wp2_with fail
        refine hK.out _ _ ?_ (fun hHeld20 => ?_)
        · exact belowT (by assumption) hb20
        have H20 : Below W0.heap.size W0 w20 := by assumption
        have S20 := H20.size
        clear hK KK hb20
        try simp only [Act.put, List.setIfInBounds_toArray, List.set_cons_zero, List.set_cons_succ]
        refine wpAnyH_ready (rs := [4, 5]) (by as_aux_lemma => kernel_rfl) (by simp) ?_
        refine AllReadyH.cons (o := ({ dst := some 19, op := .call { callee := .value (.func 9), args := #[.tmp 15, .tmp 16, .const (.int .i64 (-1)), .tmp 17, .tmp 18], argTypes := #[25, 34, 3, 22, 23] }, type := 34, pos := "law.go:18", after := #[{ on := 0, ground := .data }, { on := 1, ground := .data }, { on := 2, ground := .data }, { on := 3, ground := .data }, { on := 0, ground := .chain }], guard := none } : Oper)) rfl (fun KK hK => ?_) (AllReadyH.cons (o := ({ dst := some 3, op := .alloc 34, type := 0, pos := "law.go:18", after := #[], guard := none } : Oper)) rfl (fun KK hK => ?_) AllReadyH.nil)
        · skip
          rw [if_pos (by rfl)]
          go_simp
          go_at_call 9; refine (S3.out _ (belowT D1 (by assumption))).mono ?_; rintro e w21 ⟨rfl, hb21⟩
          go_wp2_with fail
          refine hK.out _ _ ?_ (fun hHeld21 => ?_)
          · exact belowT (by assumption) hb21
          have H21 : Below W0.heap.size W0 w21 := by assumption
          have S21 := H21.size
          clear hK KK hb21
          try simp only [Act.put, List.setIfInBounds_toArray, List.set_cons_zero, List.set_cons_succ]
          refine wpAnyH_ready (rs := [5]) (by as_aux_lemma => kernel_rfl) (by simp) ?_
          refine AllReadyH.cons (o := ({ dst := some 3, op := .alloc 34, type := 0, pos := "law.go:18", after := #[], guard := none } : Oper)) rfl (fun KK hK => ?_) AllReadyH.nil
          rw [if_pos (by rfl)]
          go_simp
          refine hK.out _ _ ?_ (fun _hHeldA => ?_)
          · first | exact belowT (by assumption) (below1 _ _) | exact (belowT (by assumption) (below1 _ _)).drew
          clear hK KK
          try simp only [Act.put, List.setIfInBounds_toArray, List.set_cons_zero, List.set_cons_succ]
          refine wpAnyH_ready (rs := [6]) (by as_aux_lemma => kernel_rfl) (by simp) ?_
          refine AllReadyH.cons (o := ({ dst := none, op := .store 34 (.tmp 3) (.tmp 19), type := 0, pos := "law.go:18", after := #[{ on := 5, ground := .data }, { on := 4, ground := .data }, { on := 4, ground := .chain }, { on := 0, ground := .phase }, { on := 1, ground := .phase }, { on := 2, ground := .phase }, { on := 3, ground := .phase }, { on := 4, ground := .phase }, { on := 5, ground := .phase }], guard := none } : Oper)) rfl (fun KK hK => ?_) AllReadyH.nil
          rw [if_pos (by rfl)]
          have p0 := (ownl w21 [.int .i64 0, .int .i64 0, .int .i64 0, .int .i64 0, .bool false] 34).1.at 0 rfl
          have q0 := (ownl w21 [.int .i64 0, .int .i64 0, .int .i64 0, .int .i64 0, .bool false] 34).2 0 (by simp)
          have p1 := (ownl w21 [.int .i64 0, .int .i64 0, .int .i64 0, .int .i64 0, .bool false] 34).1.at 1 rfl
          have q1 := (ownl w21 [.int .i64 0, .int .i64 0, .int .i64 0, .int .i64 0, .bool false] 34).2 1 (by simp)
          have p2 := (ownl w21 [.int .i64 0, .int .i64 0, .int .i64 0, .int .i64 0, .bool false] 34).1.at 2 rfl
          have q2 := (ownl w21 [.int .i64 0, .int .i64 0, .int .i64 0, .int .i64 0, .bool false] 34).2 2 (by simp)
          have p3 := (ownl w21 [.int .i64 0, .int .i64 0, .int .i64 0, .int .i64 0, .bool false] 34).1.at 3 rfl
          have q3 := (ownl w21 [.int .i64 0, .int .i64 0, .int .i64 0, .int .i64 0, .bool false] 34).2 3 (by simp)
          have p4 := (ownl w21 [.int .i64 0, .int .i64 0, .int .i64 0, .int .i64 0, .bool false] 34).1.at 4 rfl
          have q4 := (ownl w21 [.int .i64 0, .int .i64 0, .int .i64 0, .int .i64 0, .bool false] 34).2 4 (by simp)
          go_simp
          refine hK.out _ _ ?_ (fun _hHeldS => ?_)
          · exact belowT H21 (below1 w21 (.cells #[.int .i64 0, .int .i64 0, .int .i64 0, .int .i64 0, .bool true] 34))
          clear hK KK
          try simp only [Act.put, List.setIfInBounds_toArray, List.set_cons_zero, List.set_cons_succ]
          refine wpAnyH_done (by as_aux_lemma => kernel_rfl) ?_ _
          refine NoPanic.normal ?_
          go_wp2_with fail
          go_meet
          exact ⟨_, rfl, belowT H21 (below1 w21 (.cells #[.int .i64 0, .int .i64 0, .int .i64 0, .int .i64 0, .bool true] 34)), ownl w21 [.int .i64 0, .int .i64 0, .int .i64 0, .int .i64 0, .bool true] 34⟩
        · skip
          rw [if_pos (by rfl)]
          go_simp
          refine hK.out _ _ ?_ (fun _hHeldA => ?_)
          · first | exact belowT (by assumption) (below1 _ _) | exact (belowT (by assumption) (below1 _ _)).drew
          clear hK KK
          try simp only [Act.put, List.setIfInBounds_toArray, List.set_cons_zero, List.set_cons_succ]
          refine wpAnyH_ready (rs := [4]) (by as_aux_lemma => kernel_rfl) (by simp) ?_
          refine AllReadyH.cons (o := ({ dst := some 19, op := .call { callee := .value (.func 9), args := #[.tmp 15, .tmp 16, .const (.int .i64 (-1)), .tmp 17, .tmp 18], argTypes := #[25, 34, 3, 22, 23] }, type := 34, pos := "law.go:18", after := #[{ on := 0, ground := .data }, { on := 1, ground := .data }, { on := 2, ground := .data }, { on := 3, ground := .data }, { on := 0, ground := .chain }], guard := none } : Oper)) rfl (fun KK hK => ?_) AllReadyH.nil
          rw [if_pos (by rfl)]
          go_simp
          go_at_call 9; refine (S3.out _ (belowT D1 (by assumption))).mono ?_; rintro e w21 ⟨rfl, hb21⟩
          go_wp2_with fail
          refine hK.out _ _ ?_ (fun hHeld21 => ?_)
          · exact belowT (by assumption) hb21
          have OA := (ownl w20 [.int .i64 0, .int .i64 0, .int .i64 0, .int .i64 0, .bool false] 34).keep hb21
          have H21 : Below W0.heap.size W0 w21 := by assumption
          have S21 := H21.size
          clear hK KK hb21
          try simp only [Act.put, List.setIfInBounds_toArray, List.set_cons_zero, List.set_cons_succ]
          refine wpAnyH_ready (rs := [6]) (by as_aux_lemma => kernel_rfl) (by simp) ?_
          refine AllReadyH.cons (o := ({ dst := none, op := .store 34 (.tmp 3) (.tmp 19), type := 0, pos := "law.go:18", after := #[{ on := 5, ground := .data }, { on := 4, ground := .data }, { on := 4, ground := .chain }, { on := 0, ground := .phase }, { on := 1, ground := .phase }, { on := 2, ground := .phase }, { on := 3, ground := .phase }, { on := 4, ground := .phase }, { on := 5, ground := .phase }], guard := none } : Oper)) rfl (fun KK hK => ?_) AllReadyH.nil
          rw [if_pos (by rfl)]
          have p0 := (OA).1.at 0 rfl
          have q0 := (OA).2 0 (by simp)
          have p1 := (OA).1.at 1 rfl
          have q1 := (OA).2 1 (by simp)
          have p2 := (OA).1.at 2 rfl
          have q2 := (OA).2 2 (by simp)
          have p3 := (OA).1.at 3 rfl
          have q3 := (OA).2 3 (by simp)
          have p4 := (OA).1.at 4 rfl
          have q4 := (OA).2 4 (by simp)
          go_simp
          refine hK.out _ _ ?_ (fun _hHeldS => ?_)
          · exact (((((H21).setCell (p := ⟨w20.heap.size, 0, none⟩) (show W0.heap.size ≤ w20.heap.size by omega) (.int .i64 0)).setCell (p := ⟨w20.heap.size, 1, none⟩) (show W0.heap.size ≤ w20.heap.size by omega) (.int .i64 0)).setCell (p := ⟨w20.heap.size, 2, none⟩) (show W0.heap.size ≤ w20.heap.size by omega) (.int .i64 0)).setCell (p := ⟨w20.heap.size, 3, none⟩) (show W0.heap.size ≤ w20.heap.size by omega) (.int .i64 0)).setCell (p := ⟨w20.heap.size, 4, none⟩) (show W0.heap.size ≤ w20.heap.size by omega) (.bool true)
          clear hK KK
          try simp only [Act.put, List.setIfInBounds_toArray, List.set_cons_zero, List.set_cons_succ]
          refine wpAnyH_done (by as_aux_lemma => kernel_rfl) ?_ _
          refine NoPanic.normal ?_
          go_wp2_with fail
          go_meet
          exact ⟨_, rfl, (((((H21).setCell (p := ⟨w20.heap.size, 0, none⟩) (show W0.heap.size ≤ w20.heap.size by omega) (.int .i64 0)).setCell (p := ⟨w20.heap.size, 1, none⟩) (show W0.heap.size ≤ w20.heap.size by omega) (.int .i64 0)).setCell (p := ⟨w20.heap.size, 2, none⟩) (show W0.heap.size ≤ w20.heap.size by omega) (.int .i64 0)).setCell (p := ⟨w20.heap.size, 3, none⟩) (show W0.heap.size ≤ w20.heap.size by omega) (.int .i64 0)).setCell (p := ⟨w20.heap.size, 4, none⟩) (show W0.heap.size ≤ w20.heap.size by omega) (.bool true), (((((OA).set 0 (.int .i64 0)).set 1 (.int .i64 0)).set 2 (.int .i64 0)).set 3 (.int .i64 0)).set 4 (.bool true)⟩
      · skip
        rw [if_pos (by rfl)]
        go_simp
        refine hK.out _ _ ?_ (fun _hHeldA => ?_)
        · first | exact below1 W0 (.cells #[.int .i64 0, .int .i64 0, .int .i64 0, .int .i64 0, .bool false] 34) | exact (below1 W0 (.cells #[.int .i64 0, .int .i64 0, .int .i64 0, .int .i64 0, .bool false] 34)).drew
        clear hK KK
        try simp only [Act.put, List.setIfInBounds_toArray, List.set_cons_zero, List.set_cons_succ]
        refine wpAnyH_ready (rs := [0]) (by as_aux_lemma => kernel_rfl) (by simp) ?_
        refine AllReadyH.cons (o := ({ dst := some 15, op := .call { callee := .value (.func 12), args := #[], argTypes := #[] }, type := 25, pos := "law.go:18", after := #[], guard := none } : Oper)) rfl (fun KK hK => ?_) AllReadyH.nil
        rw [if_pos (by rfl)]
        go_simp
        go_at_call 12; refine (SO.out _ (belowT D1 (by assumption))).mono ?_; rintro e w20 ⟨rfl, hb20⟩
        go_wp2_with fail
        refine hK.out _ _ ?_ (fun hHeld20 => ?_)
        · exact belowT (by assumption) hb20
        have OA := ((ownl W0 [.int .i64 0, .int .i64 0, .int .i64 0, .int .i64 0, .bool false] 34).drew).keep hb20
        have H20 : Below W0.heap.size W0 w20 := by assumption
        have S20 := H20.size
        clear hK KK hb20
        try simp only [Act.put, List.setIfInBounds_toArray, List.set_cons_zero, List.set_cons_succ]
        refine wpAnyH_ready (rs := [4]) (by as_aux_lemma => kernel_rfl) (by simp) ?_
        refine AllReadyH.cons (o := ({ dst := some 19, op := .call { callee := .value (.func 9), args := #[.tmp 15, .tmp 16, .const (.int .i64 (-1)), .tmp 17, .tmp 18], argTypes := #[25, 34, 3, 22, 23] }, type := 34, pos := "law.go:18", after := #[{ on := 0, ground := .data }, { on := 1, ground := .data }, { on := 2, ground := .data }, { on := 3, ground := .data }, { on := 0, ground := .chain }], guard := none } : Oper)) rfl (fun KK hK => ?_) AllReadyH.nil
        rw [if_pos (by rfl)]
        go_simp
        go_at_call 9; refine (S3.out _ (belowT D1 (by assumption))).mono ?_; rintro e w21 ⟨rfl, hb21⟩
        go_wp2_with fail
        refine hK.out _ _ ?_ (fun hHeld21 => ?_)
        · exact belowT (by assumption) hb21
        replace OA := (OA).keep hb21
        have H21 : Below W0.heap.size W0 w21 := by assumption
        have S21 := H21.size
        clear hK KK hb21
        try simp only [Act.put, List.setIfInBounds_toArray, List.set_cons_zero, List.set_cons_succ]
        refine wpAnyH_ready (rs := [6]) (by as_aux_lemma => kernel_rfl) (by simp) ?_
        refine AllReadyH.cons (o := ({ dst := none, op := .store 34 (.tmp 3) (.tmp 19), type := 0, pos := "law.go:18", after := #[{ on := 5, ground := .data }, { on := 4, ground := .data }, { on := 4, ground := .chain }, { on := 0, ground := .phase }, { on := 1, ground := .phase }, { on := 2, ground := .phase }, { on := 3, ground := .phase }, { on := 4, ground := .phase }, { on := 5, ground := .phase }], guard := none } : Oper)) rfl (fun KK hK => ?_) AllReadyH.nil
        rw [if_pos (by rfl)]
        have p0 := (OA).1.at 0 rfl
        have q0 := (OA).2 0 (by simp)
        have p1 := (OA).1.at 1 rfl
        have q1 := (OA).2 1 (by simp)
        have p2 := (OA).1.at 2 rfl
        have q2 := (OA).2 2 (by simp)
        have p3 := (OA).1.at 3 rfl
        have q3 := (OA).2 3 (by simp)
        have p4 := (OA).1.at 4 rfl
        have q4 := (OA).2 4 (by simp)
        go_simp
        refine hK.out _ _ ?_ (fun _hHeldS => ?_)
        · exact (((((H21).setCell (p := ⟨W0.heap.size, 0, none⟩) (show W0.heap.size ≤ W0.heap.size by omega) (.int .i64 0)).setCell (p := ⟨W0.heap.size, 1, none⟩) (show W0.heap.size ≤ W0.heap.size by omega) (.int .i64 0)).setCell (p := ⟨W0.heap.size, 2, none⟩) (show W0.heap.size ≤ W0.heap.size by omega) (.int .i64 0)).setCell (p := ⟨W0.heap.size, 3, none⟩) (show W0.heap.size ≤ W0.heap.size by omega) (.int .i64 0)).setCell (p := ⟨W0.heap.size, 4, none⟩) (show W0.heap.size ≤ W0.heap.size by omega) (.bool true)
        clear hK KK
        try simp only [Act.put, List.setIfInBounds_toArray, List.set_cons_zero, List.set_cons_succ]
        refine wpAnyH_done (by as_aux_lemma => kernel_rfl) ?_ _
        refine NoPanic.normal ?_
        go_wp2_with fail
        go_meet
        exact ⟨_, rfl, (((((H21).setCell (p := ⟨W0.heap.size, 0, none⟩) (show W0.heap.size ≤ W0.heap.size by omega) (.int .i64 0)).setCell (p := ⟨W0.heap.size, 1, none⟩) (show W0.heap.size ≤ W0.heap.size by omega) (.int .i64 0)).setCell (p := ⟨W0.heap.size, 2, none⟩) (show W0.heap.size ≤ W0.heap.size by omega) (.int .i64 0)).setCell (p := ⟨W0.heap.size, 3, none⟩) (show W0.heap.size ≤ W0.heap.size by omega) (.int .i64 0)).setCell (p := ⟨W0.heap.size, 4, none⟩) (show W0.heap.size ≤ W0.heap.size by omega) (.bool true), (((((OA).set 0 (.int .i64 0)).set 1 (.int .i64 0)).set 2 (.int .i64 0)).set 3 (.int .i64 0)).set 4 (.bool true)⟩
    case rest =>
      rename World => W2
      obtain ⟨x3, rfl, E1, O3⟩ := hcut
      have O1 := O1.keep E1
      have O2 := O2.keep E1
      replace D1 := belowT D1 E1
      clear a0 a1 a2 a3 a4 S3 E1
      go_upto_region 4 with fail
      have a0 : ∀ w', Below W2.heap.size W2 w' → w'.cell? ⟨x1, 0, none⟩ = some (.int .i64 970) := fun w' h => (O1.keep h).1.at 0 rfl
      have a1 : ∀ w', Below W2.heap.size W2 w' → w'.cell? ⟨x1, 1, none⟩ = some (.int .i64 1030) := fun w' h => (O1.keep h).1.at 1 rfl
      have a2 : ∀ w', Below W2.heap.size W2 w' → w'.cell? ⟨x1, 2, none⟩ = some (.int .i64 (-30)) := fun w' h => (O1.keep h).1.at 2 rfl
      have a3 : ∀ w', Below W2.heap.size W2 w' → w'.cell? ⟨x1, 3, none⟩ = some (.int .i64 40) := fun w' h => (O1.keep h).1.at 3 rfl
      have a4 : ∀ w', Below W2.heap.size W2 w' → w'.cell? ⟨x1, 4, none⟩ = some (.bool false) := fun w' h => (O1.keep h).1.at 4 rfl
      have b0 : ∀ w', Below W2.heap.size W2 w' → w'.cell? ⟨x2, 0, none⟩ = some (.int .i64 959) := fun w' h => (O2.keep h).1.at 0 rfl
      have b1 : ∀ w', Below W2.heap.size W2 w' → w'.cell? ⟨x2, 1, none⟩ = some (.int .i64 1041) := fun w' h => (O2.keep h).1.at 1 rfl
      have b2 : ∀ w', Below W2.heap.size W2 w' → w'.cell? ⟨x2, 2, none⟩ = some (.int .i64 (-31)) := fun w' h => (O2.keep h).1.at 2 rfl
      have b3 : ∀ w', Below W2.heap.size W2 w' → w'.cell? ⟨x2, 3, none⟩ = some (.int .i64 41) := fun w' h => (O2.keep h).1.at 3 rfl
      have b4 : ∀ w', Below W2.heap.size W2 w' → w'.cell? ⟨x2, 4, none⟩ = some (.bool false) := fun w' h => (O2.keep h).1.at 4 rfl
      have c0 : ∀ w', Below W2.heap.size W2 w' → w'.cell? ⟨x3, 0, none⟩ = some (.int .i64 0) := fun w' h => (O3.keep h).1.at 0 rfl
      have c1 : ∀ w', Below W2.heap.size W2 w' → w'.cell? ⟨x3, 1, none⟩ = some (.int .i64 0) := fun w' h => (O3.keep h).1.at 1 rfl
      have c2 : ∀ w', Below W2.heap.size W2 w' → w'.cell? ⟨x3, 2, none⟩ = some (.int .i64 0) := fun w' h => (O3.keep h).1.at 2 rfl
      have c3 : ∀ w', Below W2.heap.size W2 w' → w'.cell? ⟨x3, 3, none⟩ = some (.int .i64 0) := fun w' h => (O3.keep h).1.at 3 rfl
      have c4 : ∀ w', Below W2.heap.size W2 w' → w'.cell? ⟨x3, 4, none⟩ = some (.bool true) := fun w' h => (O3.keep h).1.at 4 rfl
      clear b0 b1 b2 b3
      have FP : ∀ w, (Instr.field 34 (.agg #[.int .i64 950, .int .i64 1050, .int .i64 (-31), .int .i64 41, .bool false]) 0).run Tryd.prog w = .ok (sv 950 1050) w := fun _ => by kernel_rfl
      have C2 := Below.refl W2.heap.size W2
      clear O1 O2 O3
      try simp only [List.append_eq, List.cons_append, List.nil_append]
      change (Code.region 4 oawake4 true).wp Tryd.prog _ _ _
      refine wp_region_noPanic ?_
      refine wp_region_held_drew (S := fun w' => Below W2.heap.size W2 w') (by kernel_rfl) ((C2).drew) (fun hHeld => ?_)
      refine wpAnyH_take (i := 0) (oi := ({ dst := some 20, op := .load 34 (.tmp 1), type := 34, pos := "law.go:19", after := #[], guard := none } : Oper)) (v := ?vs1_0) rfl oawake4_plain (by as_aux_lemma => kernel_rfl) (by as_aux_lemma => kernel_rfl) (fun _ _ _ h => h) (Or.inl ⟨by rfl, ?ys1_0⟩) (by assumption) ?rs1_0
      case ys1_0 => (intro w hSw; (try dsimp only at hSw); go_simp; try with_reducible rfl)
      try simp only [Act.put, List.setIfInBounds_toArray, List.set_cons_zero, List.set_cons_succ]
      refine wpAnyH_ready (rs := [1]) (by as_aux_lemma => kernel_rfl) (by simp) ?_
      refine AllReadyH.cons (o := ({ dst := some 21, op := .call { callee := .value (.func 10), args := #[.tmp 20, .const (.int .i64 1000), .const (.int .i64 5)], argTypes := #[34, 2, 2] }, type := 4, pos := "law.go:19", after := #[{ on := 0, ground := .data }], guard := none } : Oper)) rfl (fun KK hK => ?_) AllReadyH.nil
      rw [if_pos (by rfl)]
      go_simp
      go_at_call 10; refine (HA.out _ (belowT D1 (by assumption))).mono ?_; rintro e w30 ⟨rfl, hb30⟩
      go_wp2_with fail
      refine hK.out _ _ ?_ (fun hHeld30 => ?_)
      · exact belowT (by assumption) hb30
      clear hK KK hb30
      try simp only [Act.put, List.setIfInBounds_toArray, List.set_cons_zero, List.set_cons_succ]
      refine wpAnyH_take (i := 2) (oi := ({ dst := some 22, op := .move (.tmp 21), type := 4, pos := "law.go:19", after := #[{ on := 1, ground := .data }, { on := 1, ground := .chain }], guard := none } : Oper)) (v := ?vs1_2) rfl oawake4_plain (by as_aux_lemma => kernel_rfl) (by as_aux_lemma => kernel_rfl) (fun _ _ _ h => h) (Or.inl ⟨by rfl, ?ys1_2⟩) (by assumption) ?rs1_2
      case ys1_2 => (intro w hSw; (try dsimp only at hSw); go_simp; try with_reducible rfl)
      try simp only [Act.put, List.setIfInBounds_toArray, List.set_cons_zero, List.set_cons_succ]
      refine wpAnyH_take (i := 3) (oi := ({ dst := some 23, op := .fieldAddr 34 (.tmp 1) 0, type := 0, pos := "law.go:19", after := #[{ on := 2, ground := .guard }], guard := some (2, true) } : Oper)) (v := ?vs1_3) rfl oawake4_plain (by as_aux_lemma => kernel_rfl) (by as_aux_lemma => kernel_rfl) (fun _ _ _ h => h) (Or.inl ⟨by rfl, ?ys1_3⟩) (by assumption) ?rs1_3
      case ys1_3 => (intro w hSw; (try dsimp only at hSw); go_simp; try with_reducible rfl)
      try simp only [Act.put, List.setIfInBounds_toArray, List.set_cons_zero, List.set_cons_succ]
      refine wpAnyH_take (i := 4) (oi := ({ dst := some 24, op := .load 32 (.tmp 23), type := 32, pos := "law.go:19", after := #[{ on := 3, ground := .data }, { on := 2, ground := .guard }], guard := some (2, true) } : Oper)) (v := ?vs1_4) rfl oawake4_plain (by as_aux_lemma => kernel_rfl) (by as_aux_lemma => kernel_rfl) (fun _ _ _ h => h) (Or.inl ⟨by rfl, ?ys1_4⟩) (by assumption) ?rs1_4
      case ys1_4 => (intro w hSw; (try dsimp only at hSw); go_simp; try with_reducible rfl)
      try simp only [Act.put, List.setIfInBounds_toArray, List.set_cons_zero, List.set_cons_succ]
      refine wpAnyH_take (i := 5) (oi := ({ dst := some 25, op := .build 32 #[(0, .const (.int .i64 970)), (1, .const (.int .i64 1030))], type := 32, pos := "law.go:19", after := #[{ on := 2, ground := .guard }], guard := some (2, true) } : Oper)) (v := ?vs1_5) rfl oawake4_plain (by as_aux_lemma => kernel_rfl) (by as_aux_lemma => kernel_rfl) (fun _ _ _ h => h) (Or.inl ⟨by rfl, ?ys1_5⟩) (by assumption) ?rs1_5
      case ys1_5 => (intro w hSw; (try dsimp only at hSw); go_simp; try with_reducible rfl)
      try simp only [Act.put, List.setIfInBounds_toArray, List.set_cons_zero, List.set_cons_succ]
      refine wpAnyH_take (i := 6) (oi := ({ dst := some 26, op := .binOp .eql 32 (.tmp 24) (.tmp 25) 32, type := 4, pos := "law.go:19", after := #[{ on := 4, ground := .data }, { on := 5, ground := .data }, { on := 2, ground := .guard }], guard := some (2, true) } : Oper)) (v := ?vs1_6) rfl oawake4_plain (by as_aux_lemma => kernel_rfl) (by as_aux_lemma => kernel_rfl) (fun _ _ _ h => h) (Or.inl ⟨by rfl, ?ys1_6⟩) (by assumption) ?rs1_6
      case ys1_6 => (intro w hSw; (try dsimp only at hSw); go_simp; try with_reducible rfl)
      try simp only [Act.put, List.setIfInBounds_toArray, List.set_cons_zero, List.set_cons_succ]
      refine wpAnyH_take (i := 7) (oi := ({ dst := some 27, op := .pick (.tmp 22) (.tmp 26) (.const (.bool false)), type := 4, pos := "law.go:19", after := #[{ on := 2, ground := .data }, { on := 6, ground := .data }], guard := none } : Oper)) (v := ?vs1_7) rfl oawake4_plain (by as_aux_lemma => kernel_rfl) (by as_aux_lemma => kernel_rfl) (fun _ _ _ h => h) (Or.inl ⟨by rfl, ?ys1_7⟩) (by assumption) ?rs1_7
      case ys1_7 => (intro w hSw; (try dsimp only at hSw); go_simp; try with_reducible rfl)
      try simp only [Act.put, List.setIfInBounds_toArray, List.set_cons_zero, List.set_cons_succ]
      refine wpAnyH_take (i := 8) (oi := ({ dst := some 28, op := .move (.tmp 27), type := 4, pos := "law.go:19", after := #[{ on := 7, ground := .data }, { on := 2, ground := .chain }], guard := none } : Oper)) (v := ?vs1_8) rfl oawake4_plain (by as_aux_lemma => kernel_rfl) (by as_aux_lemma => kernel_rfl) (fun _ _ _ h => h) (Or.inl ⟨by rfl, ?ys1_8⟩) (by assumption) ?rs1_8
      case ys1_8 => (intro w hSw; (try dsimp only at hSw); go_simp; try with_reducible rfl)
      try simp only [Act.put, List.setIfInBounds_toArray, List.set_cons_zero, List.set_cons_succ]
      refine wpAnyH_take (i := 9) (oi := ({ dst := some 29, op := .fieldAddr 34 (.tmp 1) 1, type := 0, pos := "law.go:19", after := #[{ on := 8, ground := .guard }], guard := some (8, true) } : Oper)) (v := ?vs1_9) rfl oawake4_plain (by as_aux_lemma => kernel_rfl) (by as_aux_lemma => kernel_rfl) (fun _ _ _ h => h) (Or.inl ⟨by rfl, ?ys1_9⟩) (by assumption) ?rs1_9
      case ys1_9 => (intro w hSw; (try dsimp only at hSw); go_simp; try with_reducible rfl)
      try simp only [Act.put, List.setIfInBounds_toArray, List.set_cons_zero, List.set_cons_succ]
      refine wpAnyH_take (i := 10) (oi := ({ dst := some 30, op := .load 32 (.tmp 29), type := 32, pos := "law.go:19", after := #[{ on := 9, ground := .data }, { on := 8, ground := .guard }], guard := some (8, true) } : Oper)) (v := ?vs1_10) rfl oawake4_plain (by as_aux_lemma => kernel_rfl) (by as_aux_lemma => kernel_rfl) (fun _ _ _ h => h) (Or.inl ⟨by rfl, ?ys1_10⟩) (by assumption) ?rs1_10
      case ys1_10 => (intro w hSw; (try dsimp only at hSw); go_simp; try with_reducible rfl)
      try simp only [Act.put, List.setIfInBounds_toArray, List.set_cons_zero, List.set_cons_succ]
      refine wpAnyH_take (i := 11) (oi := ({ dst := some 31, op := .build 32 #[(0, .const (.int .i64 (-30))), (1, .const (.int .i64 40))], type := 32, pos := "law.go:19", after := #[{ on := 8, ground := .guard }], guard := some (8, true) } : Oper)) (v := ?vs1_11) rfl oawake4_plain (by as_aux_lemma => kernel_rfl) (by as_aux_lemma => kernel_rfl) (fun _ _ _ h => h) (Or.inl ⟨by rfl, ?ys1_11⟩) (by assumption) ?rs1_11
      case ys1_11 => (intro w hSw; (try dsimp only at hSw); go_simp; try with_reducible rfl)
      try simp only [Act.put, List.setIfInBounds_toArray, List.set_cons_zero, List.set_cons_succ]
      refine wpAnyH_take (i := 12) (oi := ({ dst := some 32, op := .binOp .eql 32 (.tmp 30) (.tmp 31) 32, type := 4, pos := "law.go:19", after := #[{ on := 10, ground := .data }, { on := 11, ground := .data }, { on := 8, ground := .guard }], guard := some (8, true) } : Oper)) (v := ?vs1_12) rfl oawake4_plain (by as_aux_lemma => kernel_rfl) (by as_aux_lemma => kernel_rfl) (fun _ _ _ h => h) (Or.inl ⟨by rfl, ?ys1_12⟩) (by assumption) ?rs1_12
      case ys1_12 => (intro w hSw; (try dsimp only at hSw); go_simp; try with_reducible rfl)
      try simp only [Act.put, List.setIfInBounds_toArray, List.set_cons_zero, List.set_cons_succ]
      refine wpAnyH_take (i := 13) (oi := ({ dst := some 33, op := .pick (.tmp 28) (.tmp 32) (.const (.bool false)), type := 4, pos := "law.go:19", after := #[{ on := 8, ground := .data }, { on := 12, ground := .data }], guard := none } : Oper)) (v := ?vs1_13) rfl oawake4_plain (by as_aux_lemma => kernel_rfl) (by as_aux_lemma => kernel_rfl) (fun _ _ _ h => h) (Or.inl ⟨by rfl, ?ys1_13⟩) (by assumption) ?rs1_13
      case ys1_13 => (intro w hSw; (try dsimp only at hSw); go_simp; try with_reducible rfl)
      try simp only [Act.put, List.setIfInBounds_toArray, List.set_cons_zero, List.set_cons_succ]
      refine wpAnyH_take (i := 14) (oi := ({ dst := some 34, op := .move (.tmp 33), type := 4, pos := "law.go:19", after := #[{ on := 13, ground := .data }, { on := 8, ground := .chain }], guard := none } : Oper)) (v := ?vs1_14) rfl oawake4_plain (by as_aux_lemma => kernel_rfl) (by as_aux_lemma => kernel_rfl) (fun _ _ _ h => h) (Or.inl ⟨by rfl, ?ys1_14⟩) (by assumption) ?rs1_14
      case ys1_14 => (intro w hSw; (try dsimp only at hSw); go_simp; try with_reducible rfl)
      try simp only [Act.put, List.setIfInBounds_toArray, List.set_cons_zero, List.set_cons_succ]
      refine wpAnyH_take (i := 15) (oi := ({ dst := some 35, op := .fieldAddr 34 (.tmp 2) 2, type := 0, pos := "law.go:19", after := #[{ on := 14, ground := .guard }], guard := some (14, true) } : Oper)) (v := ?vs1_15) rfl oawake4_plain (by as_aux_lemma => kernel_rfl) (by as_aux_lemma => kernel_rfl) (fun _ _ _ h => h) (Or.inl ⟨by rfl, ?ys1_15⟩) (by assumption) ?rs1_15
      case ys1_15 => (intro w hSw; (try dsimp only at hSw); go_simp; try with_reducible rfl)
      try simp only [Act.put, List.setIfInBounds_toArray, List.set_cons_zero, List.set_cons_succ]
      refine wpAnyH_take (i := 16) (oi := ({ dst := some 36, op := .load 4 (.tmp 35), type := 4, pos := "law.go:19", after := #[{ on := 15, ground := .data }, { on := 14, ground := .guard }], guard := some (14, true) } : Oper)) (v := ?vs1_16) rfl oawake4_plain (by as_aux_lemma => kernel_rfl) (by as_aux_lemma => kernel_rfl) (fun _ _ _ h => h) (Or.inl ⟨by rfl, ?ys1_16⟩) (by assumption) ?rs1_16
      case ys1_16 => (intro w hSw; (try dsimp only at hSw); go_simp; try with_reducible rfl)
      try simp only [Act.put, List.setIfInBounds_toArray, List.set_cons_zero, List.set_cons_succ]
      refine wpAnyH_take (i := 17) (oi := ({ dst := some 37, op := .unOp .not 4 (.tmp 36), type := 4, pos := "law.go:19", after := #[{ on := 16, ground := .data }, { on := 14, ground := .guard }], guard := some (14, true) } : Oper)) (v := ?vs1_17) rfl oawake4_plain (by as_aux_lemma => kernel_rfl) (by as_aux_lemma => kernel_rfl) (fun _ _ _ h => h) (Or.inl ⟨by rfl, ?ys1_17⟩) (by assumption) ?rs1_17
      case ys1_17 => (intro w hSw; (try dsimp only at hSw); go_simp; try with_reducible rfl)
      try simp only [Act.put, List.setIfInBounds_toArray, List.set_cons_zero, List.set_cons_succ]
      refine wpAnyH_take (i := 18) (oi := ({ dst := some 38, op := .pick (.tmp 34) (.tmp 37) (.const (.bool false)), type := 4, pos := "law.go:19", after := #[{ on := 14, ground := .data }, { on := 17, ground := .data }], guard := none } : Oper)) (v := ?vs1_18) rfl oawake4_plain (by as_aux_lemma => kernel_rfl) (by as_aux_lemma => kernel_rfl) (fun _ _ _ h => h) (Or.inl ⟨by rfl, ?ys1_18⟩) (by assumption) ?rs1_18
      case ys1_18 => (intro w hSw; (try dsimp only at hSw); go_simp; try with_reducible rfl)
      try simp only [Act.put, List.setIfInBounds_toArray, List.set_cons_zero, List.set_cons_succ]
      refine wpAnyH_take (i := 19) (oi := ({ dst := some 39, op := .move (.tmp 38), type := 4, pos := "law.go:19", after := #[{ on := 18, ground := .data }, { on := 14, ground := .chain }], guard := none } : Oper)) (v := ?vs1_19) rfl oawake4_plain (by as_aux_lemma => kernel_rfl) (by as_aux_lemma => kernel_rfl) (fun _ _ _ h => h) (Or.inl ⟨by rfl, ?ys1_19⟩) (by assumption) ?rs1_19
      case ys1_19 => (intro w hSw; (try dsimp only at hSw); go_simp; try with_reducible rfl)
      try simp only [Act.put, List.setIfInBounds_toArray, List.set_cons_zero, List.set_cons_succ]
      refine wpAnyH_take (i := 20) (oi := ({ dst := some 40, op := .fieldAddr 34 (.tmp 3) 2, type := 0, pos := "law.go:19", after := #[{ on := 19, ground := .guard }], guard := some (19, true) } : Oper)) (v := ?vs1_20) rfl oawake4_plain (by as_aux_lemma => kernel_rfl) (by as_aux_lemma => kernel_rfl) (fun _ _ _ h => h) (Or.inl ⟨by rfl, ?ys1_20⟩) (by assumption) ?rs1_20
      case ys1_20 => (intro w hSw; (try dsimp only at hSw); go_simp; try with_reducible rfl)
      try simp only [Act.put, List.setIfInBounds_toArray, List.set_cons_zero, List.set_cons_succ]
      refine wpAnyH_take (i := 21) (oi := ({ dst := some 41, op := .load 4 (.tmp 40), type := 4, pos := "law.go:19", after := #[{ on := 20, ground := .data }, { on := 19, ground := .guard }], guard := some (19, true) } : Oper)) (v := ?vs1_21) rfl oawake4_plain (by as_aux_lemma => kernel_rfl) (by as_aux_lemma => kernel_rfl) (fun _ _ _ h => h) (Or.inl ⟨by rfl, ?ys1_21⟩) (by assumption) ?rs1_21
      case ys1_21 => (intro w hSw; (try dsimp only at hSw); go_simp; try with_reducible rfl)
      try simp only [Act.put, List.setIfInBounds_toArray, List.set_cons_zero, List.set_cons_succ]
      refine wpAnyH_take (i := 22) (oi := ({ dst := some 42, op := .pick (.tmp 39) (.tmp 41) (.const (.bool false)), type := 4, pos := "law.go:19", after := #[{ on := 19, ground := .data }, { on := 21, ground := .data }], guard := none } : Oper)) (v := ?vs1_22) rfl oawake4_plain (by as_aux_lemma => kernel_rfl) (by as_aux_lemma => kernel_rfl) (fun _ _ _ h => h) (Or.inl ⟨by rfl, ?ys1_22⟩) (by assumption) ?rs1_22
      case ys1_22 => (intro w hSw; (try dsimp only at hSw); go_simp; try with_reducible rfl)
      try simp only [Act.put, List.setIfInBounds_toArray, List.set_cons_zero, List.set_cons_succ]
      refine wpAnyH_take (i := 23) (oi := ({ dst := some 43, op := .move (.tmp 42), type := 4, pos := "law.go:19", after := #[{ on := 22, ground := .data }, { on := 19, ground := .chain }], guard := none } : Oper)) (v := ?vs1_23) rfl oawake4_plain (by as_aux_lemma => kernel_rfl) (by as_aux_lemma => kernel_rfl) (fun _ _ _ h => h) (Or.inl ⟨by rfl, ?ys1_23⟩) (by assumption) ?rs1_23
      case ys1_23 => (intro w hSw; (try dsimp only at hSw); go_simp; try with_reducible rfl)
      try simp only [Act.put, List.setIfInBounds_toArray, List.set_cons_zero, List.set_cons_succ]
      refine wpAnyH_take (i := 24) (oi := ({ dst := some 44, op := .fieldAddr 34 (.tmp 3) 0, type := 0, pos := "law.go:19", after := #[{ on := 23, ground := .guard }], guard := some (23, true) } : Oper)) (v := ?vs1_24) rfl oawake4_plain (by as_aux_lemma => kernel_rfl) (by as_aux_lemma => kernel_rfl) (fun _ _ _ h => h) (Or.inl ⟨by rfl, ?ys1_24⟩) (by assumption) ?rs1_24
      case ys1_24 => (intro w hSw; (try dsimp only at hSw); go_simp; try with_reducible rfl)
      try simp only [Act.put, List.setIfInBounds_toArray, List.set_cons_zero, List.set_cons_succ]
      refine wpAnyH_take (i := 25) (oi := ({ dst := some 45, op := .load 32 (.tmp 44), type := 32, pos := "law.go:19", after := #[{ on := 24, ground := .data }, { on := 23, ground := .guard }], guard := some (23, true) } : Oper)) (v := ?vs1_25) rfl oawake4_plain (by as_aux_lemma => kernel_rfl) (by as_aux_lemma => kernel_rfl) (fun _ _ _ h => h) (Or.inl ⟨by rfl, ?ys1_25⟩) (by assumption) ?rs1_25
      case ys1_25 => (intro w hSw; (try dsimp only at hSw); go_simp; try with_reducible rfl)
      try simp only [Act.put, List.setIfInBounds_toArray, List.set_cons_zero, List.set_cons_succ]
      refine wpAnyH_take (i := 26) (oi := ({ dst := some 46, op := .build 32 #[], type := 32, pos := "law.go:19", after := #[{ on := 23, ground := .guard }], guard := some (23, true) } : Oper)) (v := ?vs1_26) rfl oawake4_plain (by as_aux_lemma => kernel_rfl) (by as_aux_lemma => kernel_rfl) (fun _ _ _ h => h) (Or.inl ⟨by rfl, ?ys1_26⟩) (by assumption) ?rs1_26
      case ys1_26 => (intro w hSw; (try dsimp only at hSw); go_simp; try with_reducible rfl)
      try simp only [Act.put, List.setIfInBounds_toArray, List.set_cons_zero, List.set_cons_succ]
      refine wpAnyH_take (i := 27) (oi := ({ dst := some 47, op := .binOp .eql 32 (.tmp 45) (.tmp 46) 32, type := 4, pos := "law.go:19", after := #[{ on := 25, ground := .data }, { on := 26, ground := .data }, { on := 23, ground := .guard }], guard := some (23, true) } : Oper)) (v := ?vs1_27) rfl oawake4_plain (by as_aux_lemma => kernel_rfl) (by as_aux_lemma => kernel_rfl) (fun _ _ _ h => h) (Or.inl ⟨by rfl, ?ys1_27⟩) (by assumption) ?rs1_27
      case ys1_27 => (intro w hSw; (try dsimp only at hSw); go_simp; try with_reducible rfl)
      try simp only [Act.put, List.setIfInBounds_toArray, List.set_cons_zero, List.set_cons_succ]
      refine wpAnyH_take (i := 28) (oi := ({ dst := some 48, op := .pick (.tmp 43) (.tmp 47) (.const (.bool false)), type := 4, pos := "law.go:19", after := #[{ on := 23, ground := .data }, { on := 27, ground := .data }], guard := none } : Oper)) (v := ?vs1_28) rfl oawake4_plain (by as_aux_lemma => kernel_rfl) (by as_aux_lemma => kernel_rfl) (fun _ _ _ h => h) (Or.inl ⟨by rfl, ?ys1_28⟩) (by assumption) ?rs1_28
      case ys1_28 => (intro w hSw; (try dsimp only at hSw); go_simp; try with_reducible rfl)
      try simp only [Act.put, List.setIfInBounds_toArray, List.set_cons_zero, List.set_cons_succ]
      refine wpAnyH_take (i := 29) (oi := ({ dst := some 49, op := .move (.tmp 48), type := 4, pos := "law.go:19", after := #[{ on := 28, ground := .data }, { on := 23, ground := .chain }], guard := none } : Oper)) (v := ?vs1_29) rfl oawake4_plain (by as_aux_lemma => kernel_rfl) (by as_aux_lemma => kernel_rfl) (fun _ _ _ h => h) (Or.inl ⟨by rfl, ?ys1_29⟩) (by assumption) ?rs1_29
      case ys1_29 => (intro w hSw; (try dsimp only at hSw); go_simp; try with_reducible rfl)
      try simp only [Act.put, List.setIfInBounds_toArray, List.set_cons_zero, List.set_cons_succ]
      refine wpAnyH_take (i := 31) (oi := ({ dst := some 51, op := .load 34 (.tmp 3), type := 34, pos := "law.go:19", after := #[{ on := 29, ground := .guard }], guard := some (29, true) } : Oper)) (v := ?vs1_31) rfl oawake4_plain (by as_aux_lemma => kernel_rfl) (by as_aux_lemma => kernel_rfl) (fun _ _ _ h => h) (Or.inl ⟨by rfl, ?ys1_31⟩) (by assumption) ?rs1_31
      case ys1_31 => (intro w hSw; (try dsimp only at hSw); go_simp; try with_reducible rfl)
      try simp only [Act.put, List.setIfInBounds_toArray, List.set_cons_zero, List.set_cons_succ]
      refine wpAnyH_take (i := 32) (oi := ({ dst := some 52, op := .build 22 #[], type := 22, pos := "law.go:19", after := #[{ on := 29, ground := .guard }], guard := some (29, true) } : Oper)) (v := ?vs1_32) rfl oawake4_plain (by as_aux_lemma => kernel_rfl) (by as_aux_lemma => kernel_rfl) (fun _ _ _ h => h) (Or.inl ⟨by rfl, ?ys1_32⟩) (by assumption) ?rs1_32
      case ys1_32 => (intro w hSw; (try dsimp only at hSw); go_simp; try with_reducible rfl)
      try simp only [Act.put, List.setIfInBounds_toArray, List.set_cons_zero, List.set_cons_succ]
      refine wpAnyH_take (i := 33) (oi := ({ dst := some 53, op := .build 23 #[], type := 23, pos := "law.go:19", after := #[{ on := 29, ground := .guard }], guard := some (29, true) } : Oper)) (v := ?vs1_33) rfl oawake4_plain (by as_aux_lemma => kernel_rfl) (by as_aux_lemma => kernel_rfl) (fun _ _ _ h => h) (Or.inl ⟨by rfl, ?ys1_33⟩) (by assumption) ?rs1_33
      case ys1_33 => (intro w hSw; (try dsimp only at hSw); go_simp; try with_reducible rfl)
      try simp only [Act.put, List.setIfInBounds_toArray, List.set_cons_zero, List.set_cons_succ]
      refine wpAnyH_take (i := 35) (oi := ({ dst := some 55, op := .load 34 (.tmp 3), type := 34, pos := "law.go:19", after := #[{ on := 29, ground := .guard }], guard := some (29, true) } : Oper)) (v := ?vs1_35) rfl oawake4_plain (by as_aux_lemma => kernel_rfl) (by as_aux_lemma => kernel_rfl) (fun _ _ _ h => h) (Or.inl ⟨by rfl, ?ys1_35⟩) (by assumption) ?rs1_35
      case ys1_35 => (intro w hSw; (try dsimp only at hSw); go_simp; try with_reducible rfl)
      try simp only [Act.put, List.setIfInBounds_toArray, List.set_cons_zero, List.set_cons_succ]
      refine wpAnyH_ready (rs := [30]) (by as_aux_lemma => kernel_rfl) (by simp) ?_
      refine AllReadyH.cons (o := ({ dst := some 50, op := .call { callee := .value (.func 12), args := #[], argTypes := #[] }, type := 25, pos := "law.go:19", after := #[{ on := 29, ground := .chain }, { on := 29, ground := .guard }], guard := some (29, true) } : Oper)) rfl (fun KK hK => ?_) AllReadyH.nil
      rw [if_pos (by rfl)]
      go_simp
      go_at_call 12; refine (SO.out _ (belowT D1 (by assumption))).mono ?_; rintro e w31 ⟨rfl, hb31⟩
      go_wp2_with fail
      refine hK.out _ _ ?_ (fun hHeld31 => ?_)
      · exact belowT (by assumption) hb31
      clear hK KK hb31 hHeld30
      try simp only [Act.put, List.setIfInBounds_toArray, List.set_cons_zero, List.set_cons_succ]
      refine wpAnyH_ready (rs := [34]) (by as_aux_lemma => kernel_rfl) (by simp) ?_
      refine AllReadyH.cons (o := ({ dst := some 54, op := .call { callee := .value (.func 9), args := #[.tmp 50, .tmp 51, .const (.int .i64 (-1)), .tmp 52, .tmp 53], argTypes := #[25, 34, 3, 22, 23] }, type := 34, pos := "law.go:19", after := #[{ on := 30, ground := .data }, { on := 31, ground := .data }, { on := 32, ground := .data }, { on := 33, ground := .data }, { on := 30, ground := .chain }, { on := 29, ground := .guard }], guard := some (29, true) } : Oper)) rfl (fun KK hK => ?_) AllReadyH.nil
      rw [if_pos (by rfl)]
      go_simp
      go_at_call 9; refine (S4.out _ (belowT D1 (by assumption))).mono ?_; rintro e w32 ⟨rfl, hb32⟩
      go_wp2_with fail
      refine hK.out _ _ ?_ (fun hHeld32 => ?_)
      · exact belowT (by assumption) hb32
      clear hK KK hb32 hHeld31
      try simp only [Act.put, List.setIfInBounds_toArray, List.set_cons_zero, List.set_cons_succ]
      refine wpAnyH_take (i := 36) (oi := ({ dst := some 56, op := .binOp .eql 34 (.tmp 54) (.tmp 55) 34, type := 4, pos := "law.go:19", after := #[{ on := 34, ground := .data }, { on := 35, ground := .data }, { on := 29, ground := .guard }], guard := some (29, true) } : Oper)) (v := ?vs1_36) rfl oawake4_plain (by as_aux_lemma => kernel_rfl) (by as_aux_lemma => kernel_rfl) (fun _ _ _ h => h) (Or.inl ⟨by rfl, ?ys1_36⟩) (by assumption) ?rs1_36
      case ys1_36 => (intro w hSw; (try dsimp only at hSw); go_simp; try with_reducible rfl)
      try simp only [Act.put, List.setIfInBounds_toArray, List.set_cons_zero, List.set_cons_succ]
      refine wpAnyH_take (i := 37) (oi := ({ dst := some 57, op := .pick (.tmp 49) (.tmp 56) (.const (.bool false)), type := 4, pos := "law.go:19", after := #[{ on := 29, ground := .data }, { on := 36, ground := .data }], guard := none } : Oper)) (v := ?vs1_37) rfl oawake4_plain (by as_aux_lemma => kernel_rfl) (by as_aux_lemma => kernel_rfl) (fun _ _ _ h => h) (Or.inl ⟨by rfl, ?ys1_37⟩) (by assumption) ?rs1_37
      case ys1_37 => (intro w hSw; (try dsimp only at hSw); go_simp; try with_reducible rfl)
      try simp only [Act.put, List.setIfInBounds_toArray, List.set_cons_zero, List.set_cons_succ]
      refine wpAnyH_take (i := 38) (oi := ({ dst := some 58, op := .move (.tmp 57), type := 4, pos := "law.go:19", after := #[{ on := 37, ground := .data }, { on := 34, ground := .chain }], guard := none } : Oper)) (v := ?vs1_38) rfl oawake4_plain (by as_aux_lemma => kernel_rfl) (by as_aux_lemma => kernel_rfl) (fun _ _ _ h => h) (Or.inl ⟨by rfl, ?ys1_38⟩) (by assumption) ?rs1_38
      case ys1_38 => (intro w hSw; (try dsimp only at hSw); go_simp; try with_reducible rfl)
      try simp only [Act.put, List.setIfInBounds_toArray, List.set_cons_zero, List.set_cons_succ]
      refine wpAnyH_take (i := 40) (oi := ({ dst := some 60, op := .load 34 (.tmp 1), type := 34, pos := "law.go:19", after := #[{ on := 38, ground := .guard }], guard := some (38, true) } : Oper)) (v := ?vs1_40) rfl oawake4_plain (by as_aux_lemma => kernel_rfl) (by as_aux_lemma => kernel_rfl) (fun _ _ _ h => h) (Or.inl ⟨by rfl, ?ys1_40⟩) (by assumption) ?rs1_40
      case ys1_40 => (intro w hSw; (try dsimp only at hSw); go_simp; try with_reducible rfl)
      try simp only [Act.put, List.setIfInBounds_toArray, List.set_cons_zero, List.set_cons_succ]
      refine wpAnyH_take (i := 43) (oi := ({ dst := some 63, op := .build 32 #[(0, .const (.int .i64 950)), (1, .const (.int .i64 1050))], type := 32, pos := "law.go:19", after := #[{ on := 38, ground := .guard }], guard := some (38, true) } : Oper)) (v := ?vs1_43) rfl oawake4_plain (by as_aux_lemma => kernel_rfl) (by as_aux_lemma => kernel_rfl) (fun _ _ _ h => h) (Or.inl ⟨by rfl, ?ys1_43⟩) (by assumption) ?rs1_43
      case ys1_43 => (intro w hSw; (try dsimp only at hSw); go_simp; try with_reducible rfl)
      try simp only [Act.put, List.setIfInBounds_toArray, List.set_cons_zero, List.set_cons_succ]
      refine wpAnyH_ready (rs := [39]) (by as_aux_lemma => kernel_rfl) (by simp) ?_
      refine AllReadyH.cons (o := ({ dst := some 59, op := .call { callee := .value (.func 12), args := #[], argTypes := #[] }, type := 25, pos := "law.go:19", after := #[{ on := 38, ground := .chain }, { on := 38, ground := .guard }], guard := some (38, true) } : Oper)) rfl (fun KK hK => ?_) AllReadyH.nil
      rw [if_pos (by rfl)]
      go_simp
      go_at_call 12; refine (SO.out _ (belowT D1 (by assumption))).mono ?_; rintro e w33 ⟨rfl, hb33⟩
      go_wp2_with fail
      refine hK.out _ _ ?_ (fun hHeld33 => ?_)
      · exact belowT (by assumption) hb33
      clear hK KK hb33 hHeld32
      try simp only [Act.put, List.setIfInBounds_toArray, List.set_cons_zero, List.set_cons_succ]
      refine wpAnyH_ready (rs := [41]) (by as_aux_lemma => kernel_rfl) (by simp) ?_
      refine AllReadyH.cons (o := ({ dst := some 61, op := .call { callee := .value (.func 13), args := #[.tmp 59, .tmp 60], argTypes := #[25, 34] }, type := 34, pos := "law.go:19", after := #[{ on := 39, ground := .data }, { on := 40, ground := .data }, { on := 39, ground := .chain }, { on := 38, ground := .guard }], guard := some (38, true) } : Oper)) rfl (fun KK hK => ?_) AllReadyH.nil
      rw [if_pos (by rfl)]
      go_simp
      go_at_call 13; refine (PR.out _ (belowT D1 (by assumption))).mono ?_; rintro e w34 ⟨rfl, hb34⟩
      go_wp2_with fail
      refine hK.out _ _ ?_ (fun hHeld34 => ?_)
      · exact belowT (by assumption) hb34
      clear hK KK hb34 hHeld33
      try simp only [Act.put, List.setIfInBounds_toArray, List.set_cons_zero, List.set_cons_succ]
      refine wpAnyH_take (i := 42) (oi := ({ dst := some 62, op := .field 34 (.tmp 61) 0, type := 32, pos := "law.go:19", after := #[{ on := 41, ground := .data }, { on := 38, ground := .guard }], guard := some (38, true) } : Oper)) (v := ?vs1_42) rfl oawake4_plain (by as_aux_lemma => kernel_rfl) (by as_aux_lemma => kernel_rfl) (fun _ _ _ h => h) (Or.inl ⟨by rfl, ?ys1_42⟩) (by assumption) ?rs1_42
      case ys1_42 => (intro w hSw; (try dsimp only at hSw); go_simp; try with_reducible rfl)
      try simp only [Act.put, List.setIfInBounds_toArray, List.set_cons_zero, List.set_cons_succ]
      refine wpAnyH_take (i := 44) (oi := ({ dst := some 64, op := .binOp .eql 32 (.tmp 62) (.tmp 63) 32, type := 4, pos := "law.go:19", after := #[{ on := 42, ground := .data }, { on := 43, ground := .data }, { on := 38, ground := .guard }], guard := some (38, true) } : Oper)) (v := ?vs1_44) rfl oawake4_plain (by as_aux_lemma => kernel_rfl) (by as_aux_lemma => kernel_rfl) (fun _ _ _ h => h) (Or.inl ⟨by rfl, ?ys1_44⟩) (by assumption) ?rs1_44
      case ys1_44 => (intro w hSw; (try dsimp only at hSw); go_simp; try with_reducible rfl)
      try simp only [Act.put, List.setIfInBounds_toArray, List.set_cons_zero, List.set_cons_succ]
      refine wpAnyH_take (i := 45) (oi := ({ dst := some 65, op := .pick (.tmp 58) (.tmp 64) (.const (.bool false)), type := 4, pos := "law.go:19", after := #[{ on := 38, ground := .data }, { on := 44, ground := .data }], guard := none } : Oper)) (v := ?vs1_45) rfl oawake4_plain (by as_aux_lemma => kernel_rfl) (by as_aux_lemma => kernel_rfl) (fun _ _ _ h => h) (Or.inl ⟨by rfl, ?ys1_45⟩) (by assumption) ?rs1_45
      case ys1_45 => (intro w hSw; (try dsimp only at hSw); go_simp; try with_reducible rfl)
      try simp only [Act.put, List.setIfInBounds_toArray, List.set_cons_zero, List.set_cons_succ]
      refine wpAnyH_take (i := 46) (oi := ({ dst := some 0, op := .assign (.tmp 65), type := 4, pos := "law.go:19", after := #[{ on := 45, ground := .data }, { on := 41, ground := .chain }, { on := 0, ground := .phase }, { on := 1, ground := .phase }, { on := 2, ground := .phase }, { on := 3, ground := .phase }, { on := 4, ground := .phase }, { on := 5, ground := .phase }, { on := 6, ground := .phase }, { on := 7, ground := .phase }, { on := 8, ground := .phase }, { on := 9, ground := .phase }, { on := 10, ground := .phase }, { on := 11, ground := .phase }, { on := 12, ground := .phase }, { on := 13, ground := .phase }, { on := 14, ground := .phase }, { on := 15, ground := .phase }, { on := 16, ground := .phase }, { on := 17, ground := .phase }, { on := 18, ground := .phase }, { on := 19, ground := .phase }, { on := 20, ground := .phase }, { on := 21, ground := .phase }, { on := 22, ground := .phase }, { on := 23, ground := .phase }, { on := 24, ground := .phase }, { on := 25, ground := .phase }, { on := 26, ground := .phase }, { on := 27, ground := .phase }, { on := 28, ground := .phase }, { on := 29, ground := .phase }, { on := 30, ground := .phase }, { on := 31, ground := .phase }, { on := 32, ground := .phase }, { on := 33, ground := .phase }, { on := 34, ground := .phase }, { on := 35, ground := .phase }, { on := 36, ground := .phase }, { on := 37, ground := .phase }, { on := 38, ground := .phase }, { on := 39, ground := .phase }, { on := 40, ground := .phase }, { on := 41, ground := .phase }, { on := 42, ground := .phase }, { on := 43, ground := .phase }, { on := 44, ground := .phase }, { on := 45, ground := .phase }], guard := none } : Oper)) (v := ?vs1_46) rfl oawake4_plain (by as_aux_lemma => kernel_rfl) (by as_aux_lemma => kernel_rfl) (fun _ _ _ h => h) (Or.inl ⟨by rfl, ?ys1_46⟩) (by assumption) ?rs1_46
      case ys1_46 => (intro w hSw; (try dsimp only at hSw); go_simp; try with_reducible rfl)
      try simp only [Act.put, List.setIfInBounds_toArray, List.set_cons_zero]
      refine wpAnyH_done (by as_aux_lemma => kernel_rfl) ?_ _
      refine NoPanic.normal ?_
      go_wp2_with fail
      go_ret
      exact ⟨rfl, belowT D1 (by assumption)⟩

theorem ar_alt : AR alt0 := ⟨by decide, by decide, by decide, by decide, by decide, by decide, by decide⟩
theorem or_lit {a b c d : Int} {r : Bool} (h1 : Sp.R6 a) (h2 : Sp.R6 b) (h3 : Sp.R6 c) (h4 : Sp.R6 d) : OR ⟨a, b, c, d, r⟩ := ⟨h1, h2, h3, h4⟩
theorem lit_r6 {x : Int} (h : (decide (-9223372036854775808 ≤ x) && decide (x ≤ 9223372036854775807)) = true) : Sp.R6 x := by simpa [Sp.R6] using h
theorem awake_any (w : World) (n : NoneAt w) (c : ConeAt w) :
    Calls Tryd.prog 5 #[] w fun e w' => e = .returned (.bool true) ∧ Below w.heap.size w w' := by
  have r := @lit_r6
  have k0 : OR (Obs.start alt0) := start_r6 ar_alt
  have s1 : Obs.step alt0 (Obs.start alt0) (-1) 1005 0 1000 true false true = ⟨970, 1030, -30, 40, false⟩ := by decide +kernel
  have s2 : Obs.step alt0 ⟨970, 1030, -30, 40, false⟩ 2 1005 0 5000 true false true = ⟨959, 1041, -31, 41, false⟩ := by decide +kernel
  have s3 : Obs.step alt0 ⟨970, 1030, -30, 40, false⟩ (-1) 1005 0 5000 true false true = ⟨0, 0, 0, 0, true⟩ := by decide +kernel
  have s4 : Obs.step alt0 ⟨0, 0, 0, 0, true⟩ (-1) 0 0 0 false false false = ⟨0, 0, 0, 0, true⟩ := by decide +kernel
  have s5 : Obs.predict alt0 ⟨970, 1030, -30, 40, false⟩ = ⟨950, 1050, -31, 41, false⟩ := by decide +kernel
  have k1 : OR ⟨970, 1030, -30, 40, false⟩ := or_lit (r rfl) (r rfl) (r rfl) (r rfl)
  have k3 : OR ⟨0, 0, 0, 0, true⟩ := or_lit (r rfl) (r rfl) (r rfl) (r rfl)
  refine awake_core alt0 w (Lib.hid fun w' B => some_any w' (c.keep B)) (Lib.hid fun w' _ => Start_any alt0 w' ar_alt) (Lib.hid fun w' B => ?_) (Lib.hid fun w' B => ?_) (Lib.hid fun w' B => ?_) (Lib.hid fun w' B => ?_) (Lib.hid fun w' _ => ?_) (Lib.hid fun w' B => ?_)
  · have h := Step_any alt0 (Obs.start alt0) (-1) 1005 0 1000 true false true w' (n.keep B) ar_alt k0 (r rfl) (r rfl) (r rfl)
    rw [s1] at h; exact h
  · have h := Step_any alt0 ⟨970, 1030, -30, 40, false⟩ 2 1005 0 5000 true false true w' (n.keep B) ar_alt k1 (r rfl) (r rfl) (r rfl)
    rw [s2] at h; exact h
  · have h := Step_any alt0 ⟨970, 1030, -30, 40, false⟩ (-1) 1005 0 5000 true false true w' (n.keep B) ar_alt k1 (r rfl) (r rfl) (r rfl)
    rw [s3] at h; exact h
  · have h := Step_any alt0 ⟨0, 0, 0, 0, true⟩ (-1) 0 0 0 false false false w' (n.keep B) ar_alt k3 (r rfl) (r rfl) (r rfl)
    rw [s4] at h; exact h
  · exact HasO_any ⟨970, 1030, -30, 40, false⟩ 1000 5 w' ⟨rfl, by decide, by decide, by decide, by decide⟩
  · have h := Predict_any alt0 ⟨970, 1030, -30, 40, false⟩ w' (n.keep B) ar_alt k1
    rw [s5] at h; exact h
end Go.Proofs.YtfofcacjckdejaaDoor
