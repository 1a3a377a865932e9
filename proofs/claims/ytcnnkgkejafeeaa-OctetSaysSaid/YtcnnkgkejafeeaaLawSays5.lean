/- OctetSays: the walk, over contracts. -/
import Derived.Test.YtcnnkgkejafeeaaBytesStr
import Derived.Test.YtcnnkgkejafeeaaRebase
import Derived.Deep.CutBlock
import Derived.Deep.CutRange
namespace Go.Proofs.Ytcnnkgkejafeeaa
open Go.RowKit

/-- The operations of a drawn region, as the translation has them. -/
def says13 : Array Oper := #[
  { dst := some 111, op := .move (.tmp 0), type := 2, pos := "law.go:36", after := #[], guard := none },
  { dst := some 112, op := .convert 2 28 (.tmp 111), type := 28, pos := "law.go:36", after := #[{ on := 0, ground := .data }], guard := none },
  { dst := some 113, op := .indexAddr 23 (.tmp 5) (.const (.int .i64 1)), type := 0, pos := "law.go:36", after := #[], guard := none },
  { dst := some 114, op := .load 3 (.tmp 113), type := 3, pos := "law.go:36", after := #[{ on := 2, ground := .data }], guard := none },
  { dst := some 115, op := .call { callee := .value (.func 18), args := #[.tmp 112, .tmp 114], argTypes := #[28, 3] }, type := 22, pos := "law.go:36", after := #[{ on := 1, ground := .data }, { on := 3, ground := .data }], guard := none },
  { dst := some 116, op := .convert 22 9 (.tmp 115), type := 9, pos := "law.go:36", after := #[{ on := 4, ground := .data }], guard := none },
  { dst := some 117, op := .move (.tmp 0), type := 2, pos := "law.go:36", after := #[], guard := none },
  { dst := some 118, op := .convert 2 28 (.tmp 117), type := 28, pos := "law.go:36", after := #[{ on := 6, ground := .data }], guard := none },
  { dst := some 119, op := .indexAddr 23 (.tmp 5) (.const (.int .i64 1)), type := 0, pos := "law.go:36", after := #[], guard := none },
  { dst := some 120, op := .load 3 (.tmp 119), type := 3, pos := "law.go:36", after := #[{ on := 8, ground := .data }], guard := none },
  { dst := some 121, op := .call { callee := .value (.func 19), args := #[.tmp 118, .tmp 120], argTypes := #[28, 3] }, type := 22, pos := "law.go:36", after := #[{ on := 7, ground := .data }, { on := 9, ground := .data }, { on := 4, ground := .chain }], guard := none },
  { dst := some 122, op := .convert 22 9 (.tmp 121), type := 9, pos := "law.go:36", after := #[{ on := 10, ground := .data }], guard := none },
  { dst := some 123, op := .binOp .eql 9 (.tmp 116) (.tmp 122) 9, type := 4, pos := "law.go:36", after := #[{ on := 5, ground := .data }, { on := 11, ground := .data }], guard := none },
  { dst := some 124, op := .move (.tmp 123), type := 4, pos := "law.go:36", after := #[{ on := 12, ground := .data }, { on := 10, ground := .chain }], guard := none },
  { dst := some 125, op := .move (.tmp 7), type := 22, pos := "law.go:36", after := #[{ on := 13, ground := .guard }], guard := some (13, true) },
  { dst := some 126, op := .convert 22 9 (.tmp 125), type := 9, pos := "law.go:36", after := #[{ on := 14, ground := .data }, { on := 13, ground := .guard }], guard := some (13, true) },
  { dst := some 127, op := .move (.tmp 9), type := 22, pos := "law.go:36", after := #[{ on := 13, ground := .guard }], guard := some (13, true) },
  { dst := some 128, op := .convert 22 9 (.tmp 127), type := 9, pos := "law.go:36", after := #[{ on := 16, ground := .data }, { on := 13, ground := .guard }], guard := some (13, true) },
  { dst := some 129, op := .binOp .eql 9 (.tmp 126) (.tmp 128) 9, type := 4, pos := "law.go:36", after := #[{ on := 15, ground := .data }, { on := 17, ground := .data }, { on := 13, ground := .guard }], guard := some (13, true) },
  { dst := some 130, op := .pick (.tmp 124) (.tmp 129) (.const (.bool false)), type := 4, pos := "law.go:36", after := #[{ on := 13, ground := .data }, { on := 18, ground := .data }], guard := none },
  { dst := some 131, op := .move (.tmp 130), type := 4, pos := "law.go:36", after := #[{ on := 19, ground := .data }, { on := 13, ground := .chain }], guard := none },
  { dst := some 132, op := .move (.tmp 8), type := 25, pos := "law.go:36", after := #[{ on := 20, ground := .guard }], guard := some (20, true) },
  { dst := some 133, op := .move (.tmp 10), type := 25, pos := "law.go:36", after := #[{ on := 20, ground := .guard }], guard := some (20, true) },
  { dst := some 134, op := .binOp .eql 25 (.tmp 132) (.tmp 133) 25, type := 4, pos := "law.go:36", after := #[{ on := 21, ground := .data }, { on := 22, ground := .data }, { on := 20, ground := .guard }], guard := some (20, true) },
  { dst := some 135, op := .pick (.tmp 131) (.tmp 134) (.const (.bool false)), type := 4, pos := "law.go:36", after := #[{ on := 20, ground := .data }, { on := 23, ground := .data }], guard := none },
  { dst := some 136, op := .move (.tmp 135), type := 4, pos := "law.go:36", after := #[{ on := 24, ground := .data }, { on := 20, ground := .chain }], guard := none },
  { dst := some 137, op := .move (.tmp 11), type := 28, pos := "law.go:36", after := #[{ on := 25, ground := .guard }], guard := some (25, true) },
  { dst := some 138, op := .move (.tmp 13), type := 28, pos := "law.go:36", after := #[{ on := 25, ground := .guard }], guard := some (25, true) },
  { dst := some 139, op := .binOp .eql 28 (.tmp 137) (.tmp 138) 28, type := 4, pos := "law.go:36", after := #[{ on := 26, ground := .data }, { on := 27, ground := .data }, { on := 25, ground := .guard }], guard := some (25, true) },
  { dst := some 140, op := .pick (.tmp 136) (.tmp 139) (.const (.bool false)), type := 4, pos := "law.go:36", after := #[{ on := 25, ground := .data }, { on := 28, ground := .data }], guard := none },
  { dst := some 141, op := .move (.tmp 140), type := 4, pos := "law.go:36", after := #[{ on := 29, ground := .data }, { on := 25, ground := .chain }], guard := none },
  { dst := some 142, op := .move (.tmp 12), type := 25, pos := "law.go:36", after := #[{ on := 30, ground := .guard }], guard := some (30, true) },
  { dst := some 143, op := .move (.tmp 14), type := 25, pos := "law.go:36", after := #[{ on := 30, ground := .guard }], guard := some (30, true) },
  { dst := some 144, op := .binOp .eql 25 (.tmp 142) (.tmp 143) 25, type := 4, pos := "law.go:36", after := #[{ on := 31, ground := .data }, { on := 32, ground := .data }, { on := 30, ground := .guard }], guard := some (30, true) },
  { dst := some 145, op := .pick (.tmp 141) (.tmp 144) (.const (.bool false)), type := 4, pos := "law.go:36", after := #[{ on := 30, ground := .data }, { on := 33, ground := .data }], guard := none },
  { dst := some 146, op := .move (.tmp 145), type := 4, pos := "law.go:36", after := #[{ on := 34, ground := .data }, { on := 30, ground := .chain }], guard := none },
  { dst := some 147, op := .move (.tmp 15), type := 2, pos := "law.go:36", after := #[{ on := 35, ground := .guard }], guard := some (35, true) },
  { dst := some 148, op := .move (.tmp 17), type := 2, pos := "law.go:36", after := #[{ on := 35, ground := .guard }], guard := some (35, true) },
  { dst := some 149, op := .binOp .eql 2 (.tmp 147) (.tmp 148) 2, type := 4, pos := "law.go:36", after := #[{ on := 36, ground := .data }, { on := 37, ground := .data }, { on := 35, ground := .guard }], guard := some (35, true) },
  { dst := some 150, op := .pick (.tmp 146) (.tmp 149) (.const (.bool false)), type := 4, pos := "law.go:36", after := #[{ on := 35, ground := .data }, { on := 38, ground := .data }], guard := none },
  { dst := some 151, op := .move (.tmp 150), type := 4, pos := "law.go:36", after := #[{ on := 39, ground := .data }, { on := 35, ground := .chain }], guard := none },
  { dst := some 152, op := .move (.tmp 16), type := 25, pos := "law.go:36", after := #[{ on := 40, ground := .guard }], guard := some (40, true) },
  { dst := some 153, op := .move (.tmp 18), type := 25, pos := "law.go:36", after := #[{ on := 40, ground := .guard }], guard := some (40, true) },
  { dst := some 154, op := .binOp .eql 25 (.tmp 152) (.tmp 153) 25, type := 4, pos := "law.go:36", after := #[{ on := 41, ground := .data }, { on := 42, ground := .data }, { on := 40, ground := .guard }], guard := some (40, true) },
  { dst := some 155, op := .pick (.tmp 151) (.tmp 154) (.const (.bool false)), type := 4, pos := "law.go:36", after := #[{ on := 40, ground := .data }, { on := 43, ground := .data }], guard := none },
  { dst := some 156, op := .move (.tmp 155), type := 4, pos := "law.go:36", after := #[{ on := 44, ground := .data }, { on := 40, ground := .chain }], guard := none },
  { dst := some 157, op := .move (.tmp 19), type := 22, pos := "law.go:36", after := #[{ on := 45, ground := .guard }], guard := some (45, true) },
  { dst := some 158, op := .convert 22 9 (.tmp 157), type := 9, pos := "law.go:36", after := #[{ on := 46, ground := .data }, { on := 45, ground := .guard }], guard := some (45, true) },
  { dst := some 159, op := .move (.tmp 21), type := 22, pos := "law.go:36", after := #[{ on := 45, ground := .guard }], guard := some (45, true) },
  { dst := some 160, op := .convert 22 9 (.tmp 159), type := 9, pos := "law.go:36", after := #[{ on := 48, ground := .data }, { on := 45, ground := .guard }], guard := some (45, true) },
  { dst := some 161, op := .binOp .eql 9 (.tmp 158) (.tmp 160) 9, type := 4, pos := "law.go:36", after := #[{ on := 47, ground := .data }, { on := 49, ground := .data }, { on := 45, ground := .guard }], guard := some (45, true) },
  { dst := some 162, op := .pick (.tmp 156) (.tmp 161) (.const (.bool false)), type := 4, pos := "law.go:36", after := #[{ on := 45, ground := .data }, { on := 50, ground := .data }], guard := none },
  { dst := some 163, op := .move (.tmp 162), type := 4, pos := "law.go:36", after := #[{ on := 51, ground := .data }, { on := 45, ground := .chain }], guard := none },
  { dst := some 164, op := .move (.tmp 20), type := 25, pos := "law.go:36", after := #[{ on := 52, ground := .guard }], guard := some (52, true) },
  { dst := some 165, op := .move (.tmp 22), type := 25, pos := "law.go:36", after := #[{ on := 52, ground := .guard }], guard := some (52, true) },
  { dst := some 166, op := .binOp .eql 25 (.tmp 164) (.tmp 165) 25, type := 4, pos := "law.go:36", after := #[{ on := 53, ground := .data }, { on := 54, ground := .data }, { on := 52, ground := .guard }], guard := some (52, true) },
  { dst := some 167, op := .pick (.tmp 163) (.tmp 166) (.const (.bool false)), type := 4, pos := "law.go:36", after := #[{ on := 52, ground := .data }, { on := 55, ground := .data }], guard := none },
  { dst := some 168, op := .move (.tmp 167), type := 4, pos := "law.go:36", after := #[{ on := 56, ground := .data }, { on := 52, ground := .chain }], guard := none },
  { dst := some 169, op := .move (.tmp 23), type := 9, pos := "law.go:36", after := #[{ on := 57, ground := .guard }], guard := some (57, true) },
  { dst := some 170, op := .move (.tmp 26), type := 9, pos := "law.go:36", after := #[{ on := 57, ground := .guard }], guard := some (57, true) },
  { dst := some 171, op := .binOp .eql 9 (.tmp 169) (.tmp 170) 9, type := 4, pos := "law.go:36", after := #[{ on := 58, ground := .data }, { on := 59, ground := .data }, { on := 57, ground := .guard }], guard := some (57, true) },
  { dst := some 172, op := .pick (.tmp 168) (.tmp 171) (.const (.bool false)), type := 4, pos := "law.go:36", after := #[{ on := 57, ground := .data }, { on := 60, ground := .data }], guard := none },
  { dst := some 173, op := .move (.tmp 172), type := 4, pos := "law.go:36", after := #[{ on := 61, ground := .data }, { on := 57, ground := .chain }], guard := none },
  { dst := some 174, op := .move (.tmp 24), type := 3, pos := "law.go:36", after := #[{ on := 62, ground := .guard }], guard := some (62, true) },
  { dst := some 175, op := .move (.tmp 27), type := 3, pos := "law.go:36", after := #[{ on := 62, ground := .guard }], guard := some (62, true) },
  { dst := some 176, op := .binOp .eql 3 (.tmp 174) (.tmp 175) 3, type := 4, pos := "law.go:36", after := #[{ on := 63, ground := .data }, { on := 64, ground := .data }, { on := 62, ground := .guard }], guard := some (62, true) },
  { dst := some 177, op := .pick (.tmp 173) (.tmp 176) (.const (.bool false)), type := 4, pos := "law.go:36", after := #[{ on := 62, ground := .data }, { on := 65, ground := .data }], guard := none },
  { dst := some 178, op := .move (.tmp 177), type := 4, pos := "law.go:36", after := #[{ on := 66, ground := .data }, { on := 62, ground := .chain }], guard := none },
  { dst := some 179, op := .move (.tmp 25), type := 25, pos := "law.go:36", after := #[{ on := 67, ground := .guard }], guard := some (67, true) },
  { dst := some 180, op := .move (.tmp 28), type := 25, pos := "law.go:36", after := #[{ on := 67, ground := .guard }], guard := some (67, true) },
  { dst := some 181, op := .binOp .eql 25 (.tmp 179) (.tmp 180) 25, type := 4, pos := "law.go:36", after := #[{ on := 68, ground := .data }, { on := 69, ground := .data }, { on := 67, ground := .guard }], guard := some (67, true) },
  { dst := some 182, op := .pick (.tmp 178) (.tmp 181) (.const (.bool false)), type := 4, pos := "law.go:36", after := #[{ on := 67, ground := .data }, { on := 70, ground := .data }], guard := none },
  { dst := some 183, op := .move (.tmp 182), type := 4, pos := "law.go:36", after := #[{ on := 71, ground := .data }, { on := 67, ground := .chain }], guard := none },
  { dst := some 184, op := .call { callee := .value (.func 7), args := #[], argTypes := #[] }, type := 4, pos := "law.go:36", after := #[{ on := 72, ground := .chain }, { on := 72, ground := .guard }], guard := some (72, true) },
  { dst := some 185, op := .pick (.tmp 183) (.tmp 184) (.const (.bool false)), type := 4, pos := "law.go:36", after := #[{ on := 72, ground := .data }, { on := 73, ground := .data }], guard := none },
  { dst := some 6, op := .assign (.tmp 185), type := 4, pos := "law.go:36", after := ([{ on := 74, ground := .data }, { on := 73, ground := .chain }, { on := 0, ground := .phase }, { on := 1, ground := .phase }, { on := 2, ground := .phase }, { on := 3, ground := .phase }, { on := 4, ground := .phase }, { on := 5, ground := .phase }, { on := 6, ground := .phase }, { on := 7, ground := .phase }, { on := 8, ground := .phase }, { on := 9, ground := .phase }, { on := 10, ground := .phase }, { on := 11, ground := .phase }, { on := 12, ground := .phase }, { on := 13, ground := .phase }, { on := 14, ground := .phase }, { on := 15, ground := .phase }, { on := 16, ground := .phase }, { on := 17, ground := .phase }, { on := 18, ground := .phase }, { on := 19, ground := .phase }, { on := 20, ground := .phase }, { on := 21, ground := .phase }, { on := 22, ground := .phase }, { on := 23, ground := .phase }, { on := 24, ground := .phase }, { on := 25, ground := .phase }, { on := 26, ground := .phase }, { on := 27, ground := .phase }, { on := 28, ground := .phase }, { on := 29, ground := .phase }, { on := 30, ground := .phase }, { on := 31, ground := .phase }, { on := 32, ground := .phase }, { on := 33, ground := .phase }, { on := 34, ground := .phase }, { on := 35, ground := .phase }].append [{ on := 36, ground := .phase }, { on := 37, ground := .phase }, { on := 38, ground := .phase }, { on := 39, ground := .phase }, { on := 40, ground := .phase }, { on := 41, ground := .phase }, { on := 42, ground := .phase }, { on := 43, ground := .phase }, { on := 44, ground := .phase }, { on := 45, ground := .phase }, { on := 46, ground := .phase }, { on := 47, ground := .phase }, { on := 48, ground := .phase }, { on := 49, ground := .phase }, { on := 50, ground := .phase }, { on := 51, ground := .phase }, { on := 52, ground := .phase }, { on := 53, ground := .phase }, { on := 54, ground := .phase }, { on := 55, ground := .phase }, { on := 56, ground := .phase }, { on := 57, ground := .phase }, { on := 58, ground := .phase }, { on := 59, ground := .phase }, { on := 60, ground := .phase }, { on := 61, ground := .phase }, { on := 62, ground := .phase }, { on := 63, ground := .phase }, { on := 64, ground := .phase }, { on := 65, ground := .phase }, { on := 66, ground := .phase }, { on := 67, ground := .phase }, { on := 68, ground := .phase }, { on := 69, ground := .phase }, { on := 70, ground := .phase }, { on := 71, ground := .phase }, { on := 72, ground := .phase }, { on := 73, ground := .phase }, { on := 74, ground := .phase }]).toArray, guard := none }]
theorem says13_plain : Region.noSelect says13 = true := by kernel_rfl


set_option maxHeartbeats 8000000 in
set_option maxRecDepth 100000 in
theorem says_core (ba : Option Addr) (len cap : Nat) (n at_ width e1 u g x i k tp m : Int) (un : Int) (sb c : ByteArray) (lp ls lq : List UInt8) (w : World) (hl : (len : Int) ≤ 600) (hu : IntKind.u64.wrap n = un)
    (CV : ∀ w', Below w.heap.size w w' → (convert 22 9 (.slice ba len cap)).run Try.prog w' = .ok (.string sb) w')
    (PS1 : Hid (∀ w, Calls Try.prog 8 #[.int .i64 n, .int .i64 width] w fun e w' => ∃ v, e = .returned (.tuple #[v, .int .i64 e1]) ∧ Bytes w.heap.size w w' v lp))
    (GT1 : Hid (∀ w', Below w.heap.size w w' → Calls Try.prog 10 #[.slice ba len cap, .int .i64 at_, .int .i64 width] w' fun e w'' => e = .returned (.tuple #[.int .u64 u, .int .i64 g]) ∧ Below w'.heap.size w' w''))
    (SG1 : Hid (∀ w', Below w.heap.size w w' → Calls Try.prog 12 #[.slice ba len cap, .int .i64 at_, .int .i64 width] w' fun e w'' => e = .returned (.tuple #[.int .i64 x, .int .i64 i]) ∧ Below w'.heap.size w' w''))
    (TX1 : Hid (∀ w, Calls Try.prog 14 #[.string sb] w fun e w' => ∃ v, e = .returned (.tuple #[v, .int .i64 k]) ∧ Bytes w.heap.size w w' v ls))
    (RT1 : Hid (∀ w', Below w.heap.size w w' → Calls Try.prog 16 #[.slice ba len cap, .int .i64 at_] w' fun e w'' => e = .returned (.tuple #[.string c, .int .i64 tp, .int .i64 m]) ∧ Below w'.heap.size w' w''))
    (PU1 : Hid (∀ w, Calls Try.prog 18 #[.int .u64 un, .int .i64 width] w fun e w' => ∃ v, e = .returned (v) ∧ Bytes w.heap.size w w' v lq))
    (PS2 : Hid (∀ w, Calls Try.prog 9 #[.int .i64 n, .int .i64 width] w fun e w' => ∃ v, e = .returned (.tuple #[v, .int .i64 e1]) ∧ Bytes w.heap.size w w' v lp))
    (GT2 : Hid (∀ w', Below w.heap.size w w' → Calls Try.prog 11 #[.slice ba len cap, .int .i64 at_, .int .i64 width] w' fun e w'' => e = .returned (.tuple #[.int .u64 u, .int .i64 g]) ∧ Below w'.heap.size w' w''))
    (SG2 : Hid (∀ w', Below w.heap.size w w' → Calls Try.prog 13 #[.slice ba len cap, .int .i64 at_, .int .i64 width] w' fun e w'' => e = .returned (.tuple #[.int .i64 x, .int .i64 i]) ∧ Below w'.heap.size w' w''))
    (TX2 : Hid (∀ w, Calls Try.prog 15 #[.string sb] w fun e w' => ∃ v, e = .returned (.tuple #[v, .int .i64 k]) ∧ Bytes w.heap.size w w' v ls))
    (RT2 : Hid (∀ w', Below w.heap.size w w' → Calls Try.prog 17 #[.slice ba len cap, .int .i64 at_] w' fun e w'' => e = .returned (.tuple #[.string c, .int .i64 tp, .int .i64 m]) ∧ Below w'.heap.size w' w''))
    (PU2 : Hid (∀ w, Calls Try.prog 19 #[.int .u64 un, .int .i64 width] w fun e w' => ∃ v, e = .returned (v) ∧ Bytes w.heap.size w w' v lq))
    (AW : Hid (∀ w, Calls Try.prog 7 #[] w fun e w' => e = .returned (.bool true) ∧ Below w.heap.size w w')) :
    Calls Try.prog 3 #[.int .i64 n, .slice ba len cap, .agg #[.int .i64 at_, .int .i64 width]] w fun e w' => e = .returned (.bool true) ∧ Below w.heap.size w w' := by
  have hd : decide ((600 : Int) < len) = false := decide_eq_false (by omega)
  go_enter Try.func3, Try.ntmps3
  go_wp2_with fail
  refine (PS1.out _).mono ?_; rintro e w1 ⟨v1, rfl, hv1⟩
  have hb1 := hv1.below
  have B1 := belowT (below1 w _) hb1
  have X1 := (own2 w _ _ _).keep hb1; have X1a := X1.c0; have X1b := X1.c1
  go_wp2_with fail
  refine (PS2.out _).mono ?_; rintro e w2 ⟨v2, rfl, hv2⟩
  have hb2 := hv2.below
  have B2 := belowT (B1) hb2
  have X2 := (X1).keep hb2; have X2a := X2.c0; have X2b := X2.c1
  go_wp2_with fail
  refine (GT1.out _ (B2)).mono ?_; rintro e w3 ⟨rfl, hb3⟩
  have B3 := belowT (B2) hb3
  have X3 := (X2).keep hb3; have X3a := X3.c0; have X3b := X3.c1
  go_wp2_with fail
  refine (GT2.out _ (B3)).mono ?_; rintro e w4 ⟨rfl, hb4⟩
  have B4 := belowT (B3) hb4
  have X4 := (X3).keep hb4; have X4a := X4.c0; have X4b := X4.c1
  have CV4 := CV w4 B4
  go_wp2_with fail
  refine (SG1.out _ (B4)).mono ?_; rintro e w5 ⟨rfl, hb5⟩
  have B5 := belowT (B4) hb5
  have X5 := (X4).keep hb5; have X5a := X5.c0; have X5b := X5.c1
  go_wp2_with fail
  refine (SG2.out _ (B5)).mono ?_; rintro e w6 ⟨rfl, hb6⟩
  have B6 := belowT (B5) hb6
  have X6 := (X5).keep hb6; have X6a := X6.c0; have X6b := X6.c1
  have CV6 := CV w6 B6
  go_wp2_with fail
  refine (TX1.out _).mono ?_; rintro e w7 ⟨v7, rfl, hv7⟩
  have hb7 := hv7.below
  have B7 := belowT (B6) hb7
  have X7 := (X6).keep hb7; have X7a := X7.c0; have X7b := X7.c1
  have CV7 := CV w7 B7
  go_wp2_with fail
  refine (TX2.out _).mono ?_; rintro e w8 ⟨v8, rfl, hv8⟩
  have hb8 := hv8.below
  have B8 := belowT (B7) hb8
  have X8 := (X7).keep hb8; have X8a := X8.c0; have X8b := X8.c1
  go_wp2_with fail
  refine (RT1.out _ (B8)).mono ?_; rintro e w9 ⟨rfl, hb9⟩
  have B9 := belowT (B8) hb9
  have X9 := (X8).keep hb9; have X9a := X9.c0; have X9b := X9.c1
  go_wp2_with fail
  refine (RT2.out _ (B9)).mono ?_; rintro e w10 ⟨rfl, hb10⟩
  have B10 := belowT (B9) hb10
  have X10 := (X9).keep hb10; have X10a := X10.c0; have X10b := X10.c1
  have cv1 : ∀ w', Below w10.heap.size w10 w' → (convert 22 9 v1).run Try.prog w' = .ok (.string _) w' := fun w' h => hv1.string w' (belowT (belowT (belowT (belowT (belowT (belowT (belowT (belowT (belowT hb2 hb3) hb4) hb5) hb6) hb7) hb8) hb9) hb10) h)
  have cv2 : ∀ w', Below w10.heap.size w10 w' → (convert 22 9 v2).run Try.prog w' = .ok (.string _) w' := fun w' h => hv2.string w' (belowT (belowT (belowT (belowT (belowT (belowT (belowT (belowT hb3 hb4) hb5) hb6) hb7) hb8) hb9) hb10) h)
  have cv7 : ∀ w', Below w10.heap.size w10 w' → (convert 22 9 v7).run Try.prog w' = .ok (.string _) w' := fun w' h => hv7.string w' (belowT (belowT (belowT hb8 hb9) hb10) h)
  have cv8 : ∀ w', Below w10.heap.size w10 w' → (convert 22 9 v8).run Try.prog w' = .ok (.string _) w' := fun w' h => hv8.string w' (belowT (belowT hb9 hb10) h)
  have xr0 : ∀ w', Below w10.heap.size w10 w' → w'.cell? ⟨w.heap.size, 0, none⟩ = some (.int .i64 at_) := fun w' h => keepc h X10.c0
  have xr1 : ∀ w', Below w10.heap.size w10 w' → w'.cell? ⟨w.heap.size, 1, none⟩ = some (.int .i64 width) := fun w' h => keepc h X10.c1
  go_upto_region 13 with fail
  try simp only [List.append_eq, List.cons_append, List.nil_append]
  change (Code.region 13 says13 true).wp Try.prog _ _ _
  refine wp_region_noPanic ?_
  refine wp_region_held_drew (S := fun w' => Below w10.heap.size w10 w') (by kernel_rfl) ((Below.refl _ _).drew) (fun hHeld => ?_)
  refine wpAnyH_take (i := 0) (oi := ({ dst := some 111, op := .move (.tmp 0), type := 2, pos := "law.go:36", after := #[], guard := none } : Oper)) (v := ?vs2_0) rfl says13_plain (by as_aux_lemma => kernel_rfl) (by as_aux_lemma => kernel_rfl) (fun _ _ _ h => h) (Or.inl ⟨by rfl, ?ys2_0⟩) (by assumption) ?rs2_0
  case ys2_0 => (intro w hSw; (try dsimp only at hSw); go_simp; try with_reducible rfl)
  try simp only [Act.put, List.setIfInBounds_toArray, List.set_cons_zero, List.set_cons_succ]
  refine wpAnyH_take (i := 1) (oi := ({ dst := some 112, op := .convert 2 28 (.tmp 111), type := 28, pos := "law.go:36", after := #[{ on := 0, ground := .data }], guard := none } : Oper)) (v := ?vs2_1) rfl says13_plain (by as_aux_lemma => kernel_rfl) (by as_aux_lemma => kernel_rfl) (fun _ _ _ h => h) (Or.inl ⟨by rfl, ?ys2_1⟩) (by assumption) ?rs2_1
  case ys2_1 => (intro w hSw; (try dsimp only at hSw); go_simp; try with_reducible rfl)
  try simp only [Act.put, List.setIfInBounds_toArray, List.set_cons_zero, List.set_cons_succ]
  refine wpAnyH_take (i := 2) (oi := ({ dst := some 113, op := .indexAddr 23 (.tmp 5) (.const (.int .i64 1)), type := 0, pos := "law.go:36", after := #[], guard := none } : Oper)) (v := ?vs2_2) rfl says13_plain (by as_aux_lemma => kernel_rfl) (by as_aux_lemma => kernel_rfl) (fun _ _ _ h => h) (Or.inl ⟨by rfl, ?ys2_2⟩) (by assumption) ?rs2_2
  case ys2_2 => (intro w hSw; (try dsimp only at hSw); go_simp; try with_reducible rfl)
  try simp only [Act.put, List.setIfInBounds_toArray, List.set_cons_zero, List.set_cons_succ]
  refine wpAnyH_take (i := 3) (oi := ({ dst := some 114, op := .load 3 (.tmp 113), type := 3, pos := "law.go:36", after := #[{ on := 2, ground := .data }], guard := none } : Oper)) (v := ?vs2_3) rfl says13_plain (by as_aux_lemma => kernel_rfl) (by as_aux_lemma => kernel_rfl) (fun _ _ _ h => h) (Or.inl ⟨by rfl, ?ys2_3⟩) (by assumption) ?rs2_3
  case ys2_3 => (intro w hSw; (try dsimp only at hSw); go_simp; try with_reducible rfl)
  try simp only [Act.put, List.setIfInBounds_toArray, List.set_cons_zero, List.set_cons_succ]
  refine wpAnyH_take (i := 6) (oi := ({ dst := some 117, op := .move (.tmp 0), type := 2, pos := "law.go:36", after := #[], guard := none } : Oper)) (v := ?vs2_6) rfl says13_plain (by as_aux_lemma => kernel_rfl) (by as_aux_lemma => kernel_rfl) (fun _ _ _ h => h) (Or.inl ⟨by rfl, ?ys2_6⟩) (by assumption) ?rs2_6
  case ys2_6 => (intro w hSw; (try dsimp only at hSw); go_simp; try with_reducible rfl)
  try simp only [Act.put, List.setIfInBounds_toArray, List.set_cons_zero, List.set_cons_succ]
  refine wpAnyH_take (i := 7) (oi := ({ dst := some 118, op := .convert 2 28 (.tmp 117), type := 28, pos := "law.go:36", after := #[{ on := 6, ground := .data }], guard := none } : Oper)) (v := ?vs2_7) rfl says13_plain (by as_aux_lemma => kernel_rfl) (by as_aux_lemma => kernel_rfl) (fun _ _ _ h => h) (Or.inl ⟨by rfl, ?ys2_7⟩) (by assumption) ?rs2_7
  case ys2_7 => (intro w hSw; (try dsimp only at hSw); go_simp; try with_reducible rfl)
  try simp only [Act.put, List.setIfInBounds_toArray, List.set_cons_zero, List.set_cons_succ]
  refine wpAnyH_take (i := 8) (oi := ({ dst := some 119, op := .indexAddr 23 (.tmp 5) (.const (.int .i64 1)), type := 0, pos := "law.go:36", after := #[], guard := none } : Oper)) (v := ?vs2_8) rfl says13_plain (by as_aux_lemma => kernel_rfl) (by as_aux_lemma => kernel_rfl) (fun _ _ _ h => h) (Or.inl ⟨by rfl, ?ys2_8⟩) (by assumption) ?rs2_8
  case ys2_8 => (intro w hSw; (try dsimp only at hSw); go_simp; try with_reducible rfl)
  try simp only [Act.put, List.setIfInBounds_toArray, List.set_cons_zero, List.set_cons_succ]
  refine wpAnyH_take (i := 9) (oi := ({ dst := some 120, op := .load 3 (.tmp 119), type := 3, pos := "law.go:36", after := #[{ on := 8, ground := .data }], guard := none } : Oper)) (v := ?vs2_9) rfl says13_plain (by as_aux_lemma => kernel_rfl) (by as_aux_lemma => kernel_rfl) (fun _ _ _ h => h) (Or.inl ⟨by rfl, ?ys2_9⟩) (by assumption) ?rs2_9
  case ys2_9 => (intro w hSw; (try dsimp only at hSw); go_simp; try with_reducible rfl)
  try simp only [Act.put, List.setIfInBounds_toArray, List.set_cons_zero, List.set_cons_succ]
  refine wpAnyH_ready (rs := [4]) (by as_aux_lemma => kernel_rfl) (by simp) ?_
  refine AllReadyH.cons (o := ({ dst := some 115, op := .call { callee := .value (.func 18), args := #[.tmp 112, .tmp 114], argTypes := #[28, 3] }, type := 22, pos := "law.go:36", after := #[{ on := 1, ground := .data }, { on := 3, ground := .data }], guard := none } : Oper)) rfl (fun KK hK => ?_) AllReadyH.nil
  rw [if_pos (by rfl)]
  go_simp
  go_at_call 18; refine (PU1.out _).mono ?_; rintro e w11 ⟨v11, rfl, hv11⟩
  have hb11 := hv11.below
  have cv11 := hv11.string
  go_wp2_with fail
  refine hK.out _ _ ?_ (fun hHeld11 => ?_)
  · exact belowT (by assumption) hb11
  refine wpAnyH_rebase (S' := fun w' => Below w11.heap.size w11 w') (fun w' h => belowT hHeld11 h) _ _ _ _ ?_
  have hHeldR11 := Below.refl w11.heap.size w11
  clear hK KK
  try simp only [Act.put, List.setIfInBounds_toArray, List.set_cons_zero, List.set_cons_succ]
  refine wpAnyH_take (i := 5) (oi := ({ dst := some 116, op := .convert 22 9 (.tmp 115), type := 9, pos := "law.go:36", after := #[{ on := 4, ground := .data }], guard := none } : Oper)) (v := ?vs2_5) rfl says13_plain (by as_aux_lemma => kernel_rfl) (by as_aux_lemma => kernel_rfl) (fun _ _ _ h => h) (Or.inl ⟨by rfl, ?ys2_5⟩) (by assumption) ?rs2_5
  case ys2_5 => (intro w hSw; (try dsimp only at hSw); have hS0 := belowT hHeld11 hSw; go_simp; try with_reducible rfl)
  try simp only [Act.put, List.setIfInBounds_toArray, List.set_cons_zero, List.set_cons_succ]
  refine wpAnyH_ready (rs := [10]) (by as_aux_lemma => kernel_rfl) (by simp) ?_
  refine AllReadyH.cons (o := ({ dst := some 121, op := .call { callee := .value (.func 19), args := #[.tmp 118, .tmp 120], argTypes := #[28, 3] }, type := 22, pos := "law.go:36", after := #[{ on := 7, ground := .data }, { on := 9, ground := .data }, { on := 4, ground := .chain }], guard := none } : Oper)) rfl (fun KK hK => ?_) AllReadyH.nil
  rw [if_pos (by rfl)]
  go_simp
  go_at_call 19; refine (PU2.out _).mono ?_; rintro e w12 ⟨v12, rfl, hv12⟩
  have hb12 := hv12.below
  have cv12 := hv12.string
  go_wp2_with fail
  refine hK.out _ _ ?_ (fun hHeld12 => ?_)
  · exact belowT (by assumption) hb12
  refine wpAnyH_rebase (S' := fun w' => Below w12.heap.size w12 w') (fun w' h => belowT hHeld12 h) _ _ _ _ ?_
  have hHeldR12 := Below.refl w12.heap.size w12
  clear hK KK
  try simp only [Act.put, List.setIfInBounds_toArray, List.set_cons_zero, List.set_cons_succ]
  refine wpAnyH_take (i := 11) (oi := ({ dst := some 122, op := .convert 22 9 (.tmp 121), type := 9, pos := "law.go:36", after := #[{ on := 10, ground := .data }], guard := none } : Oper)) (v := ?vs2_11) rfl says13_plain (by as_aux_lemma => kernel_rfl) (by as_aux_lemma => kernel_rfl) (fun _ _ _ h => h) (Or.inl ⟨by rfl, ?ys2_11⟩) (by assumption) ?rs2_11
  case ys2_11 => (intro w hSw; (try dsimp only at hSw); have hS0 := belowT hHeld12 hSw; have hS1 := belowT hHeld11 hS0; go_simp; try with_reducible rfl)
  try simp only [Act.put, List.setIfInBounds_toArray, List.set_cons_zero, List.set_cons_succ]
  refine wpAnyH_take (i := 12) (oi := ({ dst := some 123, op := .binOp .eql 9 (.tmp 116) (.tmp 122) 9, type := 4, pos := "law.go:36", after := #[{ on := 5, ground := .data }, { on := 11, ground := .data }], guard := none } : Oper)) (v := ?vs2_12) rfl says13_plain (by as_aux_lemma => kernel_rfl) (by as_aux_lemma => kernel_rfl) (fun _ _ _ h => h) (Or.inl ⟨by rfl, ?ys2_12⟩) (by assumption) ?rs2_12
  case ys2_12 => (intro w hSw; (try dsimp only at hSw); have hS0 := belowT hHeld12 hSw; have hS1 := belowT hHeld11 hS0; go_simp; try with_reducible rfl)
  try simp only [Act.put, List.setIfInBounds_toArray, List.set_cons_zero, List.set_cons_succ]
  refine wpAnyH_take (i := 13) (oi := ({ dst := some 124, op := .move (.tmp 123), type := 4, pos := "law.go:36", after := #[{ on := 12, ground := .data }, { on := 10, ground := .chain }], guard := none } : Oper)) (v := ?vs2_13) rfl says13_plain (by as_aux_lemma => kernel_rfl) (by as_aux_lemma => kernel_rfl) (fun _ _ _ h => h) (Or.inl ⟨by rfl, ?ys2_13⟩) (by assumption) ?rs2_13
  case ys2_13 => (intro w hSw; (try dsimp only at hSw); have hS0 := belowT hHeld12 hSw; have hS1 := belowT hHeld11 hS0; go_simp; try with_reducible rfl)
  try simp only [Act.put, List.setIfInBounds_toArray, List.set_cons_zero, List.set_cons_succ]
  refine wpAnyH_take (i := 14) (oi := ({ dst := some 125, op := .move (.tmp 7), type := 22, pos := "law.go:36", after := #[{ on := 13, ground := .guard }], guard := some (13, true) } : Oper)) (v := ?vs2_14) rfl says13_plain (by as_aux_lemma => kernel_rfl) (by as_aux_lemma => kernel_rfl) (fun _ _ _ h => h) (Or.inl ⟨by rfl, ?ys2_14⟩) (by assumption) ?rs2_14
  case ys2_14 => (intro w hSw; (try dsimp only at hSw); have hS0 := belowT hHeld12 hSw; have hS1 := belowT hHeld11 hS0; go_simp; try with_reducible rfl)
  try simp only [Act.put, List.setIfInBounds_toArray, List.set_cons_zero, List.set_cons_succ]
  refine wpAnyH_take (i := 15) (oi := ({ dst := some 126, op := .convert 22 9 (.tmp 125), type := 9, pos := "law.go:36", after := #[{ on := 14, ground := .data }, { on := 13, ground := .guard }], guard := some (13, true) } : Oper)) (v := ?vs2_15) rfl says13_plain (by as_aux_lemma => kernel_rfl) (by as_aux_lemma => kernel_rfl) (fun _ _ _ h => h) (Or.inl ⟨by rfl, ?ys2_15⟩) (by assumption) ?rs2_15
  case ys2_15 => (intro w hSw; (try dsimp only at hSw); have hS0 := belowT hHeld12 hSw; have hS1 := belowT hHeld11 hS0; go_simp; try with_reducible rfl)
  try simp only [Act.put, List.setIfInBounds_toArray, List.set_cons_zero, List.set_cons_succ]
  refine wpAnyH_take (i := 16) (oi := ({ dst := some 127, op := .move (.tmp 9), type := 22, pos := "law.go:36", after := #[{ on := 13, ground := .guard }], guard := some (13, true) } : Oper)) (v := ?vs2_16) rfl says13_plain (by as_aux_lemma => kernel_rfl) (by as_aux_lemma => kernel_rfl) (fun _ _ _ h => h) (Or.inl ⟨by rfl, ?ys2_16⟩) (by assumption) ?rs2_16
  case ys2_16 => (intro w hSw; (try dsimp only at hSw); have hS0 := belowT hHeld12 hSw; have hS1 := belowT hHeld11 hS0; go_simp; try with_reducible rfl)
  try simp only [Act.put, List.setIfInBounds_toArray, List.set_cons_zero, List.set_cons_succ]
  refine wpAnyH_take (i := 17) (oi := ({ dst := some 128, op := .convert 22 9 (.tmp 127), type := 9, pos := "law.go:36", after := #[{ on := 16, ground := .data }, { on := 13, ground := .guard }], guard := some (13, true) } : Oper)) (v := ?vs2_17) rfl says13_plain (by as_aux_lemma => kernel_rfl) (by as_aux_lemma => kernel_rfl) (fun _ _ _ h => h) (Or.inl ⟨by rfl, ?ys2_17⟩) (by assumption) ?rs2_17
  case ys2_17 => (intro w hSw; (try dsimp only at hSw); have hS0 := belowT hHeld12 hSw; have hS1 := belowT hHeld11 hS0; go_simp; try with_reducible rfl)
  try simp only [Act.put, List.setIfInBounds_toArray, List.set_cons_zero, List.set_cons_succ]
  refine wpAnyH_take (i := 18) (oi := ({ dst := some 129, op := .binOp .eql 9 (.tmp 126) (.tmp 128) 9, type := 4, pos := "law.go:36", after := #[{ on := 15, ground := .data }, { on := 17, ground := .data }, { on := 13, ground := .guard }], guard := some (13, true) } : Oper)) (v := ?vs2_18) rfl says13_plain (by as_aux_lemma => kernel_rfl) (by as_aux_lemma => kernel_rfl) (fun _ _ _ h => h) (Or.inl ⟨by rfl, ?ys2_18⟩) (by assumption) ?rs2_18
  case ys2_18 => (intro w hSw; (try dsimp only at hSw); have hS0 := belowT hHeld12 hSw; have hS1 := belowT hHeld11 hS0; go_simp; try with_reducible rfl)
  try simp only [Act.put, List.setIfInBounds_toArray, List.set_cons_zero, List.set_cons_succ]
  refine wpAnyH_take (i := 19) (oi := ({ dst := some 130, op := .pick (.tmp 124) (.tmp 129) (.const (.bool false)), type := 4, pos := "law.go:36", after := #[{ on := 13, ground := .data }, { on := 18, ground := .data }], guard := none } : Oper)) (v := ?vs2_19) rfl says13_plain (by as_aux_lemma => kernel_rfl) (by as_aux_lemma => kernel_rfl) (fun _ _ _ h => h) (Or.inl ⟨by rfl, ?ys2_19⟩) (by assumption) ?rs2_19
  case ys2_19 => (intro w hSw; (try dsimp only at hSw); have hS0 := belowT hHeld12 hSw; have hS1 := belowT hHeld11 hS0; go_simp; try with_reducible rfl)
  try simp only [Act.put, List.setIfInBounds_toArray, List.set_cons_zero, List.set_cons_succ]
  refine wpAnyH_take (i := 20) (oi := ({ dst := some 131, op := .move (.tmp 130), type := 4, pos := "law.go:36", after := #[{ on := 19, ground := .data }, { on := 13, ground := .chain }], guard := none } : Oper)) (v := ?vs2_20) rfl says13_plain (by as_aux_lemma => kernel_rfl) (by as_aux_lemma => kernel_rfl) (fun _ _ _ h => h) (Or.inl ⟨by rfl, ?ys2_20⟩) (by assumption) ?rs2_20
  case ys2_20 => (intro w hSw; (try dsimp only at hSw); have hS0 := belowT hHeld12 hSw; have hS1 := belowT hHeld11 hS0; go_simp; try with_reducible rfl)
  try simp only [Act.put, List.setIfInBounds_toArray, List.set_cons_zero, List.set_cons_succ]
  refine wpAnyH_take (i := 21) (oi := ({ dst := some 132, op := .move (.tmp 8), type := 25, pos := "law.go:36", after := #[{ on := 20, ground := .guard }], guard := some (20, true) } : Oper)) (v := ?vs2_21) rfl says13_plain (by as_aux_lemma => kernel_rfl) (by as_aux_lemma => kernel_rfl) (fun _ _ _ h => h) (Or.inl ⟨by rfl, ?ys2_21⟩) (by assumption) ?rs2_21
  case ys2_21 => (intro w hSw; (try dsimp only at hSw); have hS0 := belowT hHeld12 hSw; have hS1 := belowT hHeld11 hS0; go_simp; try with_reducible rfl)
  try simp only [Act.put, List.setIfInBounds_toArray, List.set_cons_zero, List.set_cons_succ]
  refine wpAnyH_take (i := 22) (oi := ({ dst := some 133, op := .move (.tmp 10), type := 25, pos := "law.go:36", after := #[{ on := 20, ground := .guard }], guard := some (20, true) } : Oper)) (v := ?vs2_22) rfl says13_plain (by as_aux_lemma => kernel_rfl) (by as_aux_lemma => kernel_rfl) (fun _ _ _ h => h) (Or.inl ⟨by rfl, ?ys2_22⟩) (by assumption) ?rs2_22
  case ys2_22 => (intro w hSw; (try dsimp only at hSw); have hS0 := belowT hHeld12 hSw; have hS1 := belowT hHeld11 hS0; go_simp; try with_reducible rfl)
  try simp only [Act.put, List.setIfInBounds_toArray, List.set_cons_zero, List.set_cons_succ]
  refine wpAnyH_take (i := 23) (oi := ({ dst := some 134, op := .binOp .eql 25 (.tmp 132) (.tmp 133) 25, type := 4, pos := "law.go:36", after := #[{ on := 21, ground := .data }, { on := 22, ground := .data }, { on := 20, ground := .guard }], guard := some (20, true) } : Oper)) (v := ?vs2_23) rfl says13_plain (by as_aux_lemma => kernel_rfl) (by as_aux_lemma => kernel_rfl) (fun _ _ _ h => h) (Or.inl ⟨by rfl, ?ys2_23⟩) (by assumption) ?rs2_23
  case ys2_23 => (intro w hSw; (try dsimp only at hSw); have hS0 := belowT hHeld12 hSw; have hS1 := belowT hHeld11 hS0; go_simp; try with_reducible rfl)
  try simp only [Act.put, List.setIfInBounds_toArray, List.set_cons_zero, List.set_cons_succ]
  refine wpAnyH_take (i := 24) (oi := ({ dst := some 135, op := .pick (.tmp 131) (.tmp 134) (.const (.bool false)), type := 4, pos := "law.go:36", after := #[{ on := 20, ground := .data }, { on := 23, ground := .data }], guard := none } : Oper)) (v := ?vs2_24) rfl says13_plain (by as_aux_lemma => kernel_rfl) (by as_aux_lemma => kernel_rfl) (fun _ _ _ h => h) (Or.inl ⟨by rfl, ?ys2_24⟩) (by assumption) ?rs2_24
  case ys2_24 => (intro w hSw; (try dsimp only at hSw); have hS0 := belowT hHeld12 hSw; have hS1 := belowT hHeld11 hS0; go_simp; try with_reducible rfl)
  try simp only [Act.put, List.setIfInBounds_toArray, List.set_cons_zero, List.set_cons_succ]
  refine wpAnyH_take (i := 25) (oi := ({ dst := some 136, op := .move (.tmp 135), type := 4, pos := "law.go:36", after := #[{ on := 24, ground := .data }, { on := 20, ground := .chain }], guard := none } : Oper)) (v := ?vs2_25) rfl says13_plain (by as_aux_lemma => kernel_rfl) (by as_aux_lemma => kernel_rfl) (fun _ _ _ h => h) (Or.inl ⟨by rfl, ?ys2_25⟩) (by assumption) ?rs2_25
  case ys2_25 => (intro w hSw; (try dsimp only at hSw); have hS0 := belowT hHeld12 hSw; have hS1 := belowT hHeld11 hS0; go_simp; try with_reducible rfl)
  try simp only [Act.put, List.setIfInBounds_toArray, List.set_cons_zero, List.set_cons_succ]
  refine wpAnyH_take (i := 26) (oi := ({ dst := some 137, op := .move (.tmp 11), type := 28, pos := "law.go:36", after := #[{ on := 25, ground := .guard }], guard := some (25, true) } : Oper)) (v := ?vs2_26) rfl says13_plain (by as_aux_lemma => kernel_rfl) (by as_aux_lemma => kernel_rfl) (fun _ _ _ h => h) (Or.inl ⟨by rfl, ?ys2_26⟩) (by assumption) ?rs2_26
  case ys2_26 => (intro w hSw; (try dsimp only at hSw); have hS0 := belowT hHeld12 hSw; have hS1 := belowT hHeld11 hS0; go_simp; try with_reducible rfl)
  try simp only [Act.put, List.setIfInBounds_toArray, List.set_cons_zero, List.set_cons_succ]
  refine wpAnyH_take (i := 27) (oi := ({ dst := some 138, op := .move (.tmp 13), type := 28, pos := "law.go:36", after := #[{ on := 25, ground := .guard }], guard := some (25, true) } : Oper)) (v := ?vs2_27) rfl says13_plain (by as_aux_lemma => kernel_rfl) (by as_aux_lemma => kernel_rfl) (fun _ _ _ h => h) (Or.inl ⟨by rfl, ?ys2_27⟩) (by assumption) ?rs2_27
  case ys2_27 => (intro w hSw; (try dsimp only at hSw); have hS0 := belowT hHeld12 hSw; have hS1 := belowT hHeld11 hS0; go_simp; try with_reducible rfl)
  try simp only [Act.put, List.setIfInBounds_toArray, List.set_cons_zero, List.set_cons_succ]
  refine wpAnyH_take (i := 28) (oi := ({ dst := some 139, op := .binOp .eql 28 (.tmp 137) (.tmp 138) 28, type := 4, pos := "law.go:36", after := #[{ on := 26, ground := .data }, { on := 27, ground := .data }, { on := 25, ground := .guard }], guard := some (25, true) } : Oper)) (v := ?vs2_28) rfl says13_plain (by as_aux_lemma => kernel_rfl) (by as_aux_lemma => kernel_rfl) (fun _ _ _ h => h) (Or.inl ⟨by rfl, ?ys2_28⟩) (by assumption) ?rs2_28
  case ys2_28 => (intro w hSw; (try dsimp only at hSw); have hS0 := belowT hHeld12 hSw; have hS1 := belowT hHeld11 hS0; go_simp; try with_reducible rfl)
  try simp only [Act.put, List.setIfInBounds_toArray, List.set_cons_zero, List.set_cons_succ]
  refine wpAnyH_take (i := 29) (oi := ({ dst := some 140, op := .pick (.tmp 136) (.tmp 139) (.const (.bool false)), type := 4, pos := "law.go:36", after := #[{ on := 25, ground := .data }, { on := 28, ground := .data }], guard := none } : Oper)) (v := ?vs2_29) rfl says13_plain (by as_aux_lemma => kernel_rfl) (by as_aux_lemma => kernel_rfl) (fun _ _ _ h => h) (Or.inl ⟨by rfl, ?ys2_29⟩) (by assumption) ?rs2_29
  case ys2_29 => (intro w hSw; (try dsimp only at hSw); have hS0 := belowT hHeld12 hSw; have hS1 := belowT hHeld11 hS0; go_simp; try with_reducible rfl)
  try simp only [Act.put, List.setIfInBounds_toArray, List.set_cons_zero, List.set_cons_succ]
  refine wpAnyH_take (i := 30) (oi := ({ dst := some 141, op := .move (.tmp 140), type := 4, pos := "law.go:36", after := #[{ on := 29, ground := .data }, { on := 25, ground := .chain }], guard := none } : Oper)) (v := ?vs2_30) rfl says13_plain (by as_aux_lemma => kernel_rfl) (by as_aux_lemma => kernel_rfl) (fun _ _ _ h => h) (Or.inl ⟨by rfl, ?ys2_30⟩) (by assumption) ?rs2_30
  case ys2_30 => (intro w hSw; (try dsimp only at hSw); have hS0 := belowT hHeld12 hSw; have hS1 := belowT hHeld11 hS0; go_simp; try with_reducible rfl)
  try simp only [Act.put, List.setIfInBounds_toArray, List.set_cons_zero, List.set_cons_succ]
  refine wpAnyH_take (i := 31) (oi := ({ dst := some 142, op := .move (.tmp 12), type := 25, pos := "law.go:36", after := #[{ on := 30, ground := .guard }], guard := some (30, true) } : Oper)) (v := ?vs2_31) rfl says13_plain (by as_aux_lemma => kernel_rfl) (by as_aux_lemma => kernel_rfl) (fun _ _ _ h => h) (Or.inl ⟨by rfl, ?ys2_31⟩) (by assumption) ?rs2_31
  case ys2_31 => (intro w hSw; (try dsimp only at hSw); have hS0 := belowT hHeld12 hSw; have hS1 := belowT hHeld11 hS0; go_simp; try with_reducible rfl)
  try simp only [Act.put, List.setIfInBounds_toArray, List.set_cons_zero, List.set_cons_succ]
  refine wpAnyH_take (i := 32) (oi := ({ dst := some 143, op := .move (.tmp 14), type := 25, pos := "law.go:36", after := #[{ on := 30, ground := .guard }], guard := some (30, true) } : Oper)) (v := ?vs2_32) rfl says13_plain (by as_aux_lemma => kernel_rfl) (by as_aux_lemma => kernel_rfl) (fun _ _ _ h => h) (Or.inl ⟨by rfl, ?ys2_32⟩) (by assumption) ?rs2_32
  case ys2_32 => (intro w hSw; (try dsimp only at hSw); have hS0 := belowT hHeld12 hSw; have hS1 := belowT hHeld11 hS0; go_simp; try with_reducible rfl)
  try simp only [Act.put, List.setIfInBounds_toArray, List.set_cons_zero, List.set_cons_succ]
  refine wpAnyH_take (i := 33) (oi := ({ dst := some 144, op := .binOp .eql 25 (.tmp 142) (.tmp 143) 25, type := 4, pos := "law.go:36", after := #[{ on := 31, ground := .data }, { on := 32, ground := .data }, { on := 30, ground := .guard }], guard := some (30, true) } : Oper)) (v := ?vs2_33) rfl says13_plain (by as_aux_lemma => kernel_rfl) (by as_aux_lemma => kernel_rfl) (fun _ _ _ h => h) (Or.inl ⟨by rfl, ?ys2_33⟩) (by assumption) ?rs2_33
  case ys2_33 => (intro w hSw; (try dsimp only at hSw); have hS0 := belowT hHeld12 hSw; have hS1 := belowT hHeld11 hS0; go_simp; try with_reducible rfl)
  try simp only [Act.put, List.setIfInBounds_toArray, List.set_cons_zero, List.set_cons_succ]
  refine wpAnyH_take (i := 34) (oi := ({ dst := some 145, op := .pick (.tmp 141) (.tmp 144) (.const (.bool false)), type := 4, pos := "law.go:36", after := #[{ on := 30, ground := .data }, { on := 33, ground := .data }], guard := none } : Oper)) (v := ?vs2_34) rfl says13_plain (by as_aux_lemma => kernel_rfl) (by as_aux_lemma => kernel_rfl) (fun _ _ _ h => h) (Or.inl ⟨by rfl, ?ys2_34⟩) (by assumption) ?rs2_34
  case ys2_34 => (intro w hSw; (try dsimp only at hSw); have hS0 := belowT hHeld12 hSw; have hS1 := belowT hHeld11 hS0; go_simp; try with_reducible rfl)
  try simp only [Act.put, List.setIfInBounds_toArray, List.set_cons_zero, List.set_cons_succ]
  refine wpAnyH_take (i := 35) (oi := ({ dst := some 146, op := .move (.tmp 145), type := 4, pos := "law.go:36", after := #[{ on := 34, ground := .data }, { on := 30, ground := .chain }], guard := none } : Oper)) (v := ?vs2_35) rfl says13_plain (by as_aux_lemma => kernel_rfl) (by as_aux_lemma => kernel_rfl) (fun _ _ _ h => h) (Or.inl ⟨by rfl, ?ys2_35⟩) (by assumption) ?rs2_35
  case ys2_35 => (intro w hSw; (try dsimp only at hSw); have hS0 := belowT hHeld12 hSw; have hS1 := belowT hHeld11 hS0; go_simp; try with_reducible rfl)
  try simp only [Act.put, List.setIfInBounds_toArray, List.set_cons_zero, List.set_cons_succ]
  refine wpAnyH_take (i := 36) (oi := ({ dst := some 147, op := .move (.tmp 15), type := 2, pos := "law.go:36", after := #[{ on := 35, ground := .guard }], guard := some (35, true) } : Oper)) (v := ?vs2_36) rfl says13_plain (by as_aux_lemma => kernel_rfl) (by as_aux_lemma => kernel_rfl) (fun _ _ _ h => h) (Or.inl ⟨by rfl, ?ys2_36⟩) (by assumption) ?rs2_36
  case ys2_36 => (intro w hSw; (try dsimp only at hSw); have hS0 := belowT hHeld12 hSw; have hS1 := belowT hHeld11 hS0; go_simp; try with_reducible rfl)
  try simp only [Act.put, List.setIfInBounds_toArray, List.set_cons_zero, List.set_cons_succ]
  refine wpAnyH_take (i := 37) (oi := ({ dst := some 148, op := .move (.tmp 17), type := 2, pos := "law.go:36", after := #[{ on := 35, ground := .guard }], guard := some (35, true) } : Oper)) (v := ?vs2_37) rfl says13_plain (by as_aux_lemma => kernel_rfl) (by as_aux_lemma => kernel_rfl) (fun _ _ _ h => h) (Or.inl ⟨by rfl, ?ys2_37⟩) (by assumption) ?rs2_37
  case ys2_37 => (intro w hSw; (try dsimp only at hSw); have hS0 := belowT hHeld12 hSw; have hS1 := belowT hHeld11 hS0; go_simp; try with_reducible rfl)
  try simp only [Act.put, List.setIfInBounds_toArray, List.set_cons_zero, List.set_cons_succ]
  refine wpAnyH_take (i := 38) (oi := ({ dst := some 149, op := .binOp .eql 2 (.tmp 147) (.tmp 148) 2, type := 4, pos := "law.go:36", after := #[{ on := 36, ground := .data }, { on := 37, ground := .data }, { on := 35, ground := .guard }], guard := some (35, true) } : Oper)) (v := ?vs2_38) rfl says13_plain (by as_aux_lemma => kernel_rfl) (by as_aux_lemma => kernel_rfl) (fun _ _ _ h => h) (Or.inl ⟨by rfl, ?ys2_38⟩) (by assumption) ?rs2_38
  case ys2_38 => (intro w hSw; (try dsimp only at hSw); have hS0 := belowT hHeld12 hSw; have hS1 := belowT hHeld11 hS0; go_simp; try with_reducible rfl)
  try simp only [Act.put, List.setIfInBounds_toArray, List.set_cons_zero, List.set_cons_succ]
  refine wpAnyH_take (i := 39) (oi := ({ dst := some 150, op := .pick (.tmp 146) (.tmp 149) (.const (.bool false)), type := 4, pos := "law.go:36", after := #[{ on := 35, ground := .data }, { on := 38, ground := .data }], guard := none } : Oper)) (v := ?vs2_39) rfl says13_plain (by as_aux_lemma => kernel_rfl) (by as_aux_lemma => kernel_rfl) (fun _ _ _ h => h) (Or.inl ⟨by rfl, ?ys2_39⟩) (by assumption) ?rs2_39
  case ys2_39 => (intro w hSw; (try dsimp only at hSw); have hS0 := belowT hHeld12 hSw; have hS1 := belowT hHeld11 hS0; go_simp; try with_reducible rfl)
  try simp only [Act.put, List.setIfInBounds_toArray, List.set_cons_zero, List.set_cons_succ]
  refine wpAnyH_take (i := 40) (oi := ({ dst := some 151, op := .move (.tmp 150), type := 4, pos := "law.go:36", after := #[{ on := 39, ground := .data }, { on := 35, ground := .chain }], guard := none } : Oper)) (v := ?vs2_40) rfl says13_plain (by as_aux_lemma => kernel_rfl) (by as_aux_lemma => kernel_rfl) (fun _ _ _ h => h) (Or.inl ⟨by rfl, ?ys2_40⟩) (by assumption) ?rs2_40
  case ys2_40 => (intro w hSw; (try dsimp only at hSw); have hS0 := belowT hHeld12 hSw; have hS1 := belowT hHeld11 hS0; go_simp; try with_reducible rfl)
  try simp only [Act.put, List.setIfInBounds_toArray, List.set_cons_zero, List.set_cons_succ]
  refine wpAnyH_take (i := 41) (oi := ({ dst := some 152, op := .move (.tmp 16), type := 25, pos := "law.go:36", after := #[{ on := 40, ground := .guard }], guard := some (40, true) } : Oper)) (v := ?vs2_41) rfl says13_plain (by as_aux_lemma => kernel_rfl) (by as_aux_lemma => kernel_rfl) (fun _ _ _ h => h) (Or.inl ⟨by rfl, ?ys2_41⟩) (by assumption) ?rs2_41
  case ys2_41 => (intro w hSw; (try dsimp only at hSw); have hS0 := belowT hHeld12 hSw; have hS1 := belowT hHeld11 hS0; go_simp; try with_reducible rfl)
  try simp only [Act.put, List.setIfInBounds_toArray, List.set_cons_zero, List.set_cons_succ]
  refine wpAnyH_take (i := 42) (oi := ({ dst := some 153, op := .move (.tmp 18), type := 25, pos := "law.go:36", after := #[{ on := 40, ground := .guard }], guard := some (40, true) } : Oper)) (v := ?vs2_42) rfl says13_plain (by as_aux_lemma => kernel_rfl) (by as_aux_lemma => kernel_rfl) (fun _ _ _ h => h) (Or.inl ⟨by rfl, ?ys2_42⟩) (by assumption) ?rs2_42
  case ys2_42 => (intro w hSw; (try dsimp only at hSw); have hS0 := belowT hHeld12 hSw; have hS1 := belowT hHeld11 hS0; go_simp; try with_reducible rfl)
  try simp only [Act.put, List.setIfInBounds_toArray, List.set_cons_zero, List.set_cons_succ]
  refine wpAnyH_take (i := 43) (oi := ({ dst := some 154, op := .binOp .eql 25 (.tmp 152) (.tmp 153) 25, type := 4, pos := "law.go:36", after := #[{ on := 41, ground := .data }, { on := 42, ground := .data }, { on := 40, ground := .guard }], guard := some (40, true) } : Oper)) (v := ?vs2_43) rfl says13_plain (by as_aux_lemma => kernel_rfl) (by as_aux_lemma => kernel_rfl) (fun _ _ _ h => h) (Or.inl ⟨by rfl, ?ys2_43⟩) (by assumption) ?rs2_43
  case ys2_43 => (intro w hSw; (try dsimp only at hSw); have hS0 := belowT hHeld12 hSw; have hS1 := belowT hHeld11 hS0; go_simp; try with_reducible rfl)
  try simp only [Act.put, List.setIfInBounds_toArray, List.set_cons_zero, List.set_cons_succ]
  refine wpAnyH_take (i := 44) (oi := ({ dst := some 155, op := .pick (.tmp 151) (.tmp 154) (.const (.bool false)), type := 4, pos := "law.go:36", after := #[{ on := 40, ground := .data }, { on := 43, ground := .data }], guard := none } : Oper)) (v := ?vs2_44) rfl says13_plain (by as_aux_lemma => kernel_rfl) (by as_aux_lemma => kernel_rfl) (fun _ _ _ h => h) (Or.inl ⟨by rfl, ?ys2_44⟩) (by assumption) ?rs2_44
  case ys2_44 => (intro w hSw; (try dsimp only at hSw); have hS0 := belowT hHeld12 hSw; have hS1 := belowT hHeld11 hS0; go_simp; try with_reducible rfl)
  try simp only [Act.put, List.setIfInBounds_toArray, List.set_cons_zero, List.set_cons_succ]
  refine wpAnyH_take (i := 45) (oi := ({ dst := some 156, op := .move (.tmp 155), type := 4, pos := "law.go:36", after := #[{ on := 44, ground := .data }, { on := 40, ground := .chain }], guard := none } : Oper)) (v := ?vs2_45) rfl says13_plain (by as_aux_lemma => kernel_rfl) (by as_aux_lemma => kernel_rfl) (fun _ _ _ h => h) (Or.inl ⟨by rfl, ?ys2_45⟩) (by assumption) ?rs2_45
  case ys2_45 => (intro w hSw; (try dsimp only at hSw); have hS0 := belowT hHeld12 hSw; have hS1 := belowT hHeld11 hS0; go_simp; try with_reducible rfl)
  try simp only [Act.put, List.setIfInBounds_toArray, List.set_cons_zero, List.set_cons_succ]
  refine wpAnyH_take (i := 46) (oi := ({ dst := some 157, op := .move (.tmp 19), type := 22, pos := "law.go:36", after := #[{ on := 45, ground := .guard }], guard := some (45, true) } : Oper)) (v := ?vs2_46) rfl says13_plain (by as_aux_lemma => kernel_rfl) (by as_aux_lemma => kernel_rfl) (fun _ _ _ h => h) (Or.inl ⟨by rfl, ?ys2_46⟩) (by assumption) ?rs2_46
  case ys2_46 => (intro w hSw; (try dsimp only at hSw); have hS0 := belowT hHeld12 hSw; have hS1 := belowT hHeld11 hS0; go_simp; try with_reducible rfl)
  try simp only [Act.put, List.setIfInBounds_toArray, List.set_cons_zero, List.set_cons_succ]
  refine wpAnyH_take (i := 47) (oi := ({ dst := some 158, op := .convert 22 9 (.tmp 157), type := 9, pos := "law.go:36", after := #[{ on := 46, ground := .data }, { on := 45, ground := .guard }], guard := some (45, true) } : Oper)) (v := ?vs2_47) rfl says13_plain (by as_aux_lemma => kernel_rfl) (by as_aux_lemma => kernel_rfl) (fun _ _ _ h => h) (Or.inl ⟨by rfl, ?ys2_47⟩) (by assumption) ?rs2_47
  case ys2_47 => (intro w hSw; (try dsimp only at hSw); have hS0 := belowT hHeld12 hSw; have hS1 := belowT hHeld11 hS0; go_simp; try with_reducible rfl)
  try simp only [Act.put, List.setIfInBounds_toArray, List.set_cons_zero, List.set_cons_succ]
  refine wpAnyH_take (i := 48) (oi := ({ dst := some 159, op := .move (.tmp 21), type := 22, pos := "law.go:36", after := #[{ on := 45, ground := .guard }], guard := some (45, true) } : Oper)) (v := ?vs2_48) rfl says13_plain (by as_aux_lemma => kernel_rfl) (by as_aux_lemma => kernel_rfl) (fun _ _ _ h => h) (Or.inl ⟨by rfl, ?ys2_48⟩) (by assumption) ?rs2_48
  case ys2_48 => (intro w hSw; (try dsimp only at hSw); have hS0 := belowT hHeld12 hSw; have hS1 := belowT hHeld11 hS0; go_simp; try with_reducible rfl)
  try simp only [Act.put, List.setIfInBounds_toArray, List.set_cons_zero, List.set_cons_succ]
  refine wpAnyH_take (i := 49) (oi := ({ dst := some 160, op := .convert 22 9 (.tmp 159), type := 9, pos := "law.go:36", after := #[{ on := 48, ground := .data }, { on := 45, ground := .guard }], guard := some (45, true) } : Oper)) (v := ?vs2_49) rfl says13_plain (by as_aux_lemma => kernel_rfl) (by as_aux_lemma => kernel_rfl) (fun _ _ _ h => h) (Or.inl ⟨by rfl, ?ys2_49⟩) (by assumption) ?rs2_49
  case ys2_49 => (intro w hSw; (try dsimp only at hSw); have hS0 := belowT hHeld12 hSw; have hS1 := belowT hHeld11 hS0; go_simp; try with_reducible rfl)
  try simp only [Act.put, List.setIfInBounds_toArray, List.set_cons_zero, List.set_cons_succ]
  refine wpAnyH_take (i := 50) (oi := ({ dst := some 161, op := .binOp .eql 9 (.tmp 158) (.tmp 160) 9, type := 4, pos := "law.go:36", after := #[{ on := 47, ground := .data }, { on := 49, ground := .data }, { on := 45, ground := .guard }], guard := some (45, true) } : Oper)) (v := ?vs2_50) rfl says13_plain (by as_aux_lemma => kernel_rfl) (by as_aux_lemma => kernel_rfl) (fun _ _ _ h => h) (Or.inl ⟨by rfl, ?ys2_50⟩) (by assumption) ?rs2_50
  case ys2_50 => (intro w hSw; (try dsimp only at hSw); have hS0 := belowT hHeld12 hSw; have hS1 := belowT hHeld11 hS0; go_simp; try with_reducible rfl)
  try simp only [Act.put, List.setIfInBounds_toArray, List.set_cons_zero, List.set_cons_succ]
  refine wpAnyH_take (i := 51) (oi := ({ dst := some 162, op := .pick (.tmp 156) (.tmp 161) (.const (.bool false)), type := 4, pos := "law.go:36", after := #[{ on := 45, ground := .data }, { on := 50, ground := .data }], guard := none } : Oper)) (v := ?vs2_51) rfl says13_plain (by as_aux_lemma => kernel_rfl) (by as_aux_lemma => kernel_rfl) (fun _ _ _ h => h) (Or.inl ⟨by rfl, ?ys2_51⟩) (by assumption) ?rs2_51
  case ys2_51 => (intro w hSw; (try dsimp only at hSw); have hS0 := belowT hHeld12 hSw; have hS1 := belowT hHeld11 hS0; go_simp; try with_reducible rfl)
  try simp only [Act.put, List.setIfInBounds_toArray, List.set_cons_zero, List.set_cons_succ]
  refine wpAnyH_take (i := 52) (oi := ({ dst := some 163, op := .move (.tmp 162), type := 4, pos := "law.go:36", after := #[{ on := 51, ground := .data }, { on := 45, ground := .chain }], guard := none } : Oper)) (v := ?vs2_52) rfl says13_plain (by as_aux_lemma => kernel_rfl) (by as_aux_lemma => kernel_rfl) (fun _ _ _ h => h) (Or.inl ⟨by rfl, ?ys2_52⟩) (by assumption) ?rs2_52
  case ys2_52 => (intro w hSw; (try dsimp only at hSw); have hS0 := belowT hHeld12 hSw; have hS1 := belowT hHeld11 hS0; go_simp; try with_reducible rfl)
  try simp only [Act.put, List.setIfInBounds_toArray, List.set_cons_zero, List.set_cons_succ]
  refine wpAnyH_take (i := 53) (oi := ({ dst := some 164, op := .move (.tmp 20), type := 25, pos := "law.go:36", after := #[{ on := 52, ground := .guard }], guard := some (52, true) } : Oper)) (v := ?vs2_53) rfl says13_plain (by as_aux_lemma => kernel_rfl) (by as_aux_lemma => kernel_rfl) (fun _ _ _ h => h) (Or.inl ⟨by rfl, ?ys2_53⟩) (by assumption) ?rs2_53
  case ys2_53 => (intro w hSw; (try dsimp only at hSw); have hS0 := belowT hHeld12 hSw; have hS1 := belowT hHeld11 hS0; go_simp; try with_reducible rfl)
  try simp only [Act.put, List.setIfInBounds_toArray, List.set_cons_zero, List.set_cons_succ]
  refine wpAnyH_take (i := 54) (oi := ({ dst := some 165, op := .move (.tmp 22), type := 25, pos := "law.go:36", after := #[{ on := 52, ground := .guard }], guard := some (52, true) } : Oper)) (v := ?vs2_54) rfl says13_plain (by as_aux_lemma => kernel_rfl) (by as_aux_lemma => kernel_rfl) (fun _ _ _ h => h) (Or.inl ⟨by rfl, ?ys2_54⟩) (by assumption) ?rs2_54
  case ys2_54 => (intro w hSw; (try dsimp only at hSw); have hS0 := belowT hHeld12 hSw; have hS1 := belowT hHeld11 hS0; go_simp; try with_reducible rfl)
  try simp only [Act.put, List.setIfInBounds_toArray, List.set_cons_zero, List.set_cons_succ]
  refine wpAnyH_take (i := 55) (oi := ({ dst := some 166, op := .binOp .eql 25 (.tmp 164) (.tmp 165) 25, type := 4, pos := "law.go:36", after := #[{ on := 53, ground := .data }, { on := 54, ground := .data }, { on := 52, ground := .guard }], guard := some (52, true) } : Oper)) (v := ?vs2_55) rfl says13_plain (by as_aux_lemma => kernel_rfl) (by as_aux_lemma => kernel_rfl) (fun _ _ _ h => h) (Or.inl ⟨by rfl, ?ys2_55⟩) (by assumption) ?rs2_55
  case ys2_55 => (intro w hSw; (try dsimp only at hSw); have hS0 := belowT hHeld12 hSw; have hS1 := belowT hHeld11 hS0; go_simp; try with_reducible rfl)
  try simp only [Act.put, List.setIfInBounds_toArray, List.set_cons_zero, List.set_cons_succ]
  refine wpAnyH_take (i := 56) (oi := ({ dst := some 167, op := .pick (.tmp 163) (.tmp 166) (.const (.bool false)), type := 4, pos := "law.go:36", after := #[{ on := 52, ground := .data }, { on := 55, ground := .data }], guard := none } : Oper)) (v := ?vs2_56) rfl says13_plain (by as_aux_lemma => kernel_rfl) (by as_aux_lemma => kernel_rfl) (fun _ _ _ h => h) (Or.inl ⟨by rfl, ?ys2_56⟩) (by assumption) ?rs2_56
  case ys2_56 => (intro w hSw; (try dsimp only at hSw); have hS0 := belowT hHeld12 hSw; have hS1 := belowT hHeld11 hS0; go_simp; try with_reducible rfl)
  try simp only [Act.put, List.setIfInBounds_toArray, List.set_cons_zero, List.set_cons_succ]
  refine wpAnyH_take (i := 57) (oi := ({ dst := some 168, op := .move (.tmp 167), type := 4, pos := "law.go:36", after := #[{ on := 56, ground := .data }, { on := 52, ground := .chain }], guard := none } : Oper)) (v := ?vs2_57) rfl says13_plain (by as_aux_lemma => kernel_rfl) (by as_aux_lemma => kernel_rfl) (fun _ _ _ h => h) (Or.inl ⟨by rfl, ?ys2_57⟩) (by assumption) ?rs2_57
  case ys2_57 => (intro w hSw; (try dsimp only at hSw); have hS0 := belowT hHeld12 hSw; have hS1 := belowT hHeld11 hS0; go_simp; try with_reducible rfl)
  try simp only [Act.put, List.setIfInBounds_toArray, List.set_cons_zero, List.set_cons_succ]
  refine wpAnyH_take (i := 58) (oi := ({ dst := some 169, op := .move (.tmp 23), type := 9, pos := "law.go:36", after := #[{ on := 57, ground := .guard }], guard := some (57, true) } : Oper)) (v := ?vs2_58) rfl says13_plain (by as_aux_lemma => kernel_rfl) (by as_aux_lemma => kernel_rfl) (fun _ _ _ h => h) (Or.inl ⟨by rfl, ?ys2_58⟩) (by assumption) ?rs2_58
  case ys2_58 => (intro w hSw; (try dsimp only at hSw); have hS0 := belowT hHeld12 hSw; have hS1 := belowT hHeld11 hS0; go_simp; try with_reducible rfl)
  try simp only [Act.put, List.setIfInBounds_toArray, List.set_cons_zero, List.set_cons_succ]
  refine wpAnyH_take (i := 59) (oi := ({ dst := some 170, op := .move (.tmp 26), type := 9, pos := "law.go:36", after := #[{ on := 57, ground := .guard }], guard := some (57, true) } : Oper)) (v := ?vs2_59) rfl says13_plain (by as_aux_lemma => kernel_rfl) (by as_aux_lemma => kernel_rfl) (fun _ _ _ h => h) (Or.inl ⟨by rfl, ?ys2_59⟩) (by assumption) ?rs2_59
  case ys2_59 => (intro w hSw; (try dsimp only at hSw); have hS0 := belowT hHeld12 hSw; have hS1 := belowT hHeld11 hS0; go_simp; try with_reducible rfl)
  try simp only [Act.put, List.setIfInBounds_toArray, List.set_cons_zero, List.set_cons_succ]
  refine wpAnyH_take (i := 60) (oi := ({ dst := some 171, op := .binOp .eql 9 (.tmp 169) (.tmp 170) 9, type := 4, pos := "law.go:36", after := #[{ on := 58, ground := .data }, { on := 59, ground := .data }, { on := 57, ground := .guard }], guard := some (57, true) } : Oper)) (v := ?vs2_60) rfl says13_plain (by as_aux_lemma => kernel_rfl) (by as_aux_lemma => kernel_rfl) (fun _ _ _ h => h) (Or.inl ⟨by rfl, ?ys2_60⟩) (by assumption) ?rs2_60
  case ys2_60 => (intro w hSw; (try dsimp only at hSw); have hS0 := belowT hHeld12 hSw; have hS1 := belowT hHeld11 hS0; go_simp; try with_reducible rfl)
  try simp only [Act.put, List.setIfInBounds_toArray, List.set_cons_zero, List.set_cons_succ]
  refine wpAnyH_take (i := 61) (oi := ({ dst := some 172, op := .pick (.tmp 168) (.tmp 171) (.const (.bool false)), type := 4, pos := "law.go:36", after := #[{ on := 57, ground := .data }, { on := 60, ground := .data }], guard := none } : Oper)) (v := ?vs2_61) rfl says13_plain (by as_aux_lemma => kernel_rfl) (by as_aux_lemma => kernel_rfl) (fun _ _ _ h => h) (Or.inl ⟨by rfl, ?ys2_61⟩) (by assumption) ?rs2_61
  case ys2_61 => (intro w hSw; (try dsimp only at hSw); have hS0 := belowT hHeld12 hSw; have hS1 := belowT hHeld11 hS0; go_simp; try with_reducible rfl)
  try simp only [Act.put, List.setIfInBounds_toArray, List.set_cons_zero, List.set_cons_succ]
  refine wpAnyH_take (i := 62) (oi := ({ dst := some 173, op := .move (.tmp 172), type := 4, pos := "law.go:36", after := #[{ on := 61, ground := .data }, { on := 57, ground := .chain }], guard := none } : Oper)) (v := ?vs2_62) rfl says13_plain (by as_aux_lemma => kernel_rfl) (by as_aux_lemma => kernel_rfl) (fun _ _ _ h => h) (Or.inl ⟨by rfl, ?ys2_62⟩) (by assumption) ?rs2_62
  case ys2_62 => (intro w hSw; (try dsimp only at hSw); have hS0 := belowT hHeld12 hSw; have hS1 := belowT hHeld11 hS0; go_simp; try with_reducible rfl)
  try simp only [Act.put, List.setIfInBounds_toArray, List.set_cons_zero, List.set_cons_succ]
  refine wpAnyH_take (i := 63) (oi := ({ dst := some 174, op := .move (.tmp 24), type := 3, pos := "law.go:36", after := #[{ on := 62, ground := .guard }], guard := some (62, true) } : Oper)) (v := ?vs2_63) rfl says13_plain (by as_aux_lemma => kernel_rfl) (by as_aux_lemma => kernel_rfl) (fun _ _ _ h => h) (Or.inl ⟨by rfl, ?ys2_63⟩) (by assumption) ?rs2_63
  case ys2_63 => (intro w hSw; (try dsimp only at hSw); have hS0 := belowT hHeld12 hSw; have hS1 := belowT hHeld11 hS0; go_simp; try with_reducible rfl)
  try simp only [Act.put, List.setIfInBounds_toArray, List.set_cons_zero, List.set_cons_succ]
  refine wpAnyH_take (i := 64) (oi := ({ dst := some 175, op := .move (.tmp 27), type := 3, pos := "law.go:36", after := #[{ on := 62, ground := .guard }], guard := some (62, true) } : Oper)) (v := ?vs2_64) rfl says13_plain (by as_aux_lemma => kernel_rfl) (by as_aux_lemma => kernel_rfl) (fun _ _ _ h => h) (Or.inl ⟨by rfl, ?ys2_64⟩) (by assumption) ?rs2_64
  case ys2_64 => (intro w hSw; (try dsimp only at hSw); have hS0 := belowT hHeld12 hSw; have hS1 := belowT hHeld11 hS0; go_simp; try with_reducible rfl)
  try simp only [Act.put, List.setIfInBounds_toArray, List.set_cons_zero, List.set_cons_succ]
  refine wpAnyH_take (i := 65) (oi := ({ dst := some 176, op := .binOp .eql 3 (.tmp 174) (.tmp 175) 3, type := 4, pos := "law.go:36", after := #[{ on := 63, ground := .data }, { on := 64, ground := .data }, { on := 62, ground := .guard }], guard := some (62, true) } : Oper)) (v := ?vs2_65) rfl says13_plain (by as_aux_lemma => kernel_rfl) (by as_aux_lemma => kernel_rfl) (fun _ _ _ h => h) (Or.inl ⟨by rfl, ?ys2_65⟩) (by assumption) ?rs2_65
  case ys2_65 => (intro w hSw; (try dsimp only at hSw); have hS0 := belowT hHeld12 hSw; have hS1 := belowT hHeld11 hS0; go_simp; try with_reducible rfl)
  try simp only [Act.put, List.setIfInBounds_toArray, List.set_cons_zero, List.set_cons_succ]
  refine wpAnyH_take (i := 66) (oi := ({ dst := some 177, op := .pick (.tmp 173) (.tmp 176) (.const (.bool false)), type := 4, pos := "law.go:36", after := #[{ on := 62, ground := .data }, { on := 65, ground := .data }], guard := none } : Oper)) (v := ?vs2_66) rfl says13_plain (by as_aux_lemma => kernel_rfl) (by as_aux_lemma => kernel_rfl) (fun _ _ _ h => h) (Or.inl ⟨by rfl, ?ys2_66⟩) (by assumption) ?rs2_66
  case ys2_66 => (intro w hSw; (try dsimp only at hSw); have hS0 := belowT hHeld12 hSw; have hS1 := belowT hHeld11 hS0; go_simp; try with_reducible rfl)
  try simp only [Act.put, List.setIfInBounds_toArray, List.set_cons_zero, List.set_cons_succ]
  refine wpAnyH_take (i := 67) (oi := ({ dst := some 178, op := .move (.tmp 177), type := 4, pos := "law.go:36", after := #[{ on := 66, ground := .data }, { on := 62, ground := .chain }], guard := none } : Oper)) (v := ?vs2_67) rfl says13_plain (by as_aux_lemma => kernel_rfl) (by as_aux_lemma => kernel_rfl) (fun _ _ _ h => h) (Or.inl ⟨by rfl, ?ys2_67⟩) (by assumption) ?rs2_67
  case ys2_67 => (intro w hSw; (try dsimp only at hSw); have hS0 := belowT hHeld12 hSw; have hS1 := belowT hHeld11 hS0; go_simp; try with_reducible rfl)
  try simp only [Act.put, List.setIfInBounds_toArray, List.set_cons_zero, List.set_cons_succ]
  refine wpAnyH_take (i := 68) (oi := ({ dst := some 179, op := .move (.tmp 25), type := 25, pos := "law.go:36", after := #[{ on := 67, ground := .guard }], guard := some (67, true) } : Oper)) (v := ?vs2_68) rfl says13_plain (by as_aux_lemma => kernel_rfl) (by as_aux_lemma => kernel_rfl) (fun _ _ _ h => h) (Or.inl ⟨by rfl, ?ys2_68⟩) (by assumption) ?rs2_68
  case ys2_68 => (intro w hSw; (try dsimp only at hSw); have hS0 := belowT hHeld12 hSw; have hS1 := belowT hHeld11 hS0; go_simp; try with_reducible rfl)
  try simp only [Act.put, List.setIfInBounds_toArray, List.set_cons_zero, List.set_cons_succ]
  refine wpAnyH_take (i := 69) (oi := ({ dst := some 180, op := .move (.tmp 28), type := 25, pos := "law.go:36", after := #[{ on := 67, ground := .guard }], guard := some (67, true) } : Oper)) (v := ?vs2_69) rfl says13_plain (by as_aux_lemma => kernel_rfl) (by as_aux_lemma => kernel_rfl) (fun _ _ _ h => h) (Or.inl ⟨by rfl, ?ys2_69⟩) (by assumption) ?rs2_69
  case ys2_69 => (intro w hSw; (try dsimp only at hSw); have hS0 := belowT hHeld12 hSw; have hS1 := belowT hHeld11 hS0; go_simp; try with_reducible rfl)
  try simp only [Act.put, List.setIfInBounds_toArray, List.set_cons_zero, List.set_cons_succ]
  refine wpAnyH_take (i := 70) (oi := ({ dst := some 181, op := .binOp .eql 25 (.tmp 179) (.tmp 180) 25, type := 4, pos := "law.go:36", after := #[{ on := 68, ground := .data }, { on := 69, ground := .data }, { on := 67, ground := .guard }], guard := some (67, true) } : Oper)) (v := ?vs2_70) rfl says13_plain (by as_aux_lemma => kernel_rfl) (by as_aux_lemma => kernel_rfl) (fun _ _ _ h => h) (Or.inl ⟨by rfl, ?ys2_70⟩) (by assumption) ?rs2_70
  case ys2_70 => (intro w hSw; (try dsimp only at hSw); have hS0 := belowT hHeld12 hSw; have hS1 := belowT hHeld11 hS0; go_simp; try with_reducible rfl)
  try simp only [Act.put, List.setIfInBounds_toArray, List.set_cons_zero, List.set_cons_succ]
  refine wpAnyH_take (i := 71) (oi := ({ dst := some 182, op := .pick (.tmp 178) (.tmp 181) (.const (.bool false)), type := 4, pos := "law.go:36", after := #[{ on := 67, ground := .data }, { on := 70, ground := .data }], guard := none } : Oper)) (v := ?vs2_71) rfl says13_plain (by as_aux_lemma => kernel_rfl) (by as_aux_lemma => kernel_rfl) (fun _ _ _ h => h) (Or.inl ⟨by rfl, ?ys2_71⟩) (by assumption) ?rs2_71
  case ys2_71 => (intro w hSw; (try dsimp only at hSw); have hS0 := belowT hHeld12 hSw; have hS1 := belowT hHeld11 hS0; go_simp; try with_reducible rfl)
  try simp only [Act.put, List.setIfInBounds_toArray, List.set_cons_zero, List.set_cons_succ]
  refine wpAnyH_take (i := 72) (oi := ({ dst := some 183, op := .move (.tmp 182), type := 4, pos := "law.go:36", after := #[{ on := 71, ground := .data }, { on := 67, ground := .chain }], guard := none } : Oper)) (v := ?vs2_72) rfl says13_plain (by as_aux_lemma => kernel_rfl) (by as_aux_lemma => kernel_rfl) (fun _ _ _ h => h) (Or.inl ⟨by rfl, ?ys2_72⟩) (by assumption) ?rs2_72
  case ys2_72 => (intro w hSw; (try dsimp only at hSw); have hS0 := belowT hHeld12 hSw; have hS1 := belowT hHeld11 hS0; go_simp; try with_reducible rfl)
  try simp only [Act.put, List.setIfInBounds_toArray, List.set_cons_zero, List.set_cons_succ]
  refine wpAnyH_ready (rs := [73]) (by as_aux_lemma => kernel_rfl) (by simp) ?_
  refine AllReadyH.cons (o := ({ dst := some 184, op := .call { callee := .value (.func 7), args := #[], argTypes := #[] }, type := 4, pos := "law.go:36", after := #[{ on := 72, ground := .chain }, { on := 72, ground := .guard }], guard := some (72, true) } : Oper)) rfl (fun KK hK => ?_) AllReadyH.nil
  rw [if_pos (by rfl)]
  go_simp
  go_at_call 7; refine (AW.out _).mono ?_; rintro e w13 ⟨rfl, hb13⟩
  go_wp2_with fail
  refine hK.out _ _ ?_ (fun hHeld13 => ?_)
  · exact belowT (by assumption) hb13
  clear hK KK hb13
  try simp only [Act.put, List.setIfInBounds_toArray, List.set_cons_zero, List.set_cons_succ]
  refine wpAnyH_take (i := 74) (oi := ({ dst := some 185, op := .pick (.tmp 183) (.tmp 184) (.const (.bool false)), type := 4, pos := "law.go:36", after := #[{ on := 72, ground := .data }, { on := 73, ground := .data }], guard := none } : Oper)) (v := ?vs2_74) rfl says13_plain (by as_aux_lemma => kernel_rfl) (by as_aux_lemma => kernel_rfl) (fun _ _ _ h => h) (Or.inl ⟨by rfl, ?ys2_74⟩) (by assumption) ?rs2_74
  case ys2_74 => (intro w hSw; (try dsimp only at hSw); have hS0 := belowT hHeld12 hSw; have hS1 := belowT hHeld11 hS0; go_simp; try with_reducible rfl)
  try simp only [Act.put, List.setIfInBounds_toArray, List.set_cons_zero, List.set_cons_succ]
  refine wpAnyH_take (i := 75) (oi := ({ dst := some 6, op := .assign (.tmp 185), type := 4, pos := "law.go:36", after := ([{ on := 74, ground := .data }, { on := 73, ground := .chain }, { on := 0, ground := .phase }, { on := 1, ground := .phase }, { on := 2, ground := .phase }, { on := 3, ground := .phase }, { on := 4, ground := .phase }, { on := 5, ground := .phase }, { on := 6, ground := .phase }, { on := 7, ground := .phase }, { on := 8, ground := .phase }, { on := 9, ground := .phase }, { on := 10, ground := .phase }, { on := 11, ground := .phase }, { on := 12, ground := .phase }, { on := 13, ground := .phase }, { on := 14, ground := .phase }, { on := 15, ground := .phase }, { on := 16, ground := .phase }, { on := 17, ground := .phase }, { on := 18, ground := .phase }, { on := 19, ground := .phase }, { on := 20, ground := .phase }, { on := 21, ground := .phase }, { on := 22, ground := .phase }, { on := 23, ground := .phase }, { on := 24, ground := .phase }, { on := 25, ground := .phase }, { on := 26, ground := .phase }, { on := 27, ground := .phase }, { on := 28, ground := .phase }, { on := 29, ground := .phase }, { on := 30, ground := .phase }, { on := 31, ground := .phase }, { on := 32, ground := .phase }, { on := 33, ground := .phase }, { on := 34, ground := .phase }, { on := 35, ground := .phase }].append [{ on := 36, ground := .phase }, { on := 37, ground := .phase }, { on := 38, ground := .phase }, { on := 39, ground := .phase }, { on := 40, ground := .phase }, { on := 41, ground := .phase }, { on := 42, ground := .phase }, { on := 43, ground := .phase }, { on := 44, ground := .phase }, { on := 45, ground := .phase }, { on := 46, ground := .phase }, { on := 47, ground := .phase }, { on := 48, ground := .phase }, { on := 49, ground := .phase }, { on := 50, ground := .phase }, { on := 51, ground := .phase }, { on := 52, ground := .phase }, { on := 53, ground := .phase }, { on := 54, ground := .phase }, { on := 55, ground := .phase }, { on := 56, ground := .phase }, { on := 57, ground := .phase }, { on := 58, ground := .phase }, { on := 59, ground := .phase }, { on := 60, ground := .phase }, { on := 61, ground := .phase }, { on := 62, ground := .phase }, { on := 63, ground := .phase }, { on := 64, ground := .phase }, { on := 65, ground := .phase }, { on := 66, ground := .phase }, { on := 67, ground := .phase }, { on := 68, ground := .phase }, { on := 69, ground := .phase }, { on := 70, ground := .phase }, { on := 71, ground := .phase }, { on := 72, ground := .phase }, { on := 73, ground := .phase }, { on := 74, ground := .phase }]).toArray, guard := none } : Oper)) (v := ?vs2_75) rfl says13_plain (by as_aux_lemma => kernel_rfl) (by as_aux_lemma => kernel_rfl) (fun _ _ _ h => h) (Or.inl ⟨by rfl, ?ys2_75⟩) (by assumption) ?rs2_75
  case ys2_75 => (intro w hSw; (try dsimp only at hSw); have hS0 := belowT hHeld12 hSw; have hS1 := belowT hHeld11 hS0; go_simp; try with_reducible rfl)
  try simp only [Act.put, List.setIfInBounds_toArray, List.set_cons_zero, List.set_cons_succ]
  refine wpAnyH_done (by as_aux_lemma => kernel_rfl) ?_ _
  refine NoPanic.normal ?_
  go_wp2_with fail
  go_ret
  exact ⟨rfl, belowT (belowT B10 (belowT hHeld11 hHeld12)) (by assumption)⟩

end Go.Proofs.Ytcnnkgkejafeeaa
