/- OctetVars: the walk, over contracts. -/
import Derived.Test.YtcnnkgkejafeeaaBytesStr
import Derived.Test.YtcnnkgkejafeeaaRebase
import Derived.Deep.CutBlock
import Derived.Deep.CutRange
namespace Go.Proofs.Ytcnnkgkejafeeaa
open Go.RowKit

/-- The operations of a drawn region, as the translation has them. -/
def vars5 : Array Oper := #[
  { dst := some 31, op := .move (.tmp 0), type := 2, pos := "law.go:71", after := #[], guard := none },
  { dst := some 32, op := .call { callee := .value (.func 22), args := #[.tmp 31], argTypes := #[2] }, type := 28, pos := "law.go:71", after := #[{ on := 0, ground := .data }], guard := none },
  { dst := some 33, op := .move (.tmp 0), type := 2, pos := "law.go:71", after := #[], guard := none },
  { dst := some 34, op := .call { callee := .value (.func 23), args := #[.tmp 33], argTypes := #[2] }, type := 28, pos := "law.go:71", after := #[{ on := 2, ground := .data }, { on := 1, ground := .chain }], guard := none },
  { dst := some 35, op := .binOp .eql 28 (.tmp 32) (.tmp 34) 28, type := 4, pos := "law.go:71", after := #[{ on := 1, ground := .data }, { on := 3, ground := .data }], guard := none },
  { dst := some 36, op := .move (.tmp 35), type := 4, pos := "law.go:71", after := #[{ on := 4, ground := .data }, { on := 3, ground := .chain }], guard := none },
  { dst := some 37, op := .move (.tmp 0), type := 2, pos := "law.go:71", after := #[{ on := 5, ground := .guard }], guard := some (5, true) },
  { dst := some 38, op := .convert 2 28 (.tmp 37), type := 28, pos := "law.go:71", after := #[{ on := 6, ground := .data }, { on := 5, ground := .guard }], guard := some (5, true) },
  { dst := some 39, op := .call { callee := .value (.func 24), args := #[.tmp 38], argTypes := #[28] }, type := 2, pos := "law.go:71", after := #[{ on := 7, ground := .data }, { on := 5, ground := .chain }, { on := 5, ground := .guard }], guard := some (5, true) },
  { dst := some 40, op := .move (.tmp 0), type := 2, pos := "law.go:71", after := #[{ on := 5, ground := .guard }], guard := some (5, true) },
  { dst := some 41, op := .convert 2 28 (.tmp 40), type := 28, pos := "law.go:71", after := #[{ on := 9, ground := .data }, { on := 5, ground := .guard }], guard := some (5, true) },
  { dst := some 42, op := .call { callee := .value (.func 25), args := #[.tmp 41], argTypes := #[28] }, type := 2, pos := "law.go:71", after := #[{ on := 10, ground := .data }, { on := 8, ground := .chain }, { on := 5, ground := .guard }], guard := some (5, true) },
  { dst := some 43, op := .binOp .eql 2 (.tmp 39) (.tmp 42) 2, type := 4, pos := "law.go:71", after := #[{ on := 8, ground := .data }, { on := 11, ground := .data }, { on := 5, ground := .guard }], guard := some (5, true) },
  { dst := some 44, op := .pick (.tmp 36) (.tmp 43) (.const (.bool false)), type := 4, pos := "law.go:71", after := #[{ on := 5, ground := .data }, { on := 12, ground := .data }], guard := none },
  { dst := some 45, op := .move (.tmp 44), type := 4, pos := "law.go:71", after := #[{ on := 13, ground := .data }, { on := 11, ground := .chain }], guard := none },
  { dst := some 46, op := .move (.tmp 0), type := 2, pos := "law.go:71", after := #[{ on := 14, ground := .guard }], guard := some (14, true) },
  { dst := some 47, op := .convert 2 28 (.tmp 46), type := 28, pos := "law.go:71", after := #[{ on := 15, ground := .data }, { on := 14, ground := .guard }], guard := some (14, true) },
  { dst := some 48, op := .call { callee := .value (.func 26), args := #[.tmp 47], argTypes := #[28] }, type := 22, pos := "law.go:71", after := #[{ on := 16, ground := .data }, { on := 14, ground := .chain }, { on := 14, ground := .guard }], guard := some (14, true) },
  { dst := some 49, op := .convert 22 9 (.tmp 48), type := 9, pos := "law.go:71", after := #[{ on := 17, ground := .data }, { on := 14, ground := .guard }], guard := some (14, true) },
  { dst := some 50, op := .move (.tmp 0), type := 2, pos := "law.go:71", after := #[{ on := 14, ground := .guard }], guard := some (14, true) },
  { dst := some 51, op := .convert 2 28 (.tmp 50), type := 28, pos := "law.go:71", after := #[{ on := 19, ground := .data }, { on := 14, ground := .guard }], guard := some (14, true) },
  { dst := some 52, op := .call { callee := .value (.func 27), args := #[.tmp 51], argTypes := #[28] }, type := 22, pos := "law.go:71", after := #[{ on := 20, ground := .data }, { on := 17, ground := .chain }, { on := 14, ground := .guard }], guard := some (14, true) },
  { dst := some 53, op := .convert 22 9 (.tmp 52), type := 9, pos := "law.go:71", after := #[{ on := 21, ground := .data }, { on := 14, ground := .guard }], guard := some (14, true) },
  { dst := some 54, op := .binOp .eql 9 (.tmp 49) (.tmp 53) 9, type := 4, pos := "law.go:71", after := #[{ on := 18, ground := .data }, { on := 22, ground := .data }, { on := 14, ground := .guard }], guard := some (14, true) },
  { dst := some 55, op := .pick (.tmp 45) (.tmp 54) (.const (.bool false)), type := 4, pos := "law.go:71", after := #[{ on := 14, ground := .data }, { on := 23, ground := .data }], guard := none },
  { dst := some 56, op := .move (.tmp 55), type := 4, pos := "law.go:71", after := #[{ on := 24, ground := .data }, { on := 21, ground := .chain }], guard := none },
  { dst := some 57, op := .move (.tmp 7), type := 28, pos := "law.go:71", after := #[{ on := 25, ground := .guard }], guard := some (25, true) },
  { dst := some 58, op := .move (.tmp 10), type := 28, pos := "law.go:71", after := #[{ on := 25, ground := .guard }], guard := some (25, true) },
  { dst := some 59, op := .binOp .eql 28 (.tmp 57) (.tmp 58) 28, type := 4, pos := "law.go:71", after := #[{ on := 26, ground := .data }, { on := 27, ground := .data }, { on := 25, ground := .guard }], guard := some (25, true) },
  { dst := some 60, op := .pick (.tmp 56) (.tmp 59) (.const (.bool false)), type := 4, pos := "law.go:71", after := #[{ on := 25, ground := .data }, { on := 28, ground := .data }], guard := none },
  { dst := some 61, op := .move (.tmp 60), type := 4, pos := "law.go:71", after := #[{ on := 29, ground := .data }, { on := 25, ground := .chain }], guard := none },
  { dst := some 62, op := .move (.tmp 8), type := 3, pos := "law.go:71", after := #[{ on := 30, ground := .guard }], guard := some (30, true) },
  { dst := some 63, op := .move (.tmp 11), type := 3, pos := "law.go:71", after := #[{ on := 30, ground := .guard }], guard := some (30, true) },
  { dst := some 64, op := .binOp .eql 3 (.tmp 62) (.tmp 63) 3, type := 4, pos := "law.go:71", after := #[{ on := 31, ground := .data }, { on := 32, ground := .data }, { on := 30, ground := .guard }], guard := some (30, true) },
  { dst := some 65, op := .pick (.tmp 61) (.tmp 64) (.const (.bool false)), type := 4, pos := "law.go:71", after := #[{ on := 30, ground := .data }, { on := 33, ground := .data }], guard := none },
  { dst := some 66, op := .move (.tmp 65), type := 4, pos := "law.go:71", after := #[{ on := 34, ground := .data }, { on := 30, ground := .chain }], guard := none },
  { dst := some 67, op := .move (.tmp 9), type := 25, pos := "law.go:71", after := #[{ on := 35, ground := .guard }], guard := some (35, true) },
  { dst := some 68, op := .move (.tmp 12), type := 25, pos := "law.go:71", after := #[{ on := 35, ground := .guard }], guard := some (35, true) },
  { dst := some 69, op := .binOp .eql 25 (.tmp 67) (.tmp 68) 25, type := 4, pos := "law.go:71", after := #[{ on := 36, ground := .data }, { on := 37, ground := .data }, { on := 35, ground := .guard }], guard := some (35, true) },
  { dst := some 70, op := .pick (.tmp 66) (.tmp 69) (.const (.bool false)), type := 4, pos := "law.go:71", after := #[{ on := 35, ground := .data }, { on := 38, ground := .data }], guard := none },
  { dst := some 71, op := .move (.tmp 70), type := 4, pos := "law.go:71", after := #[{ on := 39, ground := .data }, { on := 35, ground := .chain }], guard := none },
  { dst := some 72, op := .move (.tmp 1), type := 22, pos := "law.go:71", after := #[{ on := 40, ground := .guard }], guard := some (40, true) },
  { dst := some 73, op := .call { callee := .value (.func 28), args := #[.tmp 72], argTypes := #[22] }, type := 3, pos := "law.go:71", after := #[{ on := 41, ground := .data }, { on := 40, ground := .chain }, { on := 40, ground := .guard }], guard := some (40, true) },
  { dst := some 74, op := .move (.tmp 1), type := 22, pos := "law.go:71", after := #[{ on := 40, ground := .guard }], guard := some (40, true) },
  { dst := some 75, op := .call { callee := .value (.func 29), args := #[.tmp 74], argTypes := #[22] }, type := 3, pos := "law.go:71", after := #[{ on := 43, ground := .data }, { on := 42, ground := .chain }, { on := 40, ground := .guard }], guard := some (40, true) },
  { dst := some 76, op := .binOp .eql 3 (.tmp 73) (.tmp 75) 3, type := 4, pos := "law.go:71", after := #[{ on := 42, ground := .data }, { on := 44, ground := .data }, { on := 40, ground := .guard }], guard := some (40, true) },
  { dst := some 77, op := .pick (.tmp 71) (.tmp 76) (.const (.bool false)), type := 4, pos := "law.go:71", after := #[{ on := 40, ground := .data }, { on := 45, ground := .data }], guard := none },
  { dst := some 78, op := .move (.tmp 77), type := 4, pos := "law.go:71", after := #[{ on := 46, ground := .data }, { on := 44, ground := .chain }], guard := none },
  { dst := some 79, op := .call { callee := .value (.func 7), args := #[], argTypes := #[] }, type := 4, pos := "law.go:71", after := #[{ on := 47, ground := .chain }, { on := 47, ground := .guard }], guard := some (47, true) },
  { dst := some 80, op := .pick (.tmp 78) (.tmp 79) (.const (.bool false)), type := 4, pos := "law.go:71", after := #[{ on := 47, ground := .data }, { on := 48, ground := .data }], guard := none },
  { dst := some 6, op := .assign (.tmp 80), type := 4, pos := "law.go:71", after := #[{ on := 49, ground := .data }, { on := 48, ground := .chain }, { on := 0, ground := .phase }, { on := 1, ground := .phase }, { on := 2, ground := .phase }, { on := 3, ground := .phase }, { on := 4, ground := .phase }, { on := 5, ground := .phase }, { on := 6, ground := .phase }, { on := 7, ground := .phase }, { on := 8, ground := .phase }, { on := 9, ground := .phase }, { on := 10, ground := .phase }, { on := 11, ground := .phase }, { on := 12, ground := .phase }, { on := 13, ground := .phase }, { on := 14, ground := .phase }, { on := 15, ground := .phase }, { on := 16, ground := .phase }, { on := 17, ground := .phase }, { on := 18, ground := .phase }, { on := 19, ground := .phase }, { on := 20, ground := .phase }, { on := 21, ground := .phase }, { on := 22, ground := .phase }, { on := 23, ground := .phase }, { on := 24, ground := .phase }, { on := 25, ground := .phase }, { on := 26, ground := .phase }, { on := 27, ground := .phase }, { on := 28, ground := .phase }, { on := 29, ground := .phase }, { on := 30, ground := .phase }, { on := 31, ground := .phase }, { on := 32, ground := .phase }, { on := 33, ground := .phase }, { on := 34, ground := .phase }, { on := 35, ground := .phase }, { on := 36, ground := .phase }, { on := 37, ground := .phase }, { on := 38, ground := .phase }, { on := 39, ground := .phase }, { on := 40, ground := .phase }, { on := 41, ground := .phase }, { on := 42, ground := .phase }, { on := 43, ground := .phase }, { on := 44, ground := .phase }, { on := 45, ground := .phase }, { on := 46, ground := .phase }, { on := 47, ground := .phase }, { on := 48, ground := .phase }, { on := 49, ground := .phase }], guard := none }]
theorem vars5_plain : Region.noSelect vars5 = true := by kernel_rfl


set_option maxHeartbeats 4000000 in
set_option maxRecDepth 100000 in
theorem vars_long (ba : Option Addr) (len cap : Nat) (n at_ : Int) (w : World) (hl : (600 : Int) < len)
    (AW : Hid (∀ w, Calls Try.prog 7 #[] w fun e w' => e = .returned (.bool true) ∧ Below w.heap.size w w')) :
    Calls Try.prog 5 #[.int .i64 n, .slice ba len cap, .int .i64 at_] w fun e w' => e = .returned (.bool true) ∧ Below w.heap.size w w' := by
  go_enter Try.func5, Try.ntmps5
  go_wp2_with fail
  refine (AW.out _).mono ?_; rintro e w1 ⟨rfl, hb1⟩
  go_wp2_with fail
  go_ret
  exact ⟨rfl, hb1⟩

set_option maxHeartbeats 8000000 in
set_option maxRecDepth 100000 in
theorem vars_core (ba : Option Addr) (len cap : Nat) (n at_ z y tp er pb u : Int) (lv : List UInt8) (w : World) (hl : (len : Int) ≤ 600) (hu : IntKind.u64.wrap n = u) (zg : Int)
    (RV1 : Hid (∀ w', Below w.heap.size w w' → Calls Try.prog 20 #[.slice ba len cap, .int .i64 at_] w' fun e w'' => e = .returned (.tuple #[.int .u64 y, .int .i64 tp, .int .i64 er]) ∧ Below w'.heap.size w' w''))
    (RV2 : Hid (∀ w', Below w.heap.size w w' → Calls Try.prog 21 #[.slice ba len cap, .int .i64 at_] w' fun e w'' => e = .returned (.tuple #[.int .u64 y, .int .i64 tp, .int .i64 er]) ∧ Below w'.heap.size w' w''))
    (Z1 : Hid (∀ w, Calls Try.prog 22 #[.int .i64 n] w fun e w' => e = .returned (.int .u64 z) ∧ Below w.heap.size w w'))
    (Z2 : Hid (∀ w, Calls Try.prog 23 #[.int .i64 n] w fun e w' => e = .returned (.int .u64 z) ∧ Below w.heap.size w w'))
    (G1 : Hid (∀ w, Calls Try.prog 24 #[.int .u64 u] w fun e w' => e = .returned (.int .i64 zg) ∧ Below w.heap.size w w'))
    (G2 : Hid (∀ w, Calls Try.prog 25 #[.int .u64 u] w fun e w' => e = .returned (.int .i64 zg) ∧ Below w.heap.size w w'))
    (V1 : Hid (∀ w, Calls Try.prog 26 #[.int .u64 u] w fun e w' => ∃ v, e = .returned v ∧ Bytes w.heap.size w w' v lv))
    (V2 : Hid (∀ w, Calls Try.prog 27 #[.int .u64 u] w fun e w' => ∃ v, e = .returned v ∧ Bytes w.heap.size w w' v lv))
    (B1 : Hid (∀ w', Below w.heap.size w w' → Calls Try.prog 28 #[.slice ba len cap] w' fun e w'' => e = .returned (.int .i64 pb) ∧ Below w'.heap.size w' w''))
    (B2 : Hid (∀ w', Below w.heap.size w w' → Calls Try.prog 29 #[.slice ba len cap] w' fun e w'' => e = .returned (.int .i64 pb) ∧ Below w'.heap.size w' w''))
    (AW : Hid (∀ w, Calls Try.prog 7 #[] w fun e w' => e = .returned (.bool true) ∧ Below w.heap.size w w')) :
    Calls Try.prog 5 #[.int .i64 n, .slice ba len cap, .int .i64 at_] w fun e w' => e = .returned (.bool true) ∧ Below w.heap.size w w' := by
  have hd : decide ((600 : Int) < len) = false := decide_eq_false (by omega)
  go_enter Try.func5, Try.ntmps5
  go_wp2_with fail
  refine (RV1.out _ (Below.refl _ _)).mono ?_; rintro e w1 ⟨rfl, hb1⟩
  go_wp2_with fail
  refine (RV2.out _ hb1).mono ?_; rintro e w2 ⟨rfl, hb2⟩
  have C2 := belowT hb1 hb2
  go_upto_region 5 with fail
  try simp only [List.append_eq, List.cons_append, List.nil_append]
  change (Code.region 5 vars5 true).wp Try.prog _ _ _
  refine wp_region_noPanic ?_
  refine wp_region_held_drew (S := fun w' => Below w2.heap.size w2 w') (by kernel_rfl) ((Below.refl _ _).drew) (fun hHeld => ?_)
  refine wpAnyH_take (i := 0) (oi := ({ dst := some 31, op := .move (.tmp 0), type := 2, pos := "law.go:71", after := #[], guard := none } : Oper)) (v := ?vs1_0) rfl vars5_plain (by as_aux_lemma => kernel_rfl) (by as_aux_lemma => kernel_rfl) (fun _ _ _ h => h) (Or.inl ⟨by rfl, ?ys1_0⟩) (by assumption) ?rs1_0
  case ys1_0 => (intro w hSw; (try dsimp only at hSw); go_simp; try with_reducible rfl)
  try simp only [Act.put, List.setIfInBounds_toArray, List.set_cons_zero, List.set_cons_succ]
  refine wpAnyH_take (i := 2) (oi := ({ dst := some 33, op := .move (.tmp 0), type := 2, pos := "law.go:71", after := #[], guard := none } : Oper)) (v := ?vs1_2) rfl vars5_plain (by as_aux_lemma => kernel_rfl) (by as_aux_lemma => kernel_rfl) (fun _ _ _ h => h) (Or.inl ⟨by rfl, ?ys1_2⟩) (by assumption) ?rs1_2
  case ys1_2 => (intro w hSw; (try dsimp only at hSw); go_simp; try with_reducible rfl)
  try simp only [Act.put, List.setIfInBounds_toArray, List.set_cons_zero, List.set_cons_succ]
  refine wpAnyH_ready (rs := [1]) (by as_aux_lemma => kernel_rfl) (by simp) ?_
  refine AllReadyH.cons (o := ({ dst := some 32, op := .call { callee := .value (.func 22), args := #[.tmp 31], argTypes := #[2] }, type := 28, pos := "law.go:71", after := #[{ on := 0, ground := .data }], guard := none } : Oper)) rfl (fun KK hK => ?_) AllReadyH.nil
  rw [if_pos (by rfl)]
  go_simp
  go_at_call 22; refine (Z1.out _).mono ?_; rintro e w3 ⟨rfl, hb3⟩
  go_wp2_with fail
  refine hK.out _ _ ?_ (fun hHeld3 => ?_)
  · exact belowT (by assumption) hb3
  clear hK KK hb3
  try simp only [Act.put, List.setIfInBounds_toArray, List.set_cons_zero, List.set_cons_succ]
  refine wpAnyH_ready (rs := [3]) (by as_aux_lemma => kernel_rfl) (by simp) ?_
  refine AllReadyH.cons (o := ({ dst := some 34, op := .call { callee := .value (.func 23), args := #[.tmp 33], argTypes := #[2] }, type := 28, pos := "law.go:71", after := #[{ on := 2, ground := .data }, { on := 1, ground := .chain }], guard := none } : Oper)) rfl (fun KK hK => ?_) AllReadyH.nil
  rw [if_pos (by rfl)]
  go_simp
  go_at_call 23; refine (Z2.out _).mono ?_; rintro e w4 ⟨rfl, hb4⟩
  go_wp2_with fail
  refine hK.out _ _ ?_ (fun hHeld4 => ?_)
  · exact belowT (by assumption) hb4
  clear hK KK hb4 hHeld3
  try simp only [Act.put, List.setIfInBounds_toArray, List.set_cons_zero, List.set_cons_succ]
  refine wpAnyH_take (i := 4) (oi := ({ dst := some 35, op := .binOp .eql 28 (.tmp 32) (.tmp 34) 28, type := 4, pos := "law.go:71", after := #[{ on := 1, ground := .data }, { on := 3, ground := .data }], guard := none } : Oper)) (v := ?vs1_4) rfl vars5_plain (by as_aux_lemma => kernel_rfl) (by as_aux_lemma => kernel_rfl) (fun _ _ _ h => h) (Or.inl ⟨by rfl, ?ys1_4⟩) (by assumption) ?rs1_4
  case ys1_4 => (intro w hSw; (try dsimp only at hSw); go_simp; try with_reducible rfl)
  try simp only [Act.put, List.setIfInBounds_toArray, List.set_cons_zero, List.set_cons_succ]
  refine wpAnyH_take (i := 5) (oi := ({ dst := some 36, op := .move (.tmp 35), type := 4, pos := "law.go:71", after := #[{ on := 4, ground := .data }, { on := 3, ground := .chain }], guard := none } : Oper)) (v := ?vs1_5) rfl vars5_plain (by as_aux_lemma => kernel_rfl) (by as_aux_lemma => kernel_rfl) (fun _ _ _ h => h) (Or.inl ⟨by rfl, ?ys1_5⟩) (by assumption) ?rs1_5
  case ys1_5 => (intro w hSw; (try dsimp only at hSw); go_simp; try with_reducible rfl)
  try simp only [Act.put, List.setIfInBounds_toArray, List.set_cons_zero, List.set_cons_succ]
  refine wpAnyH_take (i := 6) (oi := ({ dst := some 37, op := .move (.tmp 0), type := 2, pos := "law.go:71", after := #[{ on := 5, ground := .guard }], guard := some (5, true) } : Oper)) (v := ?vs1_6) rfl vars5_plain (by as_aux_lemma => kernel_rfl) (by as_aux_lemma => kernel_rfl) (fun _ _ _ h => h) (Or.inl ⟨by rfl, ?ys1_6⟩) (by assumption) ?rs1_6
  case ys1_6 => (intro w hSw; (try dsimp only at hSw); go_simp; try with_reducible rfl)
  try simp only [Act.put, List.setIfInBounds_toArray, List.set_cons_zero, List.set_cons_succ]
  refine wpAnyH_take (i := 7) (oi := ({ dst := some 38, op := .convert 2 28 (.tmp 37), type := 28, pos := "law.go:71", after := #[{ on := 6, ground := .data }, { on := 5, ground := .guard }], guard := some (5, true) } : Oper)) (v := ?vs1_7) rfl vars5_plain (by as_aux_lemma => kernel_rfl) (by as_aux_lemma => kernel_rfl) (fun _ _ _ h => h) (Or.inl ⟨by rfl, ?ys1_7⟩) (by assumption) ?rs1_7
  case ys1_7 => (intro w hSw; (try dsimp only at hSw); go_simp; try with_reducible rfl)
  try simp only [Act.put, List.setIfInBounds_toArray, List.set_cons_zero, List.set_cons_succ]
  refine wpAnyH_take (i := 9) (oi := ({ dst := some 40, op := .move (.tmp 0), type := 2, pos := "law.go:71", after := #[{ on := 5, ground := .guard }], guard := some (5, true) } : Oper)) (v := ?vs1_9) rfl vars5_plain (by as_aux_lemma => kernel_rfl) (by as_aux_lemma => kernel_rfl) (fun _ _ _ h => h) (Or.inl ⟨by rfl, ?ys1_9⟩) (by assumption) ?rs1_9
  case ys1_9 => (intro w hSw; (try dsimp only at hSw); go_simp; try with_reducible rfl)
  try simp only [Act.put, List.setIfInBounds_toArray, List.set_cons_zero, List.set_cons_succ]
  refine wpAnyH_take (i := 10) (oi := ({ dst := some 41, op := .convert 2 28 (.tmp 40), type := 28, pos := "law.go:71", after := #[{ on := 9, ground := .data }, { on := 5, ground := .guard }], guard := some (5, true) } : Oper)) (v := ?vs1_10) rfl vars5_plain (by as_aux_lemma => kernel_rfl) (by as_aux_lemma => kernel_rfl) (fun _ _ _ h => h) (Or.inl ⟨by rfl, ?ys1_10⟩) (by assumption) ?rs1_10
  case ys1_10 => (intro w hSw; (try dsimp only at hSw); go_simp; try with_reducible rfl)
  try simp only [Act.put, List.setIfInBounds_toArray, List.set_cons_zero, List.set_cons_succ]
  refine wpAnyH_ready (rs := [8]) (by as_aux_lemma => kernel_rfl) (by simp) ?_
  refine AllReadyH.cons (o := ({ dst := some 39, op := .call { callee := .value (.func 24), args := #[.tmp 38], argTypes := #[28] }, type := 2, pos := "law.go:71", after := #[{ on := 7, ground := .data }, { on := 5, ground := .chain }, { on := 5, ground := .guard }], guard := some (5, true) } : Oper)) rfl (fun KK hK => ?_) AllReadyH.nil
  rw [if_pos (by rfl)]
  go_simp
  go_at_call 24; refine (G1.out _).mono ?_; rintro e w5 ⟨rfl, hb5⟩
  go_wp2_with fail
  refine hK.out _ _ ?_ (fun hHeld5 => ?_)
  · exact belowT (by assumption) hb5
  clear hK KK hb5 hHeld4
  try simp only [Act.put, List.setIfInBounds_toArray, List.set_cons_zero, List.set_cons_succ]
  refine wpAnyH_ready (rs := [11]) (by as_aux_lemma => kernel_rfl) (by simp) ?_
  refine AllReadyH.cons (o := ({ dst := some 42, op := .call { callee := .value (.func 25), args := #[.tmp 41], argTypes := #[28] }, type := 2, pos := "law.go:71", after := #[{ on := 10, ground := .data }, { on := 8, ground := .chain }, { on := 5, ground := .guard }], guard := some (5, true) } : Oper)) rfl (fun KK hK => ?_) AllReadyH.nil
  rw [if_pos (by rfl)]
  go_simp
  go_at_call 25; refine (G2.out _).mono ?_; rintro e w6 ⟨rfl, hb6⟩
  go_wp2_with fail
  refine hK.out _ _ ?_ (fun hHeld6 => ?_)
  · exact belowT (by assumption) hb6
  clear hK KK hb6 hHeld5
  try simp only [Act.put, List.setIfInBounds_toArray, List.set_cons_zero, List.set_cons_succ]
  refine wpAnyH_take (i := 12) (oi := ({ dst := some 43, op := .binOp .eql 2 (.tmp 39) (.tmp 42) 2, type := 4, pos := "law.go:71", after := #[{ on := 8, ground := .data }, { on := 11, ground := .data }, { on := 5, ground := .guard }], guard := some (5, true) } : Oper)) (v := ?vs1_12) rfl vars5_plain (by as_aux_lemma => kernel_rfl) (by as_aux_lemma => kernel_rfl) (fun _ _ _ h => h) (Or.inl ⟨by rfl, ?ys1_12⟩) (by assumption) ?rs1_12
  case ys1_12 => (intro w hSw; (try dsimp only at hSw); go_simp; try with_reducible rfl)
  try simp only [Act.put, List.setIfInBounds_toArray, List.set_cons_zero, List.set_cons_succ]
  refine wpAnyH_take (i := 13) (oi := ({ dst := some 44, op := .pick (.tmp 36) (.tmp 43) (.const (.bool false)), type := 4, pos := "law.go:71", after := #[{ on := 5, ground := .data }, { on := 12, ground := .data }], guard := none } : Oper)) (v := ?vs1_13) rfl vars5_plain (by as_aux_lemma => kernel_rfl) (by as_aux_lemma => kernel_rfl) (fun _ _ _ h => h) (Or.inl ⟨by rfl, ?ys1_13⟩) (by assumption) ?rs1_13
  case ys1_13 => (intro w hSw; (try dsimp only at hSw); go_simp; try with_reducible rfl)
  try simp only [Act.put, List.setIfInBounds_toArray, List.set_cons_zero, List.set_cons_succ]
  refine wpAnyH_take (i := 14) (oi := ({ dst := some 45, op := .move (.tmp 44), type := 4, pos := "law.go:71", after := #[{ on := 13, ground := .data }, { on := 11, ground := .chain }], guard := none } : Oper)) (v := ?vs1_14) rfl vars5_plain (by as_aux_lemma => kernel_rfl) (by as_aux_lemma => kernel_rfl) (fun _ _ _ h => h) (Or.inl ⟨by rfl, ?ys1_14⟩) (by assumption) ?rs1_14
  case ys1_14 => (intro w hSw; (try dsimp only at hSw); go_simp; try with_reducible rfl)
  try simp only [Act.put, List.setIfInBounds_toArray, List.set_cons_zero, List.set_cons_succ]
  refine wpAnyH_take (i := 15) (oi := ({ dst := some 46, op := .move (.tmp 0), type := 2, pos := "law.go:71", after := #[{ on := 14, ground := .guard }], guard := some (14, true) } : Oper)) (v := ?vs1_15) rfl vars5_plain (by as_aux_lemma => kernel_rfl) (by as_aux_lemma => kernel_rfl) (fun _ _ _ h => h) (Or.inl ⟨by rfl, ?ys1_15⟩) (by assumption) ?rs1_15
  case ys1_15 => (intro w hSw; (try dsimp only at hSw); go_simp; try with_reducible rfl)
  try simp only [Act.put, List.setIfInBounds_toArray, List.set_cons_zero, List.set_cons_succ]
  refine wpAnyH_take (i := 16) (oi := ({ dst := some 47, op := .convert 2 28 (.tmp 46), type := 28, pos := "law.go:71", after := #[{ on := 15, ground := .data }, { on := 14, ground := .guard }], guard := some (14, true) } : Oper)) (v := ?vs1_16) rfl vars5_plain (by as_aux_lemma => kernel_rfl) (by as_aux_lemma => kernel_rfl) (fun _ _ _ h => h) (Or.inl ⟨by rfl, ?ys1_16⟩) (by assumption) ?rs1_16
  case ys1_16 => (intro w hSw; (try dsimp only at hSw); go_simp; try with_reducible rfl)
  try simp only [Act.put, List.setIfInBounds_toArray, List.set_cons_zero, List.set_cons_succ]
  refine wpAnyH_take (i := 19) (oi := ({ dst := some 50, op := .move (.tmp 0), type := 2, pos := "law.go:71", after := #[{ on := 14, ground := .guard }], guard := some (14, true) } : Oper)) (v := ?vs1_19) rfl vars5_plain (by as_aux_lemma => kernel_rfl) (by as_aux_lemma => kernel_rfl) (fun _ _ _ h => h) (Or.inl ⟨by rfl, ?ys1_19⟩) (by assumption) ?rs1_19
  case ys1_19 => (intro w hSw; (try dsimp only at hSw); go_simp; try with_reducible rfl)
  try simp only [Act.put, List.setIfInBounds_toArray, List.set_cons_zero, List.set_cons_succ]
  refine wpAnyH_take (i := 20) (oi := ({ dst := some 51, op := .convert 2 28 (.tmp 50), type := 28, pos := "law.go:71", after := #[{ on := 19, ground := .data }, { on := 14, ground := .guard }], guard := some (14, true) } : Oper)) (v := ?vs1_20) rfl vars5_plain (by as_aux_lemma => kernel_rfl) (by as_aux_lemma => kernel_rfl) (fun _ _ _ h => h) (Or.inl ⟨by rfl, ?ys1_20⟩) (by assumption) ?rs1_20
  case ys1_20 => (intro w hSw; (try dsimp only at hSw); go_simp; try with_reducible rfl)
  try simp only [Act.put, List.setIfInBounds_toArray, List.set_cons_zero, List.set_cons_succ]
  refine wpAnyH_ready (rs := [17]) (by as_aux_lemma => kernel_rfl) (by simp) ?_
  refine AllReadyH.cons (o := ({ dst := some 48, op := .call { callee := .value (.func 26), args := #[.tmp 47], argTypes := #[28] }, type := 22, pos := "law.go:71", after := #[{ on := 16, ground := .data }, { on := 14, ground := .chain }, { on := 14, ground := .guard }], guard := some (14, true) } : Oper)) rfl (fun KK hK => ?_) AllReadyH.nil
  rw [if_pos (by rfl)]
  go_simp
  go_at_call 26; refine (V1.out _).mono ?_; rintro e w7 ⟨v1, rfl, hv7⟩
  have hb7 := hv7.below
  have cv7 := hv7.string
  go_wp2_with fail
  refine hK.out _ _ ?_ (fun hHeld7 => ?_)
  · exact belowT (by assumption) hb7
  refine wpAnyH_rebase (S' := fun w' => Below w7.heap.size w7 w') (fun w' h => belowT hHeld7 h) _ _ _ _ ?_
  have hHeldR7 := Below.refl w7.heap.size w7
  clear hK KK
  try simp only [Act.put, List.setIfInBounds_toArray, List.set_cons_zero, List.set_cons_succ]
  refine wpAnyH_take (i := 18) (oi := ({ dst := some 49, op := .convert 22 9 (.tmp 48), type := 9, pos := "law.go:71", after := #[{ on := 17, ground := .data }, { on := 14, ground := .guard }], guard := some (14, true) } : Oper)) (v := ?vs1_18) rfl vars5_plain (by as_aux_lemma => kernel_rfl) (by as_aux_lemma => kernel_rfl) (fun _ _ _ h => h) (Or.inl ⟨by rfl, ?ys1_18⟩) (by assumption) ?rs1_18
  case ys1_18 => (intro w hSw; (try dsimp only at hSw); have hS0 := belowT hHeld7 hSw; go_simp; try with_reducible rfl)
  try simp only [Act.put, List.setIfInBounds_toArray, List.set_cons_zero, List.set_cons_succ]
  refine wpAnyH_ready (rs := [21]) (by as_aux_lemma => kernel_rfl) (by simp) ?_
  refine AllReadyH.cons (o := ({ dst := some 52, op := .call { callee := .value (.func 27), args := #[.tmp 51], argTypes := #[28] }, type := 22, pos := "law.go:71", after := #[{ on := 20, ground := .data }, { on := 17, ground := .chain }, { on := 14, ground := .guard }], guard := some (14, true) } : Oper)) rfl (fun KK hK => ?_) AllReadyH.nil
  rw [if_pos (by rfl)]
  go_simp
  go_at_call 27; refine (V2.out _).mono ?_; rintro e w8 ⟨v2, rfl, hv8⟩
  have hb8 := hv8.below
  have cv8 := hv8.string
  go_wp2_with fail
  refine hK.out _ _ ?_ (fun hHeld8 => ?_)
  · exact belowT (by assumption) hb8
  refine wpAnyH_rebase (S' := fun w' => Below w8.heap.size w8 w') (fun w' h => belowT hHeld8 h) _ _ _ _ ?_
  have hHeldR8 := Below.refl w8.heap.size w8
  clear hK KK
  try simp only [Act.put, List.setIfInBounds_toArray, List.set_cons_zero, List.set_cons_succ]
  refine wpAnyH_take (i := 22) (oi := ({ dst := some 53, op := .convert 22 9 (.tmp 52), type := 9, pos := "law.go:71", after := #[{ on := 21, ground := .data }, { on := 14, ground := .guard }], guard := some (14, true) } : Oper)) (v := ?vs1_22) rfl vars5_plain (by as_aux_lemma => kernel_rfl) (by as_aux_lemma => kernel_rfl) (fun _ _ _ h => h) (Or.inl ⟨by rfl, ?ys1_22⟩) (by assumption) ?rs1_22
  case ys1_22 => (intro w hSw; (try dsimp only at hSw); have hS0 := belowT hHeld8 hSw; have hS1 := belowT hHeld7 hS0; go_simp; try with_reducible rfl)
  try simp only [Act.put, List.setIfInBounds_toArray, List.set_cons_zero, List.set_cons_succ]
  refine wpAnyH_take (i := 23) (oi := ({ dst := some 54, op := .binOp .eql 9 (.tmp 49) (.tmp 53) 9, type := 4, pos := "law.go:71", after := #[{ on := 18, ground := .data }, { on := 22, ground := .data }, { on := 14, ground := .guard }], guard := some (14, true) } : Oper)) (v := ?vs1_23) rfl vars5_plain (by as_aux_lemma => kernel_rfl) (by as_aux_lemma => kernel_rfl) (fun _ _ _ h => h) (Or.inl ⟨by rfl, ?ys1_23⟩) (by assumption) ?rs1_23
  case ys1_23 => (intro w hSw; (try dsimp only at hSw); have hS0 := belowT hHeld8 hSw; have hS1 := belowT hHeld7 hS0; go_simp; try with_reducible rfl)
  try simp only [Act.put, List.setIfInBounds_toArray, List.set_cons_zero, List.set_cons_succ]
  refine wpAnyH_take (i := 24) (oi := ({ dst := some 55, op := .pick (.tmp 45) (.tmp 54) (.const (.bool false)), type := 4, pos := "law.go:71", after := #[{ on := 14, ground := .data }, { on := 23, ground := .data }], guard := none } : Oper)) (v := ?vs1_24) rfl vars5_plain (by as_aux_lemma => kernel_rfl) (by as_aux_lemma => kernel_rfl) (fun _ _ _ h => h) (Or.inl ⟨by rfl, ?ys1_24⟩) (by assumption) ?rs1_24
  case ys1_24 => (intro w hSw; (try dsimp only at hSw); have hS0 := belowT hHeld8 hSw; have hS1 := belowT hHeld7 hS0; go_simp; try with_reducible rfl)
  try simp only [Act.put, List.setIfInBounds_toArray, List.set_cons_zero, List.set_cons_succ]
  refine wpAnyH_take (i := 25) (oi := ({ dst := some 56, op := .move (.tmp 55), type := 4, pos := "law.go:71", after := #[{ on := 24, ground := .data }, { on := 21, ground := .chain }], guard := none } : Oper)) (v := ?vs1_25) rfl vars5_plain (by as_aux_lemma => kernel_rfl) (by as_aux_lemma => kernel_rfl) (fun _ _ _ h => h) (Or.inl ⟨by rfl, ?ys1_25⟩) (by assumption) ?rs1_25
  case ys1_25 => (intro w hSw; (try dsimp only at hSw); have hS0 := belowT hHeld8 hSw; have hS1 := belowT hHeld7 hS0; go_simp; try with_reducible rfl)
  try simp only [Act.put, List.setIfInBounds_toArray, List.set_cons_zero, List.set_cons_succ]
  refine wpAnyH_take (i := 26) (oi := ({ dst := some 57, op := .move (.tmp 7), type := 28, pos := "law.go:71", after := #[{ on := 25, ground := .guard }], guard := some (25, true) } : Oper)) (v := ?vs1_26) rfl vars5_plain (by as_aux_lemma => kernel_rfl) (by as_aux_lemma => kernel_rfl) (fun _ _ _ h => h) (Or.inl ⟨by rfl, ?ys1_26⟩) (by assumption) ?rs1_26
  case ys1_26 => (intro w hSw; (try dsimp only at hSw); have hS0 := belowT hHeld8 hSw; have hS1 := belowT hHeld7 hS0; go_simp; try with_reducible rfl)
  try simp only [Act.put, List.setIfInBounds_toArray, List.set_cons_zero, List.set_cons_succ]
  refine wpAnyH_take (i := 27) (oi := ({ dst := some 58, op := .move (.tmp 10), type := 28, pos := "law.go:71", after := #[{ on := 25, ground := .guard }], guard := some (25, true) } : Oper)) (v := ?vs1_27) rfl vars5_plain (by as_aux_lemma => kernel_rfl) (by as_aux_lemma => kernel_rfl) (fun _ _ _ h => h) (Or.inl ⟨by rfl, ?ys1_27⟩) (by assumption) ?rs1_27
  case ys1_27 => (intro w hSw; (try dsimp only at hSw); have hS0 := belowT hHeld8 hSw; have hS1 := belowT hHeld7 hS0; go_simp; try with_reducible rfl)
  try simp only [Act.put, List.setIfInBounds_toArray, List.set_cons_zero, List.set_cons_succ]
  refine wpAnyH_take (i := 28) (oi := ({ dst := some 59, op := .binOp .eql 28 (.tmp 57) (.tmp 58) 28, type := 4, pos := "law.go:71", after := #[{ on := 26, ground := .data }, { on := 27, ground := .data }, { on := 25, ground := .guard }], guard := some (25, true) } : Oper)) (v := ?vs1_28) rfl vars5_plain (by as_aux_lemma => kernel_rfl) (by as_aux_lemma => kernel_rfl) (fun _ _ _ h => h) (Or.inl ⟨by rfl, ?ys1_28⟩) (by assumption) ?rs1_28
  case ys1_28 => (intro w hSw; (try dsimp only at hSw); have hS0 := belowT hHeld8 hSw; have hS1 := belowT hHeld7 hS0; go_simp; try with_reducible rfl)
  try simp only [Act.put, List.setIfInBounds_toArray, List.set_cons_zero, List.set_cons_succ]
  refine wpAnyH_take (i := 29) (oi := ({ dst := some 60, op := .pick (.tmp 56) (.tmp 59) (.const (.bool false)), type := 4, pos := "law.go:71", after := #[{ on := 25, ground := .data }, { on := 28, ground := .data }], guard := none } : Oper)) (v := ?vs1_29) rfl vars5_plain (by as_aux_lemma => kernel_rfl) (by as_aux_lemma => kernel_rfl) (fun _ _ _ h => h) (Or.inl ⟨by rfl, ?ys1_29⟩) (by assumption) ?rs1_29
  case ys1_29 => (intro w hSw; (try dsimp only at hSw); have hS0 := belowT hHeld8 hSw; have hS1 := belowT hHeld7 hS0; go_simp; try with_reducible rfl)
  try simp only [Act.put, List.setIfInBounds_toArray, List.set_cons_zero, List.set_cons_succ]
  refine wpAnyH_take (i := 30) (oi := ({ dst := some 61, op := .move (.tmp 60), type := 4, pos := "law.go:71", after := #[{ on := 29, ground := .data }, { on := 25, ground := .chain }], guard := none } : Oper)) (v := ?vs1_30) rfl vars5_plain (by as_aux_lemma => kernel_rfl) (by as_aux_lemma => kernel_rfl) (fun _ _ _ h => h) (Or.inl ⟨by rfl, ?ys1_30⟩) (by assumption) ?rs1_30
  case ys1_30 => (intro w hSw; (try dsimp only at hSw); have hS0 := belowT hHeld8 hSw; have hS1 := belowT hHeld7 hS0; go_simp; try with_reducible rfl)
  try simp only [Act.put, List.setIfInBounds_toArray, List.set_cons_zero, List.set_cons_succ]
  refine wpAnyH_take (i := 31) (oi := ({ dst := some 62, op := .move (.tmp 8), type := 3, pos := "law.go:71", after := #[{ on := 30, ground := .guard }], guard := some (30, true) } : Oper)) (v := ?vs1_31) rfl vars5_plain (by as_aux_lemma => kernel_rfl) (by as_aux_lemma => kernel_rfl) (fun _ _ _ h => h) (Or.inl ⟨by rfl, ?ys1_31⟩) (by assumption) ?rs1_31
  case ys1_31 => (intro w hSw; (try dsimp only at hSw); have hS0 := belowT hHeld8 hSw; have hS1 := belowT hHeld7 hS0; go_simp; try with_reducible rfl)
  try simp only [Act.put, List.setIfInBounds_toArray, List.set_cons_zero, List.set_cons_succ]
  refine wpAnyH_take (i := 32) (oi := ({ dst := some 63, op := .move (.tmp 11), type := 3, pos := "law.go:71", after := #[{ on := 30, ground := .guard }], guard := some (30, true) } : Oper)) (v := ?vs1_32) rfl vars5_plain (by as_aux_lemma => kernel_rfl) (by as_aux_lemma => kernel_rfl) (fun _ _ _ h => h) (Or.inl ⟨by rfl, ?ys1_32⟩) (by assumption) ?rs1_32
  case ys1_32 => (intro w hSw; (try dsimp only at hSw); have hS0 := belowT hHeld8 hSw; have hS1 := belowT hHeld7 hS0; go_simp; try with_reducible rfl)
  try simp only [Act.put, List.setIfInBounds_toArray, List.set_cons_zero, List.set_cons_succ]
  refine wpAnyH_take (i := 33) (oi := ({ dst := some 64, op := .binOp .eql 3 (.tmp 62) (.tmp 63) 3, type := 4, pos := "law.go:71", after := #[{ on := 31, ground := .data }, { on := 32, ground := .data }, { on := 30, ground := .guard }], guard := some (30, true) } : Oper)) (v := ?vs1_33) rfl vars5_plain (by as_aux_lemma => kernel_rfl) (by as_aux_lemma => kernel_rfl) (fun _ _ _ h => h) (Or.inl ⟨by rfl, ?ys1_33⟩) (by assumption) ?rs1_33
  case ys1_33 => (intro w hSw; (try dsimp only at hSw); have hS0 := belowT hHeld8 hSw; have hS1 := belowT hHeld7 hS0; go_simp; try with_reducible rfl)
  try simp only [Act.put, List.setIfInBounds_toArray, List.set_cons_zero, List.set_cons_succ]
  refine wpAnyH_take (i := 34) (oi := ({ dst := some 65, op := .pick (.tmp 61) (.tmp 64) (.const (.bool false)), type := 4, pos := "law.go:71", after := #[{ on := 30, ground := .data }, { on := 33, ground := .data }], guard := none } : Oper)) (v := ?vs1_34) rfl vars5_plain (by as_aux_lemma => kernel_rfl) (by as_aux_lemma => kernel_rfl) (fun _ _ _ h => h) (Or.inl ⟨by rfl, ?ys1_34⟩) (by assumption) ?rs1_34
  case ys1_34 => (intro w hSw; (try dsimp only at hSw); have hS0 := belowT hHeld8 hSw; have hS1 := belowT hHeld7 hS0; go_simp; try with_reducible rfl)
  try simp only [Act.put, List.setIfInBounds_toArray, List.set_cons_zero, List.set_cons_succ]
  refine wpAnyH_take (i := 35) (oi := ({ dst := some 66, op := .move (.tmp 65), type := 4, pos := "law.go:71", after := #[{ on := 34, ground := .data }, { on := 30, ground := .chain }], guard := none } : Oper)) (v := ?vs1_35) rfl vars5_plain (by as_aux_lemma => kernel_rfl) (by as_aux_lemma => kernel_rfl) (fun _ _ _ h => h) (Or.inl ⟨by rfl, ?ys1_35⟩) (by assumption) ?rs1_35
  case ys1_35 => (intro w hSw; (try dsimp only at hSw); have hS0 := belowT hHeld8 hSw; have hS1 := belowT hHeld7 hS0; go_simp; try with_reducible rfl)
  try simp only [Act.put, List.setIfInBounds_toArray, List.set_cons_zero, List.set_cons_succ]
  refine wpAnyH_take (i := 36) (oi := ({ dst := some 67, op := .move (.tmp 9), type := 25, pos := "law.go:71", after := #[{ on := 35, ground := .guard }], guard := some (35, true) } : Oper)) (v := ?vs1_36) rfl vars5_plain (by as_aux_lemma => kernel_rfl) (by as_aux_lemma => kernel_rfl) (fun _ _ _ h => h) (Or.inl ⟨by rfl, ?ys1_36⟩) (by assumption) ?rs1_36
  case ys1_36 => (intro w hSw; (try dsimp only at hSw); have hS0 := belowT hHeld8 hSw; have hS1 := belowT hHeld7 hS0; go_simp; try with_reducible rfl)
  try simp only [Act.put, List.setIfInBounds_toArray, List.set_cons_zero, List.set_cons_succ]
  refine wpAnyH_take (i := 37) (oi := ({ dst := some 68, op := .move (.tmp 12), type := 25, pos := "law.go:71", after := #[{ on := 35, ground := .guard }], guard := some (35, true) } : Oper)) (v := ?vs1_37) rfl vars5_plain (by as_aux_lemma => kernel_rfl) (by as_aux_lemma => kernel_rfl) (fun _ _ _ h => h) (Or.inl ⟨by rfl, ?ys1_37⟩) (by assumption) ?rs1_37
  case ys1_37 => (intro w hSw; (try dsimp only at hSw); have hS0 := belowT hHeld8 hSw; have hS1 := belowT hHeld7 hS0; go_simp; try with_reducible rfl)
  try simp only [Act.put, List.setIfInBounds_toArray, List.set_cons_zero, List.set_cons_succ]
  refine wpAnyH_take (i := 38) (oi := ({ dst := some 69, op := .binOp .eql 25 (.tmp 67) (.tmp 68) 25, type := 4, pos := "law.go:71", after := #[{ on := 36, ground := .data }, { on := 37, ground := .data }, { on := 35, ground := .guard }], guard := some (35, true) } : Oper)) (v := ?vs1_38) rfl vars5_plain (by as_aux_lemma => kernel_rfl) (by as_aux_lemma => kernel_rfl) (fun _ _ _ h => h) (Or.inl ⟨by rfl, ?ys1_38⟩) (by assumption) ?rs1_38
  case ys1_38 => (intro w hSw; (try dsimp only at hSw); have hS0 := belowT hHeld8 hSw; have hS1 := belowT hHeld7 hS0; go_simp; try with_reducible rfl)
  try simp only [Act.put, List.setIfInBounds_toArray, List.set_cons_zero, List.set_cons_succ]
  refine wpAnyH_take (i := 39) (oi := ({ dst := some 70, op := .pick (.tmp 66) (.tmp 69) (.const (.bool false)), type := 4, pos := "law.go:71", after := #[{ on := 35, ground := .data }, { on := 38, ground := .data }], guard := none } : Oper)) (v := ?vs1_39) rfl vars5_plain (by as_aux_lemma => kernel_rfl) (by as_aux_lemma => kernel_rfl) (fun _ _ _ h => h) (Or.inl ⟨by rfl, ?ys1_39⟩) (by assumption) ?rs1_39
  case ys1_39 => (intro w hSw; (try dsimp only at hSw); have hS0 := belowT hHeld8 hSw; have hS1 := belowT hHeld7 hS0; go_simp; try with_reducible rfl)
  try simp only [Act.put, List.setIfInBounds_toArray, List.set_cons_zero, List.set_cons_succ]
  refine wpAnyH_take (i := 40) (oi := ({ dst := some 71, op := .move (.tmp 70), type := 4, pos := "law.go:71", after := #[{ on := 39, ground := .data }, { on := 35, ground := .chain }], guard := none } : Oper)) (v := ?vs1_40) rfl vars5_plain (by as_aux_lemma => kernel_rfl) (by as_aux_lemma => kernel_rfl) (fun _ _ _ h => h) (Or.inl ⟨by rfl, ?ys1_40⟩) (by assumption) ?rs1_40
  case ys1_40 => (intro w hSw; (try dsimp only at hSw); have hS0 := belowT hHeld8 hSw; have hS1 := belowT hHeld7 hS0; go_simp; try with_reducible rfl)
  try simp only [Act.put, List.setIfInBounds_toArray, List.set_cons_zero, List.set_cons_succ]
  refine wpAnyH_take (i := 41) (oi := ({ dst := some 72, op := .move (.tmp 1), type := 22, pos := "law.go:71", after := #[{ on := 40, ground := .guard }], guard := some (40, true) } : Oper)) (v := ?vs1_41) rfl vars5_plain (by as_aux_lemma => kernel_rfl) (by as_aux_lemma => kernel_rfl) (fun _ _ _ h => h) (Or.inl ⟨by rfl, ?ys1_41⟩) (by assumption) ?rs1_41
  case ys1_41 => (intro w hSw; (try dsimp only at hSw); have hS0 := belowT hHeld8 hSw; have hS1 := belowT hHeld7 hS0; go_simp; try with_reducible rfl)
  try simp only [Act.put, List.setIfInBounds_toArray, List.set_cons_zero, List.set_cons_succ]
  refine wpAnyH_take (i := 43) (oi := ({ dst := some 74, op := .move (.tmp 1), type := 22, pos := "law.go:71", after := #[{ on := 40, ground := .guard }], guard := some (40, true) } : Oper)) (v := ?vs1_43) rfl vars5_plain (by as_aux_lemma => kernel_rfl) (by as_aux_lemma => kernel_rfl) (fun _ _ _ h => h) (Or.inl ⟨by rfl, ?ys1_43⟩) (by assumption) ?rs1_43
  case ys1_43 => (intro w hSw; (try dsimp only at hSw); have hS0 := belowT hHeld8 hSw; have hS1 := belowT hHeld7 hS0; go_simp; try with_reducible rfl)
  try simp only [Act.put, List.setIfInBounds_toArray, List.set_cons_zero, List.set_cons_succ]
  refine wpAnyH_ready (rs := [42]) (by as_aux_lemma => kernel_rfl) (by simp) ?_
  refine AllReadyH.cons (o := ({ dst := some 73, op := .call { callee := .value (.func 28), args := #[.tmp 72], argTypes := #[22] }, type := 3, pos := "law.go:71", after := #[{ on := 41, ground := .data }, { on := 40, ground := .chain }, { on := 40, ground := .guard }], guard := some (40, true) } : Oper)) rfl (fun KK hK => ?_) AllReadyH.nil
  rw [if_pos (by rfl)]
  go_simp
  go_at_call 28; refine (B1.out _ (belowT (belowT C2 (belowT hHeld7 hHeld8)) (by assumption))).mono ?_; rintro e w9 ⟨rfl, hb9⟩
  go_wp2_with fail
  refine hK.out _ _ ?_ (fun hHeld9 => ?_)
  · exact belowT (by assumption) hb9
  clear hK KK hb9
  try simp only [Act.put, List.setIfInBounds_toArray, List.set_cons_zero, List.set_cons_succ]
  refine wpAnyH_ready (rs := [44]) (by as_aux_lemma => kernel_rfl) (by simp) ?_
  refine AllReadyH.cons (o := ({ dst := some 75, op := .call { callee := .value (.func 29), args := #[.tmp 74], argTypes := #[22] }, type := 3, pos := "law.go:71", after := #[{ on := 43, ground := .data }, { on := 42, ground := .chain }, { on := 40, ground := .guard }], guard := some (40, true) } : Oper)) rfl (fun KK hK => ?_) AllReadyH.nil
  rw [if_pos (by rfl)]
  go_simp
  go_at_call 29; refine (B2.out _ (belowT (belowT C2 (belowT hHeld7 hHeld8)) (by assumption))).mono ?_; rintro e w10 ⟨rfl, hb10⟩
  go_wp2_with fail
  refine hK.out _ _ ?_ (fun hHeld10 => ?_)
  · exact belowT (by assumption) hb10
  clear hK KK hb10 hHeld9
  try simp only [Act.put, List.setIfInBounds_toArray, List.set_cons_zero, List.set_cons_succ]
  refine wpAnyH_take (i := 45) (oi := ({ dst := some 76, op := .binOp .eql 3 (.tmp 73) (.tmp 75) 3, type := 4, pos := "law.go:71", after := #[{ on := 42, ground := .data }, { on := 44, ground := .data }, { on := 40, ground := .guard }], guard := some (40, true) } : Oper)) (v := ?vs1_45) rfl vars5_plain (by as_aux_lemma => kernel_rfl) (by as_aux_lemma => kernel_rfl) (fun _ _ _ h => h) (Or.inl ⟨by rfl, ?ys1_45⟩) (by assumption) ?rs1_45
  case ys1_45 => (intro w hSw; (try dsimp only at hSw); have hS0 := belowT hHeld8 hSw; have hS1 := belowT hHeld7 hS0; go_simp; try with_reducible rfl)
  try simp only [Act.put, List.setIfInBounds_toArray, List.set_cons_zero, List.set_cons_succ]
  refine wpAnyH_take (i := 46) (oi := ({ dst := some 77, op := .pick (.tmp 71) (.tmp 76) (.const (.bool false)), type := 4, pos := "law.go:71", after := #[{ on := 40, ground := .data }, { on := 45, ground := .data }], guard := none } : Oper)) (v := ?vs1_46) rfl vars5_plain (by as_aux_lemma => kernel_rfl) (by as_aux_lemma => kernel_rfl) (fun _ _ _ h => h) (Or.inl ⟨by rfl, ?ys1_46⟩) (by assumption) ?rs1_46
  case ys1_46 => (intro w hSw; (try dsimp only at hSw); have hS0 := belowT hHeld8 hSw; have hS1 := belowT hHeld7 hS0; go_simp; try with_reducible rfl)
  try simp only [Act.put, List.setIfInBounds_toArray, List.set_cons_zero, List.set_cons_succ]
  refine wpAnyH_take (i := 47) (oi := ({ dst := some 78, op := .move (.tmp 77), type := 4, pos := "law.go:71", after := #[{ on := 46, ground := .data }, { on := 44, ground := .chain }], guard := none } : Oper)) (v := ?vs1_47) rfl vars5_plain (by as_aux_lemma => kernel_rfl) (by as_aux_lemma => kernel_rfl) (fun _ _ _ h => h) (Or.inl ⟨by rfl, ?ys1_47⟩) (by assumption) ?rs1_47
  case ys1_47 => (intro w hSw; (try dsimp only at hSw); have hS0 := belowT hHeld8 hSw; have hS1 := belowT hHeld7 hS0; go_simp; try with_reducible rfl)
  try simp only [Act.put, List.setIfInBounds_toArray, List.set_cons_zero, List.set_cons_succ]
  refine wpAnyH_ready (rs := [48]) (by as_aux_lemma => kernel_rfl) (by simp) ?_
  refine AllReadyH.cons (o := ({ dst := some 79, op := .call { callee := .value (.func 7), args := #[], argTypes := #[] }, type := 4, pos := "law.go:71", after := #[{ on := 47, ground := .chain }, { on := 47, ground := .guard }], guard := some (47, true) } : Oper)) rfl (fun KK hK => ?_) AllReadyH.nil
  rw [if_pos (by rfl)]
  go_simp
  go_at_call 7; refine (AW.out _).mono ?_; rintro e w11 ⟨rfl, hb11⟩
  go_wp2_with fail
  refine hK.out _ _ ?_ (fun hHeld11 => ?_)
  · exact belowT (by assumption) hb11
  clear hK KK hb11 hHeld10
  try simp only [Act.put, List.setIfInBounds_toArray, List.set_cons_zero, List.set_cons_succ]
  refine wpAnyH_take (i := 49) (oi := ({ dst := some 80, op := .pick (.tmp 78) (.tmp 79) (.const (.bool false)), type := 4, pos := "law.go:71", after := #[{ on := 47, ground := .data }, { on := 48, ground := .data }], guard := none } : Oper)) (v := ?vs1_49) rfl vars5_plain (by as_aux_lemma => kernel_rfl) (by as_aux_lemma => kernel_rfl) (fun _ _ _ h => h) (Or.inl ⟨by rfl, ?ys1_49⟩) (by assumption) ?rs1_49
  case ys1_49 => (intro w hSw; (try dsimp only at hSw); have hS0 := belowT hHeld8 hSw; have hS1 := belowT hHeld7 hS0; go_simp; try with_reducible rfl)
  try simp only [Act.put, List.setIfInBounds_toArray, List.set_cons_zero, List.set_cons_succ]
  refine wpAnyH_take (i := 50) (oi := ({ dst := some 6, op := .assign (.tmp 80), type := 4, pos := "law.go:71", after := #[{ on := 49, ground := .data }, { on := 48, ground := .chain }, { on := 0, ground := .phase }, { on := 1, ground := .phase }, { on := 2, ground := .phase }, { on := 3, ground := .phase }, { on := 4, ground := .phase }, { on := 5, ground := .phase }, { on := 6, ground := .phase }, { on := 7, ground := .phase }, { on := 8, ground := .phase }, { on := 9, ground := .phase }, { on := 10, ground := .phase }, { on := 11, ground := .phase }, { on := 12, ground := .phase }, { on := 13, ground := .phase }, { on := 14, ground := .phase }, { on := 15, ground := .phase }, { on := 16, ground := .phase }, { on := 17, ground := .phase }, { on := 18, ground := .phase }, { on := 19, ground := .phase }, { on := 20, ground := .phase }, { on := 21, ground := .phase }, { on := 22, ground := .phase }, { on := 23, ground := .phase }, { on := 24, ground := .phase }, { on := 25, ground := .phase }, { on := 26, ground := .phase }, { on := 27, ground := .phase }, { on := 28, ground := .phase }, { on := 29, ground := .phase }, { on := 30, ground := .phase }, { on := 31, ground := .phase }, { on := 32, ground := .phase }, { on := 33, ground := .phase }, { on := 34, ground := .phase }, { on := 35, ground := .phase }, { on := 36, ground := .phase }, { on := 37, ground := .phase }, { on := 38, ground := .phase }, { on := 39, ground := .phase }, { on := 40, ground := .phase }, { on := 41, ground := .phase }, { on := 42, ground := .phase }, { on := 43, ground := .phase }, { on := 44, ground := .phase }, { on := 45, ground := .phase }, { on := 46, ground := .phase }, { on := 47, ground := .phase }, { on := 48, ground := .phase }, { on := 49, ground := .phase }], guard := none } : Oper)) (v := ?vs1_50) rfl vars5_plain (by as_aux_lemma => kernel_rfl) (by as_aux_lemma => kernel_rfl) (fun _ _ _ h => h) (Or.inl ⟨by rfl, ?ys1_50⟩) (by assumption) ?rs1_50
  case ys1_50 => (intro w hSw; (try dsimp only at hSw); have hS0 := belowT hHeld8 hSw; have hS1 := belowT hHeld7 hS0; go_simp; try with_reducible rfl)
  try simp only [Act.put, List.setIfInBounds_toArray, List.set_cons_zero, List.set_cons_succ]
  refine wpAnyH_done (by as_aux_lemma => kernel_rfl) ?_ _
  refine NoPanic.normal ?_
  go_wp2_with fail
  go_ret
  exact ⟨rfl, belowT (belowT C2 (belowT hHeld7 hHeld8)) (by assumption)⟩

end Go.Proofs.Ytcnnkgkejafeeaa
