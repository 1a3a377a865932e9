/- MatChar: the law's walk. -/
import Derived.Test.YtjdpcmcekockgaaMatAwake
namespace Go.Proofs.Ytjdpcmcekockgaa
open Go.RowKit
theorem rem20 (n : Int) : ∃ N : Nat, N < 20 ∧ (IntKind.u64.wrap n).tmod 20 = (N : Int) := by
  have h : 0 ≤ IntKind.u64.wrap n := by rw [IntKind.wrap_u64]; omega
  refine ⟨((IntKind.u64.wrap n) % 20).toNat, by omega, ?_⟩
  rw [Int.tmod_eq_emod_of_nonneg h]
  omega
/-- The operations of a drawn region, as the translation has them. -/
def mchar2 : Array Oper := #[
  { dst := some 11, op := .load 25 (.tmp 2), type := 25, pos := "law.go:53", after := #[], guard := none },
  { dst := some 12, op := .call { callee := .value (.func 19), args := #[.tmp 11, .const (.int .i64 3)], argTypes := #[25, 3] }, type := 25, pos := "law.go:53", after := #[{ on := 0, ground := .data }], guard := none },
  { dst := some 13, op := .indexAddr 22 (.tmp 5) (.const (.int .i64 2)), type := 0, pos := "law.go:53", after := #[], guard := none },
  { dst := some 14, op := .load 2 (.tmp 13), type := 2, pos := "law.go:53", after := #[{ on := 2, ground := .data }], guard := none },
  { dst := some 15, op := .load 25 (.tmp 2), type := 25, pos := "law.go:53", after := #[], guard := none },
  { dst := some 16, op := .call { callee := .value (.func 19), args := #[.tmp 15, .const (.int .i64 2)], argTypes := #[25, 3] }, type := 25, pos := "law.go:53", after := #[{ on := 4, ground := .data }, { on := 1, ground := .chain }], guard := none },
  { dst := some 17, op := .call { callee := .value (.func 18), args := #[.tmp 12, .tmp 14, .tmp 16], argTypes := #[25, 2, 25] }, type := 25, pos := "law.go:53", after := #[{ on := 1, ground := .data }, { on := 3, ground := .data }, { on := 5, ground := .data }, { on := 5, ground := .chain }], guard := none },
  { dst := some 18, op := .indexAddr 22 (.tmp 5) (.const (.int .i64 1)), type := 0, pos := "law.go:53", after := #[], guard := none },
  { dst := some 19, op := .load 2 (.tmp 18), type := 2, pos := "law.go:53", after := #[{ on := 7, ground := .data }], guard := none },
  { dst := some 20, op := .load 25 (.tmp 2), type := 25, pos := "law.go:53", after := #[], guard := none },
  { dst := some 21, op := .call { callee := .value (.func 18), args := #[.tmp 17, .tmp 19, .tmp 20], argTypes := #[25, 2, 25] }, type := 25, pos := "law.go:53", after := #[{ on := 6, ground := .data }, { on := 8, ground := .data }, { on := 9, ground := .data }, { on := 6, ground := .chain }], guard := none },
  { dst := some 22, op := .indexAddr 22 (.tmp 5) (.const (.int .i64 0)), type := 0, pos := "law.go:53", after := #[], guard := none },
  { dst := some 23, op := .load 2 (.tmp 22), type := 2, pos := "law.go:53", after := #[{ on := 11, ground := .data }], guard := none },
  { dst := some 24, op := .call { callee := .value (.func 9), args := #[.const (.int .i64 1)], argTypes := #[2] }, type := 25, pos := "law.go:53", after := #[{ on := 10, ground := .chain }], guard := none },
  { dst := some 25, op := .call { callee := .value (.func 18), args := #[.tmp 21, .tmp 23, .tmp 24], argTypes := #[25, 2, 25] }, type := 25, pos := "law.go:53", after := #[{ on := 10, ground := .data }, { on := 12, ground := .data }, { on := 13, ground := .data }, { on := 13, ground := .chain }], guard := none },
  { dst := some 6, op := .alloc 25, type := 0, pos := "law.go:53", after := #[], guard := none },
  { dst := none, op := .store 25 (.tmp 6) (.tmp 25), type := 0, pos := "law.go:53", after := #[{ on := 15, ground := .data }, { on := 14, ground := .data }, { on := 14, ground := .chain }, { on := 0, ground := .phase }, { on := 1, ground := .phase }, { on := 2, ground := .phase }, { on := 3, ground := .phase }, { on := 4, ground := .phase }, { on := 5, ground := .phase }, { on := 6, ground := .phase }, { on := 7, ground := .phase }, { on := 8, ground := .phase }, { on := 9, ground := .phase }, { on := 10, ground := .phase }, { on := 11, ground := .phase }, { on := 12, ground := .phase }, { on := 13, ground := .phase }, { on := 14, ground := .phase }, { on := 15, ground := .phase }], guard := none }]
theorem mchar2_plain : Region.noSelect mchar2 = true := by kernel_rfl

/-- The operations of a drawn region, as the translation has them. -/
def mchar3 : Array Oper := #[
  { dst := some 26, op := .indexAddr 37 (.tmp 3) (.const (.int .i64 0)), type := 0, pos := "law.go:54", after := #[], guard := none },
  { dst := some 27, op := .load 3 (.tmp 26), type := 3, pos := "law.go:54", after := #[{ on := 0, ground := .data }], guard := none },
  { dst := some 28, op := .convert 3 41 (.tmp 27), type := 41, pos := "law.go:54", after := #[{ on := 1, ground := .data }], guard := none },
  { dst := some 29, op := .binOp .rem 41 (.tmp 28) (.const (.int .u64 20)) 41, type := 41, pos := "law.go:54", after := #[{ on := 2, ground := .data }], guard := none },
  { dst := some 30, op := .convert 41 3 (.tmp 29), type := 3, pos := "law.go:54", after := #[{ on := 3, ground := .data }], guard := none },
  { dst := some 31, op := .indexAddr 37 (.tmp 3) (.const (.int .i64 1)), type := 0, pos := "law.go:54", after := #[{ on := 10, ground := .gcOnly Go.Departure.lateStores }], guard := none },
  { dst := some 32, op := .load 3 (.tmp 31), type := 3, pos := "law.go:54", after := #[{ on := 5, ground := .data }, { on := 10, ground := .gcOnly Go.Departure.lateStores }], guard := none },
  { dst := some 33, op := .convert 3 41 (.tmp 32), type := 41, pos := "law.go:54", after := #[{ on := 6, ground := .data }, { on := 10, ground := .gcOnly Go.Departure.lateStores }], guard := none },
  { dst := some 34, op := .binOp .rem 41 (.tmp 33) (.const (.int .u64 20)) 41, type := 41, pos := "law.go:54", after := #[{ on := 7, ground := .data }, { on := 10, ground := .gcOnly Go.Departure.lateStores }], guard := none },
  { dst := some 35, op := .convert 41 3 (.tmp 34), type := 3, pos := "law.go:54", after := #[{ on := 8, ground := .data }, { on := 10, ground := .gcOnly Go.Departure.lateStores }], guard := none },
  { dst := some 7, op := .assign (.tmp 30), type := 3, pos := "law.go:54", after := #[{ on := 4, ground := .data }, { on := 0, ground := .phase }, { on := 1, ground := .phase }, { on := 2, ground := .phase }, { on := 3, ground := .phase }, { on := 4, ground := .phase }, { on := 5, ground := .textOnly Go.Departure.lateStores }, { on := 6, ground := .textOnly Go.Departure.lateStores }, { on := 7, ground := .textOnly Go.Departure.lateStores }, { on := 8, ground := .textOnly Go.Departure.lateStores }, { on := 9, ground := .textOnly Go.Departure.lateStores }], guard := none },
  { dst := some 8, op := .assign (.tmp 35), type := 3, pos := "law.go:54", after := #[{ on := 9, ground := .data }, { on := 10, ground := .chain }, { on := 0, ground := .phase }, { on := 1, ground := .phase }, { on := 2, ground := .phase }, { on := 3, ground := .phase }, { on := 4, ground := .phase }, { on := 5, ground := .phase }, { on := 6, ground := .phase }, { on := 7, ground := .phase }, { on := 8, ground := .phase }, { on := 9, ground := .phase }, { on := 10, ground := .phase }], guard := none }]
theorem mchar3_plain : Region.noSelect mchar3 = true := by kernel_rfl

/-- The operations of a drawn region, as the translation has them. -/
def mchar4 : Array Oper := #[
  { dst := some 36, op := .load 25 (.tmp 6), type := 25, pos := "law.go:55", after := #[], guard := none },
  { dst := some 37, op := .build 25 #[], type := 25, pos := "law.go:55", after := #[], guard := none },
  { dst := some 38, op := .binOp .eql 25 (.tmp 36) (.tmp 37) 25, type := 4, pos := "law.go:55", after := #[{ on := 0, ground := .data }, { on := 1, ground := .data }], guard := none },
  { dst := some 39, op := .move (.tmp 38), type := 4, pos := "law.go:55", after := #[{ on := 2, ground := .data }], guard := none },
  { dst := some 40, op := .load 25 (.tmp 2), type := 25, pos := "law.go:55", after := #[{ on := 3, ground := .guard }], guard := some (3, true) },
  { dst := some 41, op := .move (.tmp 7), type := 3, pos := "law.go:55", after := #[{ on := 3, ground := .guard }], guard := some (3, true) },
  { dst := some 42, op := .call { callee := .value (.func 19), args := #[.tmp 40, .tmp 41], argTypes := #[25, 3] }, type := 25, pos := "law.go:55", after := #[{ on := 4, ground := .data }, { on := 5, ground := .data }, { on := 3, ground := .chain }, { on := 3, ground := .guard }], guard := some (3, true) },
  { dst := some 43, op := .load 25 (.tmp 2), type := 25, pos := "law.go:55", after := #[{ on := 3, ground := .guard }], guard := some (3, true) },
  { dst := some 44, op := .move (.tmp 8), type := 3, pos := "law.go:55", after := #[{ on := 3, ground := .guard }], guard := some (3, true) },
  { dst := some 45, op := .call { callee := .value (.func 19), args := #[.tmp 43, .tmp 44], argTypes := #[25, 3] }, type := 25, pos := "law.go:55", after := #[{ on := 7, ground := .data }, { on := 8, ground := .data }, { on := 6, ground := .chain }, { on := 3, ground := .guard }], guard := some (3, true) },
  { dst := some 46, op := .call { callee := .value (.func 11), args := #[.tmp 42, .tmp 45], argTypes := #[25, 25] }, type := 25, pos := "law.go:55", after := #[{ on := 6, ground := .data }, { on := 9, ground := .data }, { on := 9, ground := .chain }, { on := 3, ground := .guard }], guard := some (3, true) },
  { dst := some 47, op := .load 25 (.tmp 2), type := 25, pos := "law.go:55", after := #[{ on := 3, ground := .guard }], guard := some (3, true) },
  { dst := some 48, op := .move (.tmp 7), type := 3, pos := "law.go:55", after := #[{ on := 3, ground := .guard }], guard := some (3, true) },
  { dst := some 49, op := .move (.tmp 8), type := 3, pos := "law.go:55", after := #[{ on := 3, ground := .guard }], guard := some (3, true) },
  { dst := some 50, op := .binOp .add 3 (.tmp 48) (.tmp 49) 3, type := 3, pos := "law.go:55", after := #[{ on := 12, ground := .data }, { on := 13, ground := .data }, { on := 3, ground := .guard }], guard := some (3, true) },
  { dst := some 51, op := .call { callee := .value (.func 19), args := #[.tmp 47, .tmp 50], argTypes := #[25, 3] }, type := 25, pos := "law.go:55", after := #[{ on := 11, ground := .data }, { on := 14, ground := .data }, { on := 10, ground := .chain }, { on := 3, ground := .guard }], guard := some (3, true) },
  { dst := some 52, op := .binOp .eql 25 (.tmp 46) (.tmp 51) 25, type := 4, pos := "law.go:55", after := #[{ on := 10, ground := .data }, { on := 15, ground := .data }, { on := 3, ground := .guard }], guard := some (3, true) },
  { dst := some 53, op := .pick (.tmp 39) (.tmp 52) (.const (.bool false)), type := 4, pos := "law.go:55", after := #[{ on := 3, ground := .data }, { on := 16, ground := .data }], guard := none },
  { dst := some 54, op := .move (.tmp 53), type := 4, pos := "law.go:55", after := #[{ on := 17, ground := .data }, { on := 15, ground := .chain }], guard := none },
  { dst := some 55, op := .call { callee := .value (.func 14), args := #[], argTypes := #[] }, type := 4, pos := "law.go:55", after := #[{ on := 18, ground := .chain }, { on := 18, ground := .guard }], guard := some (18, true) },
  { dst := some 56, op := .pick (.tmp 54) (.tmp 55) (.const (.bool false)), type := 4, pos := "law.go:55", after := #[{ on := 18, ground := .data }, { on := 19, ground := .data }], guard := none },
  { dst := some 4, op := .assign (.tmp 56), type := 4, pos := "law.go:55", after := #[{ on := 20, ground := .data }, { on := 19, ground := .chain }, { on := 0, ground := .phase }, { on := 1, ground := .phase }, { on := 2, ground := .phase }, { on := 3, ground := .phase }, { on := 4, ground := .phase }, { on := 5, ground := .phase }, { on := 6, ground := .phase }, { on := 7, ground := .phase }, { on := 8, ground := .phase }, { on := 9, ground := .phase }, { on := 10, ground := .phase }, { on := 11, ground := .phase }, { on := 12, ground := .phase }, { on := 13, ground := .phase }, { on := 14, ground := .phase }, { on := 15, ground := .phase }, { on := 16, ground := .phase }, { on := 17, ground := .phase }, { on := 18, ground := .phase }, { on := 19, ground := .phase }, { on := 20, ground := .phase }], guard := none }]
theorem mchar4_plain : Region.noSelect mchar4 = true := by kernel_rfl

set_option maxHeartbeats 16000000 in
set_option maxRecDepth 100000 in
theorem Char8_all (a : M3) (n0 n1 : Int) (w : World) :
    Calls Try.prog 4 #[mv a, .agg #[.int .i64 n0, .int .i64 n1]] w fun e w' => e = .returned (.bool true) ∧ Below w.heap.size w w' := by
  have KC := Lib.hid fun w => Own8.Char_any a w
  have K3 := Lib.hid fun w => Own8.Power_any a 3 3 (by decide) w
  have K2 := Lib.hid fun w => Own8.Power_any a 2 2 (by decide) w
  have KA := Lib.hid fun w => Own8.Sum_any (a.pow 3) (-a.trace) (a.pow 2) w
  have KB := Lib.hid fun w => Own8.Sum_any ((a.pow 3).sum (-a.trace) (a.pow 2)) a.adj.trace a w
  have k1 : ∀ w, Calls Try.prog 9 #[.int .i64 1] w fun e w' => e = .returned (mv (M3.unit 1)) ∧ Below w.heap.size w w' := fun w => Own8.Unit_any 1 w
  have K1 := Lib.hid k1
  have kd := fun w => Own8.Sum_any (((a.pow 3).sum (-a.trace) (a.pow 2)).sum a.adj.trace a) (-a.det) (M3.unit 1) w
  rw [cayley] at kd
  have kd' : ∀ w, Calls Try.prog 18 #[mv (((a.pow 3).sum (-a.trace) (a.pow 2)).sum a.adj.trace a), .int .i64 (-a.det).toInt, mv (M3.unit 1)] w fun e w' => e = .returned (.agg #[.int .i64 0, .int .i64 0, .int .i64 0, .int .i64 0, .int .i64 0, .int .i64 0, .int .i64 0, .int .i64 0, .int .i64 0]) ∧ Below w.heap.size w w' := kd
  have KD := Lib.hid kd'
  obtain ⟨N, hN, eN⟩ := rem20 n0
  obtain ⟨M, hM, eM⟩ := rem20 n1
  have eN2 : IntKind.i64.wrap (N : Int) = N := by rw [IntKind.wrap_i64]; omega
  have eM2 : IntKind.i64.wrap (M : Int) = M := by rw [IntKind.wrap_i64]; omega
  have eS : IntKind.i64.wrap ((N : Int) + M) = N + M := by rw [IntKind.wrap_i64]; omega
  have KN := Lib.hid fun w => Own8.Power_any a N N (by omega) w
  have KM := Lib.hid fun w => Own8.Power_any a M M (by omega) w
  have kx := fun w => Own8.Mul_any (a.pow N) (a.pow M) w
  rw [pow_add] at kx
  have KX := Lib.hid kx
  have KS := Lib.hid fun w => Own8.Power_any a ((N : Int) + M) (N + M) (by omega) w
  have AW := Lib.hid Aw8.awake_any
  have EM := mat_same
  have S0 := Lib.hid (((St.none w).more (ml a) 25).more [.int .i64 n0, .int .i64 n1] 37)
  clear k1 kd kd' kx hN hM
  have ch : a.char = ⟨-a.det, a.adj.trace, -a.trace⟩ := rfl
  rw [ch] at KC
  clear ch
  generalize ((a.pow 3).sum (-a.trace) (a.pow 2)).sum a.adj.trace a = gb at *
  generalize (a.pow 3).sum (-a.trace) (a.pow 2) = ga at *
  generalize a.pow 3 = g3 at *; generalize a.pow 2 = g2 at *; generalize M3.unit 1 = g1 at *
  generalize a.pow (N + M) = gs at *; generalize a.pow N = gn at *; generalize a.pow M = gm at *
  generalize -a.det = k0 at *; generalize a.adj.trace = k1 at *; generalize -a.trace = k2 at *
  go_enter Try.func4, Try.ntmps4
  go_wp2_with fail
  refine (KC.out _).mono ?_; rintro e w1 ⟨rfl, hb1⟩
  have H1 := Lib.hid ((S0.out.keep hb1).more [.int .i64 k0.toInt, .int .i64 k1.toInt, .int .i64 k2.toInt] 22)
  clear hb1 S0
  go_upto_region 2 with fail
  obtain ⟨W0, hW0⟩ : ∃ W0, W0 = w1.alloc (.cells #[.int .i64 k0.toInt, .int .i64 k1.toInt, .int .i64 k2.toInt] 22) := ⟨_, rfl⟩
  have S3 := H1.out
  rw [← hW0] at S3
  simp only [heap1] at S3
  have HW := Lib.hid hW0
  clear hW0 H1
  rw [← HW.out]
  clear HW
  have ma0 : ∀ w', Below W0.heap.size W0 w' → w'.cell? ⟨w.heap.size, 0, none⟩ = some (.int .i64 a.a.x.toInt) := fun w' h => (S3.keep h).at 0 rfl 0 rfl
  have ma1 : ∀ w', Below W0.heap.size W0 w' → w'.cell? ⟨w.heap.size, 1, none⟩ = some (.int .i64 a.a.y.toInt) := fun w' h => (S3.keep h).at 0 rfl 1 rfl
  have ma2 : ∀ w', Below W0.heap.size W0 w' → w'.cell? ⟨w.heap.size, 2, none⟩ = some (.int .i64 a.a.z.toInt) := fun w' h => (S3.keep h).at 0 rfl 2 rfl
  have ma3 : ∀ w', Below W0.heap.size W0 w' → w'.cell? ⟨w.heap.size, 3, none⟩ = some (.int .i64 a.b.x.toInt) := fun w' h => (S3.keep h).at 0 rfl 3 rfl
  have ma4 : ∀ w', Below W0.heap.size W0 w' → w'.cell? ⟨w.heap.size, 4, none⟩ = some (.int .i64 a.b.y.toInt) := fun w' h => (S3.keep h).at 0 rfl 4 rfl
  have ma5 : ∀ w', Below W0.heap.size W0 w' → w'.cell? ⟨w.heap.size, 5, none⟩ = some (.int .i64 a.b.z.toInt) := fun w' h => (S3.keep h).at 0 rfl 5 rfl
  have ma6 : ∀ w', Below W0.heap.size W0 w' → w'.cell? ⟨w.heap.size, 6, none⟩ = some (.int .i64 a.c.x.toInt) := fun w' h => (S3.keep h).at 0 rfl 6 rfl
  have ma7 : ∀ w', Below W0.heap.size W0 w' → w'.cell? ⟨w.heap.size, 7, none⟩ = some (.int .i64 a.c.y.toInt) := fun w' h => (S3.keep h).at 0 rfl 7 rfl
  have ma8 : ∀ w', Below W0.heap.size W0 w' → w'.cell? ⟨w.heap.size, 8, none⟩ = some (.int .i64 a.c.z.toInt) := fun w' h => (S3.keep h).at 0 rfl 8 rfl
  have mn0 : ∀ w', Below W0.heap.size W0 w' → w'.cell? ⟨w.heap.size + 1, 0, none⟩ = some (.int .i64 n0) := fun w' h => (S3.keep h).at 1 rfl 0 rfl
  have mn1 : ∀ w', Below W0.heap.size W0 w' → w'.cell? ⟨w.heap.size + 1, 1, none⟩ = some (.int .i64 n1) := fun w' h => (S3.keep h).at 1 rfl 1 rfl
  have mk0 : ∀ w', Below W0.heap.size W0 w' → w'.cell? ⟨w1.heap.size, 0, none⟩ = some (.int .i64 k0.toInt) := fun w' h => (S3.keep h).at 2 rfl 0 rfl
  have mk1 : ∀ w', Below W0.heap.size W0 w' → w'.cell? ⟨w1.heap.size, 1, none⟩ = some (.int .i64 k1.toInt) := fun w' h => (S3.keep h).at 2 rfl 1 rfl
  have mk2 : ∀ w', Below W0.heap.size W0 w' → w'.cell? ⟨w1.heap.size, 2, none⟩ = some (.int .i64 k2.toInt) := fun w' h => (S3.keep h).at 2 rfl 2 rfl
  have D3 := S3.below
  clear S3
  go_cut [6] from 6 to 26 (fun p wx => ∃ X, p = .pointer (some ⟨X, 0, none⟩) ∧ Below W0.heap.size W0 wx ∧ OwnL wx X [.int .i64 0, .int .i64 0, .int .i64 0, .int .i64 0, .int .i64 0, .int .i64 0, .int .i64 0, .int .i64 0, .int .i64 0])
  case first =>
    change (Code.region 2 mchar2 true).wp Try.prog _ _ _
    refine wp_region_noPanic ?_
    refine wp_region_held_drew (S := fun w' => Below W0.heap.size W0 w') (by kernel_rfl) ((Below.refl _ _).drew) (fun hHeld => ?_)
    refine wpAnyH_take (i := 0) (oi := ({ dst := some 11, op := .load 25 (.tmp 2), type := 25, pos := "law.go:53", after := #[], guard := none } : Oper)) (v := ?vv8_1_) rfl mchar2_plain (by as_aux_lemma => kernel_rfl) (by as_aux_lemma => kernel_rfl) (fun _ _ _ h => h) (Or.inl ⟨by rfl, ?yv8_1_⟩) (by assumption) ?rv8_1_
    case yv8_1_ => (intro w hSw; (try dsimp only at hSw); go_simp; try with_reducible rfl)
    try simp only [Act.put, List.setIfInBounds_toArray, List.set_cons_zero, List.set_cons_succ]
    refine wpAnyH_take (i := 2) (oi := ({ dst := some 13, op := .indexAddr 22 (.tmp 5) (.const (.int .i64 2)), type := 0, pos := "law.go:53", after := #[], guard := none } : Oper)) (v := ?vv8_2_) rfl mchar2_plain (by as_aux_lemma => kernel_rfl) (by as_aux_lemma => kernel_rfl) (fun _ _ _ h => h) (Or.inl ⟨by rfl, ?yv8_2_⟩) (by assumption) ?rv8_2_
    case yv8_2_ => (intro w hSw; (try dsimp only at hSw); go_simp; try with_reducible rfl)
    try simp only [Act.put, List.setIfInBounds_toArray, List.set_cons_zero, List.set_cons_succ]
    refine wpAnyH_take (i := 3) (oi := ({ dst := some 14, op := .load 2 (.tmp 13), type := 2, pos := "law.go:53", after := #[{ on := 2, ground := .data }], guard := none } : Oper)) (v := ?vv8_3_) rfl mchar2_plain (by as_aux_lemma => kernel_rfl) (by as_aux_lemma => kernel_rfl) (fun _ _ _ h => h) (Or.inl ⟨by rfl, ?yv8_3_⟩) (by assumption) ?rv8_3_
    case yv8_3_ => (intro w hSw; (try dsimp only at hSw); go_simp; try with_reducible rfl)
    try simp only [Act.put, List.setIfInBounds_toArray, List.set_cons_zero, List.set_cons_succ]
    refine wpAnyH_take (i := 4) (oi := ({ dst := some 15, op := .load 25 (.tmp 2), type := 25, pos := "law.go:53", after := #[], guard := none } : Oper)) (v := ?vv8_4_) rfl mchar2_plain (by as_aux_lemma => kernel_rfl) (by as_aux_lemma => kernel_rfl) (fun _ _ _ h => h) (Or.inl ⟨by rfl, ?yv8_4_⟩) (by assumption) ?rv8_4_
    case yv8_4_ => (intro w hSw; (try dsimp only at hSw); go_simp; try with_reducible rfl)
    try simp only [Act.put, List.setIfInBounds_toArray, List.set_cons_zero, List.set_cons_succ]
    refine wpAnyH_take (i := 7) (oi := ({ dst := some 18, op := .indexAddr 22 (.tmp 5) (.const (.int .i64 1)), type := 0, pos := "law.go:53", after := #[], guard := none } : Oper)) (v := ?vv8_5_) rfl mchar2_plain (by as_aux_lemma => kernel_rfl) (by as_aux_lemma => kernel_rfl) (fun _ _ _ h => h) (Or.inl ⟨by rfl, ?yv8_5_⟩) (by assumption) ?rv8_5_
    case yv8_5_ => (intro w hSw; (try dsimp only at hSw); go_simp; try with_reducible rfl)
    try simp only [Act.put, List.setIfInBounds_toArray, List.set_cons_zero, List.set_cons_succ]
    refine wpAnyH_take (i := 8) (oi := ({ dst := some 19, op := .load 2 (.tmp 18), type := 2, pos := "law.go:53", after := #[{ on := 7, ground := .data }], guard := none } : Oper)) (v := ?vv8_6_) rfl mchar2_plain (by as_aux_lemma => kernel_rfl) (by as_aux_lemma => kernel_rfl) (fun _ _ _ h => h) (Or.inl ⟨by rfl, ?yv8_6_⟩) (by assumption) ?rv8_6_
    case yv8_6_ => (intro w hSw; (try dsimp only at hSw); go_simp; try with_reducible rfl)
    try simp only [Act.put, List.setIfInBounds_toArray, List.set_cons_zero, List.set_cons_succ]
    refine wpAnyH_take (i := 9) (oi := ({ dst := some 20, op := .load 25 (.tmp 2), type := 25, pos := "law.go:53", after := #[], guard := none } : Oper)) (v := ?vv8_7_) rfl mchar2_plain (by as_aux_lemma => kernel_rfl) (by as_aux_lemma => kernel_rfl) (fun _ _ _ h => h) (Or.inl ⟨by rfl, ?yv8_7_⟩) (by assumption) ?rv8_7_
    case yv8_7_ => (intro w hSw; (try dsimp only at hSw); go_simp; try with_reducible rfl)
    try simp only [Act.put, List.setIfInBounds_toArray, List.set_cons_zero, List.set_cons_succ]
    refine wpAnyH_take (i := 11) (oi := ({ dst := some 22, op := .indexAddr 22 (.tmp 5) (.const (.int .i64 0)), type := 0, pos := "law.go:53", after := #[], guard := none } : Oper)) (v := ?vv8_8_) rfl mchar2_plain (by as_aux_lemma => kernel_rfl) (by as_aux_lemma => kernel_rfl) (fun _ _ _ h => h) (Or.inl ⟨by rfl, ?yv8_8_⟩) (by assumption) ?rv8_8_
    case yv8_8_ => (intro w hSw; (try dsimp only at hSw); go_simp; try with_reducible rfl)
    try simp only [Act.put, List.setIfInBounds_toArray, List.set_cons_zero, List.set_cons_succ]
    refine wpAnyH_take (i := 12) (oi := ({ dst := some 23, op := .load 2 (.tmp 22), type := 2, pos := "law.go:53", after := #[{ on := 11, ground := .data }], guard := none } : Oper)) (v := ?vv8_9_) rfl mchar2_plain (by as_aux_lemma => kernel_rfl) (by as_aux_lemma => kernel_rfl) (fun _ _ _ h => h) (Or.inl ⟨by rfl, ?yv8_9_⟩) (by assumption) ?rv8_9_
    case yv8_9_ => (intro w hSw; (try dsimp only at hSw); go_simp; try with_reducible rfl)
    try simp only [Act.put, List.setIfInBounds_toArray, List.set_cons_zero, List.set_cons_succ]
    refine wpAnyH_ready (rs := [1, 15]) (by as_aux_lemma => kernel_rfl) (by simp) ?_
    refine AllReadyH.cons (o := ({ dst := some 12, op := .call { callee := .value (.func 19), args := #[.tmp 11, .const (.int .i64 3)], argTypes := #[25, 3] }, type := 25, pos := "law.go:53", after := #[{ on := 0, ground := .data }], guard := none } : Oper)) rfl (fun KK hK => ?_) (AllReadyH.cons (o := ({ dst := some 6, op := .alloc 25, type := 0, pos := "law.go:53", after := #[], guard := none } : Oper)) rfl (fun KK hK => ?_) AllReadyH.nil)
    · skip
      rw [if_pos (by rfl)]
      go_simp
      go_at_call 19; refine (K3.out _).mono ?_; rintro e w2 ⟨rfl, hb2⟩
      go_wp2_with fail
      refine hK.out _ _ ?_ (fun hHeld2 => ?_)
      · exact belowT (by assumption) hb2
      have H2 : Below W0.heap.size W0 w2 := by assumption
      have S2 := H2.size
      clear hK KK hb2
      try simp only [Act.put, List.setIfInBounds_toArray, List.set_cons_zero, List.set_cons_succ]
      refine wpAnyH_ready (rs := [5, 15]) (by as_aux_lemma => kernel_rfl) (by simp) ?_
      refine AllReadyH.cons (o := ({ dst := some 16, op := .call { callee := .value (.func 19), args := #[.tmp 15, .const (.int .i64 2)], argTypes := #[25, 3] }, type := 25, pos := "law.go:53", after := #[{ on := 4, ground := .data }, { on := 1, ground := .chain }], guard := none } : Oper)) rfl (fun KK hK => ?_) (AllReadyH.cons (o := ({ dst := some 6, op := .alloc 25, type := 0, pos := "law.go:53", after := #[], guard := none } : Oper)) rfl (fun KK hK => ?_) AllReadyH.nil)
      · skip
        rw [if_pos (by rfl)]
        go_simp
        go_at_call 19; refine (K2.out _).mono ?_; rintro e w3 ⟨rfl, hb3⟩
        go_wp2_with fail
        refine hK.out _ _ ?_ (fun hHeld3 => ?_)
        · exact belowT (by assumption) hb3
        have H3 : Below W0.heap.size W0 w3 := by assumption
        have S3 := H3.size
        clear hK KK hb3
        try simp only [Act.put, List.setIfInBounds_toArray, List.set_cons_zero, List.set_cons_succ]
        refine wpAnyH_ready (rs := [6, 15]) (by as_aux_lemma => kernel_rfl) (by simp) ?_
        refine AllReadyH.cons (o := ({ dst := some 17, op := .call { callee := .value (.func 18), args := #[.tmp 12, .tmp 14, .tmp 16], argTypes := #[25, 2, 25] }, type := 25, pos := "law.go:53", after := #[{ on := 1, ground := .data }, { on := 3, ground := .data }, { on := 5, ground := .data }, { on := 5, ground := .chain }], guard := none } : Oper)) rfl (fun KK hK => ?_) (AllReadyH.cons (o := ({ dst := some 6, op := .alloc 25, type := 0, pos := "law.go:53", after := #[], guard := none } : Oper)) rfl (fun KK hK => ?_) AllReadyH.nil)
        · skip
          rw [if_pos (by rfl)]
          go_simp
          go_at_call 18; refine (KA.out _).mono ?_; rintro e w4 ⟨rfl, hb4⟩
          go_wp2_with fail
          refine hK.out _ _ ?_ (fun hHeld4 => ?_)
          · exact belowT (by assumption) hb4
          have H4 : Below W0.heap.size W0 w4 := by assumption
          have S4 := H4.size
          clear hK KK hb4
          try simp only [Act.put, List.setIfInBounds_toArray, List.set_cons_zero, List.set_cons_succ]
          refine wpAnyH_ready (rs := [10, 15]) (by as_aux_lemma => kernel_rfl) (by simp) ?_
          refine AllReadyH.cons (o := ({ dst := some 21, op := .call { callee := .value (.func 18), args := #[.tmp 17, .tmp 19, .tmp 20], argTypes := #[25, 2, 25] }, type := 25, pos := "law.go:53", after := #[{ on := 6, ground := .data }, { on := 8, ground := .data }, { on := 9, ground := .data }, { on := 6, ground := .chain }], guard := none } : Oper)) rfl (fun KK hK => ?_) (AllReadyH.cons (o := ({ dst := some 6, op := .alloc 25, type := 0, pos := "law.go:53", after := #[], guard := none } : Oper)) rfl (fun KK hK => ?_) AllReadyH.nil)
          · skip
            rw [if_pos (by rfl)]
            go_simp
            go_at_call 18; refine (KB.out _).mono ?_; rintro e w5 ⟨rfl, hb5⟩
            go_wp2_with fail
            refine hK.out _ _ ?_ (fun hHeld5 => ?_)
            · exact belowT (by assumption) hb5
            have H5 : Below W0.heap.size W0 w5 := by assumption
            have S5 := H5.size
            clear hK KK hb5
            try simp only [Act.put, List.setIfInBounds_toArray, List.set_cons_zero, List.set_cons_succ]
            refine wpAnyH_ready (rs := [13, 15]) (by as_aux_lemma => kernel_rfl) (by simp) ?_
            refine AllReadyH.cons (o := ({ dst := some 24, op := .call { callee := .value (.func 9), args := #[.const (.int .i64 1)], argTypes := #[2] }, type := 25, pos := "law.go:53", after := #[{ on := 10, ground := .chain }], guard := none } : Oper)) rfl (fun KK hK => ?_) (AllReadyH.cons (o := ({ dst := some 6, op := .alloc 25, type := 0, pos := "law.go:53", after := #[], guard := none } : Oper)) rfl (fun KK hK => ?_) AllReadyH.nil)
            · skip
              rw [if_pos (by rfl)]
              go_simp
              go_at_call 9; refine (K1.out _).mono ?_; rintro e w6 ⟨rfl, hb6⟩
              go_wp2_with fail
              refine hK.out _ _ ?_ (fun hHeld6 => ?_)
              · exact belowT (by assumption) hb6
              have H6 : Below W0.heap.size W0 w6 := by assumption
              have S6 := H6.size
              clear hK KK hb6
              try simp only [Act.put, List.setIfInBounds_toArray, List.set_cons_zero, List.set_cons_succ]
              refine wpAnyH_ready (rs := [14, 15]) (by as_aux_lemma => kernel_rfl) (by simp) ?_
              refine AllReadyH.cons (o := ({ dst := some 25, op := .call { callee := .value (.func 18), args := #[.tmp 21, .tmp 23, .tmp 24], argTypes := #[25, 2, 25] }, type := 25, pos := "law.go:53", after := #[{ on := 10, ground := .data }, { on := 12, ground := .data }, { on := 13, ground := .data }, { on := 13, ground := .chain }], guard := none } : Oper)) rfl (fun KK hK => ?_) (AllReadyH.cons (o := ({ dst := some 6, op := .alloc 25, type := 0, pos := "law.go:53", after := #[], guard := none } : Oper)) rfl (fun KK hK => ?_) AllReadyH.nil)
              · skip
                rw [if_pos (by rfl)]
                go_simp
                go_at_call 18; refine (KD.out _).mono ?_; rintro e w7 ⟨rfl, hb7⟩
                go_wp2_with fail
                refine hK.out _ _ ?_ (fun hHeld7 => ?_)
                · exact belowT (by assumption) hb7
                have H7 : Below W0.heap.size W0 w7 := by assumption
                have S7 := H7.size
                clear hK KK hb7
                try simp only [Act.put, List.setIfInBounds_toArray, List.set_cons_zero, List.set_cons_succ]
                refine wpAnyH_ready (rs := [15]) (by as_aux_lemma => kernel_rfl) (by simp) ?_
                refine AllReadyH.cons (o := ({ dst := some 6, op := .alloc 25, type := 0, pos := "law.go:53", after := #[], guard := none } : Oper)) rfl (fun KK hK => ?_) AllReadyH.nil
                rw [if_pos (by rfl)]
                go_simp
                refine hK.out _ _ ?_ (fun _hHeldA => ?_)
                · first | exact belowT (by assumption) (below1 _ _) | exact (belowT (by assumption) (below1 _ _)).drew
                clear hK KK
                try simp only [Act.put, List.setIfInBounds_toArray, List.set_cons_zero, List.set_cons_succ]
                refine wpAnyH_ready (rs := [16]) (by as_aux_lemma => kernel_rfl) (by simp) ?_
                refine AllReadyH.cons (o := ({ dst := none, op := .store 25 (.tmp 6) (.tmp 25), type := 0, pos := "law.go:53", after := #[{ on := 15, ground := .data }, { on := 14, ground := .data }, { on := 14, ground := .chain }, { on := 0, ground := .phase }, { on := 1, ground := .phase }, { on := 2, ground := .phase }, { on := 3, ground := .phase }, { on := 4, ground := .phase }, { on := 5, ground := .phase }, { on := 6, ground := .phase }, { on := 7, ground := .phase }, { on := 8, ground := .phase }, { on := 9, ground := .phase }, { on := 10, ground := .phase }, { on := 11, ground := .phase }, { on := 12, ground := .phase }, { on := 13, ground := .phase }, { on := 14, ground := .phase }, { on := 15, ground := .phase }], guard := none } : Oper)) rfl (fun KK hK => ?_) AllReadyH.nil
                rw [if_pos (by rfl)]
                have p0 := (ownl w7 [.int .i64 0, .int .i64 0, .int .i64 0, .int .i64 0, .int .i64 0, .int .i64 0, .int .i64 0, .int .i64 0, .int .i64 0] 25).1.at 0 rfl
                have q0 := (ownl w7 [.int .i64 0, .int .i64 0, .int .i64 0, .int .i64 0, .int .i64 0, .int .i64 0, .int .i64 0, .int .i64 0, .int .i64 0] 25).2 0 (by simp)
                have p1 := (ownl w7 [.int .i64 0, .int .i64 0, .int .i64 0, .int .i64 0, .int .i64 0, .int .i64 0, .int .i64 0, .int .i64 0, .int .i64 0] 25).1.at 1 rfl
                have q1 := (ownl w7 [.int .i64 0, .int .i64 0, .int .i64 0, .int .i64 0, .int .i64 0, .int .i64 0, .int .i64 0, .int .i64 0, .int .i64 0] 25).2 1 (by simp)
                have p2 := (ownl w7 [.int .i64 0, .int .i64 0, .int .i64 0, .int .i64 0, .int .i64 0, .int .i64 0, .int .i64 0, .int .i64 0, .int .i64 0] 25).1.at 2 rfl
                have q2 := (ownl w7 [.int .i64 0, .int .i64 0, .int .i64 0, .int .i64 0, .int .i64 0, .int .i64 0, .int .i64 0, .int .i64 0, .int .i64 0] 25).2 2 (by simp)
                have p3 := (ownl w7 [.int .i64 0, .int .i64 0, .int .i64 0, .int .i64 0, .int .i64 0, .int .i64 0, .int .i64 0, .int .i64 0, .int .i64 0] 25).1.at 3 rfl
                have q3 := (ownl w7 [.int .i64 0, .int .i64 0, .int .i64 0, .int .i64 0, .int .i64 0, .int .i64 0, .int .i64 0, .int .i64 0, .int .i64 0] 25).2 3 (by simp)
                have p4 := (ownl w7 [.int .i64 0, .int .i64 0, .int .i64 0, .int .i64 0, .int .i64 0, .int .i64 0, .int .i64 0, .int .i64 0, .int .i64 0] 25).1.at 4 rfl
                have q4 := (ownl w7 [.int .i64 0, .int .i64 0, .int .i64 0, .int .i64 0, .int .i64 0, .int .i64 0, .int .i64 0, .int .i64 0, .int .i64 0] 25).2 4 (by simp)
                have p5 := (ownl w7 [.int .i64 0, .int .i64 0, .int .i64 0, .int .i64 0, .int .i64 0, .int .i64 0, .int .i64 0, .int .i64 0, .int .i64 0] 25).1.at 5 rfl
                have q5 := (ownl w7 [.int .i64 0, .int .i64 0, .int .i64 0, .int .i64 0, .int .i64 0, .int .i64 0, .int .i64 0, .int .i64 0, .int .i64 0] 25).2 5 (by simp)
                have p6 := (ownl w7 [.int .i64 0, .int .i64 0, .int .i64 0, .int .i64 0, .int .i64 0, .int .i64 0, .int .i64 0, .int .i64 0, .int .i64 0] 25).1.at 6 rfl
                have q6 := (ownl w7 [.int .i64 0, .int .i64 0, .int .i64 0, .int .i64 0, .int .i64 0, .int .i64 0, .int .i64 0, .int .i64 0, .int .i64 0] 25).2 6 (by simp)
                have p7 := (ownl w7 [.int .i64 0, .int .i64 0, .int .i64 0, .int .i64 0, .int .i64 0, .int .i64 0, .int .i64 0, .int .i64 0, .int .i64 0] 25).1.at 7 rfl
                have q7 := (ownl w7 [.int .i64 0, .int .i64 0, .int .i64 0, .int .i64 0, .int .i64 0, .int .i64 0, .int .i64 0, .int .i64 0, .int .i64 0] 25).2 7 (by simp)
                have p8 := (ownl w7 [.int .i64 0, .int .i64 0, .int .i64 0, .int .i64 0, .int .i64 0, .int .i64 0, .int .i64 0, .int .i64 0, .int .i64 0] 25).1.at 8 rfl
                have q8 := (ownl w7 [.int .i64 0, .int .i64 0, .int .i64 0, .int .i64 0, .int .i64 0, .int .i64 0, .int .i64 0, .int .i64 0, .int .i64 0] 25).2 8 (by simp)
                go_simp
                refine hK.out _ _ ?_ (fun _hHeldS => ?_)
                · exact belowT H7 (below1 w7 (.cells #[.int .i64 0, .int .i64 0, .int .i64 0, .int .i64 0, .int .i64 0, .int .i64 0, .int .i64 0, .int .i64 0, .int .i64 0] 25))
                clear hK KK
                try simp only [Act.put, List.setIfInBounds_toArray, List.set_cons_zero, List.set_cons_succ]
                refine wpAnyH_done (by as_aux_lemma => kernel_rfl) ?_ _
                refine NoPanic.normal ?_
                go_wp2_with fail
                go_meet
                exact ⟨_, rfl, belowT H7 (below1 w7 (.cells #[.int .i64 0, .int .i64 0, .int .i64 0, .int .i64 0, .int .i64 0, .int .i64 0, .int .i64 0, .int .i64 0, .int .i64 0] 25)), ownl w7 [.int .i64 0, .int .i64 0, .int .i64 0, .int .i64 0, .int .i64 0, .int .i64 0, .int .i64 0, .int .i64 0, .int .i64 0] 25⟩
              · skip
                rw [if_pos (by rfl)]
                go_simp
                refine hK.out _ _ ?_ (fun _hHeldA => ?_)
                · first | exact belowT (by assumption) (below1 _ _) | exact (belowT (by assumption) (below1 _ _)).drew
                clear hK KK
                try simp only [Act.put, List.setIfInBounds_toArray, List.set_cons_zero, List.set_cons_succ]
                refine wpAnyH_ready (rs := [14]) (by as_aux_lemma => kernel_rfl) (by simp) ?_
                refine AllReadyH.cons (o := ({ dst := some 25, op := .call { callee := .value (.func 18), args := #[.tmp 21, .tmp 23, .tmp 24], argTypes := #[25, 2, 25] }, type := 25, pos := "law.go:53", after := #[{ on := 10, ground := .data }, { on := 12, ground := .data }, { on := 13, ground := .data }, { on := 13, ground := .chain }], guard := none } : Oper)) rfl (fun KK hK => ?_) AllReadyH.nil
                rw [if_pos (by rfl)]
                go_simp
                go_at_call 18; refine (KD.out _).mono ?_; rintro e w7 ⟨rfl, hb7⟩
                go_wp2_with fail
                refine hK.out _ _ ?_ (fun hHeld7 => ?_)
                · exact belowT (by assumption) hb7
                have OA := (ownl w6 [.int .i64 0, .int .i64 0, .int .i64 0, .int .i64 0, .int .i64 0, .int .i64 0, .int .i64 0, .int .i64 0, .int .i64 0] 25).keep hb7
                have H7 : Below W0.heap.size W0 w7 := by assumption
                have S7 := H7.size
                clear hK KK hb7
                try simp only [Act.put, List.setIfInBounds_toArray, List.set_cons_zero, List.set_cons_succ]
                refine wpAnyH_ready (rs := [16]) (by as_aux_lemma => kernel_rfl) (by simp) ?_
                refine AllReadyH.cons (o := ({ dst := none, op := .store 25 (.tmp 6) (.tmp 25), type := 0, pos := "law.go:53", after := #[{ on := 15, ground := .data }, { on := 14, ground := .data }, { on := 14, ground := .chain }, { on := 0, ground := .phase }, { on := 1, ground := .phase }, { on := 2, ground := .phase }, { on := 3, ground := .phase }, { on := 4, ground := .phase }, { on := 5, ground := .phase }, { on := 6, ground := .phase }, { on := 7, ground := .phase }, { on := 8, ground := .phase }, { on := 9, ground := .phase }, { on := 10, ground := .phase }, { on := 11, ground := .phase }, { on := 12, ground := .phase }, { on := 13, ground := .phase }, { on := 14, ground := .phase }, { on := 15, ground := .phase }], guard := none } : Oper)) rfl (fun KK hK => ?_) AllReadyH.nil
                rw [if_pos (by rfl)]
                have p0 := (OA).1.at 0 rfl
                have q0 := (OA).2 0 (by simp)
                have p1 := (OA).1.at 1 rfl
                have q1 := (OA).2 1 (by simp)
                have p2 := (OA).1.at 2 rfl
                have q2 := (OA).2 2 (by simp)
                have p3 := (OA).1.at 3 rfl
                have q3 := (OA).2 3 (by simp)
                have p4 := (OA).1.at 4 rfl
                have q4 := (OA).2 4 (by simp)
                have p5 := (OA).1.at 5 rfl
                have q5 := (OA).2 5 (by simp)
                have p6 := (OA).1.at 6 rfl
                have q6 := (OA).2 6 (by simp)
                have p7 := (OA).1.at 7 rfl
                have q7 := (OA).2 7 (by simp)
                have p8 := (OA).1.at 8 rfl
                have q8 := (OA).2 8 (by simp)
                go_simp
                refine hK.out _ _ ?_ (fun _hHeldS => ?_)
                · exact (((((((((H7).setCell (p := ⟨w6.heap.size, 0, none⟩) (show W0.heap.size ≤ w6.heap.size by omega) (.int .i64 0)).setCell (p := ⟨w6.heap.size, 1, none⟩) (show W0.heap.size ≤ w6.heap.size by omega) (.int .i64 0)).setCell (p := ⟨w6.heap.size, 2, none⟩) (show W0.heap.size ≤ w6.heap.size by omega) (.int .i64 0)).setCell (p := ⟨w6.heap.size, 3, none⟩) (show W0.heap.size ≤ w6.heap.size by omega) (.int .i64 0)).setCell (p := ⟨w6.heap.size, 4, none⟩) (show W0.heap.size ≤ w6.heap.size by omega) (.int .i64 0)).setCell (p := ⟨w6.heap.size, 5, none⟩) (show W0.heap.size ≤ w6.heap.size by omega) (.int .i64 0)).setCell (p := ⟨w6.heap.size, 6, none⟩) (show W0.heap.size ≤ w6.heap.size by omega) (.int .i64 0)).setCell (p := ⟨w6.heap.size, 7, none⟩) (show W0.heap.size ≤ w6.heap.size by omega) (.int .i64 0)).setCell (p := ⟨w6.heap.size, 8, none⟩) (show W0.heap.size ≤ w6.heap.size by omega) (.int .i64 0)
                clear hK KK
                try simp only [Act.put, List.setIfInBounds_toArray, List.set_cons_zero, List.set_cons_succ]
                refine wpAnyH_done (by as_aux_lemma => kernel_rfl) ?_ _
                refine NoPanic.normal ?_
                go_wp2_with fail
                go_meet
                exact ⟨_, rfl, (((((((((H7).setCell (p := ⟨w6.heap.size, 0, none⟩) (show W0.heap.size ≤ w6.heap.size by omega) (.int .i64 0)).setCell (p := ⟨w6.heap.size, 1, none⟩) (show W0.heap.size ≤ w6.heap.size by omega) (.int .i64 0)).setCell (p := ⟨w6.heap.size, 2, none⟩) (show W0.heap.size ≤ w6.heap.size by omega) (.int .i64 0)).setCell (p := ⟨w6.heap.size, 3, none⟩) (show W0.heap.size ≤ w6.heap.size by omega) (.int .i64 0)).setCell (p := ⟨w6.heap.size, 4, none⟩) (show W0.heap.size ≤ w6.heap.size by omega) (.int .i64 0)).setCell (p := ⟨w6.heap.size, 5, none⟩) (show W0.heap.size ≤ w6.heap.size by omega) (.int .i64 0)).setCell (p := ⟨w6.heap.size, 6, none⟩) (show W0.heap.size ≤ w6.heap.size by omega) (.int .i64 0)).setCell (p := ⟨w6.heap.size, 7, none⟩) (show W0.heap.size ≤ w6.heap.size by omega) (.int .i64 0)).setCell (p := ⟨w6.heap.size, 8, none⟩) (show W0.heap.size ≤ w6.heap.size by omega) (.int .i64 0), (((((((((OA).set 0 (.int .i64 0)).set 1 (.int .i64 0)).set 2 (.int .i64 0)).set 3 (.int .i64 0)).set 4 (.int .i64 0)).set 5 (.int .i64 0)).set 6 (.int .i64 0)).set 7 (.int .i64 0)).set 8 (.int .i64 0)⟩
            · skip
              rw [if_pos (by rfl)]
              go_simp
              refine hK.out _ _ ?_ (fun _hHeldA => ?_)
              · first | exact belowT (by assumption) (below1 _ _) | exact (belowT (by assumption) (below1 _ _)).drew
              clear hK KK
              try simp only [Act.put, List.setIfInBounds_toArray, List.set_cons_zero, List.set_cons_succ]
              refine wpAnyH_ready (rs := [13]) (by as_aux_lemma => kernel_rfl) (by simp) ?_
              refine AllReadyH.cons (o := ({ dst := some 24, op := .call { callee := .value (.func 9), args := #[.const (.int .i64 1)], argTypes := #[2] }, type := 25, pos := "law.go:53", after := #[{ on := 10, ground := .chain }], guard := none } : Oper)) rfl (fun KK hK => ?_) AllReadyH.nil
              rw [if_pos (by rfl)]
              go_simp
              go_at_call 9; refine (K1.out _).mono ?_; rintro e w6 ⟨rfl, hb6⟩
              go_wp2_with fail
              refine hK.out _ _ ?_ (fun hHeld6 => ?_)
              · exact belowT (by assumption) hb6
              have OA := (ownl w5 [.int .i64 0, .int .i64 0, .int .i64 0, .int .i64 0, .int .i64 0, .int .i64 0, .int .i64 0, .int .i64 0, .int .i64 0] 25).keep hb6
              have H6 : Below W0.heap.size W0 w6 := by assumption
              have S6 := H6.size
              clear hK KK hb6
              try simp only [Act.put, List.setIfInBounds_toArray, List.set_cons_zero, List.set_cons_succ]
              refine wpAnyH_ready (rs := [14]) (by as_aux_lemma => kernel_rfl) (by simp) ?_
              refine AllReadyH.cons (o := ({ dst := some 25, op := .call { callee := .value (.func 18), args := #[.tmp 21, .tmp 23, .tmp 24], argTypes := #[25, 2, 25] }, type := 25, pos := "law.go:53", after := #[{ on := 10, ground := .data }, { on := 12, ground := .data }, { on := 13, ground := .data }, { on := 13, ground := .chain }], guard := none } : Oper)) rfl (fun KK hK => ?_) AllReadyH.nil
              rw [if_pos (by rfl)]
              go_simp
              go_at_call 18; refine (KD.out _).mono ?_; rintro e w7 ⟨rfl, hb7⟩
              go_wp2_with fail
              refine hK.out _ _ ?_ (fun hHeld7 => ?_)
              · exact belowT (by assumption) hb7
              replace OA := (OA).keep hb7
              have H7 : Below W0.heap.size W0 w7 := by assumption
              have S7 := H7.size
              clear hK KK hb7
              try simp only [Act.put, List.setIfInBounds_toArray, List.set_cons_zero, List.set_cons_succ]
              refine wpAnyH_ready (rs := [16]) (by as_aux_lemma => kernel_rfl) (by simp) ?_
              refine AllReadyH.cons (o := ({ dst := none, op := .store 25 (.tmp 6) (.tmp 25), type := 0, pos := "law.go:53", after := #[{ on := 15, ground := .data }, { on := 14, ground := .data }, { on := 14, ground := .chain }, { on := 0, ground := .phase }, { on := 1, ground := .phase }, { on := 2, ground := .phase }, { on := 3, ground := .phase }, { on := 4, ground := .phase }, { on := 5, ground := .phase }, { on := 6, ground := .phase }, { on := 7, ground := .phase }, { on := 8, ground := .phase }, { on := 9, ground := .phase }, { on := 10, ground := .phase }, { on := 11, ground := .phase }, { on := 12, ground := .phase }, { on := 13, ground := .phase }, { on := 14, ground := .phase }, { on := 15, ground := .phase }], guard := none } : Oper)) rfl (fun KK hK => ?_) AllReadyH.nil
              rw [if_pos (by rfl)]
              have p0 := (OA).1.at 0 rfl
              have q0 := (OA).2 0 (by simp)
              have p1 := (OA).1.at 1 rfl
              have q1 := (OA).2 1 (by simp)
              have p2 := (OA).1.at 2 rfl
              have q2 := (OA).2 2 (by simp)
              have p3 := (OA).1.at 3 rfl
              have q3 := (OA).2 3 (by simp)
              have p4 := (OA).1.at 4 rfl
              have q4 := (OA).2 4 (by simp)
              have p5 := (OA).1.at 5 rfl
              have q5 := (OA).2 5 (by simp)
              have p6 := (OA).1.at 6 rfl
              have q6 := (OA).2 6 (by simp)
              have p7 := (OA).1.at 7 rfl
              have q7 := (OA).2 7 (by simp)
              have p8 := (OA).1.at 8 rfl
              have q8 := (OA).2 8 (by simp)
              go_simp
              refine hK.out _ _ ?_ (fun _hHeldS => ?_)
              · exact (((((((((H7).setCell (p := ⟨w5.heap.size, 0, none⟩) (show W0.heap.size ≤ w5.heap.size by omega) (.int .i64 0)).setCell (p := ⟨w5.heap.size, 1, none⟩) (show W0.heap.size ≤ w5.heap.size by omega) (.int .i64 0)).setCell (p := ⟨w5.heap.size, 2, none⟩) (show W0.heap.size ≤ w5.heap.size by omega) (.int .i64 0)).setCell (p := ⟨w5.heap.size, 3, none⟩) (show W0.heap.size ≤ w5.heap.size by omega) (.int .i64 0)).setCell (p := ⟨w5.heap.size, 4, none⟩) (show W0.heap.size ≤ w5.heap.size by omega) (.int .i64 0)).setCell (p := ⟨w5.heap.size, 5, none⟩) (show W0.heap.size ≤ w5.heap.size by omega) (.int .i64 0)).setCell (p := ⟨w5.heap.size, 6, none⟩) (show W0.heap.size ≤ w5.heap.size by omega) (.int .i64 0)).setCell (p := ⟨w5.heap.size, 7, none⟩) (show W0.heap.size ≤ w5.heap.size by omega) (.int .i64 0)).setCell (p := ⟨w5.heap.size, 8, none⟩) (show W0.heap.size ≤ w5.heap.size by omega) (.int .i64 0)
              clear hK KK
              try simp only [Act.put, List.setIfInBounds_toArray, List.set_cons_zero, List.set_cons_succ]
              refine wpAnyH_done (by as_aux_lemma => kernel_rfl) ?_ _
              refine NoPanic.normal ?_
              go_wp2_with fail
              go_meet
              exact ⟨_, rfl, (((((((((H7).setCell (p := ⟨w5.heap.size, 0, none⟩) (show W0.heap.size ≤ w5.heap.size by omega) (.int .i64 0)).setCell (p := ⟨w5.heap.size, 1, none⟩) (show W0.heap.size ≤ w5.heap.size by omega) (.int .i64 0)).setCell (p := ⟨w5.heap.size, 2, none⟩) (show W0.heap.size ≤ w5.heap.size by omega) (.int .i64 0)).setCell (p := ⟨w5.heap.size, 3, none⟩) (show W0.heap.size ≤ w5.heap.size by omega) (.int .i64 0)).setCell (p := ⟨w5.heap.size, 4, none⟩) (show W0.heap.size ≤ w5.heap.size by omega) (.int .i64 0)).setCell (p := ⟨w5.heap.size, 5, none⟩) (show W0.heap.size ≤ w5.heap.size by omega) (.int .i64 0)).setCell (p := ⟨w5.heap.size, 6, none⟩) (show W0.heap.size ≤ w5.heap.size by omega) (.int .i64 0)).setCell (p := ⟨w5.heap.size, 7, none⟩) (show W0.heap.size ≤ w5.heap.size by omega) (.int .i64 0)).setCell (p := ⟨w5.heap.size, 8, none⟩) (show W0.heap.size ≤ w5.heap.size by omega) (.int .i64 0), (((((((((OA).set 0 (.int .i64 0)).set 1 (.int .i64 0)).set 2 (.int .i64 0)).set 3 (.int .i64 0)).set 4 (.int .i64 0)).set 5 (.int .i64 0)).set 6 (.int .i64 0)).set 7 (.int .i64 0)).set 8 (.int .i64 0)⟩
          · skip
            rw [if_pos (by rfl)]
            go_simp
            refine hK.out _ _ ?_ (fun _hHeldA => ?_)
            · first | exact belowT (by assumption) (below1 _ _) | exact (belowT (by assumption) (below1 _ _)).drew
            clear hK KK
            try simp only [Act.put, List.setIfInBounds_toArray, List.set_cons_zero, List.set_cons_succ]
            refine wpAnyH_ready (rs := [10]) (by as_aux_lemma => kernel_rfl) (by simp) ?_
            refine AllReadyH.cons (o := ({ dst := some 21, op := .call { callee := .value (.func 18), args := #[.tmp 17, .tmp 19, .tmp 20], argTypes := #[25, 2, 25] }, type := 25, pos := "law.go:53", after := #[{ on := 6, ground := .data }, { on := 8, ground := .data }, { on := 9, ground := .data }, { on := 6, ground := .chain }], guard := none } : Oper)) rfl (fun KK hK => ?_) AllReadyH.nil
            rw [if_pos (by rfl)]
            go_simp
            go_at_call 18; refine (KB.out _).mono ?_; rintro e w5 ⟨rfl, hb5⟩
            go_wp2_with fail
            refine hK.out _ _ ?_ (fun hHeld5 => ?_)
            · exact belowT (by assumption) hb5
            have OA := (ownl w4 [.int .i64 0, .int .i64 0, .int .i64 0, .int .i64 0, .int .i64 0, .int .i64 0, .int .i64 0, .int .i64 0, .int .i64 0] 25).keep hb5
            have H5 : Below W0.heap.size W0 w5 := by assumption
            have S5 := H5.size
            clear hK KK hb5
            try simp only [Act.put, List.setIfInBounds_toArray, List.set_cons_zero, List.set_cons_succ]
            refine wpAnyH_ready (rs := [13]) (by as_aux_lemma => kernel_rfl) (by simp) ?_
            refine AllReadyH.cons (o := ({ dst := some 24, op := .call { callee := .value (.func 9), args := #[.const (.int .i64 1)], argTypes := #[2] }, type := 25, pos := "law.go:53", after := #[{ on := 10, ground := .chain }], guard := none } : Oper)) rfl (fun KK hK => ?_) AllReadyH.nil
            rw [if_pos (by rfl)]
            go_simp
            go_at_call 9; refine (K1.out _).mono ?_; rintro e w6 ⟨rfl, hb6⟩
            go_wp2_with fail
            refine hK.out _ _ ?_ (fun hHeld6 => ?_)
            · exact belowT (by assumption) hb6
            replace OA := (OA).keep hb6
            have H6 : Below W0.heap.size W0 w6 := by assumption
            have S6 := H6.size
            clear hK KK hb6
            try simp only [Act.put, List.setIfInBounds_toArray, List.set_cons_zero, List.set_cons_succ]
            refine wpAnyH_ready (rs := [14]) (by as_aux_lemma => kernel_rfl) (by simp) ?_
            refine AllReadyH.cons (o := ({ dst := some 25, op := .call { callee := .value (.func 18), args := #[.tmp 21, .tmp 23, .tmp 24], argTypes := #[25, 2, 25] }, type := 25, pos := "law.go:53", after := #[{ on := 10, ground := .data }, { on := 12, ground := .data }, { on := 13, ground := .data }, { on := 13, ground := .chain }], guard := none } : Oper)) rfl (fun KK hK => ?_) AllReadyH.nil
            rw [if_pos (by rfl)]
            go_simp
            go_at_call 18; refine (KD.out _).mono ?_; rintro e w7 ⟨rfl, hb7⟩
            go_wp2_with fail
            refine hK.out _ _ ?_ (fun hHeld7 => ?_)
            · exact belowT (by assumption) hb7
            replace OA := (OA).keep hb7
            have H7 : Below W0.heap.size W0 w7 := by assumption
            have S7 := H7.size
            clear hK KK hb7
            try simp only [Act.put, List.setIfInBounds_toArray, List.set_cons_zero, List.set_cons_succ]
            refine wpAnyH_ready (rs := [16]) (by as_aux_lemma => kernel_rfl) (by simp) ?_
            refine AllReadyH.cons (o := ({ dst := none, op := .store 25 (.tmp 6) (.tmp 25), type := 0, pos := "law.go:53", after := #[{ on := 15, ground := .data }, { on := 14, ground := .data }, { on := 14, ground := .chain }, { on := 0, ground := .phase }, { on := 1, ground := .phase }, { on := 2, ground := .phase }, { on := 3, ground := .phase }, { on := 4, ground := .phase }, { on := 5, ground := .phase }, { on := 6, ground := .phase }, { on := 7, ground := .phase }, { on := 8, ground := .phase }, { on := 9, ground := .phase }, { on := 10, ground := .phase }, { on := 11, ground := .phase }, { on := 12, ground := .phase }, { on := 13, ground := .phase }, { on := 14, ground := .phase }, { on := 15, ground := .phase }], guard := none } : Oper)) rfl (fun KK hK => ?_) AllReadyH.nil
            rw [if_pos (by rfl)]
            have p0 := (OA).1.at 0 rfl
            have q0 := (OA).2 0 (by simp)
            have p1 := (OA).1.at 1 rfl
            have q1 := (OA).2 1 (by simp)
            have p2 := (OA).1.at 2 rfl
            have q2 := (OA).2 2 (by simp)
            have p3 := (OA).1.at 3 rfl
            have q3 := (OA).2 3 (by simp)
            have p4 := (OA).1.at 4 rfl
            have q4 := (OA).2 4 (by simp)
            have p5 := (OA).1.at 5 rfl
            have q5 := (OA).2 5 (by simp)
            have p6 := (OA).1.at 6 rfl
            have q6 := (OA).2 6 (by simp)
            have p7 := (OA).1.at 7 rfl
            have q7 := (OA).2 7 (by simp)
            have p8 := (OA).1.at 8 rfl
            have q8 := (OA).2 8 (by simp)
            go_simp
            refine hK.out _ _ ?_ (fun _hHeldS => ?_)
            · exact (((((((((H7).setCell (p := ⟨w4.heap.size, 0, none⟩) (show W0.heap.size ≤ w4.heap.size by omega) (.int .i64 0)).setCell (p := ⟨w4.heap.size, 1, none⟩) (show W0.heap.size ≤ w4.heap.size by omega) (.int .i64 0)).setCell (p := ⟨w4.heap.size, 2, none⟩) (show W0.heap.size ≤ w4.heap.size by omega) (.int .i64 0)).setCell (p := ⟨w4.heap.size, 3, none⟩) (show W0.heap.size ≤ w4.heap.size by omega) (.int .i64 0)).setCell (p := ⟨w4.heap.size, 4, none⟩) (show W0.heap.size ≤ w4.heap.size by omega) (.int .i64 0)).setCell (p := ⟨w4.heap.size, 5, none⟩) (show W0.heap.size ≤ w4.heap.size by omega) (.int .i64 0)).setCell (p := ⟨w4.heap.size, 6, none⟩) (show W0.heap.size ≤ w4.heap.size by omega) (.int .i64 0)).setCell (p := ⟨w4.heap.size, 7, none⟩) (show W0.heap.size ≤ w4.heap.size by omega) (.int .i64 0)).setCell (p := ⟨w4.heap.size, 8, none⟩) (show W0.heap.size ≤ w4.heap.size by omega) (.int .i64 0)
            clear hK KK
            try simp only [Act.put, List.setIfInBounds_toArray, List.set_cons_zero, List.set_cons_succ]
            refine wpAnyH_done (by as_aux_lemma => kernel_rfl) ?_ _
            refine NoPanic.normal ?_
            go_wp2_with fail
            go_meet
            exact ⟨_, rfl, (((((((((H7).setCell (p := ⟨w4.heap.size, 0, none⟩) (show W0.heap.size ≤ w4.heap.size by omega) (.int .i64 0)).setCell (p := ⟨w4.heap.size, 1, none⟩) (show W0.heap.size ≤ w4.heap.size by omega) (.int .i64 0)).setCell (p := ⟨w4.heap.size, 2, none⟩) (show W0.heap.size ≤ w4.heap.size by omega) (.int .i64 0)).setCell (p := ⟨w4.heap.size, 3, none⟩) (show W0.heap.size ≤ w4.heap.size by omega) (.int .i64 0)).setCell (p := ⟨w4.heap.size, 4, none⟩) (show W0.heap.size ≤ w4.heap.size by omega) (.int .i64 0)).setCell (p := ⟨w4.heap.size, 5, none⟩) (show W0.heap.size ≤ w4.heap.size by omega) (.int .i64 0)).setCell (p := ⟨w4.heap.size, 6, none⟩) (show W0.heap.size ≤ w4.heap.size by omega) (.int .i64 0)).setCell (p := ⟨w4.heap.size, 7, none⟩) (show W0.heap.size ≤ w4.heap.size by omega) (.int .i64 0)).setCell (p := ⟨w4.heap.size, 8, none⟩) (show W0.heap.size ≤ w4.heap.size by omega) (.int .i64 0), (((((((((OA).set 0 (.int .i64 0)).set 1 (.int .i64 0)).set 2 (.int .i64 0)).set 3 (.int .i64 0)).set 4 (.int .i64 0)).set 5 (.int .i64 0)).set 6 (.int .i64 0)).set 7 (.int .i64 0)).set 8 (.int .i64 0)⟩
        · skip
          rw [if_pos (by rfl)]
          go_simp
          refine hK.out _ _ ?_ (fun _hHeldA => ?_)
          · first | exact belowT (by assumption) (below1 _ _) | exact (belowT (by assumption) (below1 _ _)).drew
          clear hK KK
          try simp only [Act.put, List.setIfInBounds_toArray, List.set_cons_zero, List.set_cons_succ]
          refine wpAnyH_ready (rs := [6]) (by as_aux_lemma => kernel_rfl) (by simp) ?_
          refine AllReadyH.cons (o := ({ dst := some 17, op := .call { callee := .value (.func 18), args := #[.tmp 12, .tmp 14, .tmp 16], argTypes := #[25, 2, 25] }, type := 25, pos := "law.go:53", after := #[{ on := 1, ground := .data }, { on := 3, ground := .data }, { on := 5, ground := .data }, { on := 5, ground := .chain }], guard := none } : Oper)) rfl (fun KK hK => ?_) AllReadyH.nil
          rw [if_pos (by rfl)]
          go_simp
          go_at_call 18; refine (KA.out _).mono ?_; rintro e w4 ⟨rfl, hb4⟩
          go_wp2_with fail
          refine hK.out _ _ ?_ (fun hHeld4 => ?_)
          · exact belowT (by assumption) hb4
          have OA := (ownl w3 [.int .i64 0, .int .i64 0, .int .i64 0, .int .i64 0, .int .i64 0, .int .i64 0, .int .i64 0, .int .i64 0, .int .i64 0] 25).keep hb4
          have H4 : Below W0.heap.size W0 w4 := by assumption
          have S4 := H4.size
          clear hK KK hb4
          try simp only [Act.put, List.setIfInBounds_toArray, List.set_cons_zero, List.set_cons_succ]
          refine wpAnyH_ready (rs := [10]) (by as_aux_lemma => kernel_rfl) (by simp) ?_
          refine AllReadyH.cons (o := ({ dst := some 21, op := .call { callee := .value (.func 18), args := #[.tmp 17, .tmp 19, .tmp 20], argTypes := #[25, 2, 25] }, type := 25, pos := "law.go:53", after := #[{ on := 6, ground := .data }, { on := 8, ground := .data }, { on := 9, ground := .data }, { on := 6, ground := .chain }], guard := none } : Oper)) rfl (fun KK hK => ?_) AllReadyH.nil
          rw [if_pos (by rfl)]
          go_simp
          go_at_call 18; refine (KB.out _).mono ?_; rintro e w5 ⟨rfl, hb5⟩
          go_wp2_with fail
          refine hK.out _ _ ?_ (fun hHeld5 => ?_)
          · exact belowT (by assumption) hb5
          replace OA := (OA).keep hb5
          have H5 : Below W0.heap.size W0 w5 := by assumption
          have S5 := H5.size
          clear hK KK hb5
          try simp only [Act.put, List.setIfInBounds_toArray, List.set_cons_zero, List.set_cons_succ]
          refine wpAnyH_ready (rs := [13]) (by as_aux_lemma => kernel_rfl) (by simp) ?_
          refine AllReadyH.cons (o := ({ dst := some 24, op := .call { callee := .value (.func 9), args := #[.const (.int .i64 1)], argTypes := #[2] }, type := 25, pos := "law.go:53", after := #[{ on := 10, ground := .chain }], guard := none } : Oper)) rfl (fun KK hK => ?_) AllReadyH.nil
          rw [if_pos (by rfl)]
          go_simp
          go_at_call 9; refine (K1.out _).mono ?_; rintro e w6 ⟨rfl, hb6⟩
          go_wp2_with fail
          refine hK.out _ _ ?_ (fun hHeld6 => ?_)
          · exact belowT (by assumption) hb6
          replace OA := (OA).keep hb6
          have H6 : Below W0.heap.size W0 w6 := by assumption
          have S6 := H6.size
          clear hK KK hb6
          try simp only [Act.put, List.setIfInBounds_toArray, List.set_cons_zero, List.set_cons_succ]
          refine wpAnyH_ready (rs := [14]) (by as_aux_lemma => kernel_rfl) (by simp) ?_
          refine AllReadyH.cons (o := ({ dst := some 25, op := .call { callee := .value (.func 18), args := #[.tmp 21, .tmp 23, .tmp 24], argTypes := #[25, 2, 25] }, type := 25, pos := "law.go:53", after := #[{ on := 10, ground := .data }, { on := 12, ground := .data }, { on := 13, ground := .data }, { on := 13, ground := .chain }], guard := none } : Oper)) rfl (fun KK hK => ?_) AllReadyH.nil
          rw [if_pos (by rfl)]
          go_simp
          go_at_call 18; refine (KD.out _).mono ?_; rintro e w7 ⟨rfl, hb7⟩
          go_wp2_with fail
          refine hK.out _ _ ?_ (fun hHeld7 => ?_)
          · exact belowT (by assumption) hb7
          replace OA := (OA).keep hb7
          have H7 : Below W0.heap.size W0 w7 := by assumption
          have S7 := H7.size
          clear hK KK hb7
          try simp only [Act.put, List.setIfInBounds_toArray, List.set_cons_zero, List.set_cons_succ]
          refine wpAnyH_ready (rs := [16]) (by as_aux_lemma => kernel_rfl) (by simp) ?_
          refine AllReadyH.cons (o := ({ dst := none, op := .store 25 (.tmp 6) (.tmp 25), type := 0, pos := "law.go:53", after := #[{ on := 15, ground := .data }, { on := 14, ground := .data }, { on := 14, ground := .chain }, { on := 0, ground := .phase }, { on := 1, ground := .phase }, { on := 2, ground := .phase }, { on := 3, ground := .phase }, { on := 4, ground := .phase }, { on := 5, ground := .phase }, { on := 6, ground := .phase }, { on := 7, ground := .phase }, { on := 8, ground := .phase }, { on := 9, ground := .phase }, { on := 10, ground := .phase }, { on := 11, ground := .phase }, { on := 12, ground := .phase }, { on := 13, ground := .phase }, { on := 14, ground := .phase }, { on := 15, ground := .phase }], guard := none } : Oper)) rfl (fun KK hK => ?_) AllReadyH.nil
          rw [if_pos (by rfl)]
          have p0 := (OA).1.at 0 rfl
          have q0 := (OA).2 0 (by simp)
          have p1 := (OA).1.at 1 rfl
          have q1 := (OA).2 1 (by simp)
          have p2 := (OA).1.at 2 rfl
          have q2 := (OA).2 2 (by simp)
          have p3 := (OA).1.at 3 rfl
          have q3 := (OA).2 3 (by simp)
          have p4 := (OA).1.at 4 rfl
          have q4 := (OA).2 4 (by simp)
          have p5 := (OA).1.at 5 rfl
          have q5 := (OA).2 5 (by simp)
          have p6 := (OA).1.at 6 rfl
          have q6 := (OA).2 6 (by simp)
          have p7 := (OA).1.at 7 rfl
          have q7 := (OA).2 7 (by simp)
          have p8 := (OA).1.at 8 rfl
          have q8 := (OA).2 8 (by simp)
          go_simp
          refine hK.out _ _ ?_ (fun _hHeldS => ?_)
          · exact (((((((((H7).setCell (p := ⟨w3.heap.size, 0, none⟩) (show W0.heap.size ≤ w3.heap.size by omega) (.int .i64 0)).setCell (p := ⟨w3.heap.size, 1, none⟩) (show W0.heap.size ≤ w3.heap.size by omega) (.int .i64 0)).setCell (p := ⟨w3.heap.size, 2, none⟩) (show W0.heap.size ≤ w3.heap.size by omega) (.int .i64 0)).setCell (p := ⟨w3.heap.size, 3, none⟩) (show W0.heap.size ≤ w3.heap.size by omega) (.int .i64 0)).setCell (p := ⟨w3.heap.size, 4, none⟩) (show W0.heap.size ≤ w3.heap.size by omega) (.int .i64 0)).setCell (p := ⟨w3.heap.size, 5, none⟩) (show W0.heap.size ≤ w3.heap.size by omega) (.int .i64 0)).setCell (p := ⟨w3.heap.size, 6, none⟩) (show W0.heap.size ≤ w3.heap.size by omega) (.int .i64 0)).setCell (p := ⟨w3.heap.size, 7, none⟩) (show W0.heap.size ≤ w3.heap.size by omega) (.int .i64 0)).setCell (p := ⟨w3.heap.size, 8, none⟩) (show W0.heap.size ≤ w3.heap.size by omega) (.int .i64 0)
          clear hK KK
          try simp only [Act.put, List.setIfInBounds_toArray, List.set_cons_zero, List.set_cons_succ]
          refine wpAnyH_done (by as_aux_lemma => kernel_rfl) ?_ _
          refine NoPanic.normal ?_
          go_wp2_with fail
          go_meet
          exact ⟨_, rfl, (((((((((H7).setCell (p := ⟨w3.heap.size, 0, none⟩) (show W0.heap.size ≤ w3.heap.size by omega) (.int .i64 0)).setCell (p := ⟨w3.heap.size, 1, none⟩) (show W0.heap.size ≤ w3.heap.size by omega) (.int .i64 0)).setCell (p := ⟨w3.heap.size, 2, none⟩) (show W0.heap.size ≤ w3.heap.size by omega) (.int .i64 0)).setCell (p := ⟨w3.heap.size, 3, none⟩) (show W0.heap.size ≤ w3.heap.size by omega) (.int .i64 0)).setCell (p := ⟨w3.heap.size, 4, none⟩) (show W0.heap.size ≤ w3.heap.size by omega) (.int .i64 0)).setCell (p := ⟨w3.heap.size, 5, none⟩) (show W0.heap.size ≤ w3.heap.size by omega) (.int .i64 0)).setCell (p := ⟨w3.heap.size, 6, none⟩) (show W0.heap.size ≤ w3.heap.size by omega) (.int .i64 0)).setCell (p := ⟨w3.heap.size, 7, none⟩) (show W0.heap.size ≤ w3.heap.size by omega) (.int .i64 0)).setCell (p := ⟨w3.heap.size, 8, none⟩) (show W0.heap.size ≤ w3.heap.size by omega) (.int .i64 0), (((((((((OA).set 0 (.int .i64 0)).set 1 (.int .i64 0)).set 2 (.int .i64 0)).set 3 (.int .i64 0)).set 4 (.int .i64 0)).set 5 (.int .i64 0)).set 6 (.int .i64 0)).set 7 (.int .i64 0)).set 8 (.int .i64 0)⟩
      · skip
        rw [if_pos (by rfl)]
        go_simp
        refine hK.out _ _ ?_ (fun _hHeldA => ?_)
        · first | exact belowT (by assumption) (below1 _ _) | exact (belowT (by assumption) (below1 _ _)).drew
        clear hK KK
        try simp only [Act.put, List.setIfInBounds_toArray, List.set_cons_zero, List.set_cons_succ]
        refine wpAnyH_ready (rs := [5]) (by as_aux_lemma => kernel_rfl) (by simp) ?_
        refine AllReadyH.cons (o := ({ dst := some 16, op := .call { callee := .value (.func 19), args := #[.tmp 15, .const (.int .i64 2)], argTypes := #[25, 3] }, type := 25, pos := "law.go:53", after := #[{ on := 4, ground := .data }, { on := 1, ground := .chain }], guard := none } : Oper)) rfl (fun KK hK => ?_) AllReadyH.nil
        rw [if_pos (by rfl)]
        go_simp
        go_at_call 19; refine (K2.out _).mono ?_; rintro e w3 ⟨rfl, hb3⟩
        go_wp2_with fail
        refine hK.out _ _ ?_ (fun hHeld3 => ?_)
        · exact belowT (by assumption) hb3
        have OA := (ownl w2 [.int .i64 0, .int .i64 0, .int .i64 0, .int .i64 0, .int .i64 0, .int .i64 0, .int .i64 0, .int .i64 0, .int .i64 0] 25).keep hb3
        have H3 : Below W0.heap.size W0 w3 := by assumption
        have S3 := H3.size
        clear hK KK hb3
        try simp only [Act.put, List.setIfInBounds_toArray, List.set_cons_zero, List.set_cons_succ]
        refine wpAnyH_ready (rs := [6]) (by as_aux_lemma => kernel_rfl) (by simp) ?_
        refine AllReadyH.cons (o := ({ dst := some 17, op := .call { callee := .value (.func 18), args := #[.tmp 12, .tmp 14, .tmp 16], argTypes := #[25, 2, 25] }, type := 25, pos := "law.go:53", after := #[{ on := 1, ground := .data }, { on := 3, ground := .data }, { on := 5, ground := .data }, { on := 5, ground := .chain }], guard := none } : Oper)) rfl (fun KK hK => ?_) AllReadyH.nil
        rw [if_pos (by rfl)]
        go_simp
        go_at_call 18; refine (KA.out _).mono ?_; rintro e w4 ⟨rfl, hb4⟩
        go_wp2_with fail
        refine hK.out _ _ ?_ (fun hHeld4 => ?_)
        · exact belowT (by assumption) hb4
        replace OA := (OA).keep hb4
        have H4 : Below W0.heap.size W0 w4 := by assumption
        have S4 := H4.size
        clear hK KK hb4
        try simp only [Act.put, List.setIfInBounds_toArray, List.set_cons_zero, List.set_cons_succ]
        refine wpAnyH_ready (rs := [10]) (by as_aux_lemma => kernel_rfl) (by simp) ?_
        refine AllReadyH.cons (o := ({ dst := some 21, op := .call { callee := .value (.func 18), args := #[.tmp 17, .tmp 19, .tmp 20], argTypes := #[25, 2, 25] }, type := 25, pos := "law.go:53", after := #[{ on := 6, ground := .data }, { on := 8, ground := .data }, { on := 9, ground := .data }, { on := 6, ground := .chain }], guard := none } : Oper)) rfl (fun KK hK => ?_) AllReadyH.nil
        rw [if_pos (by rfl)]
        go_simp
        go_at_call 18; refine (KB.out _).mono ?_; rintro e w5 ⟨rfl, hb5⟩
        go_wp2_with fail
        refine hK.out _ _ ?_ (fun hHeld5 => ?_)
        · exact belowT (by assumption) hb5
        replace OA := (OA).keep hb5
        have H5 : Below W0.heap.size W0 w5 := by assumption
        have S5 := H5.size
        clear hK KK hb5
        try simp only [Act.put, List.setIfInBounds_toArray, List.set_cons_zero, List.set_cons_succ]
        refine wpAnyH_ready (rs := [13]) (by as_aux_lemma => kernel_rfl) (by simp) ?_
        refine AllReadyH.cons (o := ({ dst := some 24, op := .call { callee := .value (.func 9), args := #[.const (.int .i64 1)], argTypes := #[2] }, type := 25, pos := "law.go:53", after := #[{ on := 10, ground := .chain }], guard := none } : Oper)) rfl (fun KK hK => ?_) AllReadyH.nil
        rw [if_pos (by rfl)]
        go_simp
        go_at_call 9; refine (K1.out _).mono ?_; rintro e w6 ⟨rfl, hb6⟩
        go_wp2_with fail
        refine hK.out _ _ ?_ (fun hHeld6 => ?_)
        · exact belowT (by assumption) hb6
        replace OA := (OA).keep hb6
        have H6 : Below W0.heap.size W0 w6 := by assumption
        have S6 := H6.size
        clear hK KK hb6
        try simp only [Act.put, List.setIfInBounds_toArray, List.set_cons_zero, List.set_cons_succ]
        refine wpAnyH_ready (rs := [14]) (by as_aux_lemma => kernel_rfl) (by simp) ?_
        refine AllReadyH.cons (o := ({ dst := some 25, op := .call { callee := .value (.func 18), args := #[.tmp 21, .tmp 23, .tmp 24], argTypes := #[25, 2, 25] }, type := 25, pos := "law.go:53", after := #[{ on := 10, ground := .data }, { on := 12, ground := .data }, { on := 13, ground := .data }, { on := 13, ground := .chain }], guard := none } : Oper)) rfl (fun KK hK => ?_) AllReadyH.nil
        rw [if_pos (by rfl)]
        go_simp
        go_at_call 18; refine (KD.out _).mono ?_; rintro e w7 ⟨rfl, hb7⟩
        go_wp2_with fail
        refine hK.out _ _ ?_ (fun hHeld7 => ?_)
        · exact belowT (by assumption) hb7
        replace OA := (OA).keep hb7
        have H7 : Below W0.heap.size W0 w7 := by assumption
        have S7 := H7.size
        clear hK KK hb7
        try simp only [Act.put, List.setIfInBounds_toArray, List.set_cons_zero, List.set_cons_succ]
        refine wpAnyH_ready (rs := [16]) (by as_aux_lemma => kernel_rfl) (by simp) ?_
        refine AllReadyH.cons (o := ({ dst := none, op := .store 25 (.tmp 6) (.tmp 25), type := 0, pos := "law.go:53", after := #[{ on := 15, ground := .data }, { on := 14, ground := .data }, { on := 14, ground := .chain }, { on := 0, ground := .phase }, { on := 1, ground := .phase }, { on := 2, ground := .phase }, { on := 3, ground := .phase }, { on := 4, ground := .phase }, { on := 5, ground := .phase }, { on := 6, ground := .phase }, { on := 7, ground := .phase }, { on := 8, ground := .phase }, { on := 9, ground := .phase }, { on := 10, ground := .phase }, { on := 11, ground := .phase }, { on := 12, ground := .phase }, { on := 13, ground := .phase }, { on := 14, ground := .phase }, { on := 15, ground := .phase }], guard := none } : Oper)) rfl (fun KK hK => ?_) AllReadyH.nil
        rw [if_pos (by rfl)]
        have p0 := (OA).1.at 0 rfl
        have q0 := (OA).2 0 (by simp)
        have p1 := (OA).1.at 1 rfl
        have q1 := (OA).2 1 (by simp)
        have p2 := (OA).1.at 2 rfl
        have q2 := (OA).2 2 (by simp)
        have p3 := (OA).1.at 3 rfl
        have q3 := (OA).2 3 (by simp)
        have p4 := (OA).1.at 4 rfl
        have q4 := (OA).2 4 (by simp)
        have p5 := (OA).1.at 5 rfl
        have q5 := (OA).2 5 (by simp)
        have p6 := (OA).1.at 6 rfl
        have q6 := (OA).2 6 (by simp)
        have p7 := (OA).1.at 7 rfl
        have q7 := (OA).2 7 (by simp)
        have p8 := (OA).1.at 8 rfl
        have q8 := (OA).2 8 (by simp)
        go_simp
        refine hK.out _ _ ?_ (fun _hHeldS => ?_)
        · exact (((((((((H7).setCell (p := ⟨w2.heap.size, 0, none⟩) (show W0.heap.size ≤ w2.heap.size by omega) (.int .i64 0)).setCell (p := ⟨w2.heap.size, 1, none⟩) (show W0.heap.size ≤ w2.heap.size by omega) (.int .i64 0)).setCell (p := ⟨w2.heap.size, 2, none⟩) (show W0.heap.size ≤ w2.heap.size by omega) (.int .i64 0)).setCell (p := ⟨w2.heap.size, 3, none⟩) (show W0.heap.size ≤ w2.heap.size by omega) (.int .i64 0)).setCell (p := ⟨w2.heap.size, 4, none⟩) (show W0.heap.size ≤ w2.heap.size by omega) (.int .i64 0)).setCell (p := ⟨w2.heap.size, 5, none⟩) (show W0.heap.size ≤ w2.heap.size by omega) (.int .i64 0)).setCell (p := ⟨w2.heap.size, 6, none⟩) (show W0.heap.size ≤ w2.heap.size by omega) (.int .i64 0)).setCell (p := ⟨w2.heap.size, 7, none⟩) (show W0.heap.size ≤ w2.heap.size by omega) (.int .i64 0)).setCell (p := ⟨w2.heap.size, 8, none⟩) (show W0.heap.size ≤ w2.heap.size by omega) (.int .i64 0)
        clear hK KK
        try simp only [Act.put, List.setIfInBounds_toArray, List.set_cons_zero, List.set_cons_succ]
        refine wpAnyH_done (by as_aux_lemma => kernel_rfl) ?_ _
        refine NoPanic.normal ?_
        go_wp2_with fail
        go_meet
        exact ⟨_, rfl, (((((((((H7).setCell (p := ⟨w2.heap.size, 0, none⟩) (show W0.heap.size ≤ w2.heap.size by omega) (.int .i64 0)).setCell (p := ⟨w2.heap.size, 1, none⟩) (show W0.heap.size ≤ w2.heap.size by omega) (.int .i64 0)).setCell (p := ⟨w2.heap.size, 2, none⟩) (show W0.heap.size ≤ w2.heap.size by omega) (.int .i64 0)).setCell (p := ⟨w2.heap.size, 3, none⟩) (show W0.heap.size ≤ w2.heap.size by omega) (.int .i64 0)).setCell (p := ⟨w2.heap.size, 4, none⟩) (show W0.heap.size ≤ w2.heap.size by omega) (.int .i64 0)).setCell (p := ⟨w2.heap.size, 5, none⟩) (show W0.heap.size ≤ w2.heap.size by omega) (.int .i64 0)).setCell (p := ⟨w2.heap.size, 6, none⟩) (show W0.heap.size ≤ w2.heap.size by omega) (.int .i64 0)).setCell (p := ⟨w2.heap.size, 7, none⟩) (show W0.heap.size ≤ w2.heap.size by omega) (.int .i64 0)).setCell (p := ⟨w2.heap.size, 8, none⟩) (show W0.heap.size ≤ w2.heap.size by omega) (.int .i64 0), (((((((((OA).set 0 (.int .i64 0)).set 1 (.int .i64 0)).set 2 (.int .i64 0)).set 3 (.int .i64 0)).set 4 (.int .i64 0)).set 5 (.int .i64 0)).set 6 (.int .i64 0)).set 7 (.int .i64 0)).set 8 (.int .i64 0)⟩
    · skip
      rw [if_pos (by rfl)]
      go_simp
      refine hK.out _ _ ?_ (fun _hHeldA => ?_)
      · first | exact below1 W0 (.cells #[.int .i64 0, .int .i64 0, .int .i64 0, .int .i64 0, .int .i64 0, .int .i64 0, .int .i64 0, .int .i64 0, .int .i64 0] 25) | exact (below1 W0 (.cells #[.int .i64 0, .int .i64 0, .int .i64 0, .int .i64 0, .int .i64 0, .int .i64 0, .int .i64 0, .int .i64 0, .int .i64 0] 25)).drew
      clear hK KK
      try simp only [Act.put, List.setIfInBounds_toArray, List.set_cons_zero, List.set_cons_succ]
      refine wpAnyH_ready (rs := [1]) (by as_aux_lemma => kernel_rfl) (by simp) ?_
      refine AllReadyH.cons (o := ({ dst := some 12, op := .call { callee := .value (.func 19), args := #[.tmp 11, .const (.int .i64 3)], argTypes := #[25, 3] }, type := 25, pos := "law.go:53", after := #[{ on := 0, ground := .data }], guard := none } : Oper)) rfl (fun KK hK => ?_) AllReadyH.nil
      rw [if_pos (by rfl)]
      go_simp
      go_at_call 19; refine (K3.out _).mono ?_; rintro e w2 ⟨rfl, hb2⟩
      go_wp2_with fail
      refine hK.out _ _ ?_ (fun hHeld2 => ?_)
      · exact belowT (by assumption) hb2
      have OA := ((ownl W0 [.int .i64 0, .int .i64 0, .int .i64 0, .int .i64 0, .int .i64 0, .int .i64 0, .int .i64 0, .int .i64 0, .int .i64 0] 25).drew).keep hb2
      have H2 : Below W0.heap.size W0 w2 := by assumption
      have S2 := H2.size
      clear hK KK hb2
      try simp only [Act.put, List.setIfInBounds_toArray, List.set_cons_zero, List.set_cons_succ]
      refine wpAnyH_ready (rs := [5]) (by as_aux_lemma => kernel_rfl) (by simp) ?_
      refine AllReadyH.cons (o := ({ dst := some 16, op := .call { callee := .value (.func 19), args := #[.tmp 15, .const (.int .i64 2)], argTypes := #[25, 3] }, type := 25, pos := "law.go:53", after := #[{ on := 4, ground := .data }, { on := 1, ground := .chain }], guard := none } : Oper)) rfl (fun KK hK => ?_) AllReadyH.nil
      rw [if_pos (by rfl)]
      go_simp
      go_at_call 19; refine (K2.out _).mono ?_; rintro e w3 ⟨rfl, hb3⟩
      go_wp2_with fail
      refine hK.out _ _ ?_ (fun hHeld3 => ?_)
      · exact belowT (by assumption) hb3
      replace OA := (OA).keep hb3
      have H3 : Below W0.heap.size W0 w3 := by assumption
      have S3 := H3.size
      clear hK KK hb3
      try simp only [Act.put, List.setIfInBounds_toArray, List.set_cons_zero, List.set_cons_succ]
      refine wpAnyH_ready (rs := [6]) (by as_aux_lemma => kernel_rfl) (by simp) ?_
      refine AllReadyH.cons (o := ({ dst := some 17, op := .call { callee := .value (.func 18), args := #[.tmp 12, .tmp 14, .tmp 16], argTypes := #[25, 2, 25] }, type := 25, pos := "law.go:53", after := #[{ on := 1, ground := .data }, { on := 3, ground := .data }, { on := 5, ground := .data }, { on := 5, ground := .chain }], guard := none } : Oper)) rfl (fun KK hK => ?_) AllReadyH.nil
      rw [if_pos (by rfl)]
      go_simp
      go_at_call 18; refine (KA.out _).mono ?_; rintro e w4 ⟨rfl, hb4⟩
      go_wp2_with fail
      refine hK.out _ _ ?_ (fun hHeld4 => ?_)
      · exact belowT (by assumption) hb4
      replace OA := (OA).keep hb4
      have H4 : Below W0.heap.size W0 w4 := by assumption
      have S4 := H4.size
      clear hK KK hb4
      try simp only [Act.put, List.setIfInBounds_toArray, List.set_cons_zero, List.set_cons_succ]
      refine wpAnyH_ready (rs := [10]) (by as_aux_lemma => kernel_rfl) (by simp) ?_
      refine AllReadyH.cons (o := ({ dst := some 21, op := .call { callee := .value (.func 18), args := #[.tmp 17, .tmp 19, .tmp 20], argTypes := #[25, 2, 25] }, type := 25, pos := "law.go:53", after := #[{ on := 6, ground := .data }, { on := 8, ground := .data }, { on := 9, ground := .data }, { on := 6, ground := .chain }], guard := none } : Oper)) rfl (fun KK hK => ?_) AllReadyH.nil
      rw [if_pos (by rfl)]
      go_simp
      go_at_call 18; refine (KB.out _).mono ?_; rintro e w5 ⟨rfl, hb5⟩
      go_wp2_with fail
      refine hK.out _ _ ?_ (fun hHeld5 => ?_)
      · exact belowT (by assumption) hb5
      replace OA := (OA).keep hb5
      have H5 : Below W0.heap.size W0 w5 := by assumption
      have S5 := H5.size
      clear hK KK hb5
      try simp only [Act.put, List.setIfInBounds_toArray, List.set_cons_zero, List.set_cons_succ]
      refine wpAnyH_ready (rs := [13]) (by as_aux_lemma => kernel_rfl) (by simp) ?_
      refine AllReadyH.cons (o := ({ dst := some 24, op := .call { callee := .value (.func 9), args := #[.const (.int .i64 1)], argTypes := #[2] }, type := 25, pos := "law.go:53", after := #[{ on := 10, ground := .chain }], guard := none } : Oper)) rfl (fun KK hK => ?_) AllReadyH.nil
      rw [if_pos (by rfl)]
      go_simp
      go_at_call 9; refine (K1.out _).mono ?_; rintro e w6 ⟨rfl, hb6⟩
      go_wp2_with fail
      refine hK.out _ _ ?_ (fun hHeld6 => ?_)
      · exact belowT (by assumption) hb6
      replace OA := (OA).keep hb6
      have H6 : Below W0.heap.size W0 w6 := by assumption
      have S6 := H6.size
      clear hK KK hb6
      try simp only [Act.put, List.setIfInBounds_toArray, List.set_cons_zero, List.set_cons_succ]
      refine wpAnyH_ready (rs := [14]) (by as_aux_lemma => kernel_rfl) (by simp) ?_
      refine AllReadyH.cons (o := ({ dst := some 25, op := .call { callee := .value (.func 18), args := #[.tmp 21, .tmp 23, .tmp 24], argTypes := #[25, 2, 25] }, type := 25, pos := "law.go:53", after := #[{ on := 10, ground := .data }, { on := 12, ground := .data }, { on := 13, ground := .data }, { on := 13, ground := .chain }], guard := none } : Oper)) rfl (fun KK hK => ?_) AllReadyH.nil
      rw [if_pos (by rfl)]
      go_simp
      go_at_call 18; refine (KD.out _).mono ?_; rintro e w7 ⟨rfl, hb7⟩
      go_wp2_with fail
      refine hK.out _ _ ?_ (fun hHeld7 => ?_)
      · exact belowT (by assumption) hb7
      replace OA := (OA).keep hb7
      have H7 : Below W0.heap.size W0 w7 := by assumption
      have S7 := H7.size
      clear hK KK hb7
      try simp only [Act.put, List.setIfInBounds_toArray, List.set_cons_zero, List.set_cons_succ]
      refine wpAnyH_ready (rs := [16]) (by as_aux_lemma => kernel_rfl) (by simp) ?_
      refine AllReadyH.cons (o := ({ dst := none, op := .store 25 (.tmp 6) (.tmp 25), type := 0, pos := "law.go:53", after := #[{ on := 15, ground := .data }, { on := 14, ground := .data }, { on := 14, ground := .chain }, { on := 0, ground := .phase }, { on := 1, ground := .phase }, { on := 2, ground := .phase }, { on := 3, ground := .phase }, { on := 4, ground := .phase }, { on := 5, ground := .phase }, { on := 6, ground := .phase }, { on := 7, ground := .phase }, { on := 8, ground := .phase }, { on := 9, ground := .phase }, { on := 10, ground := .phase }, { on := 11, ground := .phase }, { on := 12, ground := .phase }, { on := 13, ground := .phase }, { on := 14, ground := .phase }, { on := 15, ground := .phase }], guard := none } : Oper)) rfl (fun KK hK => ?_) AllReadyH.nil
      rw [if_pos (by rfl)]
      have p0 := (OA).1.at 0 rfl
      have q0 := (OA).2 0 (by simp)
      have p1 := (OA).1.at 1 rfl
      have q1 := (OA).2 1 (by simp)
      have p2 := (OA).1.at 2 rfl
      have q2 := (OA).2 2 (by simp)
      have p3 := (OA).1.at 3 rfl
      have q3 := (OA).2 3 (by simp)
      have p4 := (OA).1.at 4 rfl
      have q4 := (OA).2 4 (by simp)
      have p5 := (OA).1.at 5 rfl
      have q5 := (OA).2 5 (by simp)
      have p6 := (OA).1.at 6 rfl
      have q6 := (OA).2 6 (by simp)
      have p7 := (OA).1.at 7 rfl
      have q7 := (OA).2 7 (by simp)
      have p8 := (OA).1.at 8 rfl
      have q8 := (OA).2 8 (by simp)
      go_simp
      refine hK.out _ _ ?_ (fun _hHeldS => ?_)
      · exact (((((((((H7).setCell (p := ⟨W0.heap.size, 0, none⟩) (show W0.heap.size ≤ W0.heap.size by omega) (.int .i64 0)).setCell (p := ⟨W0.heap.size, 1, none⟩) (show W0.heap.size ≤ W0.heap.size by omega) (.int .i64 0)).setCell (p := ⟨W0.heap.size, 2, none⟩) (show W0.heap.size ≤ W0.heap.size by omega) (.int .i64 0)).setCell (p := ⟨W0.heap.size, 3, none⟩) (show W0.heap.size ≤ W0.heap.size by omega) (.int .i64 0)).setCell (p := ⟨W0.heap.size, 4, none⟩) (show W0.heap.size ≤ W0.heap.size by omega) (.int .i64 0)).setCell (p := ⟨W0.heap.size, 5, none⟩) (show W0.heap.size ≤ W0.heap.size by omega) (.int .i64 0)).setCell (p := ⟨W0.heap.size, 6, none⟩) (show W0.heap.size ≤ W0.heap.size by omega) (.int .i64 0)).setCell (p := ⟨W0.heap.size, 7, none⟩) (show W0.heap.size ≤ W0.heap.size by omega) (.int .i64 0)).setCell (p := ⟨W0.heap.size, 8, none⟩) (show W0.heap.size ≤ W0.heap.size by omega) (.int .i64 0)
      clear hK KK
      try simp only [Act.put, List.setIfInBounds_toArray, List.set_cons_zero, List.set_cons_succ]
      refine wpAnyH_done (by as_aux_lemma => kernel_rfl) ?_ _
      refine NoPanic.normal ?_
      go_wp2_with fail
      go_meet
      exact ⟨_, rfl, (((((((((H7).setCell (p := ⟨W0.heap.size, 0, none⟩) (show W0.heap.size ≤ W0.heap.size by omega) (.int .i64 0)).setCell (p := ⟨W0.heap.size, 1, none⟩) (show W0.heap.size ≤ W0.heap.size by omega) (.int .i64 0)).setCell (p := ⟨W0.heap.size, 2, none⟩) (show W0.heap.size ≤ W0.heap.size by omega) (.int .i64 0)).setCell (p := ⟨W0.heap.size, 3, none⟩) (show W0.heap.size ≤ W0.heap.size by omega) (.int .i64 0)).setCell (p := ⟨W0.heap.size, 4, none⟩) (show W0.heap.size ≤ W0.heap.size by omega) (.int .i64 0)).setCell (p := ⟨W0.heap.size, 5, none⟩) (show W0.heap.size ≤ W0.heap.size by omega) (.int .i64 0)).setCell (p := ⟨W0.heap.size, 6, none⟩) (show W0.heap.size ≤ W0.heap.size by omega) (.int .i64 0)).setCell (p := ⟨W0.heap.size, 7, none⟩) (show W0.heap.size ≤ W0.heap.size by omega) (.int .i64 0)).setCell (p := ⟨W0.heap.size, 8, none⟩) (show W0.heap.size ≤ W0.heap.size by omega) (.int .i64 0), (((((((((OA).set 0 (.int .i64 0)).set 1 (.int .i64 0)).set 2 (.int .i64 0)).set 3 (.int .i64 0)).set 4 (.int .i64 0)).set 5 (.int .i64 0)).set 6 (.int .i64 0)).set 7 (.int .i64 0)).set 8 (.int .i64 0)⟩
  case rest =>
    rename World => W1
    obtain ⟨X, rfl, B1, OX⟩ := hcut
    have pa0 : ∀ w', Below W1.heap.size W1 w' → w'.cell? ⟨w.heap.size, 0, none⟩ = some (.int .i64 a.a.x.toInt) := fun w' h => ma0 w' (belowT B1 h)
    have pa1 : ∀ w', Below W1.heap.size W1 w' → w'.cell? ⟨w.heap.size, 1, none⟩ = some (.int .i64 a.a.y.toInt) := fun w' h => ma1 w' (belowT B1 h)
    have pa2 : ∀ w', Below W1.heap.size W1 w' → w'.cell? ⟨w.heap.size, 2, none⟩ = some (.int .i64 a.a.z.toInt) := fun w' h => ma2 w' (belowT B1 h)
    have pa3 : ∀ w', Below W1.heap.size W1 w' → w'.cell? ⟨w.heap.size, 3, none⟩ = some (.int .i64 a.b.x.toInt) := fun w' h => ma3 w' (belowT B1 h)
    have pa4 : ∀ w', Below W1.heap.size W1 w' → w'.cell? ⟨w.heap.size, 4, none⟩ = some (.int .i64 a.b.y.toInt) := fun w' h => ma4 w' (belowT B1 h)
    have pa5 : ∀ w', Below W1.heap.size W1 w' → w'.cell? ⟨w.heap.size, 5, none⟩ = some (.int .i64 a.b.z.toInt) := fun w' h => ma5 w' (belowT B1 h)
    have pa6 : ∀ w', Below W1.heap.size W1 w' → w'.cell? ⟨w.heap.size, 6, none⟩ = some (.int .i64 a.c.x.toInt) := fun w' h => ma6 w' (belowT B1 h)
    have pa7 : ∀ w', Below W1.heap.size W1 w' → w'.cell? ⟨w.heap.size, 7, none⟩ = some (.int .i64 a.c.y.toInt) := fun w' h => ma7 w' (belowT B1 h)
    have pa8 : ∀ w', Below W1.heap.size W1 w' → w'.cell? ⟨w.heap.size, 8, none⟩ = some (.int .i64 a.c.z.toInt) := fun w' h => ma8 w' (belowT B1 h)
    have pn0 : ∀ w', Below W1.heap.size W1 w' → w'.cell? ⟨w.heap.size + 1, 0, none⟩ = some (.int .i64 n0) := fun w' h => mn0 w' (belowT B1 h)
    have pn1 : ∀ w', Below W1.heap.size W1 w' → w'.cell? ⟨w.heap.size + 1, 1, none⟩ = some (.int .i64 n1) := fun w' h => mn1 w' (belowT B1 h)
    have px0 : ∀ w', Below W1.heap.size W1 w' → w'.cell? ⟨X, 0, none⟩ = some (.int .i64 0) := fun w' h => (OX.keep h).1.at 0 rfl
    have px1 : ∀ w', Below W1.heap.size W1 w' → w'.cell? ⟨X, 1, none⟩ = some (.int .i64 0) := fun w' h => (OX.keep h).1.at 1 rfl
    have px2 : ∀ w', Below W1.heap.size W1 w' → w'.cell? ⟨X, 2, none⟩ = some (.int .i64 0) := fun w' h => (OX.keep h).1.at 2 rfl
    have px3 : ∀ w', Below W1.heap.size W1 w' → w'.cell? ⟨X, 3, none⟩ = some (.int .i64 0) := fun w' h => (OX.keep h).1.at 3 rfl
    have px4 : ∀ w', Below W1.heap.size W1 w' → w'.cell? ⟨X, 4, none⟩ = some (.int .i64 0) := fun w' h => (OX.keep h).1.at 4 rfl
    have px5 : ∀ w', Below W1.heap.size W1 w' → w'.cell? ⟨X, 5, none⟩ = some (.int .i64 0) := fun w' h => (OX.keep h).1.at 5 rfl
    have px6 : ∀ w', Below W1.heap.size W1 w' → w'.cell? ⟨X, 6, none⟩ = some (.int .i64 0) := fun w' h => (OX.keep h).1.at 6 rfl
    have px7 : ∀ w', Below W1.heap.size W1 w' → w'.cell? ⟨X, 7, none⟩ = some (.int .i64 0) := fun w' h => (OX.keep h).1.at 7 rfl
    have px8 : ∀ w', Below W1.heap.size W1 w' → w'.cell? ⟨X, 8, none⟩ = some (.int .i64 0) := fun w' h => (OX.keep h).1.at 8 rfl
    have D1 := belowT D3 B1
    have C1 := Below.refl W1.heap.size W1
    clear D3 B1 OX ma0 ma1 ma2 ma3 ma4 ma5 ma6 ma7 ma8 mn0 mn1 mk0 mk1 mk2
    go_upto_region 3 with fail
    change (Code.region 3 mchar3 true).wp Try.prog _ _ _
    refine wp_region_noPanic ?_
    refine wp_region_held_drew (S := fun w' => Below W1.heap.size W1 w') (by kernel_rfl) ((C1).drew) (fun hHeld => ?_)
    refine wpAnyH_take (i := 0) (oi := ({ dst := some 26, op := .indexAddr 37 (.tmp 3) (.const (.int .i64 0)), type := 0, pos := "law.go:54", after := #[], guard := none } : Oper)) (v := ?vs6_0) rfl mchar3_plain (by as_aux_lemma => kernel_rfl) (by as_aux_lemma => kernel_rfl) (fun _ _ _ h => h) (Or.inl ⟨by rfl, ?ys6_0⟩) (by assumption) ?rs6_0
    case ys6_0 => (intro w hSw; (try dsimp only at hSw); go_simp; try with_reducible rfl)
    try simp only [Act.put, List.setIfInBounds_toArray, List.set_cons_zero, List.set_cons_succ]
    refine wpAnyH_take (i := 1) (oi := ({ dst := some 27, op := .load 3 (.tmp 26), type := 3, pos := "law.go:54", after := #[{ on := 0, ground := .data }], guard := none } : Oper)) (v := ?vs6_1) rfl mchar3_plain (by as_aux_lemma => kernel_rfl) (by as_aux_lemma => kernel_rfl) (fun _ _ _ h => h) (Or.inl ⟨by rfl, ?ys6_1⟩) (by assumption) ?rs6_1
    case ys6_1 => (intro w hSw; (try dsimp only at hSw); go_simp; try with_reducible rfl)
    try simp only [Act.put, List.setIfInBounds_toArray, List.set_cons_zero, List.set_cons_succ]
    refine wpAnyH_take (i := 2) (oi := ({ dst := some 28, op := .convert 3 41 (.tmp 27), type := 41, pos := "law.go:54", after := #[{ on := 1, ground := .data }], guard := none } : Oper)) (v := ?vs6_2) rfl mchar3_plain (by as_aux_lemma => kernel_rfl) (by as_aux_lemma => kernel_rfl) (fun _ _ _ h => h) (Or.inl ⟨by rfl, ?ys6_2⟩) (by assumption) ?rs6_2
    case ys6_2 => (intro w hSw; (try dsimp only at hSw); go_simp; try with_reducible rfl)
    try simp only [Act.put, List.setIfInBounds_toArray, List.set_cons_zero, List.set_cons_succ]
    refine wpAnyH_take (i := 3) (oi := ({ dst := some 29, op := .binOp .rem 41 (.tmp 28) (.const (.int .u64 20)) 41, type := 41, pos := "law.go:54", after := #[{ on := 2, ground := .data }], guard := none } : Oper)) (v := ?vs6_3) rfl mchar3_plain (by as_aux_lemma => kernel_rfl) (by as_aux_lemma => kernel_rfl) (fun _ _ _ h => h) (Or.inl ⟨by rfl, ?ys6_3⟩) (by assumption) ?rs6_3
    case ys6_3 => (intro w hSw; (try dsimp only at hSw); go_simp; try with_reducible rfl)
    try simp only [Act.put, List.setIfInBounds_toArray, List.set_cons_zero, List.set_cons_succ]
    refine wpAnyH_take (i := 4) (oi := ({ dst := some 30, op := .convert 41 3 (.tmp 29), type := 3, pos := "law.go:54", after := #[{ on := 3, ground := .data }], guard := none } : Oper)) (v := ?vs6_4) rfl mchar3_plain (by as_aux_lemma => kernel_rfl) (by as_aux_lemma => kernel_rfl) (fun _ _ _ h => h) (Or.inl ⟨by rfl, ?ys6_4⟩) (by assumption) ?rs6_4
    case ys6_4 => (intro w hSw; (try dsimp only at hSw); go_simp; try with_reducible rfl)
    try simp only [Act.put, List.setIfInBounds_toArray, List.set_cons_zero, List.set_cons_succ]
    refine wpAnyH_take (i := 5) (oi := ({ dst := some 31, op := .indexAddr 37 (.tmp 3) (.const (.int .i64 1)), type := 0, pos := "law.go:54", after := #[{ on := 10, ground := .gcOnly Go.Departure.lateStores }], guard := none } : Oper)) (v := ?vs6_5) rfl mchar3_plain (by as_aux_lemma => kernel_rfl) (by as_aux_lemma => kernel_rfl) (fun _ _ _ h => h) (Or.inl ⟨by rfl, ?ys6_5⟩) (by assumption) ?rs6_5
    case ys6_5 => (intro w hSw; (try dsimp only at hSw); go_simp; try with_reducible rfl)
    try simp only [Act.put, List.setIfInBounds_toArray, List.set_cons_zero, List.set_cons_succ]
    refine wpAnyH_take (i := 6) (oi := ({ dst := some 32, op := .load 3 (.tmp 31), type := 3, pos := "law.go:54", after := #[{ on := 5, ground := .data }, { on := 10, ground := .gcOnly Go.Departure.lateStores }], guard := none } : Oper)) (v := ?vs6_6) rfl mchar3_plain (by as_aux_lemma => kernel_rfl) (by as_aux_lemma => kernel_rfl) (fun _ _ _ h => h) (Or.inl ⟨by rfl, ?ys6_6⟩) (by assumption) ?rs6_6
    case ys6_6 => (intro w hSw; (try dsimp only at hSw); go_simp; try with_reducible rfl)
    try simp only [Act.put, List.setIfInBounds_toArray, List.set_cons_zero, List.set_cons_succ]
    refine wpAnyH_take (i := 7) (oi := ({ dst := some 33, op := .convert 3 41 (.tmp 32), type := 41, pos := "law.go:54", after := #[{ on := 6, ground := .data }, { on := 10, ground := .gcOnly Go.Departure.lateStores }], guard := none } : Oper)) (v := ?vs6_7) rfl mchar3_plain (by as_aux_lemma => kernel_rfl) (by as_aux_lemma => kernel_rfl) (fun _ _ _ h => h) (Or.inl ⟨by rfl, ?ys6_7⟩) (by assumption) ?rs6_7
    case ys6_7 => (intro w hSw; (try dsimp only at hSw); go_simp; try with_reducible rfl)
    try simp only [Act.put, List.setIfInBounds_toArray, List.set_cons_zero, List.set_cons_succ]
    refine wpAnyH_take (i := 8) (oi := ({ dst := some 34, op := .binOp .rem 41 (.tmp 33) (.const (.int .u64 20)) 41, type := 41, pos := "law.go:54", after := #[{ on := 7, ground := .data }, { on := 10, ground := .gcOnly Go.Departure.lateStores }], guard := none } : Oper)) (v := ?vs6_8) rfl mchar3_plain (by as_aux_lemma => kernel_rfl) (by as_aux_lemma => kernel_rfl) (fun _ _ _ h => h) (Or.inl ⟨by rfl, ?ys6_8⟩) (by assumption) ?rs6_8
    case ys6_8 => (intro w hSw; (try dsimp only at hSw); go_simp; try with_reducible rfl)
    try simp only [Act.put, List.setIfInBounds_toArray, List.set_cons_zero, List.set_cons_succ]
    refine wpAnyH_take (i := 9) (oi := ({ dst := some 35, op := .convert 41 3 (.tmp 34), type := 3, pos := "law.go:54", after := #[{ on := 8, ground := .data }, { on := 10, ground := .gcOnly Go.Departure.lateStores }], guard := none } : Oper)) (v := ?vs6_9) rfl mchar3_plain (by as_aux_lemma => kernel_rfl) (by as_aux_lemma => kernel_rfl) (fun _ _ _ h => h) (Or.inl ⟨by rfl, ?ys6_9⟩) (by assumption) ?rs6_9
    case ys6_9 => (intro w hSw; (try dsimp only at hSw); go_simp; try with_reducible rfl)
    try simp only [Act.put, List.setIfInBounds_toArray, List.set_cons_zero, List.set_cons_succ]
    refine wpAnyH_take (i := 10) (oi := ({ dst := some 7, op := .assign (.tmp 30), type := 3, pos := "law.go:54", after := #[{ on := 4, ground := .data }, { on := 0, ground := .phase }, { on := 1, ground := .phase }, { on := 2, ground := .phase }, { on := 3, ground := .phase }, { on := 4, ground := .phase }, { on := 5, ground := .textOnly Go.Departure.lateStores }, { on := 6, ground := .textOnly Go.Departure.lateStores }, { on := 7, ground := .textOnly Go.Departure.lateStores }, { on := 8, ground := .textOnly Go.Departure.lateStores }, { on := 9, ground := .textOnly Go.Departure.lateStores }], guard := none } : Oper)) (v := ?vs6_10) rfl mchar3_plain (by as_aux_lemma => kernel_rfl) (by as_aux_lemma => kernel_rfl) (fun _ _ _ h => h) (Or.inl ⟨by rfl, ?ys6_10⟩) (by assumption) ?rs6_10
    case ys6_10 => (intro w hSw; (try dsimp only at hSw); go_simp; try with_reducible rfl)
    try simp only [Act.put, List.setIfInBounds_toArray, List.set_cons_zero, List.set_cons_succ]
    refine wpAnyH_take (i := 11) (oi := ({ dst := some 8, op := .assign (.tmp 35), type := 3, pos := "law.go:54", after := #[{ on := 9, ground := .data }, { on := 10, ground := .chain }, { on := 0, ground := .phase }, { on := 1, ground := .phase }, { on := 2, ground := .phase }, { on := 3, ground := .phase }, { on := 4, ground := .phase }, { on := 5, ground := .phase }, { on := 6, ground := .phase }, { on := 7, ground := .phase }, { on := 8, ground := .phase }, { on := 9, ground := .phase }, { on := 10, ground := .phase }], guard := none } : Oper)) (v := ?vs6_11) rfl mchar3_plain (by as_aux_lemma => kernel_rfl) (by as_aux_lemma => kernel_rfl) (fun _ _ _ h => h) (Or.inl ⟨by rfl, ?ys6_11⟩) (by assumption) ?rs6_11
    case ys6_11 => (intro w hSw; (try dsimp only at hSw); go_simp; try with_reducible rfl)
    try simp only [Act.put, List.setIfInBounds_toArray, List.set_cons_zero, List.set_cons_succ]
    refine wpAnyH_done (by as_aux_lemma => kernel_rfl) ?_ _
    refine NoPanic.normal ?_
    go_upto_region 4 with fail
    have C2 : Below W1.heap.size W1 W1.drew := C1.drew
    change (Code.region 4 mchar4 true).wp Try.prog _ _ _
    refine wp_region_noPanic ?_
    refine wp_region_held_drew (S := fun w' => Below W1.heap.size W1 w') (by kernel_rfl) ((C2).drew) (fun hHeld => ?_)
    refine wpAnyH_take (i := 0) (oi := ({ dst := some 36, op := .load 25 (.tmp 6), type := 25, pos := "law.go:55", after := #[], guard := none } : Oper)) (v := ?vs7_0) rfl mchar4_plain (by as_aux_lemma => kernel_rfl) (by as_aux_lemma => kernel_rfl) (fun _ _ _ h => h) (Or.inl ⟨by rfl, ?ys7_0⟩) (by assumption) ?rs7_0
    case ys7_0 => (intro w hSw; (try dsimp only at hSw); go_simp; try with_reducible rfl)
    try simp only [Act.put, List.setIfInBounds_toArray, List.set_cons_zero, List.set_cons_succ]
    refine wpAnyH_take (i := 1) (oi := ({ dst := some 37, op := .build 25 #[], type := 25, pos := "law.go:55", after := #[], guard := none } : Oper)) (v := ?vs7_1) rfl mchar4_plain (by as_aux_lemma => kernel_rfl) (by as_aux_lemma => kernel_rfl) (fun _ _ _ h => h) (Or.inl ⟨by rfl, ?ys7_1⟩) (by assumption) ?rs7_1
    case ys7_1 => (intro w hSw; (try dsimp only at hSw); go_simp; try with_reducible rfl)
    try simp only [Act.put, List.setIfInBounds_toArray, List.set_cons_zero, List.set_cons_succ]
    refine wpAnyH_take (i := 2) (oi := ({ dst := some 38, op := .binOp .eql 25 (.tmp 36) (.tmp 37) 25, type := 4, pos := "law.go:55", after := #[{ on := 0, ground := .data }, { on := 1, ground := .data }], guard := none } : Oper)) (v := ?vs7_2) rfl mchar4_plain (by as_aux_lemma => kernel_rfl) (by as_aux_lemma => kernel_rfl) (fun _ _ _ h => h) (Or.inl ⟨by rfl, ?ys7_2⟩) (by assumption) ?rs7_2
    case ys7_2 => (intro w hSw; (try dsimp only at hSw); go_simp; try with_reducible rfl)
    try simp only [Act.put, List.setIfInBounds_toArray, List.set_cons_zero, List.set_cons_succ]
    refine wpAnyH_take (i := 3) (oi := ({ dst := some 39, op := .move (.tmp 38), type := 4, pos := "law.go:55", after := #[{ on := 2, ground := .data }], guard := none } : Oper)) (v := ?vs7_3) rfl mchar4_plain (by as_aux_lemma => kernel_rfl) (by as_aux_lemma => kernel_rfl) (fun _ _ _ h => h) (Or.inl ⟨by rfl, ?ys7_3⟩) (by assumption) ?rs7_3
    case ys7_3 => (intro w hSw; (try dsimp only at hSw); go_simp; try with_reducible rfl)
    try simp only [Act.put, List.setIfInBounds_toArray, List.set_cons_zero, List.set_cons_succ]
    refine wpAnyH_take (i := 4) (oi := ({ dst := some 40, op := .load 25 (.tmp 2), type := 25, pos := "law.go:55", after := #[{ on := 3, ground := .guard }], guard := some (3, true) } : Oper)) (v := ?vs7_4) rfl mchar4_plain (by as_aux_lemma => kernel_rfl) (by as_aux_lemma => kernel_rfl) (fun _ _ _ h => h) (Or.inl ⟨by rfl, ?ys7_4⟩) (by assumption) ?rs7_4
    case ys7_4 => (intro w hSw; (try dsimp only at hSw); go_simp; try with_reducible rfl)
    try simp only [Act.put, List.setIfInBounds_toArray, List.set_cons_zero, List.set_cons_succ]
    refine wpAnyH_take (i := 5) (oi := ({ dst := some 41, op := .move (.tmp 7), type := 3, pos := "law.go:55", after := #[{ on := 3, ground := .guard }], guard := some (3, true) } : Oper)) (v := ?vs7_5) rfl mchar4_plain (by as_aux_lemma => kernel_rfl) (by as_aux_lemma => kernel_rfl) (fun _ _ _ h => h) (Or.inl ⟨by rfl, ?ys7_5⟩) (by assumption) ?rs7_5
    case ys7_5 => (intro w hSw; (try dsimp only at hSw); go_simp; try with_reducible rfl)
    try simp only [Act.put, List.setIfInBounds_toArray, List.set_cons_zero, List.set_cons_succ]
    refine wpAnyH_take (i := 7) (oi := ({ dst := some 43, op := .load 25 (.tmp 2), type := 25, pos := "law.go:55", after := #[{ on := 3, ground := .guard }], guard := some (3, true) } : Oper)) (v := ?vs7_7) rfl mchar4_plain (by as_aux_lemma => kernel_rfl) (by as_aux_lemma => kernel_rfl) (fun _ _ _ h => h) (Or.inl ⟨by rfl, ?ys7_7⟩) (by assumption) ?rs7_7
    case ys7_7 => (intro w hSw; (try dsimp only at hSw); go_simp; try with_reducible rfl)
    try simp only [Act.put, List.setIfInBounds_toArray, List.set_cons_zero, List.set_cons_succ]
    refine wpAnyH_take (i := 8) (oi := ({ dst := some 44, op := .move (.tmp 8), type := 3, pos := "law.go:55", after := #[{ on := 3, ground := .guard }], guard := some (3, true) } : Oper)) (v := ?vs7_8) rfl mchar4_plain (by as_aux_lemma => kernel_rfl) (by as_aux_lemma => kernel_rfl) (fun _ _ _ h => h) (Or.inl ⟨by rfl, ?ys7_8⟩) (by assumption) ?rs7_8
    case ys7_8 => (intro w hSw; (try dsimp only at hSw); go_simp; try with_reducible rfl)
    try simp only [Act.put, List.setIfInBounds_toArray, List.set_cons_zero, List.set_cons_succ]
    refine wpAnyH_take (i := 11) (oi := ({ dst := some 47, op := .load 25 (.tmp 2), type := 25, pos := "law.go:55", after := #[{ on := 3, ground := .guard }], guard := some (3, true) } : Oper)) (v := ?vs7_11) rfl mchar4_plain (by as_aux_lemma => kernel_rfl) (by as_aux_lemma => kernel_rfl) (fun _ _ _ h => h) (Or.inl ⟨by rfl, ?ys7_11⟩) (by assumption) ?rs7_11
    case ys7_11 => (intro w hSw; (try dsimp only at hSw); go_simp; try with_reducible rfl)
    try simp only [Act.put, List.setIfInBounds_toArray, List.set_cons_zero, List.set_cons_succ]
    refine wpAnyH_take (i := 12) (oi := ({ dst := some 48, op := .move (.tmp 7), type := 3, pos := "law.go:55", after := #[{ on := 3, ground := .guard }], guard := some (3, true) } : Oper)) (v := ?vs7_12) rfl mchar4_plain (by as_aux_lemma => kernel_rfl) (by as_aux_lemma => kernel_rfl) (fun _ _ _ h => h) (Or.inl ⟨by rfl, ?ys7_12⟩) (by assumption) ?rs7_12
    case ys7_12 => (intro w hSw; (try dsimp only at hSw); go_simp; try with_reducible rfl)
    try simp only [Act.put, List.setIfInBounds_toArray, List.set_cons_zero, List.set_cons_succ]
    refine wpAnyH_take (i := 13) (oi := ({ dst := some 49, op := .move (.tmp 8), type := 3, pos := "law.go:55", after := #[{ on := 3, ground := .guard }], guard := some (3, true) } : Oper)) (v := ?vs7_13) rfl mchar4_plain (by as_aux_lemma => kernel_rfl) (by as_aux_lemma => kernel_rfl) (fun _ _ _ h => h) (Or.inl ⟨by rfl, ?ys7_13⟩) (by assumption) ?rs7_13
    case ys7_13 => (intro w hSw; (try dsimp only at hSw); go_simp; try with_reducible rfl)
    try simp only [Act.put, List.setIfInBounds_toArray, List.set_cons_zero, List.set_cons_succ]
    refine wpAnyH_take (i := 14) (oi := ({ dst := some 50, op := .binOp .add 3 (.tmp 48) (.tmp 49) 3, type := 3, pos := "law.go:55", after := #[{ on := 12, ground := .data }, { on := 13, ground := .data }, { on := 3, ground := .guard }], guard := some (3, true) } : Oper)) (v := ?vs7_14) rfl mchar4_plain (by as_aux_lemma => kernel_rfl) (by as_aux_lemma => kernel_rfl) (fun _ _ _ h => h) (Or.inl ⟨by rfl, ?ys7_14⟩) (by assumption) ?rs7_14
    case ys7_14 => (intro w hSw; (try dsimp only at hSw); go_simp; try with_reducible rfl)
    try simp only [Act.put, List.setIfInBounds_toArray, List.set_cons_zero, List.set_cons_succ]
    refine wpAnyH_ready (rs := [6]) (by as_aux_lemma => kernel_rfl) (by simp) ?_
    refine AllReadyH.cons (o := ({ dst := some 42, op := .call { callee := .value (.func 19), args := #[.tmp 40, .tmp 41], argTypes := #[25, 3] }, type := 25, pos := "law.go:55", after := #[{ on := 4, ground := .data }, { on := 5, ground := .data }, { on := 3, ground := .chain }, { on := 3, ground := .guard }], guard := some (3, true) } : Oper)) rfl (fun KK hK => ?_) AllReadyH.nil
    rw [if_pos (by rfl)]
    go_simp
    go_at_call 19; refine (KN.out _).mono ?_; rintro e w3 ⟨rfl, hb3⟩
    go_wp2_with fail
    refine hK.out _ _ ?_ (fun hHeld3 => ?_)
    · exact belowT (by assumption) hb3
    clear hK KK hb3
    try simp only [Act.put, List.setIfInBounds_toArray, List.set_cons_zero, List.set_cons_succ]
    refine wpAnyH_ready (rs := [9]) (by as_aux_lemma => kernel_rfl) (by simp) ?_
    refine AllReadyH.cons (o := ({ dst := some 45, op := .call { callee := .value (.func 19), args := #[.tmp 43, .tmp 44], argTypes := #[25, 3] }, type := 25, pos := "law.go:55", after := #[{ on := 7, ground := .data }, { on := 8, ground := .data }, { on := 6, ground := .chain }, { on := 3, ground := .guard }], guard := some (3, true) } : Oper)) rfl (fun KK hK => ?_) AllReadyH.nil
    rw [if_pos (by rfl)]
    go_simp
    go_at_call 19; refine (KM.out _).mono ?_; rintro e w4 ⟨rfl, hb4⟩
    go_wp2_with fail
    refine hK.out _ _ ?_ (fun hHeld4 => ?_)
    · exact belowT (by assumption) hb4
    clear hK KK hb4 hHeld3
    try simp only [Act.put, List.setIfInBounds_toArray, List.set_cons_zero, List.set_cons_succ]
    refine wpAnyH_ready (rs := [10]) (by as_aux_lemma => kernel_rfl) (by simp) ?_
    refine AllReadyH.cons (o := ({ dst := some 46, op := .call { callee := .value (.func 11), args := #[.tmp 42, .tmp 45], argTypes := #[25, 25] }, type := 25, pos := "law.go:55", after := #[{ on := 6, ground := .data }, { on := 9, ground := .data }, { on := 9, ground := .chain }, { on := 3, ground := .guard }], guard := some (3, true) } : Oper)) rfl (fun KK hK => ?_) AllReadyH.nil
    rw [if_pos (by rfl)]
    go_simp
    go_at_call 11; refine (KX.out _).mono ?_; rintro e w5 ⟨rfl, hb5⟩
    go_wp2_with fail
    refine hK.out _ _ ?_ (fun hHeld5 => ?_)
    · exact belowT (by assumption) hb5
    clear hK KK hb5 hHeld4
    try simp only [Act.put, List.setIfInBounds_toArray, List.set_cons_zero, List.set_cons_succ]
    refine wpAnyH_ready (rs := [15]) (by as_aux_lemma => kernel_rfl) (by simp) ?_
    refine AllReadyH.cons (o := ({ dst := some 51, op := .call { callee := .value (.func 19), args := #[.tmp 47, .tmp 50], argTypes := #[25, 3] }, type := 25, pos := "law.go:55", after := #[{ on := 11, ground := .data }, { on := 14, ground := .data }, { on := 10, ground := .chain }, { on := 3, ground := .guard }], guard := some (3, true) } : Oper)) rfl (fun KK hK => ?_) AllReadyH.nil
    rw [if_pos (by rfl)]
    go_simp
    go_at_call 19; refine (KS.out _).mono ?_; rintro e w6 ⟨rfl, hb6⟩
    go_wp2_with fail
    refine hK.out _ _ ?_ (fun hHeld6 => ?_)
    · exact belowT (by assumption) hb6
    clear hK KK hb6 hHeld5
    try simp only [Act.put, List.setIfInBounds_toArray, List.set_cons_zero, List.set_cons_succ]
    refine wpAnyH_take (i := 16) (oi := ({ dst := some 52, op := .binOp .eql 25 (.tmp 46) (.tmp 51) 25, type := 4, pos := "law.go:55", after := #[{ on := 10, ground := .data }, { on := 15, ground := .data }, { on := 3, ground := .guard }], guard := some (3, true) } : Oper)) (v := ?vs7_16) rfl mchar4_plain (by as_aux_lemma => kernel_rfl) (by as_aux_lemma => kernel_rfl) (fun _ _ _ h => h) (Or.inl ⟨by rfl, ?ys7_16⟩) (by assumption) ?rs7_16
    case ys7_16 => (intro w hSw; (try dsimp only at hSw); go_simp; try with_reducible rfl)
    try simp only [Act.put, List.setIfInBounds_toArray, List.set_cons_zero, List.set_cons_succ]
    refine wpAnyH_take (i := 17) (oi := ({ dst := some 53, op := .pick (.tmp 39) (.tmp 52) (.const (.bool false)), type := 4, pos := "law.go:55", after := #[{ on := 3, ground := .data }, { on := 16, ground := .data }], guard := none } : Oper)) (v := ?vs7_17) rfl mchar4_plain (by as_aux_lemma => kernel_rfl) (by as_aux_lemma => kernel_rfl) (fun _ _ _ h => h) (Or.inl ⟨by rfl, ?ys7_17⟩) (by assumption) ?rs7_17
    case ys7_17 => (intro w hSw; (try dsimp only at hSw); go_simp; try with_reducible rfl)
    try simp only [Act.put, List.setIfInBounds_toArray, List.set_cons_zero, List.set_cons_succ]
    refine wpAnyH_take (i := 18) (oi := ({ dst := some 54, op := .move (.tmp 53), type := 4, pos := "law.go:55", after := #[{ on := 17, ground := .data }, { on := 15, ground := .chain }], guard := none } : Oper)) (v := ?vs7_18) rfl mchar4_plain (by as_aux_lemma => kernel_rfl) (by as_aux_lemma => kernel_rfl) (fun _ _ _ h => h) (Or.inl ⟨by rfl, ?ys7_18⟩) (by assumption) ?rs7_18
    case ys7_18 => (intro w hSw; (try dsimp only at hSw); go_simp; try with_reducible rfl)
    try simp only [Act.put, List.setIfInBounds_toArray, List.set_cons_zero, List.set_cons_succ]
    refine wpAnyH_ready (rs := [19]) (by as_aux_lemma => kernel_rfl) (by simp) ?_
    refine AllReadyH.cons (o := ({ dst := some 55, op := .call { callee := .value (.func 14), args := #[], argTypes := #[] }, type := 4, pos := "law.go:55", after := #[{ on := 18, ground := .chain }, { on := 18, ground := .guard }], guard := some (18, true) } : Oper)) rfl (fun KK hK => ?_) AllReadyH.nil
    rw [if_pos (by rfl)]
    go_simp
    go_at_call 14; refine (AW.out _).mono ?_; rintro e w7 ⟨rfl, hb7⟩
    go_wp2_with fail
    refine hK.out _ _ ?_ (fun hHeld7 => ?_)
    · exact belowT (by assumption) hb7
    clear hK KK hb7 hHeld6
    try simp only [Act.put, List.setIfInBounds_toArray, List.set_cons_zero, List.set_cons_succ]
    refine wpAnyH_take (i := 20) (oi := ({ dst := some 56, op := .pick (.tmp 54) (.tmp 55) (.const (.bool false)), type := 4, pos := "law.go:55", after := #[{ on := 18, ground := .data }, { on := 19, ground := .data }], guard := none } : Oper)) (v := ?vs7_20) rfl mchar4_plain (by as_aux_lemma => kernel_rfl) (by as_aux_lemma => kernel_rfl) (fun _ _ _ h => h) (Or.inl ⟨by rfl, ?ys7_20⟩) (by assumption) ?rs7_20
    case ys7_20 => (intro w hSw; (try dsimp only at hSw); go_simp; try with_reducible rfl)
    try simp only [Act.put, List.setIfInBounds_toArray, List.set_cons_zero, List.set_cons_succ]
    refine wpAnyH_take (i := 21) (oi := ({ dst := some 4, op := .assign (.tmp 56), type := 4, pos := "law.go:55", after := #[{ on := 20, ground := .data }, { on := 19, ground := .chain }, { on := 0, ground := .phase }, { on := 1, ground := .phase }, { on := 2, ground := .phase }, { on := 3, ground := .phase }, { on := 4, ground := .phase }, { on := 5, ground := .phase }, { on := 6, ground := .phase }, { on := 7, ground := .phase }, { on := 8, ground := .phase }, { on := 9, ground := .phase }, { on := 10, ground := .phase }, { on := 11, ground := .phase }, { on := 12, ground := .phase }, { on := 13, ground := .phase }, { on := 14, ground := .phase }, { on := 15, ground := .phase }, { on := 16, ground := .phase }, { on := 17, ground := .phase }, { on := 18, ground := .phase }, { on := 19, ground := .phase }, { on := 20, ground := .phase }], guard := none } : Oper)) (v := ?vs7_21) rfl mchar4_plain (by as_aux_lemma => kernel_rfl) (by as_aux_lemma => kernel_rfl) (fun _ _ _ h => h) (Or.inl ⟨by rfl, ?ys7_21⟩) (by assumption) ?rs7_21
    case ys7_21 => (intro w hSw; (try dsimp only at hSw); go_simp; try with_reducible rfl)
    try simp only [Act.put, List.setIfInBounds_toArray, List.set_cons_zero, List.set_cons_succ]
    refine wpAnyH_done (by as_aux_lemma => kernel_rfl) ?_ _
    refine NoPanic.normal ?_
    go_wp2_with fail
    go_ret
    exact ⟨rfl, belowT D1 (by assumption)⟩
end Go.Proofs.Ytjdpcmcekockgaa
