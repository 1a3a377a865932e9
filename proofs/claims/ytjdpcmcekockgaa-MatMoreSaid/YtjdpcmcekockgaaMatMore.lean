/- MatMore: the law's walk. -/
import Derived.Test.YtjdpcmcekockgaaMatAwake
namespace Go.Proofs.Ytjdpcmcekockgaa
open Go.RowKit
theorem arr3_same (a0 a1 a2 : Int) (w : World) : (Op.equalIn 10000 22 (.agg #[.int .i64 a0, .int .i64 a1, .int .i64 a2]) (.agg #[.int .i64 a0, .int .i64 a1, .int .i64 a2])).run Try.prog w = .ok true w := by
  obtain ⟨i0, hi⟩ := Option.isSome_iff_exists.1 infoI
  rw [show (10000 : Nat) = 9999 + 1 from rfl, run_equalIn_array w 9999 _ _ Try.underlying22 hi, cellsI]
  simp [List.range, List.range.loop, Op.eqItems, go_sem]
/-- The operations of a drawn region, as the translation has them. -/
def mmore3 : Array Oper := #[
  { dst := some 21, op := .load 25 (.tmp 3), type := 25, pos := "law.go:47", after := #[], guard := none },
  { dst := some 22, op := .indexAddr 48 (.tmp 5) (.const (.int .i64 0)), type := 0, pos := "law.go:47", after := #[], guard := none },
  { dst := some 23, op := .load 2 (.tmp 22), type := 2, pos := "law.go:47", after := #[{ on := 1, ground := .data }], guard := none },
  { dst := some 24, op := .call { callee := .value (.func 19), args := #[.tmp 21, .tmp 23], argTypes := #[25, 3] }, type := 25, pos := "law.go:47", after := #[{ on := 0, ground := .data }, { on := 2, ground := .data }], guard := none },
  { dst := some 25, op := .load 25 (.tmp 3), type := 25, pos := "law.go:47", after := #[], guard := none },
  { dst := some 26, op := .indexAddr 48 (.tmp 5) (.const (.int .i64 0)), type := 0, pos := "law.go:47", after := #[], guard := none },
  { dst := some 27, op := .load 2 (.tmp 26), type := 2, pos := "law.go:47", after := #[{ on := 5, ground := .data }], guard := none },
  { dst := some 28, op := .call { callee := .value (.func 24), args := #[.tmp 25, .tmp 27], argTypes := #[25, 3] }, type := 25, pos := "law.go:47", after := #[{ on := 4, ground := .data }, { on := 6, ground := .data }, { on := 3, ground := .chain }], guard := none },
  { dst := some 29, op := .binOp .eql 25 (.tmp 24) (.tmp 28) 25, type := 4, pos := "law.go:47", after := #[{ on := 3, ground := .data }, { on := 7, ground := .data }], guard := none },
  { dst := some 30, op := .move (.tmp 29), type := 4, pos := "law.go:47", after := #[{ on := 8, ground := .data }, { on := 7, ground := .chain }], guard := none },
  { dst := some 31, op := .load 25 (.tmp 3), type := 25, pos := "law.go:47", after := #[{ on := 9, ground := .guard }], guard := some (9, true) },
  { dst := some 32, op := .indexAddr 48 (.tmp 5) (.const (.int .i64 1)), type := 0, pos := "law.go:47", after := #[{ on := 9, ground := .guard }], guard := some (9, true) },
  { dst := some 33, op := .load 2 (.tmp 32), type := 2, pos := "law.go:47", after := #[{ on := 11, ground := .data }, { on := 9, ground := .guard }], guard := some (9, true) },
  { dst := some 34, op := .load 25 (.tmp 4), type := 25, pos := "law.go:47", after := #[{ on := 9, ground := .guard }], guard := some (9, true) },
  { dst := some 35, op := .call { callee := .value (.func 18), args := #[.tmp 31, .tmp 33, .tmp 34], argTypes := #[25, 2, 25] }, type := 25, pos := "law.go:47", after := #[{ on := 10, ground := .data }, { on := 12, ground := .data }, { on := 13, ground := .data }, { on := 9, ground := .chain }, { on := 9, ground := .guard }], guard := some (9, true) },
  { dst := some 36, op := .load 25 (.tmp 3), type := 25, pos := "law.go:47", after := #[{ on := 9, ground := .guard }], guard := some (9, true) },
  { dst := some 37, op := .indexAddr 48 (.tmp 5) (.const (.int .i64 1)), type := 0, pos := "law.go:47", after := #[{ on := 9, ground := .guard }], guard := some (9, true) },
  { dst := some 38, op := .load 2 (.tmp 37), type := 2, pos := "law.go:47", after := #[{ on := 16, ground := .data }, { on := 9, ground := .guard }], guard := some (9, true) },
  { dst := some 39, op := .load 25 (.tmp 4), type := 25, pos := "law.go:47", after := #[{ on := 9, ground := .guard }], guard := some (9, true) },
  { dst := some 40, op := .call { callee := .value (.func 25), args := #[.tmp 36, .tmp 38, .tmp 39], argTypes := #[25, 2, 25] }, type := 25, pos := "law.go:47", after := #[{ on := 15, ground := .data }, { on := 17, ground := .data }, { on := 18, ground := .data }, { on := 14, ground := .chain }, { on := 9, ground := .guard }], guard := some (9, true) },
  { dst := some 41, op := .binOp .eql 25 (.tmp 35) (.tmp 40) 25, type := 4, pos := "law.go:47", after := #[{ on := 14, ground := .data }, { on := 19, ground := .data }, { on := 9, ground := .guard }], guard := some (9, true) },
  { dst := some 42, op := .pick (.tmp 30) (.tmp 41) (.const (.bool false)), type := 4, pos := "law.go:47", after := #[{ on := 9, ground := .data }, { on := 20, ground := .data }], guard := none },
  { dst := some 43, op := .move (.tmp 42), type := 4, pos := "law.go:47", after := #[{ on := 21, ground := .data }, { on := 19, ground := .chain }], guard := none },
  { dst := some 44, op := .load 25 (.tmp 3), type := 25, pos := "law.go:47", after := #[{ on := 22, ground := .guard }], guard := some (22, true) },
  { dst := some 45, op := .call { callee := .value (.func 17), args := #[.tmp 44], argTypes := #[25] }, type := 22, pos := "law.go:47", after := #[{ on := 23, ground := .data }, { on := 22, ground := .chain }, { on := 22, ground := .guard }], guard := some (22, true) },
  { dst := some 46, op := .load 25 (.tmp 3), type := 25, pos := "law.go:47", after := #[{ on := 22, ground := .guard }], guard := some (22, true) },
  { dst := some 47, op := .call { callee := .value (.func 26), args := #[.tmp 46], argTypes := #[25] }, type := 22, pos := "law.go:47", after := #[{ on := 25, ground := .data }, { on := 24, ground := .chain }, { on := 22, ground := .guard }], guard := some (22, true) },
  { dst := some 48, op := .binOp .eql 22 (.tmp 45) (.tmp 47) 22, type := 4, pos := "law.go:47", after := #[{ on := 24, ground := .data }, { on := 26, ground := .data }, { on := 22, ground := .guard }], guard := some (22, true) },
  { dst := some 49, op := .pick (.tmp 43) (.tmp 48) (.const (.bool false)), type := 4, pos := "law.go:47", after := #[{ on := 22, ground := .data }, { on := 27, ground := .data }], guard := none },
  { dst := some 50, op := .move (.tmp 49), type := 4, pos := "law.go:47", after := #[{ on := 28, ground := .data }, { on := 26, ground := .chain }], guard := none },
  { dst := some 51, op := .load 25 (.tmp 3), type := 25, pos := "law.go:47", after := #[{ on := 29, ground := .guard }], guard := some (29, true) },
  { dst := some 52, op := .call { callee := .value (.func 22), args := #[.tmp 51], argTypes := #[25] }, type := 3, pos := "law.go:47", after := #[{ on := 30, ground := .data }, { on := 29, ground := .chain }, { on := 29, ground := .guard }], guard := some (29, true) },
  { dst := some 53, op := .load 25 (.tmp 3), type := 25, pos := "law.go:47", after := #[{ on := 29, ground := .guard }], guard := some (29, true) },
  { dst := some 54, op := .call { callee := .value (.func 27), args := #[.tmp 53], argTypes := #[25] }, type := 3, pos := "law.go:47", after := #[{ on := 32, ground := .data }, { on := 31, ground := .chain }, { on := 29, ground := .guard }], guard := some (29, true) },
  { dst := some 55, op := .binOp .eql 3 (.tmp 52) (.tmp 54) 3, type := 4, pos := "law.go:47", after := #[{ on := 31, ground := .data }, { on := 33, ground := .data }, { on := 29, ground := .guard }], guard := some (29, true) },
  { dst := some 56, op := .pick (.tmp 50) (.tmp 55) (.const (.bool false)), type := 4, pos := "law.go:47", after := #[{ on := 29, ground := .data }, { on := 34, ground := .data }], guard := none },
  { dst := some 57, op := .move (.tmp 56), type := 4, pos := "law.go:47", after := #[{ on := 35, ground := .data }, { on := 33, ground := .chain }], guard := none },
  { dst := some 58, op := .load 23 (.tmp 7), type := 23, pos := "law.go:47", after := #[{ on := 36, ground := .guard }], guard := some (36, true) },
  { dst := some 59, op := .load 23 (.tmp 9), type := 23, pos := "law.go:47", after := #[{ on := 36, ground := .guard }], guard := some (36, true) },
  { dst := some 60, op := .binOp .eql 23 (.tmp 58) (.tmp 59) 23, type := 4, pos := "law.go:47", after := #[{ on := 37, ground := .data }, { on := 38, ground := .data }, { on := 36, ground := .guard }], guard := some (36, true) },
  { dst := some 61, op := .pick (.tmp 57) (.tmp 60) (.const (.bool false)), type := 4, pos := "law.go:47", after := #[{ on := 36, ground := .data }, { on := 39, ground := .data }], guard := none },
  { dst := some 62, op := .move (.tmp 61), type := 4, pos := "law.go:47", after := #[{ on := 40, ground := .data }, { on := 36, ground := .chain }], guard := none },
  { dst := some 63, op := .move (.tmp 8), type := 4, pos := "law.go:47", after := #[{ on := 41, ground := .guard }], guard := some (41, true) },
  { dst := some 64, op := .move (.tmp 10), type := 4, pos := "law.go:47", after := #[{ on := 41, ground := .guard }], guard := some (41, true) },
  { dst := some 65, op := .binOp .eql 4 (.tmp 63) (.tmp 64) 4, type := 4, pos := "law.go:47", after := #[{ on := 42, ground := .data }, { on := 43, ground := .data }, { on := 41, ground := .guard }], guard := some (41, true) },
  { dst := some 66, op := .pick (.tmp 62) (.tmp 65) (.const (.bool false)), type := 4, pos := "law.go:47", after := #[{ on := 41, ground := .data }, { on := 44, ground := .data }], guard := none },
  { dst := some 67, op := .move (.tmp 66), type := 4, pos := "law.go:47", after := #[{ on := 45, ground := .data }, { on := 41, ground := .chain }], guard := none },
  { dst := some 68, op := .call { callee := .value (.func 14), args := #[], argTypes := #[] }, type := 4, pos := "law.go:47", after := #[{ on := 46, ground := .chain }, { on := 46, ground := .guard }], guard := some (46, true) },
  { dst := some 69, op := .pick (.tmp 67) (.tmp 68) (.const (.bool false)), type := 4, pos := "law.go:47", after := #[{ on := 46, ground := .data }, { on := 47, ground := .data }], guard := none },
  { dst := some 6, op := .assign (.tmp 69), type := 4, pos := "law.go:47", after := #[{ on := 48, ground := .data }, { on := 47, ground := .chain }, { on := 0, ground := .phase }, { on := 1, ground := .phase }, { on := 2, ground := .phase }, { on := 3, ground := .phase }, { on := 4, ground := .phase }, { on := 5, ground := .phase }, { on := 6, ground := .phase }, { on := 7, ground := .phase }, { on := 8, ground := .phase }, { on := 9, ground := .phase }, { on := 10, ground := .phase }, { on := 11, ground := .phase }, { on := 12, ground := .phase }, { on := 13, ground := .phase }, { on := 14, ground := .phase }, { on := 15, ground := .phase }, { on := 16, ground := .phase }, { on := 17, ground := .phase }, { on := 18, ground := .phase }, { on := 19, ground := .phase }, { on := 20, ground := .phase }, { on := 21, ground := .phase }, { on := 22, ground := .phase }, { on := 23, ground := .phase }, { on := 24, ground := .phase }, { on := 25, ground := .phase }, { on := 26, ground := .phase }, { on := 27, ground := .phase }, { on := 28, ground := .phase }, { on := 29, ground := .phase }, { on := 30, ground := .phase }, { on := 31, ground := .phase }, { on := 32, ground := .phase }, { on := 33, ground := .phase }, { on := 34, ground := .phase }, { on := 35, ground := .phase }, { on := 36, ground := .phase }, { on := 37, ground := .phase }, { on := 38, ground := .phase }, { on := 39, ground := .phase }, { on := 40, ground := .phase }, { on := 41, ground := .phase }, { on := 42, ground := .phase }, { on := 43, ground := .phase }, { on := 44, ground := .phase }, { on := 45, ground := .phase }, { on := 46, ground := .phase }, { on := 47, ground := .phase }, { on := 48, ground := .phase }], guard := none }]
theorem mmore3_plain : Region.noSelect mmore3 = true := by kernel_rfl

set_option maxHeartbeats 16000000 in
set_option maxRecDepth 100000 in
theorem More8_all (a b : M3) (n0 : Int) (k : BitVec 64) (w : World) :
    Calls Try.prog 6 #[mv a, mv b, .agg #[.int .i64 n0, .int .i64 k.toInt]] w fun e w' => e = .returned (.bool true) ∧ Below w.heap.size w w' := by
  obtain ⟨c, hc⟩ : ∃ c : Nat, max 0 (min n0 100) = (c : Int) := ⟨(max 0 (min n0 100)).toNat, by omega⟩
  have P0 := Lib.hid fun w => Own8.Power_any a n0 c hc w; have R0 := Lib.hid fun w => Ref8.Power_any a n0 c hc w
  have P1 := Lib.hid fun w => Own8.Sum_any a k b w; have R1 := Lib.hid fun w => Ref8.Sum_any a k b w
  have P2 := Lib.hid fun w => Own8.Char_any a w; have R2 := Lib.hid fun w => Ref8.Char_any a w
  have P3 := Lib.hid fun w => Own8.Rank_any a w; have R3 := Lib.hid fun w => Ref8.Rank_any a w
  have AW := Lib.hid Aw8.awake_any
  have ES := vec_same; have EM := mat_same; have EA := arr3_same
  have S0 := Lib.hid ((((St.none w).more (ml a) 25).more (ml b) 25).more [.int .i64 n0, .int .i64 k.toInt] 48)
  have hcase : ∃ (x : V3) (f : Bool), (∀ w, Calls Try.prog 21 #[mv a] w fun r w' => r = .returned (.tuple #[vv x, .bool f]) ∧ Below w.heap.size w w') ∧
      (∀ w, Calls Try.prog 23 #[mv a] w fun r w' => r = .returned (.tuple #[vv x, .bool f]) ∧ Below w.heap.size w w') := by
    by_cases h : a.det = 0
    · exact ⟨a.kernel, true, fun w => Own8.Kernel_flat a w h, fun w => Ref8.Kernel_flat a w h⟩
    · exact ⟨V3.zero, false, fun w => Own8.Kernel_firm a w h, fun w => Ref8.Kernel_firm a w h⟩
  obtain ⟨x, f, hs0, hs1⟩ := hcase
  have SO := Lib.hid hs0; have SR := Lib.hid hs1
  clear hs0 hs1 hc
  generalize a.pow c = g0 at *; generalize a.sum k b = g1 at *; generalize a.char = g2 at *; generalize a.rank = g3 at *
  generalize k.toInt = n1 at *
  go_enter Try.func6, Try.ntmps6
  go_wp2_with fail
  refine (SO.out _).mono ?_; rintro e w1 ⟨rfl, hb1⟩
  have S1 := (S0.out.keep hb1).more (vl x) 23
  simp only [heap1] at S1
  have na0 := S1.at 0 rfl 0 (v := .int .i64 a.a.x.toInt) rfl
  have na1 := S1.at 0 rfl 1 (v := .int .i64 a.a.y.toInt) rfl
  have na2 := S1.at 0 rfl 2 (v := .int .i64 a.a.z.toInt) rfl
  have na3 := S1.at 0 rfl 3 (v := .int .i64 a.b.x.toInt) rfl
  have na4 := S1.at 0 rfl 4 (v := .int .i64 a.b.y.toInt) rfl
  have na5 := S1.at 0 rfl 5 (v := .int .i64 a.b.z.toInt) rfl
  have na6 := S1.at 0 rfl 6 (v := .int .i64 a.c.x.toInt) rfl
  have na7 := S1.at 0 rfl 7 (v := .int .i64 a.c.y.toInt) rfl
  have na8 := S1.at 0 rfl 8 (v := .int .i64 a.c.z.toInt) rfl
  have H1 := Lib.hid S1
  clear S1 hb1 S0
  go_wp2_with fail
  refine (SR.out _).mono ?_; rintro e w2 ⟨rfl, hb2⟩
  have H2 := Lib.hid ((H1.out.keep hb2).more (vl x) 23)
  clear hb2 H1 na0 na1 na2 na3 na4 na5 na6 na7 na8
  go_upto_region 3 with fail
  obtain ⟨W0, hW0⟩ : ∃ W0, W0 = w2.alloc (.cells (vl x).toArray 23) := ⟨_, rfl⟩
  have S3 := H2.out
  rw [← hW0] at S3
  have HW := Lib.hid hW0
  clear hW0 H2
  rw [← HW.out]
  clear HW
  have ma0 : ∀ w', Below W0.heap.size W0 w' → w'.cell? ⟨w.heap.size, 0, none⟩ = some (.int .i64 a.a.x.toInt) := fun w' h => (S3.keep h).at 0 rfl 0 rfl
  have ma1 : ∀ w', Below W0.heap.size W0 w' → w'.cell? ⟨w.heap.size, 1, none⟩ = some (.int .i64 a.a.y.toInt) := fun w' h => (S3.keep h).at 0 rfl 1 rfl
  have ma2 : ∀ w', Below W0.heap.size W0 w' → w'.cell? ⟨w.heap.size, 2, none⟩ = some (.int .i64 a.a.z.toInt) := fun w' h => (S3.keep h).at 0 rfl 2 rfl
  have ma3 : ∀ w', Below W0.heap.size W0 w' → w'.cell? ⟨w.heap.size, 3, none⟩ = some (.int .i64 a.b.x.toInt) := fun w' h => (S3.keep h).at 0 rfl 3 rfl
  have ma4 : ∀ w', Below W0.heap.size W0 w' → w'.cell? ⟨w.heap.size, 4, none⟩ = some (.int .i64 a.b.y.toInt) := fun w' h => (S3.keep h).at 0 rfl 4 rfl
  have ma5 : ∀ w', Below W0.heap.size W0 w' → w'.cell? ⟨w.heap.size, 5, none⟩ = some (.int .i64 a.b.z.toInt) := fun w' h => (S3.keep h).at 0 rfl 5 rfl
  have ma6 : ∀ w', Below W0.heap.size W0 w' → w'.cell? ⟨w.heap.size, 6, none⟩ = some (.int .i64 a.c.x.toInt) := fun w' h => (S3.keep h).at 0 rfl 6 rfl
  have ma7 : ∀ w', Below W0.heap.size W0 w' → w'.cell? ⟨w.heap.size, 7, none⟩ = some (.int .i64 a.c.y.toInt) := fun w' h => (S3.keep h).at 0 rfl 7 rfl
  have ma8 : ∀ w', Below W0.heap.size W0 w' → w'.cell? ⟨w.heap.size, 8, none⟩ = some (.int .i64 a.c.z.toInt) := fun w' h => (S3.keep h).at 0 rfl 8 rfl
  have mb0 : ∀ w', Below W0.heap.size W0 w' → w'.cell? ⟨w.heap.size + 1, 0, none⟩ = some (.int .i64 b.a.x.toInt) := fun w' h => (S3.keep h).at 1 rfl 0 rfl
  have mb1 : ∀ w', Below W0.heap.size W0 w' → w'.cell? ⟨w.heap.size + 1, 1, none⟩ = some (.int .i64 b.a.y.toInt) := fun w' h => (S3.keep h).at 1 rfl 1 rfl
  have mb2 : ∀ w', Below W0.heap.size W0 w' → w'.cell? ⟨w.heap.size + 1, 2, none⟩ = some (.int .i64 b.a.z.toInt) := fun w' h => (S3.keep h).at 1 rfl 2 rfl
  have mb3 : ∀ w', Below W0.heap.size W0 w' → w'.cell? ⟨w.heap.size + 1, 3, none⟩ = some (.int .i64 b.b.x.toInt) := fun w' h => (S3.keep h).at 1 rfl 3 rfl
  have mb4 : ∀ w', Below W0.heap.size W0 w' → w'.cell? ⟨w.heap.size + 1, 4, none⟩ = some (.int .i64 b.b.y.toInt) := fun w' h => (S3.keep h).at 1 rfl 4 rfl
  have mb5 : ∀ w', Below W0.heap.size W0 w' → w'.cell? ⟨w.heap.size + 1, 5, none⟩ = some (.int .i64 b.b.z.toInt) := fun w' h => (S3.keep h).at 1 rfl 5 rfl
  have mb6 : ∀ w', Below W0.heap.size W0 w' → w'.cell? ⟨w.heap.size + 1, 6, none⟩ = some (.int .i64 b.c.x.toInt) := fun w' h => (S3.keep h).at 1 rfl 6 rfl
  have mb7 : ∀ w', Below W0.heap.size W0 w' → w'.cell? ⟨w.heap.size + 1, 7, none⟩ = some (.int .i64 b.c.y.toInt) := fun w' h => (S3.keep h).at 1 rfl 7 rfl
  have mb8 : ∀ w', Below W0.heap.size W0 w' → w'.cell? ⟨w.heap.size + 1, 8, none⟩ = some (.int .i64 b.c.z.toInt) := fun w' h => (S3.keep h).at 1 rfl 8 rfl
  have mx0 : ∀ w', Below W0.heap.size W0 w' → w'.cell? ⟨w1.heap.size, 0, none⟩ = some (.int .i64 x.x.toInt) := fun w' h => (S3.keep h).at 3 rfl 0 rfl
  have mx1 : ∀ w', Below W0.heap.size W0 w' → w'.cell? ⟨w1.heap.size, 1, none⟩ = some (.int .i64 x.y.toInt) := fun w' h => (S3.keep h).at 3 rfl 1 rfl
  have mx2 : ∀ w', Below W0.heap.size W0 w' → w'.cell? ⟨w1.heap.size, 2, none⟩ = some (.int .i64 x.z.toInt) := fun w' h => (S3.keep h).at 3 rfl 2 rfl
  have my0 : ∀ w', Below W0.heap.size W0 w' → w'.cell? ⟨w2.heap.size, 0, none⟩ = some (.int .i64 x.x.toInt) := fun w' h => (S3.keep h).at 4 rfl 0 rfl
  have my1 : ∀ w', Below W0.heap.size W0 w' → w'.cell? ⟨w2.heap.size, 1, none⟩ = some (.int .i64 x.y.toInt) := fun w' h => (S3.keep h).at 4 rfl 1 rfl
  have my2 : ∀ w', Below W0.heap.size W0 w' → w'.cell? ⟨w2.heap.size, 2, none⟩ = some (.int .i64 x.z.toInt) := fun w' h => (S3.keep h).at 4 rfl 2 rfl
  have mn0 : ∀ w', Below W0.heap.size W0 w' → w'.cell? ⟨w.heap.size + 1 + 1, 0, none⟩ = some (.int .i64 n0) := fun w' h => (S3.keep h).at 2 rfl 0 rfl
  have mn1 : ∀ w', Below W0.heap.size W0 w' → w'.cell? ⟨w.heap.size + 1 + 1, 1, none⟩ = some (.int .i64 n1) := fun w' h => (S3.keep h).at 2 rfl 1 rfl
  have D3 := S3.below
  clear S3
  try simp only [List.append_eq, List.cons_append, List.nil_append]
  change (Code.region 3 mmore3 true).wp Try.prog _ _ _
  refine wp_region_noPanic ?_
  refine wp_region_held_drew (S := fun w' => Below W0.heap.size W0 w') (by kernel_rfl) ((Below.refl _ _).drew) (fun hHeld => ?_)
  refine wpAnyH_take (i := 0) (oi := ({ dst := some 21, op := .load 25 (.tmp 3), type := 25, pos := "law.go:47", after := #[], guard := none } : Oper)) (v := ?vs5_0) rfl mmore3_plain (by as_aux_lemma => kernel_rfl) (by as_aux_lemma => kernel_rfl) (fun _ _ _ h => h) (Or.inl ⟨by rfl, ?ys5_0⟩) (by assumption) ?rs5_0
  case ys5_0 => (intro w hSw; (try dsimp only at hSw); go_simp; try with_reducible rfl)
  try simp only [Act.put, List.setIfInBounds_toArray, List.set_cons_zero, List.set_cons_succ]
  refine wpAnyH_take (i := 1) (oi := ({ dst := some 22, op := .indexAddr 48 (.tmp 5) (.const (.int .i64 0)), type := 0, pos := "law.go:47", after := #[], guard := none } : Oper)) (v := ?vs5_1) rfl mmore3_plain (by as_aux_lemma => kernel_rfl) (by as_aux_lemma => kernel_rfl) (fun _ _ _ h => h) (Or.inl ⟨by rfl, ?ys5_1⟩) (by assumption) ?rs5_1
  case ys5_1 => (intro w hSw; (try dsimp only at hSw); go_simp; try with_reducible rfl)
  try simp only [Act.put, List.setIfInBounds_toArray, List.set_cons_zero, List.set_cons_succ]
  refine wpAnyH_take (i := 2) (oi := ({ dst := some 23, op := .load 2 (.tmp 22), type := 2, pos := "law.go:47", after := #[{ on := 1, ground := .data }], guard := none } : Oper)) (v := ?vs5_2) rfl mmore3_plain (by as_aux_lemma => kernel_rfl) (by as_aux_lemma => kernel_rfl) (fun _ _ _ h => h) (Or.inl ⟨by rfl, ?ys5_2⟩) (by assumption) ?rs5_2
  case ys5_2 => (intro w hSw; (try dsimp only at hSw); go_simp; try with_reducible rfl)
  try simp only [Act.put, List.setIfInBounds_toArray, List.set_cons_zero, List.set_cons_succ]
  refine wpAnyH_take (i := 4) (oi := ({ dst := some 25, op := .load 25 (.tmp 3), type := 25, pos := "law.go:47", after := #[], guard := none } : Oper)) (v := ?vs5_4) rfl mmore3_plain (by as_aux_lemma => kernel_rfl) (by as_aux_lemma => kernel_rfl) (fun _ _ _ h => h) (Or.inl ⟨by rfl, ?ys5_4⟩) (by assumption) ?rs5_4
  case ys5_4 => (intro w hSw; (try dsimp only at hSw); go_simp; try with_reducible rfl)
  try simp only [Act.put, List.setIfInBounds_toArray, List.set_cons_zero, List.set_cons_succ]
  refine wpAnyH_take (i := 5) (oi := ({ dst := some 26, op := .indexAddr 48 (.tmp 5) (.const (.int .i64 0)), type := 0, pos := "law.go:47", after := #[], guard := none } : Oper)) (v := ?vs5_5) rfl mmore3_plain (by as_aux_lemma => kernel_rfl) (by as_aux_lemma => kernel_rfl) (fun _ _ _ h => h) (Or.inl ⟨by rfl, ?ys5_5⟩) (by assumption) ?rs5_5
  case ys5_5 => (intro w hSw; (try dsimp only at hSw); go_simp; try with_reducible rfl)
  try simp only [Act.put, List.setIfInBounds_toArray, List.set_cons_zero, List.set_cons_succ]
  refine wpAnyH_take (i := 6) (oi := ({ dst := some 27, op := .load 2 (.tmp 26), type := 2, pos := "law.go:47", after := #[{ on := 5, ground := .data }], guard := none } : Oper)) (v := ?vs5_6) rfl mmore3_plain (by as_aux_lemma => kernel_rfl) (by as_aux_lemma => kernel_rfl) (fun _ _ _ h => h) (Or.inl ⟨by rfl, ?ys5_6⟩) (by assumption) ?rs5_6
  case ys5_6 => (intro w hSw; (try dsimp only at hSw); go_simp; try with_reducible rfl)
  try simp only [Act.put, List.setIfInBounds_toArray, List.set_cons_zero, List.set_cons_succ]
  refine wpAnyH_ready (rs := [3]) (by as_aux_lemma => kernel_rfl) (by simp) ?_
  refine AllReadyH.cons (o := ({ dst := some 24, op := .call { callee := .value (.func 19), args := #[.tmp 21, .tmp 23], argTypes := #[25, 3] }, type := 25, pos := "law.go:47", after := #[{ on := 0, ground := .data }, { on := 2, ground := .data }], guard := none } : Oper)) rfl (fun KK hK => ?_) AllReadyH.nil
  rw [if_pos (by rfl)]
  go_simp
  go_at_call 19; refine (P0.out _).mono ?_; rintro e w3 ⟨rfl, hb3⟩
  go_wp2_with fail
  refine hK.out _ _ ?_ (fun hHeld3 => ?_)
  · exact belowT (by assumption) hb3
  clear hK KK hb3
  try simp only [Act.put, List.setIfInBounds_toArray, List.set_cons_zero, List.set_cons_succ]
  refine wpAnyH_ready (rs := [7]) (by as_aux_lemma => kernel_rfl) (by simp) ?_
  refine AllReadyH.cons (o := ({ dst := some 28, op := .call { callee := .value (.func 24), args := #[.tmp 25, .tmp 27], argTypes := #[25, 3] }, type := 25, pos := "law.go:47", after := #[{ on := 4, ground := .data }, { on := 6, ground := .data }, { on := 3, ground := .chain }], guard := none } : Oper)) rfl (fun KK hK => ?_) AllReadyH.nil
  rw [if_pos (by rfl)]
  go_simp
  go_at_call 24; refine (R0.out _).mono ?_; rintro e w4 ⟨rfl, hb4⟩
  go_wp2_with fail
  refine hK.out _ _ ?_ (fun hHeld4 => ?_)
  · exact belowT (by assumption) hb4
  clear hK KK hb4 hHeld3
  try simp only [Act.put, List.setIfInBounds_toArray, List.set_cons_zero, List.set_cons_succ]
  refine wpAnyH_take (i := 8) (oi := ({ dst := some 29, op := .binOp .eql 25 (.tmp 24) (.tmp 28) 25, type := 4, pos := "law.go:47", after := #[{ on := 3, ground := .data }, { on := 7, ground := .data }], guard := none } : Oper)) (v := ?vs5_8) rfl mmore3_plain (by as_aux_lemma => kernel_rfl) (by as_aux_lemma => kernel_rfl) (fun _ _ _ h => h) (Or.inl ⟨by rfl, ?ys5_8⟩) (by assumption) ?rs5_8
  case ys5_8 => (intro w hSw; (try dsimp only at hSw); go_simp; try with_reducible rfl)
  try simp only [Act.put, List.setIfInBounds_toArray, List.set_cons_zero, List.set_cons_succ]
  refine wpAnyH_take (i := 9) (oi := ({ dst := some 30, op := .move (.tmp 29), type := 4, pos := "law.go:47", after := #[{ on := 8, ground := .data }, { on := 7, ground := .chain }], guard := none } : Oper)) (v := ?vs5_9) rfl mmore3_plain (by as_aux_lemma => kernel_rfl) (by as_aux_lemma => kernel_rfl) (fun _ _ _ h => h) (Or.inl ⟨by rfl, ?ys5_9⟩) (by assumption) ?rs5_9
  case ys5_9 => (intro w hSw; (try dsimp only at hSw); go_simp; try with_reducible rfl)
  try simp only [Act.put, List.setIfInBounds_toArray, List.set_cons_zero, List.set_cons_succ]
  refine wpAnyH_take (i := 10) (oi := ({ dst := some 31, op := .load 25 (.tmp 3), type := 25, pos := "law.go:47", after := #[{ on := 9, ground := .guard }], guard := some (9, true) } : Oper)) (v := ?vs5_10) rfl mmore3_plain (by as_aux_lemma => kernel_rfl) (by as_aux_lemma => kernel_rfl) (fun _ _ _ h => h) (Or.inl ⟨by rfl, ?ys5_10⟩) (by assumption) ?rs5_10
  case ys5_10 => (intro w hSw; (try dsimp only at hSw); go_simp; try with_reducible rfl)
  try simp only [Act.put, List.setIfInBounds_toArray, List.set_cons_zero, List.set_cons_succ]
  refine wpAnyH_take (i := 11) (oi := ({ dst := some 32, op := .indexAddr 48 (.tmp 5) (.const (.int .i64 1)), type := 0, pos := "law.go:47", after := #[{ on := 9, ground := .guard }], guard := some (9, true) } : Oper)) (v := ?vs5_11) rfl mmore3_plain (by as_aux_lemma => kernel_rfl) (by as_aux_lemma => kernel_rfl) (fun _ _ _ h => h) (Or.inl ⟨by rfl, ?ys5_11⟩) (by assumption) ?rs5_11
  case ys5_11 => (intro w hSw; (try dsimp only at hSw); go_simp; try with_reducible rfl)
  try simp only [Act.put, List.setIfInBounds_toArray, List.set_cons_zero, List.set_cons_succ]
  refine wpAnyH_take (i := 12) (oi := ({ dst := some 33, op := .load 2 (.tmp 32), type := 2, pos := "law.go:47", after := #[{ on := 11, ground := .data }, { on := 9, ground := .guard }], guard := some (9, true) } : Oper)) (v := ?vs5_12) rfl mmore3_plain (by as_aux_lemma => kernel_rfl) (by as_aux_lemma => kernel_rfl) (fun _ _ _ h => h) (Or.inl ⟨by rfl, ?ys5_12⟩) (by assumption) ?rs5_12
  case ys5_12 => (intro w hSw; (try dsimp only at hSw); go_simp; try with_reducible rfl)
  try simp only [Act.put, List.setIfInBounds_toArray, List.set_cons_zero, List.set_cons_succ]
  refine wpAnyH_take (i := 13) (oi := ({ dst := some 34, op := .load 25 (.tmp 4), type := 25, pos := "law.go:47", after := #[{ on := 9, ground := .guard }], guard := some (9, true) } : Oper)) (v := ?vs5_13) rfl mmore3_plain (by as_aux_lemma => kernel_rfl) (by as_aux_lemma => kernel_rfl) (fun _ _ _ h => h) (Or.inl ⟨by rfl, ?ys5_13⟩) (by assumption) ?rs5_13
  case ys5_13 => (intro w hSw; (try dsimp only at hSw); go_simp; try with_reducible rfl)
  try simp only [Act.put, List.setIfInBounds_toArray, List.set_cons_zero, List.set_cons_succ]
  refine wpAnyH_take (i := 15) (oi := ({ dst := some 36, op := .load 25 (.tmp 3), type := 25, pos := "law.go:47", after := #[{ on := 9, ground := .guard }], guard := some (9, true) } : Oper)) (v := ?vs5_15) rfl mmore3_plain (by as_aux_lemma => kernel_rfl) (by as_aux_lemma => kernel_rfl) (fun _ _ _ h => h) (Or.inl ⟨by rfl, ?ys5_15⟩) (by assumption) ?rs5_15
  case ys5_15 => (intro w hSw; (try dsimp only at hSw); go_simp; try with_reducible rfl)
  try simp only [Act.put, List.setIfInBounds_toArray, List.set_cons_zero, List.set_cons_succ]
  refine wpAnyH_take (i := 16) (oi := ({ dst := some 37, op := .indexAddr 48 (.tmp 5) (.const (.int .i64 1)), type := 0, pos := "law.go:47", after := #[{ on := 9, ground := .guard }], guard := some (9, true) } : Oper)) (v := ?vs5_16) rfl mmore3_plain (by as_aux_lemma => kernel_rfl) (by as_aux_lemma => kernel_rfl) (fun _ _ _ h => h) (Or.inl ⟨by rfl, ?ys5_16⟩) (by assumption) ?rs5_16
  case ys5_16 => (intro w hSw; (try dsimp only at hSw); go_simp; try with_reducible rfl)
  try simp only [Act.put, List.setIfInBounds_toArray, List.set_cons_zero, List.set_cons_succ]
  refine wpAnyH_take (i := 17) (oi := ({ dst := some 38, op := .load 2 (.tmp 37), type := 2, pos := "law.go:47", after := #[{ on := 16, ground := .data }, { on := 9, ground := .guard }], guard := some (9, true) } : Oper)) (v := ?vs5_17) rfl mmore3_plain (by as_aux_lemma => kernel_rfl) (by as_aux_lemma => kernel_rfl) (fun _ _ _ h => h) (Or.inl ⟨by rfl, ?ys5_17⟩) (by assumption) ?rs5_17
  case ys5_17 => (intro w hSw; (try dsimp only at hSw); go_simp; try with_reducible rfl)
  try simp only [Act.put, List.setIfInBounds_toArray, List.set_cons_zero, List.set_cons_succ]
  refine wpAnyH_take (i := 18) (oi := ({ dst := some 39, op := .load 25 (.tmp 4), type := 25, pos := "law.go:47", after := #[{ on := 9, ground := .guard }], guard := some (9, true) } : Oper)) (v := ?vs5_18) rfl mmore3_plain (by as_aux_lemma => kernel_rfl) (by as_aux_lemma => kernel_rfl) (fun _ _ _ h => h) (Or.inl ⟨by rfl, ?ys5_18⟩) (by assumption) ?rs5_18
  case ys5_18 => (intro w hSw; (try dsimp only at hSw); go_simp; try with_reducible rfl)
  try simp only [Act.put, List.setIfInBounds_toArray, List.set_cons_zero, List.set_cons_succ]
  refine wpAnyH_ready (rs := [14]) (by as_aux_lemma => kernel_rfl) (by simp) ?_
  refine AllReadyH.cons (o := ({ dst := some 35, op := .call { callee := .value (.func 18), args := #[.tmp 31, .tmp 33, .tmp 34], argTypes := #[25, 2, 25] }, type := 25, pos := "law.go:47", after := #[{ on := 10, ground := .data }, { on := 12, ground := .data }, { on := 13, ground := .data }, { on := 9, ground := .chain }, { on := 9, ground := .guard }], guard := some (9, true) } : Oper)) rfl (fun KK hK => ?_) AllReadyH.nil
  rw [if_pos (by rfl)]
  go_simp
  go_at_call 18; refine (P1.out _).mono ?_; rintro e w5 ⟨rfl, hb5⟩
  go_wp2_with fail
  refine hK.out _ _ ?_ (fun hHeld5 => ?_)
  · exact belowT (by assumption) hb5
  clear hK KK hb5 hHeld4
  try simp only [Act.put, List.setIfInBounds_toArray, List.set_cons_zero, List.set_cons_succ]
  refine wpAnyH_ready (rs := [19]) (by as_aux_lemma => kernel_rfl) (by simp) ?_
  refine AllReadyH.cons (o := ({ dst := some 40, op := .call { callee := .value (.func 25), args := #[.tmp 36, .tmp 38, .tmp 39], argTypes := #[25, 2, 25] }, type := 25, pos := "law.go:47", after := #[{ on := 15, ground := .data }, { on := 17, ground := .data }, { on := 18, ground := .data }, { on := 14, ground := .chain }, { on := 9, ground := .guard }], guard := some (9, true) } : Oper)) rfl (fun KK hK => ?_) AllReadyH.nil
  rw [if_pos (by rfl)]
  go_simp
  go_at_call 25; refine (R1.out _).mono ?_; rintro e w6 ⟨rfl, hb6⟩
  go_wp2_with fail
  refine hK.out _ _ ?_ (fun hHeld6 => ?_)
  · exact belowT (by assumption) hb6
  clear hK KK hb6 hHeld5
  try simp only [Act.put, List.setIfInBounds_toArray, List.set_cons_zero, List.set_cons_succ]
  refine wpAnyH_take (i := 20) (oi := ({ dst := some 41, op := .binOp .eql 25 (.tmp 35) (.tmp 40) 25, type := 4, pos := "law.go:47", after := #[{ on := 14, ground := .data }, { on := 19, ground := .data }, { on := 9, ground := .guard }], guard := some (9, true) } : Oper)) (v := ?vs5_20) rfl mmore3_plain (by as_aux_lemma => kernel_rfl) (by as_aux_lemma => kernel_rfl) (fun _ _ _ h => h) (Or.inl ⟨by rfl, ?ys5_20⟩) (by assumption) ?rs5_20
  case ys5_20 => (intro w hSw; (try dsimp only at hSw); go_simp; try with_reducible rfl)
  try simp only [Act.put, List.setIfInBounds_toArray, List.set_cons_zero, List.set_cons_succ]
  refine wpAnyH_take (i := 21) (oi := ({ dst := some 42, op := .pick (.tmp 30) (.tmp 41) (.const (.bool false)), type := 4, pos := "law.go:47", after := #[{ on := 9, ground := .data }, { on := 20, ground := .data }], guard := none } : Oper)) (v := ?vs5_21) rfl mmore3_plain (by as_aux_lemma => kernel_rfl) (by as_aux_lemma => kernel_rfl) (fun _ _ _ h => h) (Or.inl ⟨by rfl, ?ys5_21⟩) (by assumption) ?rs5_21
  case ys5_21 => (intro w hSw; (try dsimp only at hSw); go_simp; try with_reducible rfl)
  try simp only [Act.put, List.setIfInBounds_toArray, List.set_cons_zero, List.set_cons_succ]
  refine wpAnyH_take (i := 22) (oi := ({ dst := some 43, op := .move (.tmp 42), type := 4, pos := "law.go:47", after := #[{ on := 21, ground := .data }, { on := 19, ground := .chain }], guard := none } : Oper)) (v := ?vs5_22) rfl mmore3_plain (by as_aux_lemma => kernel_rfl) (by as_aux_lemma => kernel_rfl) (fun _ _ _ h => h) (Or.inl ⟨by rfl, ?ys5_22⟩) (by assumption) ?rs5_22
  case ys5_22 => (intro w hSw; (try dsimp only at hSw); go_simp; try with_reducible rfl)
  try simp only [Act.put, List.setIfInBounds_toArray, List.set_cons_zero, List.set_cons_succ]
  refine wpAnyH_take (i := 23) (oi := ({ dst := some 44, op := .load 25 (.tmp 3), type := 25, pos := "law.go:47", after := #[{ on := 22, ground := .guard }], guard := some (22, true) } : Oper)) (v := ?vs5_23) rfl mmore3_plain (by as_aux_lemma => kernel_rfl) (by as_aux_lemma => kernel_rfl) (fun _ _ _ h => h) (Or.inl ⟨by rfl, ?ys5_23⟩) (by assumption) ?rs5_23
  case ys5_23 => (intro w hSw; (try dsimp only at hSw); go_simp; try with_reducible rfl)
  try simp only [Act.put, List.setIfInBounds_toArray, List.set_cons_zero, List.set_cons_succ]
  refine wpAnyH_take (i := 25) (oi := ({ dst := some 46, op := .load 25 (.tmp 3), type := 25, pos := "law.go:47", after := #[{ on := 22, ground := .guard }], guard := some (22, true) } : Oper)) (v := ?vs5_25) rfl mmore3_plain (by as_aux_lemma => kernel_rfl) (by as_aux_lemma => kernel_rfl) (fun _ _ _ h => h) (Or.inl ⟨by rfl, ?ys5_25⟩) (by assumption) ?rs5_25
  case ys5_25 => (intro w hSw; (try dsimp only at hSw); go_simp; try with_reducible rfl)
  try simp only [Act.put, List.setIfInBounds_toArray, List.set_cons_zero, List.set_cons_succ]
  refine wpAnyH_ready (rs := [24]) (by as_aux_lemma => kernel_rfl) (by simp) ?_
  refine AllReadyH.cons (o := ({ dst := some 45, op := .call { callee := .value (.func 17), args := #[.tmp 44], argTypes := #[25] }, type := 22, pos := "law.go:47", after := #[{ on := 23, ground := .data }, { on := 22, ground := .chain }, { on := 22, ground := .guard }], guard := some (22, true) } : Oper)) rfl (fun KK hK => ?_) AllReadyH.nil
  rw [if_pos (by rfl)]
  go_simp
  go_at_call 17; refine (P2.out _).mono ?_; rintro e w7 ⟨rfl, hb7⟩
  go_wp2_with fail
  refine hK.out _ _ ?_ (fun hHeld7 => ?_)
  · exact belowT (by assumption) hb7
  clear hK KK hb7 hHeld6
  try simp only [Act.put, List.setIfInBounds_toArray, List.set_cons_zero, List.set_cons_succ]
  refine wpAnyH_ready (rs := [26]) (by as_aux_lemma => kernel_rfl) (by simp) ?_
  refine AllReadyH.cons (o := ({ dst := some 47, op := .call { callee := .value (.func 26), args := #[.tmp 46], argTypes := #[25] }, type := 22, pos := "law.go:47", after := #[{ on := 25, ground := .data }, { on := 24, ground := .chain }, { on := 22, ground := .guard }], guard := some (22, true) } : Oper)) rfl (fun KK hK => ?_) AllReadyH.nil
  rw [if_pos (by rfl)]
  go_simp
  go_at_call 26; refine (R2.out _).mono ?_; rintro e w8 ⟨rfl, hb8⟩
  go_wp2_with fail
  refine hK.out _ _ ?_ (fun hHeld8 => ?_)
  · exact belowT (by assumption) hb8
  clear hK KK hb8 hHeld7
  try simp only [Act.put, List.setIfInBounds_toArray, List.set_cons_zero, List.set_cons_succ]
  refine wpAnyH_take (i := 27) (oi := ({ dst := some 48, op := .binOp .eql 22 (.tmp 45) (.tmp 47) 22, type := 4, pos := "law.go:47", after := #[{ on := 24, ground := .data }, { on := 26, ground := .data }, { on := 22, ground := .guard }], guard := some (22, true) } : Oper)) (v := ?vs5_27) rfl mmore3_plain (by as_aux_lemma => kernel_rfl) (by as_aux_lemma => kernel_rfl) (fun _ _ _ h => h) (Or.inl ⟨by rfl, ?ys5_27⟩) (by assumption) ?rs5_27
  case ys5_27 => (intro w hSw; (try dsimp only at hSw); go_simp; try with_reducible rfl)
  try simp only [Act.put, List.setIfInBounds_toArray, List.set_cons_zero, List.set_cons_succ]
  refine wpAnyH_take (i := 28) (oi := ({ dst := some 49, op := .pick (.tmp 43) (.tmp 48) (.const (.bool false)), type := 4, pos := "law.go:47", after := #[{ on := 22, ground := .data }, { on := 27, ground := .data }], guard := none } : Oper)) (v := ?vs5_28) rfl mmore3_plain (by as_aux_lemma => kernel_rfl) (by as_aux_lemma => kernel_rfl) (fun _ _ _ h => h) (Or.inl ⟨by rfl, ?ys5_28⟩) (by assumption) ?rs5_28
  case ys5_28 => (intro w hSw; (try dsimp only at hSw); go_simp; try with_reducible rfl)
  try simp only [Act.put, List.setIfInBounds_toArray, List.set_cons_zero, List.set_cons_succ]
  refine wpAnyH_take (i := 29) (oi := ({ dst := some 50, op := .move (.tmp 49), type := 4, pos := "law.go:47", after := #[{ on := 28, ground := .data }, { on := 26, ground := .chain }], guard := none } : Oper)) (v := ?vs5_29) rfl mmore3_plain (by as_aux_lemma => kernel_rfl) (by as_aux_lemma => kernel_rfl) (fun _ _ _ h => h) (Or.inl ⟨by rfl, ?ys5_29⟩) (by assumption) ?rs5_29
  case ys5_29 => (intro w hSw; (try dsimp only at hSw); go_simp; try with_reducible rfl)
  try simp only [Act.put, List.setIfInBounds_toArray, List.set_cons_zero, List.set_cons_succ]
  refine wpAnyH_take (i := 30) (oi := ({ dst := some 51, op := .load 25 (.tmp 3), type := 25, pos := "law.go:47", after := #[{ on := 29, ground := .guard }], guard := some (29, true) } : Oper)) (v := ?vs5_30) rfl mmore3_plain (by as_aux_lemma => kernel_rfl) (by as_aux_lemma => kernel_rfl) (fun _ _ _ h => h) (Or.inl ⟨by rfl, ?ys5_30⟩) (by assumption) ?rs5_30
  case ys5_30 => (intro w hSw; (try dsimp only at hSw); go_simp; try with_reducible rfl)
  try simp only [Act.put, List.setIfInBounds_toArray, List.set_cons_zero, List.set_cons_succ]
  refine wpAnyH_take (i := 32) (oi := ({ dst := some 53, op := .load 25 (.tmp 3), type := 25, pos := "law.go:47", after := #[{ on := 29, ground := .guard }], guard := some (29, true) } : Oper)) (v := ?vs5_32) rfl mmore3_plain (by as_aux_lemma => kernel_rfl) (by as_aux_lemma => kernel_rfl) (fun _ _ _ h => h) (Or.inl ⟨by rfl, ?ys5_32⟩) (by assumption) ?rs5_32
  case ys5_32 => (intro w hSw; (try dsimp only at hSw); go_simp; try with_reducible rfl)
  try simp only [Act.put, List.setIfInBounds_toArray, List.set_cons_zero, List.set_cons_succ]
  refine wpAnyH_ready (rs := [31]) (by as_aux_lemma => kernel_rfl) (by simp) ?_
  refine AllReadyH.cons (o := ({ dst := some 52, op := .call { callee := .value (.func 22), args := #[.tmp 51], argTypes := #[25] }, type := 3, pos := "law.go:47", after := #[{ on := 30, ground := .data }, { on := 29, ground := .chain }, { on := 29, ground := .guard }], guard := some (29, true) } : Oper)) rfl (fun KK hK => ?_) AllReadyH.nil
  rw [if_pos (by rfl)]
  go_simp
  go_at_call 22; refine (P3.out _).mono ?_; rintro e w9 ⟨rfl, hb9⟩
  go_wp2_with fail
  refine hK.out _ _ ?_ (fun hHeld9 => ?_)
  · exact belowT (by assumption) hb9
  clear hK KK hb9 hHeld8
  try simp only [Act.put, List.setIfInBounds_toArray, List.set_cons_zero, List.set_cons_succ]
  refine wpAnyH_ready (rs := [33]) (by as_aux_lemma => kernel_rfl) (by simp) ?_
  refine AllReadyH.cons (o := ({ dst := some 54, op := .call { callee := .value (.func 27), args := #[.tmp 53], argTypes := #[25] }, type := 3, pos := "law.go:47", after := #[{ on := 32, ground := .data }, { on := 31, ground := .chain }, { on := 29, ground := .guard }], guard := some (29, true) } : Oper)) rfl (fun KK hK => ?_) AllReadyH.nil
  rw [if_pos (by rfl)]
  go_simp
  go_at_call 27; refine (R3.out _).mono ?_; rintro e w10 ⟨rfl, hb10⟩
  go_wp2_with fail
  refine hK.out _ _ ?_ (fun hHeld10 => ?_)
  · exact belowT (by assumption) hb10
  clear hK KK hb10 hHeld9
  try simp only [Act.put, List.setIfInBounds_toArray, List.set_cons_zero, List.set_cons_succ]
  refine wpAnyH_take (i := 34) (oi := ({ dst := some 55, op := .binOp .eql 3 (.tmp 52) (.tmp 54) 3, type := 4, pos := "law.go:47", after := #[{ on := 31, ground := .data }, { on := 33, ground := .data }, { on := 29, ground := .guard }], guard := some (29, true) } : Oper)) (v := ?vs5_34) rfl mmore3_plain (by as_aux_lemma => kernel_rfl) (by as_aux_lemma => kernel_rfl) (fun _ _ _ h => h) (Or.inl ⟨by rfl, ?ys5_34⟩) (by assumption) ?rs5_34
  case ys5_34 => (intro w hSw; (try dsimp only at hSw); go_simp; try with_reducible rfl)
  try simp only [Act.put, List.setIfInBounds_toArray, List.set_cons_zero, List.set_cons_succ]
  refine wpAnyH_take (i := 35) (oi := ({ dst := some 56, op := .pick (.tmp 50) (.tmp 55) (.const (.bool false)), type := 4, pos := "law.go:47", after := #[{ on := 29, ground := .data }, { on := 34, ground := .data }], guard := none } : Oper)) (v := ?vs5_35) rfl mmore3_plain (by as_aux_lemma => kernel_rfl) (by as_aux_lemma => kernel_rfl) (fun _ _ _ h => h) (Or.inl ⟨by rfl, ?ys5_35⟩) (by assumption) ?rs5_35
  case ys5_35 => (intro w hSw; (try dsimp only at hSw); go_simp; try with_reducible rfl)
  try simp only [Act.put, List.setIfInBounds_toArray, List.set_cons_zero, List.set_cons_succ]
  refine wpAnyH_take (i := 36) (oi := ({ dst := some 57, op := .move (.tmp 56), type := 4, pos := "law.go:47", after := #[{ on := 35, ground := .data }, { on := 33, ground := .chain }], guard := none } : Oper)) (v := ?vs5_36) rfl mmore3_plain (by as_aux_lemma => kernel_rfl) (by as_aux_lemma => kernel_rfl) (fun _ _ _ h => h) (Or.inl ⟨by rfl, ?ys5_36⟩) (by assumption) ?rs5_36
  case ys5_36 => (intro w hSw; (try dsimp only at hSw); go_simp; try with_reducible rfl)
  try simp only [Act.put, List.setIfInBounds_toArray, List.set_cons_zero, List.set_cons_succ]
  refine wpAnyH_take (i := 37) (oi := ({ dst := some 58, op := .load 23 (.tmp 7), type := 23, pos := "law.go:47", after := #[{ on := 36, ground := .guard }], guard := some (36, true) } : Oper)) (v := ?vs5_37) rfl mmore3_plain (by as_aux_lemma => kernel_rfl) (by as_aux_lemma => kernel_rfl) (fun _ _ _ h => h) (Or.inl ⟨by rfl, ?ys5_37⟩) (by assumption) ?rs5_37
  case ys5_37 => (intro w hSw; (try dsimp only at hSw); go_simp; try with_reducible rfl)
  try simp only [Act.put, List.setIfInBounds_toArray, List.set_cons_zero, List.set_cons_succ]
  refine wpAnyH_take (i := 38) (oi := ({ dst := some 59, op := .load 23 (.tmp 9), type := 23, pos := "law.go:47", after := #[{ on := 36, ground := .guard }], guard := some (36, true) } : Oper)) (v := ?vs5_38) rfl mmore3_plain (by as_aux_lemma => kernel_rfl) (by as_aux_lemma => kernel_rfl) (fun _ _ _ h => h) (Or.inl ⟨by rfl, ?ys5_38⟩) (by assumption) ?rs5_38
  case ys5_38 => (intro w hSw; (try dsimp only at hSw); go_simp; try with_reducible rfl)
  try simp only [Act.put, List.setIfInBounds_toArray, List.set_cons_zero, List.set_cons_succ]
  refine wpAnyH_take (i := 39) (oi := ({ dst := some 60, op := .binOp .eql 23 (.tmp 58) (.tmp 59) 23, type := 4, pos := "law.go:47", after := #[{ on := 37, ground := .data }, { on := 38, ground := .data }, { on := 36, ground := .guard }], guard := some (36, true) } : Oper)) (v := ?vs5_39) rfl mmore3_plain (by as_aux_lemma => kernel_rfl) (by as_aux_lemma => kernel_rfl) (fun _ _ _ h => h) (Or.inl ⟨by rfl, ?ys5_39⟩) (by assumption) ?rs5_39
  case ys5_39 => (intro w hSw; (try dsimp only at hSw); go_simp; try with_reducible rfl)
  try simp only [Act.put, List.setIfInBounds_toArray, List.set_cons_zero, List.set_cons_succ]
  refine wpAnyH_take (i := 40) (oi := ({ dst := some 61, op := .pick (.tmp 57) (.tmp 60) (.const (.bool false)), type := 4, pos := "law.go:47", after := #[{ on := 36, ground := .data }, { on := 39, ground := .data }], guard := none } : Oper)) (v := ?vs5_40) rfl mmore3_plain (by as_aux_lemma => kernel_rfl) (by as_aux_lemma => kernel_rfl) (fun _ _ _ h => h) (Or.inl ⟨by rfl, ?ys5_40⟩) (by assumption) ?rs5_40
  case ys5_40 => (intro w hSw; (try dsimp only at hSw); go_simp; try with_reducible rfl)
  try simp only [Act.put, List.setIfInBounds_toArray, List.set_cons_zero, List.set_cons_succ]
  refine wpAnyH_take (i := 41) (oi := ({ dst := some 62, op := .move (.tmp 61), type := 4, pos := "law.go:47", after := #[{ on := 40, ground := .data }, { on := 36, ground := .chain }], guard := none } : Oper)) (v := ?vs5_41) rfl mmore3_plain (by as_aux_lemma => kernel_rfl) (by as_aux_lemma => kernel_rfl) (fun _ _ _ h => h) (Or.inl ⟨by rfl, ?ys5_41⟩) (by assumption) ?rs5_41
  case ys5_41 => (intro w hSw; (try dsimp only at hSw); go_simp; try with_reducible rfl)
  try simp only [Act.put, List.setIfInBounds_toArray, List.set_cons_zero, List.set_cons_succ]
  refine wpAnyH_take (i := 42) (oi := ({ dst := some 63, op := .move (.tmp 8), type := 4, pos := "law.go:47", after := #[{ on := 41, ground := .guard }], guard := some (41, true) } : Oper)) (v := ?vs5_42) rfl mmore3_plain (by as_aux_lemma => kernel_rfl) (by as_aux_lemma => kernel_rfl) (fun _ _ _ h => h) (Or.inl ⟨by rfl, ?ys5_42⟩) (by assumption) ?rs5_42
  case ys5_42 => (intro w hSw; (try dsimp only at hSw); go_simp; try with_reducible rfl)
  try simp only [Act.put, List.setIfInBounds_toArray, List.set_cons_zero, List.set_cons_succ]
  refine wpAnyH_take (i := 43) (oi := ({ dst := some 64, op := .move (.tmp 10), type := 4, pos := "law.go:47", after := #[{ on := 41, ground := .guard }], guard := some (41, true) } : Oper)) (v := ?vs5_43) rfl mmore3_plain (by as_aux_lemma => kernel_rfl) (by as_aux_lemma => kernel_rfl) (fun _ _ _ h => h) (Or.inl ⟨by rfl, ?ys5_43⟩) (by assumption) ?rs5_43
  case ys5_43 => (intro w hSw; (try dsimp only at hSw); go_simp; try with_reducible rfl)
  try simp only [Act.put, List.setIfInBounds_toArray, List.set_cons_zero, List.set_cons_succ]
  refine wpAnyH_take (i := 44) (oi := ({ dst := some 65, op := .binOp .eql 4 (.tmp 63) (.tmp 64) 4, type := 4, pos := "law.go:47", after := #[{ on := 42, ground := .data }, { on := 43, ground := .data }, { on := 41, ground := .guard }], guard := some (41, true) } : Oper)) (v := ?vs5_44) rfl mmore3_plain (by as_aux_lemma => kernel_rfl) (by as_aux_lemma => kernel_rfl) (fun _ _ _ h => h) (Or.inl ⟨by rfl, ?ys5_44⟩) (by assumption) ?rs5_44
  case ys5_44 => (intro w hSw; (try dsimp only at hSw); go_simp; try with_reducible rfl)
  try simp only [Act.put, List.setIfInBounds_toArray, List.set_cons_zero, List.set_cons_succ]
  refine wpAnyH_take (i := 45) (oi := ({ dst := some 66, op := .pick (.tmp 62) (.tmp 65) (.const (.bool false)), type := 4, pos := "law.go:47", after := #[{ on := 41, ground := .data }, { on := 44, ground := .data }], guard := none } : Oper)) (v := ?vs5_45) rfl mmore3_plain (by as_aux_lemma => kernel_rfl) (by as_aux_lemma => kernel_rfl) (fun _ _ _ h => h) (Or.inl ⟨by rfl, ?ys5_45⟩) (by assumption) ?rs5_45
  case ys5_45 => (intro w hSw; (try dsimp only at hSw); go_simp; try with_reducible rfl)
  try simp only [Act.put, List.setIfInBounds_toArray, List.set_cons_zero, List.set_cons_succ]
  refine wpAnyH_take (i := 46) (oi := ({ dst := some 67, op := .move (.tmp 66), type := 4, pos := "law.go:47", after := #[{ on := 45, ground := .data }, { on := 41, ground := .chain }], guard := none } : Oper)) (v := ?vs5_46) rfl mmore3_plain (by as_aux_lemma => kernel_rfl) (by as_aux_lemma => kernel_rfl) (fun _ _ _ h => h) (Or.inl ⟨by rfl, ?ys5_46⟩) (by assumption) ?rs5_46
  case ys5_46 => (intro w hSw; (try dsimp only at hSw); go_simp; try with_reducible rfl)
  try simp only [Act.put, List.setIfInBounds_toArray, List.set_cons_zero, List.set_cons_succ]
  refine wpAnyH_ready (rs := [47]) (by as_aux_lemma => kernel_rfl) (by simp) ?_
  refine AllReadyH.cons (o := ({ dst := some 68, op := .call { callee := .value (.func 14), args := #[], argTypes := #[] }, type := 4, pos := "law.go:47", after := #[{ on := 46, ground := .chain }, { on := 46, ground := .guard }], guard := some (46, true) } : Oper)) rfl (fun KK hK => ?_) AllReadyH.nil
  rw [if_pos (by rfl)]
  go_simp
  go_at_call 14; refine (AW.out _).mono ?_; rintro e w11 ⟨rfl, hb11⟩
  go_wp2_with fail
  refine hK.out _ _ ?_ (fun hHeld11 => ?_)
  · exact belowT (by assumption) hb11
  clear hK KK hb11 hHeld10
  try simp only [Act.put, List.setIfInBounds_toArray, List.set_cons_zero, List.set_cons_succ]
  refine wpAnyH_take (i := 48) (oi := ({ dst := some 69, op := .pick (.tmp 67) (.tmp 68) (.const (.bool false)), type := 4, pos := "law.go:47", after := #[{ on := 46, ground := .data }, { on := 47, ground := .data }], guard := none } : Oper)) (v := ?vs5_48) rfl mmore3_plain (by as_aux_lemma => kernel_rfl) (by as_aux_lemma => kernel_rfl) (fun _ _ _ h => h) (Or.inl ⟨by rfl, ?ys5_48⟩) (by assumption) ?rs5_48
  case ys5_48 => (intro w hSw; (try dsimp only at hSw); go_simp; try with_reducible rfl)
  try simp only [Act.put, List.setIfInBounds_toArray, List.set_cons_zero, List.set_cons_succ]
  refine wpAnyH_take (i := 49) (oi := ({ dst := some 6, op := .assign (.tmp 69), type := 4, pos := "law.go:47", after := #[{ on := 48, ground := .data }, { on := 47, ground := .chain }, { on := 0, ground := .phase }, { on := 1, ground := .phase }, { on := 2, ground := .phase }, { on := 3, ground := .phase }, { on := 4, ground := .phase }, { on := 5, ground := .phase }, { on := 6, ground := .phase }, { on := 7, ground := .phase }, { on := 8, ground := .phase }, { on := 9, ground := .phase }, { on := 10, ground := .phase }, { on := 11, ground := .phase }, { on := 12, ground := .phase }, { on := 13, ground := .phase }, { on := 14, ground := .phase }, { on := 15, ground := .phase }, { on := 16, ground := .phase }, { on := 17, ground := .phase }, { on := 18, ground := .phase }, { on := 19, ground := .phase }, { on := 20, ground := .phase }, { on := 21, ground := .phase }, { on := 22, ground := .phase }, { on := 23, ground := .phase }, { on := 24, ground := .phase }, { on := 25, ground := .phase }, { on := 26, ground := .phase }, { on := 27, ground := .phase }, { on := 28, ground := .phase }, { on := 29, ground := .phase }, { on := 30, ground := .phase }, { on := 31, ground := .phase }, { on := 32, ground := .phase }, { on := 33, ground := .phase }, { on := 34, ground := .phase }, { on := 35, ground := .phase }, { on := 36, ground := .phase }, { on := 37, ground := .phase }, { on := 38, ground := .phase }, { on := 39, ground := .phase }, { on := 40, ground := .phase }, { on := 41, ground := .phase }, { on := 42, ground := .phase }, { on := 43, ground := .phase }, { on := 44, ground := .phase }, { on := 45, ground := .phase }, { on := 46, ground := .phase }, { on := 47, ground := .phase }, { on := 48, ground := .phase }], guard := none } : Oper)) (v := ?vs5_49) rfl mmore3_plain (by as_aux_lemma => kernel_rfl) (by as_aux_lemma => kernel_rfl) (fun _ _ _ h => h) (Or.inl ⟨by rfl, ?ys5_49⟩) (by assumption) ?rs5_49
  case ys5_49 => (intro w hSw; (try dsimp only at hSw); go_simp; try with_reducible rfl)
  try simp only [Act.put, List.setIfInBounds_toArray, List.set_cons_zero, List.set_cons_succ]
  refine wpAnyH_done (by as_aux_lemma => kernel_rfl) ?_ _
  refine NoPanic.normal ?_
  go_wp2_with fail
  go_ret
  exact ⟨rfl, belowT D3 (by assumption)⟩
end Go.Proofs.Ytjdpcmcekockgaa
