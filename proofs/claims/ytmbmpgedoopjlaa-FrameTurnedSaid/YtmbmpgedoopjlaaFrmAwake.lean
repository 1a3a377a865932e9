/- The laws' own example, layer 14. -/
import Derived.Test.YtmbmpgedoopjlaaFrmOwn
import Derived.Test.YtmbmpgedoopjlaaRebase
import Derived.Test.YtmbmpgedoopjlaaV64
import Derived.Deep.CutBlock
import Derived.Deep.CutRange
namespace Go.Proofs.Ytmbmpgedoopjlaa
open Go.RowKit

theorem none_come (w : World) : Came w none 0 [] := ⟨Nat.le_refl _, Nat.zero_le _, fun _ => ⟨rfl, rfl⟩, fun h => absurd h (by decide)⟩

/-- The operations of a drawn region, as the translation has them. -/
def awake7 : Array Oper := #[
  { dst := some 33, op := .move (.tmp 2), type := 26, pos := "law.go:20", after := #[], guard := none },
  { dst := some 34, op := .binOp .eql 26 (.tmp 33) (.const (.int .i64 0)) 26, type := 4, pos := "law.go:20", after := #[{ on := 0, ground := .data }], guard := none },
  { dst := some 35, op := .move (.tmp 34), type := 4, pos := "law.go:20", after := #[{ on := 1, ground := .data }], guard := none },
  { dst := some 36, op := .move (.tmp 1), type := 24, pos := "law.go:20", after := #[{ on := 2, ground := .guard }], guard := some (2, true) },
  { dst := some 37, op := .call { callee := .builtin .len, args := #[.tmp 36], argTypes := #[24] }, type := 3, pos := "law.go:20", after := #[{ on := 3, ground := .data }, { on := 2, ground := .guard }], guard := some (2, true) },
  { dst := some 38, op := .binOp .eql 3 (.tmp 37) (.const (.int .i64 11)) 3, type := 4, pos := "law.go:20", after := #[{ on := 4, ground := .data }, { on := 2, ground := .guard }], guard := some (2, true) },
  { dst := some 39, op := .pick (.tmp 35) (.tmp 38) (.const (.bool false)), type := 4, pos := "law.go:20", after := #[{ on := 2, ground := .data }, { on := 5, ground := .data }], guard := none },
  { dst := some 40, op := .move (.tmp 39), type := 4, pos := "law.go:20", after := #[{ on := 6, ground := .data }, { on := 2, ground := .chain }], guard := none },
  { dst := some 41, op := .move (.tmp 1), type := 24, pos := "law.go:20", after := #[{ on := 7, ground := .guard }], guard := some (7, true) },
  { dst := some 42, op := .slice 24 (.tmp 41) none (some (.const (.int .i64 9))) none, type := 24, pos := "law.go:20", after := #[{ on := 8, ground := .data }, { on := 7, ground := .guard }], guard := some (7, true) },
  { dst := some 43, op := .convert 24 9 (.tmp 42), type := 9, pos := "law.go:20", after := #[{ on := 9, ground := .data }, { on := 7, ground := .guard }], guard := some (7, true) },
  { dst := some 44, op := .binOp .eql 9 (.tmp 43) (.const (.string { data := #[165, 90, 3, 7, 1, 255, 255, 255, 254] })) 9, type := 4, pos := "law.go:20", after := #[{ on := 10, ground := .data }, { on := 7, ground := .guard }], guard := some (7, true) },
  { dst := some 45, op := .pick (.tmp 40) (.tmp 44) (.const (.bool false)), type := 4, pos := "law.go:20", after := #[{ on := 7, ground := .data }, { on := 11, ground := .data }], guard := none },
  { dst := some 46, op := .move (.tmp 45), type := 4, pos := "law.go:20", after := #[{ on := 12, ground := .data }, { on := 7, ground := .chain }], guard := none },
  { dst := some 47, op := .move (.tmp 4), type := 26, pos := "law.go:20", after := #[{ on := 13, ground := .guard }], guard := some (13, true) },
  { dst := some 48, op := .binOp .eql 26 (.tmp 47) (.const (.int .i64 0)) 26, type := 4, pos := "law.go:20", after := #[{ on := 14, ground := .data }, { on := 13, ground := .guard }], guard := some (13, true) },
  { dst := some 49, op := .pick (.tmp 46) (.tmp 48) (.const (.bool false)), type := 4, pos := "law.go:20", after := #[{ on := 13, ground := .data }, { on := 15, ground := .data }], guard := none },
  { dst := some 50, op := .move (.tmp 49), type := 4, pos := "law.go:20", after := #[{ on := 16, ground := .data }, { on := 13, ground := .chain }], guard := none },
  { dst := some 51, op := .load 23 (.tmp 3), type := 23, pos := "law.go:20", after := #[{ on := 17, ground := .guard }], guard := some (17, true) },
  { dst := some 52, op := .call { callee := .value (.func 15), args := #[], argTypes := #[] }, type := 23, pos := "law.go:20", after := #[{ on := 17, ground := .chain }, { on := 17, ground := .guard }], guard := some (17, true) },
  { dst := some 53, op := .binOp .eql 23 (.tmp 51) (.tmp 52) 23, type := 4, pos := "law.go:20", after := #[{ on := 18, ground := .data }, { on := 19, ground := .data }, { on := 17, ground := .guard }], guard := some (17, true) },
  { dst := some 54, op := .pick (.tmp 50) (.tmp 53) (.const (.bool false)), type := 4, pos := "law.go:20", after := #[{ on := 17, ground := .data }, { on := 20, ground := .data }], guard := none },
  { dst := some 55, op := .move (.tmp 54), type := 4, pos := "law.go:20", after := #[{ on := 21, ground := .data }, { on := 19, ground := .chain }], guard := none },
  { dst := some 56, op := .move (.tmp 6), type := 26, pos := "law.go:20", after := #[{ on := 22, ground := .guard }], guard := some (22, true) },
  { dst := some 57, op := .binOp .eql 26 (.tmp 56) (.const (.int .i64 2)) 26, type := 4, pos := "law.go:20", after := #[{ on := 23, ground := .data }, { on := 22, ground := .guard }], guard := some (22, true) },
  { dst := some 58, op := .pick (.tmp 55) (.tmp 57) (.const (.bool false)), type := 4, pos := "law.go:20", after := #[{ on := 22, ground := .data }, { on := 24, ground := .data }], guard := none },
  { dst := some 59, op := .move (.tmp 58), type := 4, pos := "law.go:20", after := #[{ on := 25, ground := .data }, { on := 22, ground := .chain }], guard := none },
  { dst := some 60, op := .move (.tmp 8), type := 26, pos := "law.go:20", after := #[{ on := 26, ground := .guard }], guard := some (26, true) },
  { dst := some 61, op := .binOp .eql 26 (.tmp 60) (.const (.int .i64 1)) 26, type := 4, pos := "law.go:20", after := #[{ on := 27, ground := .data }, { on := 26, ground := .guard }], guard := some (26, true) },
  { dst := some 62, op := .pick (.tmp 59) (.tmp 61) (.const (.bool false)), type := 4, pos := "law.go:20", after := #[{ on := 26, ground := .data }, { on := 28, ground := .data }], guard := none },
  { dst := some 63, op := .move (.tmp 62), type := 4, pos := "law.go:20", after := #[{ on := 29, ground := .data }, { on := 26, ground := .chain }], guard := none },
  { dst := some 64, op := .move (.tmp 1), type := 24, pos := "law.go:20", after := #[{ on := 30, ground := .guard }], guard := some (30, true) },
  { dst := some 65, op := .call { callee := .value (.func 13), args := #[.tmp 64], argTypes := #[24] }, type := 4, pos := "law.go:20", after := #[{ on := 31, ground := .data }, { on := 30, ground := .chain }, { on := 30, ground := .guard }], guard := some (30, true) },
  { dst := some 66, op := .pick (.tmp 63) (.tmp 65) (.const (.bool false)), type := 4, pos := "law.go:20", after := #[{ on := 30, ground := .data }, { on := 32, ground := .data }], guard := none },
  { dst := some 67, op := .move (.tmp 66), type := 4, pos := "law.go:20", after := #[{ on := 33, ground := .data }, { on := 32, ground := .chain }], guard := none },
  { dst := some 68, op := .call { callee := .value (.func 13), args := #[.const (.slice none 0 0)], argTypes := #[24] }, type := 4, pos := "law.go:20", after := #[{ on := 34, ground := .chain }, { on := 34, ground := .guard }], guard := some (34, true) },
  { dst := some 69, op := .unOp .not 4 (.tmp 68), type := 4, pos := "law.go:20", after := #[{ on := 35, ground := .data }, { on := 34, ground := .guard }], guard := some (34, true) },
  { dst := some 70, op := .pick (.tmp 67) (.tmp 69) (.const (.bool false)), type := 4, pos := "law.go:20", after := #[{ on := 34, ground := .data }, { on := 36, ground := .data }], guard := none },
  { dst := some 71, op := .move (.tmp 70), type := 4, pos := "law.go:20", after := #[{ on := 37, ground := .data }, { on := 35, ground := .chain }], guard := none },
  { dst := some 72, op := .call { callee := .value (.func 15), args := #[], argTypes := #[] }, type := 23, pos := "law.go:20", after := #[{ on := 38, ground := .chain }, { on := 38, ground := .guard }], guard := some (38, true) },
  { dst := some 73, op := .call { callee := .value (.func 11), args := #[.tmp 72], argTypes := #[23] }, type := 4, pos := "law.go:20", after := #[{ on := 39, ground := .data }, { on := 39, ground := .chain }, { on := 38, ground := .guard }], guard := some (38, true) },
  { dst := some 74, op := .pick (.tmp 71) (.tmp 73) (.const (.bool false)), type := 4, pos := "law.go:20", after := #[{ on := 38, ground := .data }, { on := 40, ground := .data }], guard := none },
  { dst := some 0, op := .assign (.tmp 74), type := 4, pos := "law.go:20", after := #[{ on := 41, ground := .data }, { on := 40, ground := .chain }, { on := 0, ground := .phase }, { on := 1, ground := .phase }, { on := 2, ground := .phase }, { on := 3, ground := .phase }, { on := 4, ground := .phase }, { on := 5, ground := .phase }, { on := 6, ground := .phase }, { on := 7, ground := .phase }, { on := 8, ground := .phase }, { on := 9, ground := .phase }, { on := 10, ground := .phase }, { on := 11, ground := .phase }, { on := 12, ground := .phase }, { on := 13, ground := .phase }, { on := 14, ground := .phase }, { on := 15, ground := .phase }, { on := 16, ground := .phase }, { on := 17, ground := .phase }, { on := 18, ground := .phase }, { on := 19, ground := .phase }, { on := 20, ground := .phase }, { on := 21, ground := .phase }, { on := 22, ground := .phase }, { on := 23, ground := .phase }, { on := 24, ground := .phase }, { on := 25, ground := .phase }, { on := 26, ground := .phase }, { on := 27, ground := .phase }, { on := 28, ground := .phase }, { on := 29, ground := .phase }, { on := 30, ground := .phase }, { on := 31, ground := .phase }, { on := 32, ground := .phase }, { on := 33, ground := .phase }, { on := 34, ground := .phase }, { on := 35, ground := .phase }, { on := 36, ground := .phase }, { on := 37, ground := .phase }, { on := 38, ground := .phase }, { on := 39, ground := .phase }, { on := 40, ground := .phase }, { on := 41, ground := .phase }], guard := none }]
theorem awake7_plain : Region.noSelect awake7 = true := by kernel_rfl

set_option maxHeartbeats 8000000 in
set_option maxRecDepth 100000 in
theorem awake_any (O : Own14) (w : World) :
    Calls Try.prog 6 #[] w fun e w' => e = .returned (.bool true) ∧ Below w.heap.size w w' := by
  obtain ⟨x, y, hF⟩ := some_frame
  have r12 : rightF ⟨12, 0, false, 0⟩ = false := by decide
  have rd : readF [165, 90, 3, 7, 1, 255, 255, 255, 254, x, y] = (⟨3, 7, true, -2⟩, 0) := by
    have := read_frame someF [] some_right
    rw [List.append_nil, hF] at this
    exact this
  have rd1 : readF [90, 3, 7, 1, 255, 255, 255, 254, x, y] = (⟨0, 0, false, 0⟩, 2) := rfl
  have HSM := Lib.hid some_any
  have OB := Lib.hid fun w => O.bytes someF w some_right
  rw [hF] at OB
  have ON := Lib.hid fun w => O.no ⟨12, 0, false, 0⟩ w r12
  simp only [fv, someF] at HSM OB ON
  clear r12
  go_enter Try.func6, Try.ntmps6
  go_wp2_with fail
  refine (HSM.out w).mono ?_; rintro e w1 ⟨rfl, hb1⟩
  have HB1 := Lib.hid hb1
  clear hb1
  go_wp2_with fail
  refine (OB.out w1).mono ?_; rintro e w2 ⟨u, rfl, hu⟩
  have HB2 := Lib.hid (belowT HB1.out hu.below)
  obtain ⟨g, c, rfl, M⟩ := hu.mine (by simp)
  have hg := M.base
  have L2 := Lib.hid M.lies
  have hc := M.le
  have hm := M.max
  have hcI : (11 : Int) ≤ c := by simp at hc; omega
  have hmI : (c : Int) ≤ 9223372036854775807 := by unfold maxLen at hm; omega
  have HC := Lib.hid (And.intro hc hm)
  clear HB1 hu M OB hc hm
  go_wp2_with fail
  have C2 : Came w2 (some ⟨g, 0, none⟩) c [165, 90, 3, 7, 1, 255, 255, 255, 254, x, y] := ⟨HC.out.1, HC.out.2, fun h => (by cases h), fun _ => ⟨g, 0, rfl, L2.out⟩⟩
  have R1 := O.read w2 (some ⟨g, 0, none⟩) c _ C2 (by simp)
  rw [rd] at R1
  simp only [fv] at R1
  refine R1.mono ?_; rintro e w3 ⟨rfl, hb3⟩
  have HB3 := Lib.hid (belowT HB2.out hb3)
  have hb3a := belowT hb3 (below1 w3 (.cells #[.int .i64 3, .int .i64 7, .bool true, .int .i64 (-2)] 23))
  have L3 := Lib.hid (L2.out.keep hb3a)
  have O3 := Lib.hid (hasl w3 [.int .i64 3, .int .i64 7, .bool true, .int .i64 (-2)] 23)
  clear HB2 L2 C2 R1 rd hb3 hb3a
  go_wp2_with fail
  have C4 : Came (w3.alloc (.cells #[.int .i64 3, .int .i64 7, .bool true, .int .i64 (-2)] 23)) (some ⟨g, 1, none⟩) (c - 1) [90, 3, 7, 1, 255, 255, 255, 254, x, y] :=
    ⟨by have := HC.out.1; simp at this ⊢; omega, by have := HC.out.2; omega, fun h => (by cases h), fun _ => ⟨g, 1, rfl, L3.out.part 1 10 (by simp)⟩⟩
  have R2 := O.read _ (some ⟨g, 1, none⟩) (c - 1) _ C4 (by simp)
  rw [rd1] at R2
  simp only [fv] at R2
  refine R2.mono ?_; rintro e w5 ⟨rfl, hb5⟩
  have HB5 := Lib.hid (belowT (belowT HB3.out (below1 w3 _)) hb5)
  have O5 := Lib.hid (O3.out.keep hb5)
  have L5 := Lib.hid (L3.out.keep hb5)
  clear HB3 L3 O3 C4 R2 rd1 hb5
  go_wp2_with fail
  refine (ON.out _).mono ?_; rintro e w6 ⟨rfl, hb6⟩
  have hb6a := belowT (below1 w5 (.cells #[.int .i64 0, .int .i64 0, .bool false, .int .i64 0] 23)) hb6
  have HB6 := Lib.hid (belowT HB5.out hb6a)
  have O6 := O5.out.keep hb6a
  have L6 := L5.out.keep hb6a
  clear HB5 O5 L5 ON hb6 hb6a
  go_upto_region 7 with fail
  obtain ⟨W0, rfl⟩ : ∃ W0, W0 = w6 := ⟨_, rfl⟩
  have q0 := O6.at 0 rfl
  have q1 := O6.at 1 rfl
  have q2 := O6.at 2 rfl
  have q3 := O6.at 3 rfl
  have r0 : ∀ w', Below W0.heap.size W0 w' → w'.cell? ⟨w3.heap.size, 0, none⟩ = some (.int .i64 3) := fun w' h => keepc h q0
  have r1 : ∀ w', Below W0.heap.size W0 w' → w'.cell? ⟨w3.heap.size, 1, none⟩ = some (.int .i64 7) := fun w' h => keepc h q1
  have r2 : ∀ w', Below W0.heap.size W0 w' → w'.cell? ⟨w3.heap.size, 2, none⟩ = some (.bool true) := fun w' h => keepc h q2
  have r3 : ∀ w', Below W0.heap.size W0 w' → w'.cell? ⟨w3.heap.size, 3, none⟩ = some (.int .i64 (-2)) := fun w' h => keepc h q3
  have rs : ∀ w', Below W0.heap.size W0 w' → (convert 24 9 (.slice (some ⟨g, 0, none⟩) 9 c)).run Try.prog w' = .ok (.string ⟨#[165, 90, 3, 7, 1, 255, 255, 255, 254]⟩) w' := fun w' h =>
    part_string w' g 0 c [165, 90, 3, 7, 1, 255, 255, 255, 254] ((L6.keep h).part 0 9 (by simp))
  have CB := Lib.hid fun w' (h : Below W0.heap.size W0 w') => O.begins w' (some ⟨g, 0, none⟩) c [165, 90, 3, 7, 1, 255, 255, 255, 254, x, y] ⟨HC.out.1, HC.out.2, fun h => (by cases h), fun _ => ⟨g, 0, rfl, L6.keep h⟩⟩
  have CN := Lib.hid fun w' => O.begins w' none 0 [] (none_come w')
  have CR := Lib.hid fun w' => O.right someF w'
  rw [some_right] at CR
  have hbt : beginsF [165, 90, 3, 7, 1, 255, 255, 255, 254, x, y] = true := rfl
  have hbn : beginsF [] = false := rfl
  rw [hbt] at CB
  rw [hbn] at CN
  simp only [fv, someF] at CR
  have h9 : (9 : Int) ≤ c := by omega
  clear O6 L6 q0 q1 q2 q3 hbt hbn
  change (Code.region 7 awake7 true).wp Try.prog _ _ _
  refine wp_region_noPanic ?_
  refine wp_region_held_drew (S := fun w' => Below W0.heap.size W0 w') (by kernel_rfl) ((Below.refl _ _).drew) (fun hHeld => ?_)
  refine wpAnyH_take (i := 0) (oi := ({ dst := some 33, op := .move (.tmp 2), type := 26, pos := "law.go:20", after := #[], guard := none } : Oper)) (v := ?vs4_0) rfl awake7_plain (by as_aux_lemma => kernel_rfl) (by as_aux_lemma => kernel_rfl) (fun _ _ _ h => h) (Or.inl ⟨by rfl, ?ys4_0⟩) (by assumption) ?rs4_0
  case ys4_0 => (intro w hSw; (try dsimp only at hSw); go_simp; try with_reducible rfl)
  try simp only [Act.put, List.setIfInBounds_toArray, List.set_cons_zero, List.set_cons_succ]
  refine wpAnyH_take (i := 1) (oi := ({ dst := some 34, op := .binOp .eql 26 (.tmp 33) (.const (.int .i64 0)) 26, type := 4, pos := "law.go:20", after := #[{ on := 0, ground := .data }], guard := none } : Oper)) (v := ?vs4_1) rfl awake7_plain (by as_aux_lemma => kernel_rfl) (by as_aux_lemma => kernel_rfl) (fun _ _ _ h => h) (Or.inl ⟨by rfl, ?ys4_1⟩) (by assumption) ?rs4_1
  case ys4_1 => (intro w hSw; (try dsimp only at hSw); go_simp; try with_reducible rfl)
  try simp only [Act.put, List.setIfInBounds_toArray, List.set_cons_zero, List.set_cons_succ]
  refine wpAnyH_take (i := 2) (oi := ({ dst := some 35, op := .move (.tmp 34), type := 4, pos := "law.go:20", after := #[{ on := 1, ground := .data }], guard := none } : Oper)) (v := ?vs4_2) rfl awake7_plain (by as_aux_lemma => kernel_rfl) (by as_aux_lemma => kernel_rfl) (fun _ _ _ h => h) (Or.inl ⟨by rfl, ?ys4_2⟩) (by assumption) ?rs4_2
  case ys4_2 => (intro w hSw; (try dsimp only at hSw); go_simp; try with_reducible rfl)
  try simp only [Act.put, List.setIfInBounds_toArray, List.set_cons_zero, List.set_cons_succ]
  refine wpAnyH_take (i := 3) (oi := ({ dst := some 36, op := .move (.tmp 1), type := 24, pos := "law.go:20", after := #[{ on := 2, ground := .guard }], guard := some (2, true) } : Oper)) (v := ?vs4_3) rfl awake7_plain (by as_aux_lemma => kernel_rfl) (by as_aux_lemma => kernel_rfl) (fun _ _ _ h => h) (Or.inl ⟨by rfl, ?ys4_3⟩) (by assumption) ?rs4_3
  case ys4_3 => (intro w hSw; (try dsimp only at hSw); go_simp; try with_reducible rfl)
  try simp only [Act.put, List.setIfInBounds_toArray, List.set_cons_zero, List.set_cons_succ]
  refine wpAnyH_take (i := 4) (oi := ({ dst := some 37, op := .call { callee := .builtin .len, args := #[.tmp 36], argTypes := #[24] }, type := 3, pos := "law.go:20", after := #[{ on := 3, ground := .data }, { on := 2, ground := .guard }], guard := some (2, true) } : Oper)) (v := ?vs4_4) rfl awake7_plain (by as_aux_lemma => kernel_rfl) (by as_aux_lemma => kernel_rfl) (fun _ _ _ h => h) (Or.inl ⟨by rfl, ?ys4_4⟩) (by assumption) ?rs4_4
  case ys4_4 => (intro w hSw; (try dsimp only at hSw); go_simp; try with_reducible rfl)
  try simp only [Act.put, List.setIfInBounds_toArray, List.set_cons_zero, List.set_cons_succ]
  refine wpAnyH_take (i := 5) (oi := ({ dst := some 38, op := .binOp .eql 3 (.tmp 37) (.const (.int .i64 11)) 3, type := 4, pos := "law.go:20", after := #[{ on := 4, ground := .data }, { on := 2, ground := .guard }], guard := some (2, true) } : Oper)) (v := ?vs4_5) rfl awake7_plain (by as_aux_lemma => kernel_rfl) (by as_aux_lemma => kernel_rfl) (fun _ _ _ h => h) (Or.inl ⟨by rfl, ?ys4_5⟩) (by assumption) ?rs4_5
  case ys4_5 => (intro w hSw; (try dsimp only at hSw); go_simp; try with_reducible rfl)
  try simp only [Act.put, List.setIfInBounds_toArray, List.set_cons_zero, List.set_cons_succ]
  refine wpAnyH_take (i := 6) (oi := ({ dst := some 39, op := .pick (.tmp 35) (.tmp 38) (.const (.bool false)), type := 4, pos := "law.go:20", after := #[{ on := 2, ground := .data }, { on := 5, ground := .data }], guard := none } : Oper)) (v := ?vs4_6) rfl awake7_plain (by as_aux_lemma => kernel_rfl) (by as_aux_lemma => kernel_rfl) (fun _ _ _ h => h) (Or.inl ⟨by rfl, ?ys4_6⟩) (by assumption) ?rs4_6
  case ys4_6 => (intro w hSw; (try dsimp only at hSw); go_simp; try with_reducible rfl)
  try simp only [Act.put, List.setIfInBounds_toArray, List.set_cons_zero, List.set_cons_succ]
  refine wpAnyH_take (i := 7) (oi := ({ dst := some 40, op := .move (.tmp 39), type := 4, pos := "law.go:20", after := #[{ on := 6, ground := .data }, { on := 2, ground := .chain }], guard := none } : Oper)) (v := ?vs4_7) rfl awake7_plain (by as_aux_lemma => kernel_rfl) (by as_aux_lemma => kernel_rfl) (fun _ _ _ h => h) (Or.inl ⟨by rfl, ?ys4_7⟩) (by assumption) ?rs4_7
  case ys4_7 => (intro w hSw; (try dsimp only at hSw); go_simp; try with_reducible rfl)
  try simp only [Act.put, List.setIfInBounds_toArray, List.set_cons_zero, List.set_cons_succ]
  refine wpAnyH_take (i := 8) (oi := ({ dst := some 41, op := .move (.tmp 1), type := 24, pos := "law.go:20", after := #[{ on := 7, ground := .guard }], guard := some (7, true) } : Oper)) (v := ?vs4_8) rfl awake7_plain (by as_aux_lemma => kernel_rfl) (by as_aux_lemma => kernel_rfl) (fun _ _ _ h => h) (Or.inl ⟨by rfl, ?ys4_8⟩) (by assumption) ?rs4_8
  case ys4_8 => (intro w hSw; (try dsimp only at hSw); go_simp; try with_reducible rfl)
  try simp only [Act.put, List.setIfInBounds_toArray, List.set_cons_zero, List.set_cons_succ]
  refine wpAnyH_take (i := 9) (oi := ({ dst := some 42, op := .slice 24 (.tmp 41) none (some (.const (.int .i64 9))) none, type := 24, pos := "law.go:20", after := #[{ on := 8, ground := .data }, { on := 7, ground := .guard }], guard := some (7, true) } : Oper)) (v := ?vs4_9) rfl awake7_plain (by as_aux_lemma => kernel_rfl) (by as_aux_lemma => kernel_rfl) (fun _ _ _ h => h) (Or.inl ⟨by rfl, ?ys4_9⟩) (by assumption) ?rs4_9
  case ys4_9 => (intro w hSw; (try dsimp only at hSw); go_simp; try with_reducible rfl)
  try simp only [Act.put, List.setIfInBounds_toArray, List.set_cons_zero, List.set_cons_succ]
  refine wpAnyH_take (i := 10) (oi := ({ dst := some 43, op := .convert 24 9 (.tmp 42), type := 9, pos := "law.go:20", after := #[{ on := 9, ground := .data }, { on := 7, ground := .guard }], guard := some (7, true) } : Oper)) (v := ?vs4_10) rfl awake7_plain (by as_aux_lemma => kernel_rfl) (by as_aux_lemma => kernel_rfl) (fun _ _ _ h => h) (Or.inl ⟨by rfl, ?ys4_10⟩) (by assumption) ?rs4_10
  case ys4_10 => (intro w hSw; (try dsimp only at hSw); go_simp; try with_reducible rfl)
  try simp only [Act.put, List.setIfInBounds_toArray, List.set_cons_zero, List.set_cons_succ]
  refine wpAnyH_take (i := 11) (oi := ({ dst := some 44, op := .binOp .eql 9 (.tmp 43) (.const (.string { data := #[165, 90, 3, 7, 1, 255, 255, 255, 254] })) 9, type := 4, pos := "law.go:20", after := #[{ on := 10, ground := .data }, { on := 7, ground := .guard }], guard := some (7, true) } : Oper)) (v := ?vs4_11) rfl awake7_plain (by as_aux_lemma => kernel_rfl) (by as_aux_lemma => kernel_rfl) (fun _ _ _ h => h) (Or.inl ⟨by rfl, ?ys4_11⟩) (by assumption) ?rs4_11
  case ys4_11 => (intro w hSw; (try dsimp only at hSw); go_simp; try with_reducible rfl)
  try simp only [Act.put, List.setIfInBounds_toArray, List.set_cons_zero, List.set_cons_succ]
  refine wpAnyH_take (i := 12) (oi := ({ dst := some 45, op := .pick (.tmp 40) (.tmp 44) (.const (.bool false)), type := 4, pos := "law.go:20", after := #[{ on := 7, ground := .data }, { on := 11, ground := .data }], guard := none } : Oper)) (v := ?vs4_12) rfl awake7_plain (by as_aux_lemma => kernel_rfl) (by as_aux_lemma => kernel_rfl) (fun _ _ _ h => h) (Or.inl ⟨by rfl, ?ys4_12⟩) (by assumption) ?rs4_12
  case ys4_12 => (intro w hSw; (try dsimp only at hSw); go_simp; try with_reducible rfl)
  try simp only [Act.put, List.setIfInBounds_toArray, List.set_cons_zero, List.set_cons_succ]
  refine wpAnyH_take (i := 13) (oi := ({ dst := some 46, op := .move (.tmp 45), type := 4, pos := "law.go:20", after := #[{ on := 12, ground := .data }, { on := 7, ground := .chain }], guard := none } : Oper)) (v := ?vs4_13) rfl awake7_plain (by as_aux_lemma => kernel_rfl) (by as_aux_lemma => kernel_rfl) (fun _ _ _ h => h) (Or.inl ⟨by rfl, ?ys4_13⟩) (by assumption) ?rs4_13
  case ys4_13 => (intro w hSw; (try dsimp only at hSw); go_simp; try with_reducible rfl)
  try simp only [Act.put, List.setIfInBounds_toArray, List.set_cons_zero, List.set_cons_succ]
  refine wpAnyH_take (i := 14) (oi := ({ dst := some 47, op := .move (.tmp 4), type := 26, pos := "law.go:20", after := #[{ on := 13, ground := .guard }], guard := some (13, true) } : Oper)) (v := ?vs4_14) rfl awake7_plain (by as_aux_lemma => kernel_rfl) (by as_aux_lemma => kernel_rfl) (fun _ _ _ h => h) (Or.inl ⟨by rfl, ?ys4_14⟩) (by assumption) ?rs4_14
  case ys4_14 => (intro w hSw; (try dsimp only at hSw); go_simp; try with_reducible rfl)
  try simp only [Act.put, List.setIfInBounds_toArray, List.set_cons_zero, List.set_cons_succ]
  refine wpAnyH_take (i := 15) (oi := ({ dst := some 48, op := .binOp .eql 26 (.tmp 47) (.const (.int .i64 0)) 26, type := 4, pos := "law.go:20", after := #[{ on := 14, ground := .data }, { on := 13, ground := .guard }], guard := some (13, true) } : Oper)) (v := ?vs4_15) rfl awake7_plain (by as_aux_lemma => kernel_rfl) (by as_aux_lemma => kernel_rfl) (fun _ _ _ h => h) (Or.inl ⟨by rfl, ?ys4_15⟩) (by assumption) ?rs4_15
  case ys4_15 => (intro w hSw; (try dsimp only at hSw); go_simp; try with_reducible rfl)
  try simp only [Act.put, List.setIfInBounds_toArray, List.set_cons_zero, List.set_cons_succ]
  refine wpAnyH_take (i := 16) (oi := ({ dst := some 49, op := .pick (.tmp 46) (.tmp 48) (.const (.bool false)), type := 4, pos := "law.go:20", after := #[{ on := 13, ground := .data }, { on := 15, ground := .data }], guard := none } : Oper)) (v := ?vs4_16) rfl awake7_plain (by as_aux_lemma => kernel_rfl) (by as_aux_lemma => kernel_rfl) (fun _ _ _ h => h) (Or.inl ⟨by rfl, ?ys4_16⟩) (by assumption) ?rs4_16
  case ys4_16 => (intro w hSw; (try dsimp only at hSw); go_simp; try with_reducible rfl)
  try simp only [Act.put, List.setIfInBounds_toArray, List.set_cons_zero, List.set_cons_succ]
  refine wpAnyH_take (i := 17) (oi := ({ dst := some 50, op := .move (.tmp 49), type := 4, pos := "law.go:20", after := #[{ on := 16, ground := .data }, { on := 13, ground := .chain }], guard := none } : Oper)) (v := ?vs4_17) rfl awake7_plain (by as_aux_lemma => kernel_rfl) (by as_aux_lemma => kernel_rfl) (fun _ _ _ h => h) (Or.inl ⟨by rfl, ?ys4_17⟩) (by assumption) ?rs4_17
  case ys4_17 => (intro w hSw; (try dsimp only at hSw); go_simp; try with_reducible rfl)
  try simp only [Act.put, List.setIfInBounds_toArray, List.set_cons_zero, List.set_cons_succ]
  refine wpAnyH_take (i := 18) (oi := ({ dst := some 51, op := .load 23 (.tmp 3), type := 23, pos := "law.go:20", after := #[{ on := 17, ground := .guard }], guard := some (17, true) } : Oper)) (v := ?vs4_18) rfl awake7_plain (by as_aux_lemma => kernel_rfl) (by as_aux_lemma => kernel_rfl) (fun _ _ _ h => h) (Or.inl ⟨by rfl, ?ys4_18⟩) (by assumption) ?rs4_18
  case ys4_18 => (intro w hSw; (try dsimp only at hSw); go_simp; try with_reducible rfl)
  try simp only [Act.put, List.setIfInBounds_toArray, List.set_cons_zero, List.set_cons_succ]
  refine wpAnyH_ready (rs := [19]) (by as_aux_lemma => kernel_rfl) (by simp) ?_
  refine AllReadyH.cons (o := ({ dst := some 52, op := .call { callee := .value (.func 15), args := #[], argTypes := #[] }, type := 23, pos := "law.go:20", after := #[{ on := 17, ground := .chain }, { on := 17, ground := .guard }], guard := some (17, true) } : Oper)) rfl (fun KK hK => ?_) AllReadyH.nil
  rw [if_pos (by rfl)]
  go_simp
  go_at_call 15; refine (HSM.out _).mono ?_; rintro e w7 ⟨rfl, hb7⟩
  go_wp2_with fail
  refine hK.out _ _ ?_ (fun hHeld7 => ?_)
  · exact belowT (by assumption) hb7
  clear hK KK hb7
  try simp only [Act.put, List.setIfInBounds_toArray, List.set_cons_zero, List.set_cons_succ]
  refine wpAnyH_take (i := 20) (oi := ({ dst := some 53, op := .binOp .eql 23 (.tmp 51) (.tmp 52) 23, type := 4, pos := "law.go:20", after := #[{ on := 18, ground := .data }, { on := 19, ground := .data }, { on := 17, ground := .guard }], guard := some (17, true) } : Oper)) (v := ?vs4_20) rfl awake7_plain (by as_aux_lemma => kernel_rfl) (by as_aux_lemma => kernel_rfl) (fun _ _ _ h => h) (Or.inl ⟨by rfl, ?ys4_20⟩) (by assumption) ?rs4_20
  case ys4_20 => (intro w hSw; (try dsimp only at hSw); go_simp; try with_reducible rfl)
  try simp only [Act.put, List.setIfInBounds_toArray, List.set_cons_zero, List.set_cons_succ]
  refine wpAnyH_take (i := 21) (oi := ({ dst := some 54, op := .pick (.tmp 50) (.tmp 53) (.const (.bool false)), type := 4, pos := "law.go:20", after := #[{ on := 17, ground := .data }, { on := 20, ground := .data }], guard := none } : Oper)) (v := ?vs4_21) rfl awake7_plain (by as_aux_lemma => kernel_rfl) (by as_aux_lemma => kernel_rfl) (fun _ _ _ h => h) (Or.inl ⟨by rfl, ?ys4_21⟩) (by assumption) ?rs4_21
  case ys4_21 => (intro w hSw; (try dsimp only at hSw); go_simp; try with_reducible rfl)
  try simp only [Act.put, List.setIfInBounds_toArray, List.set_cons_zero, List.set_cons_succ]
  refine wpAnyH_take (i := 22) (oi := ({ dst := some 55, op := .move (.tmp 54), type := 4, pos := "law.go:20", after := #[{ on := 21, ground := .data }, { on := 19, ground := .chain }], guard := none } : Oper)) (v := ?vs4_22) rfl awake7_plain (by as_aux_lemma => kernel_rfl) (by as_aux_lemma => kernel_rfl) (fun _ _ _ h => h) (Or.inl ⟨by rfl, ?ys4_22⟩) (by assumption) ?rs4_22
  case ys4_22 => (intro w hSw; (try dsimp only at hSw); go_simp; try with_reducible rfl)
  try simp only [Act.put, List.setIfInBounds_toArray, List.set_cons_zero, List.set_cons_succ]
  refine wpAnyH_take (i := 23) (oi := ({ dst := some 56, op := .move (.tmp 6), type := 26, pos := "law.go:20", after := #[{ on := 22, ground := .guard }], guard := some (22, true) } : Oper)) (v := ?vs4_23) rfl awake7_plain (by as_aux_lemma => kernel_rfl) (by as_aux_lemma => kernel_rfl) (fun _ _ _ h => h) (Or.inl ⟨by rfl, ?ys4_23⟩) (by assumption) ?rs4_23
  case ys4_23 => (intro w hSw; (try dsimp only at hSw); go_simp; try with_reducible rfl)
  try simp only [Act.put, List.setIfInBounds_toArray, List.set_cons_zero, List.set_cons_succ]
  refine wpAnyH_take (i := 24) (oi := ({ dst := some 57, op := .binOp .eql 26 (.tmp 56) (.const (.int .i64 2)) 26, type := 4, pos := "law.go:20", after := #[{ on := 23, ground := .data }, { on := 22, ground := .guard }], guard := some (22, true) } : Oper)) (v := ?vs4_24) rfl awake7_plain (by as_aux_lemma => kernel_rfl) (by as_aux_lemma => kernel_rfl) (fun _ _ _ h => h) (Or.inl ⟨by rfl, ?ys4_24⟩) (by assumption) ?rs4_24
  case ys4_24 => (intro w hSw; (try dsimp only at hSw); go_simp; try with_reducible rfl)
  try simp only [Act.put, List.setIfInBounds_toArray, List.set_cons_zero, List.set_cons_succ]
  refine wpAnyH_take (i := 25) (oi := ({ dst := some 58, op := .pick (.tmp 55) (.tmp 57) (.const (.bool false)), type := 4, pos := "law.go:20", after := #[{ on := 22, ground := .data }, { on := 24, ground := .data }], guard := none } : Oper)) (v := ?vs4_25) rfl awake7_plain (by as_aux_lemma => kernel_rfl) (by as_aux_lemma => kernel_rfl) (fun _ _ _ h => h) (Or.inl ⟨by rfl, ?ys4_25⟩) (by assumption) ?rs4_25
  case ys4_25 => (intro w hSw; (try dsimp only at hSw); go_simp; try with_reducible rfl)
  try simp only [Act.put, List.setIfInBounds_toArray, List.set_cons_zero, List.set_cons_succ]
  refine wpAnyH_take (i := 26) (oi := ({ dst := some 59, op := .move (.tmp 58), type := 4, pos := "law.go:20", after := #[{ on := 25, ground := .data }, { on := 22, ground := .chain }], guard := none } : Oper)) (v := ?vs4_26) rfl awake7_plain (by as_aux_lemma => kernel_rfl) (by as_aux_lemma => kernel_rfl) (fun _ _ _ h => h) (Or.inl ⟨by rfl, ?ys4_26⟩) (by assumption) ?rs4_26
  case ys4_26 => (intro w hSw; (try dsimp only at hSw); go_simp; try with_reducible rfl)
  try simp only [Act.put, List.setIfInBounds_toArray, List.set_cons_zero, List.set_cons_succ]
  refine wpAnyH_take (i := 27) (oi := ({ dst := some 60, op := .move (.tmp 8), type := 26, pos := "law.go:20", after := #[{ on := 26, ground := .guard }], guard := some (26, true) } : Oper)) (v := ?vs4_27) rfl awake7_plain (by as_aux_lemma => kernel_rfl) (by as_aux_lemma => kernel_rfl) (fun _ _ _ h => h) (Or.inl ⟨by rfl, ?ys4_27⟩) (by assumption) ?rs4_27
  case ys4_27 => (intro w hSw; (try dsimp only at hSw); go_simp; try with_reducible rfl)
  try simp only [Act.put, List.setIfInBounds_toArray, List.set_cons_zero, List.set_cons_succ]
  refine wpAnyH_take (i := 28) (oi := ({ dst := some 61, op := .binOp .eql 26 (.tmp 60) (.const (.int .i64 1)) 26, type := 4, pos := "law.go:20", after := #[{ on := 27, ground := .data }, { on := 26, ground := .guard }], guard := some (26, true) } : Oper)) (v := ?vs4_28) rfl awake7_plain (by as_aux_lemma => kernel_rfl) (by as_aux_lemma => kernel_rfl) (fun _ _ _ h => h) (Or.inl ⟨by rfl, ?ys4_28⟩) (by assumption) ?rs4_28
  case ys4_28 => (intro w hSw; (try dsimp only at hSw); go_simp; try with_reducible rfl)
  try simp only [Act.put, List.setIfInBounds_toArray, List.set_cons_zero, List.set_cons_succ]
  refine wpAnyH_take (i := 29) (oi := ({ dst := some 62, op := .pick (.tmp 59) (.tmp 61) (.const (.bool false)), type := 4, pos := "law.go:20", after := #[{ on := 26, ground := .data }, { on := 28, ground := .data }], guard := none } : Oper)) (v := ?vs4_29) rfl awake7_plain (by as_aux_lemma => kernel_rfl) (by as_aux_lemma => kernel_rfl) (fun _ _ _ h => h) (Or.inl ⟨by rfl, ?ys4_29⟩) (by assumption) ?rs4_29
  case ys4_29 => (intro w hSw; (try dsimp only at hSw); go_simp; try with_reducible rfl)
  try simp only [Act.put, List.setIfInBounds_toArray, List.set_cons_zero, List.set_cons_succ]
  refine wpAnyH_take (i := 30) (oi := ({ dst := some 63, op := .move (.tmp 62), type := 4, pos := "law.go:20", after := #[{ on := 29, ground := .data }, { on := 26, ground := .chain }], guard := none } : Oper)) (v := ?vs4_30) rfl awake7_plain (by as_aux_lemma => kernel_rfl) (by as_aux_lemma => kernel_rfl) (fun _ _ _ h => h) (Or.inl ⟨by rfl, ?ys4_30⟩) (by assumption) ?rs4_30
  case ys4_30 => (intro w hSw; (try dsimp only at hSw); go_simp; try with_reducible rfl)
  try simp only [Act.put, List.setIfInBounds_toArray, List.set_cons_zero, List.set_cons_succ]
  refine wpAnyH_take (i := 31) (oi := ({ dst := some 64, op := .move (.tmp 1), type := 24, pos := "law.go:20", after := #[{ on := 30, ground := .guard }], guard := some (30, true) } : Oper)) (v := ?vs4_31) rfl awake7_plain (by as_aux_lemma => kernel_rfl) (by as_aux_lemma => kernel_rfl) (fun _ _ _ h => h) (Or.inl ⟨by rfl, ?ys4_31⟩) (by assumption) ?rs4_31
  case ys4_31 => (intro w hSw; (try dsimp only at hSw); go_simp; try with_reducible rfl)
  try simp only [Act.put, List.setIfInBounds_toArray, List.set_cons_zero, List.set_cons_succ]
  refine wpAnyH_ready (rs := [32]) (by as_aux_lemma => kernel_rfl) (by simp) ?_
  refine AllReadyH.cons (o := ({ dst := some 65, op := .call { callee := .value (.func 13), args := #[.tmp 64], argTypes := #[24] }, type := 4, pos := "law.go:20", after := #[{ on := 31, ground := .data }, { on := 30, ground := .chain }, { on := 30, ground := .guard }], guard := some (30, true) } : Oper)) rfl (fun KK hK => ?_) AllReadyH.nil
  rw [if_pos (by rfl)]
  go_simp
  go_at_call 13; refine (CB.out _ (by assumption)).mono ?_; rintro e w8 ⟨rfl, hb8⟩
  go_wp2_with fail
  refine hK.out _ _ ?_ (fun hHeld8 => ?_)
  · exact belowT (by assumption) hb8
  clear hK KK hb8 hHeld7
  try simp only [Act.put, List.setIfInBounds_toArray, List.set_cons_zero, List.set_cons_succ]
  refine wpAnyH_take (i := 33) (oi := ({ dst := some 66, op := .pick (.tmp 63) (.tmp 65) (.const (.bool false)), type := 4, pos := "law.go:20", after := #[{ on := 30, ground := .data }, { on := 32, ground := .data }], guard := none } : Oper)) (v := ?vs4_33) rfl awake7_plain (by as_aux_lemma => kernel_rfl) (by as_aux_lemma => kernel_rfl) (fun _ _ _ h => h) (Or.inl ⟨by rfl, ?ys4_33⟩) (by assumption) ?rs4_33
  case ys4_33 => (intro w hSw; (try dsimp only at hSw); go_simp; try with_reducible rfl)
  try simp only [Act.put, List.setIfInBounds_toArray, List.set_cons_zero, List.set_cons_succ]
  refine wpAnyH_take (i := 34) (oi := ({ dst := some 67, op := .move (.tmp 66), type := 4, pos := "law.go:20", after := #[{ on := 33, ground := .data }, { on := 32, ground := .chain }], guard := none } : Oper)) (v := ?vs4_34) rfl awake7_plain (by as_aux_lemma => kernel_rfl) (by as_aux_lemma => kernel_rfl) (fun _ _ _ h => h) (Or.inl ⟨by rfl, ?ys4_34⟩) (by assumption) ?rs4_34
  case ys4_34 => (intro w hSw; (try dsimp only at hSw); go_simp; try with_reducible rfl)
  try simp only [Act.put, List.setIfInBounds_toArray, List.set_cons_zero, List.set_cons_succ]
  refine wpAnyH_ready (rs := [35]) (by as_aux_lemma => kernel_rfl) (by simp) ?_
  refine AllReadyH.cons (o := ({ dst := some 68, op := .call { callee := .value (.func 13), args := #[.const (.slice none 0 0)], argTypes := #[24] }, type := 4, pos := "law.go:20", after := #[{ on := 34, ground := .chain }, { on := 34, ground := .guard }], guard := some (34, true) } : Oper)) rfl (fun KK hK => ?_) AllReadyH.nil
  rw [if_pos (by rfl)]
  go_simp
  go_at_call 13; refine (CN.out _).mono ?_; rintro e w9 ⟨rfl, hb9⟩
  go_wp2_with fail
  refine hK.out _ _ ?_ (fun hHeld9 => ?_)
  · exact belowT (by assumption) hb9
  clear hK KK hb9 hHeld8
  try simp only [Act.put, List.setIfInBounds_toArray, List.set_cons_zero, List.set_cons_succ]
  refine wpAnyH_take (i := 36) (oi := ({ dst := some 69, op := .unOp .not 4 (.tmp 68), type := 4, pos := "law.go:20", after := #[{ on := 35, ground := .data }, { on := 34, ground := .guard }], guard := some (34, true) } : Oper)) (v := ?vs4_36) rfl awake7_plain (by as_aux_lemma => kernel_rfl) (by as_aux_lemma => kernel_rfl) (fun _ _ _ h => h) (Or.inl ⟨by rfl, ?ys4_36⟩) (by assumption) ?rs4_36
  case ys4_36 => (intro w hSw; (try dsimp only at hSw); go_simp; try with_reducible rfl)
  try simp only [Act.put, List.setIfInBounds_toArray, List.set_cons_zero, List.set_cons_succ]
  refine wpAnyH_take (i := 37) (oi := ({ dst := some 70, op := .pick (.tmp 67) (.tmp 69) (.const (.bool false)), type := 4, pos := "law.go:20", after := #[{ on := 34, ground := .data }, { on := 36, ground := .data }], guard := none } : Oper)) (v := ?vs4_37) rfl awake7_plain (by as_aux_lemma => kernel_rfl) (by as_aux_lemma => kernel_rfl) (fun _ _ _ h => h) (Or.inl ⟨by rfl, ?ys4_37⟩) (by assumption) ?rs4_37
  case ys4_37 => (intro w hSw; (try dsimp only at hSw); go_simp; try with_reducible rfl)
  try simp only [Act.put, List.setIfInBounds_toArray, List.set_cons_zero, List.set_cons_succ]
  refine wpAnyH_take (i := 38) (oi := ({ dst := some 71, op := .move (.tmp 70), type := 4, pos := "law.go:20", after := #[{ on := 37, ground := .data }, { on := 35, ground := .chain }], guard := none } : Oper)) (v := ?vs4_38) rfl awake7_plain (by as_aux_lemma => kernel_rfl) (by as_aux_lemma => kernel_rfl) (fun _ _ _ h => h) (Or.inl ⟨by rfl, ?ys4_38⟩) (by assumption) ?rs4_38
  case ys4_38 => (intro w hSw; (try dsimp only at hSw); go_simp; try with_reducible rfl)
  try simp only [Act.put, List.setIfInBounds_toArray, List.set_cons_zero, List.set_cons_succ]
  refine wpAnyH_ready (rs := [39]) (by as_aux_lemma => kernel_rfl) (by simp) ?_
  refine AllReadyH.cons (o := ({ dst := some 72, op := .call { callee := .value (.func 15), args := #[], argTypes := #[] }, type := 23, pos := "law.go:20", after := #[{ on := 38, ground := .chain }, { on := 38, ground := .guard }], guard := some (38, true) } : Oper)) rfl (fun KK hK => ?_) AllReadyH.nil
  rw [if_pos (by rfl)]
  go_simp
  go_at_call 15; refine (HSM.out _).mono ?_; rintro e w10 ⟨rfl, hb10⟩
  go_wp2_with fail
  refine hK.out _ _ ?_ (fun hHeld10 => ?_)
  · exact belowT (by assumption) hb10
  clear hK KK hb10 hHeld9
  try simp only [Act.put, List.setIfInBounds_toArray, List.set_cons_zero, List.set_cons_succ]
  refine wpAnyH_ready (rs := [40]) (by as_aux_lemma => kernel_rfl) (by simp) ?_
  refine AllReadyH.cons (o := ({ dst := some 73, op := .call { callee := .value (.func 11), args := #[.tmp 72], argTypes := #[23] }, type := 4, pos := "law.go:20", after := #[{ on := 39, ground := .data }, { on := 39, ground := .chain }, { on := 38, ground := .guard }], guard := some (38, true) } : Oper)) rfl (fun KK hK => ?_) AllReadyH.nil
  rw [if_pos (by rfl)]
  go_simp
  go_at_call 11; refine (CR.out _).mono ?_; rintro e w11 ⟨rfl, hb11⟩
  go_wp2_with fail
  refine hK.out _ _ ?_ (fun hHeld11 => ?_)
  · exact belowT (by assumption) hb11
  clear hK KK hb11 hHeld10
  try simp only [Act.put, List.setIfInBounds_toArray, List.set_cons_zero, List.set_cons_succ]
  refine wpAnyH_take (i := 41) (oi := ({ dst := some 74, op := .pick (.tmp 71) (.tmp 73) (.const (.bool false)), type := 4, pos := "law.go:20", after := #[{ on := 38, ground := .data }, { on := 40, ground := .data }], guard := none } : Oper)) (v := ?vs4_41) rfl awake7_plain (by as_aux_lemma => kernel_rfl) (by as_aux_lemma => kernel_rfl) (fun _ _ _ h => h) (Or.inl ⟨by rfl, ?ys4_41⟩) (by assumption) ?rs4_41
  case ys4_41 => (intro w hSw; (try dsimp only at hSw); go_simp; try with_reducible rfl)
  try simp only [Act.put, List.setIfInBounds_toArray, List.set_cons_zero, List.set_cons_succ]
  refine wpAnyH_take (i := 42) (oi := ({ dst := some 0, op := .assign (.tmp 74), type := 4, pos := "law.go:20", after := #[{ on := 41, ground := .data }, { on := 40, ground := .chain }, { on := 0, ground := .phase }, { on := 1, ground := .phase }, { on := 2, ground := .phase }, { on := 3, ground := .phase }, { on := 4, ground := .phase }, { on := 5, ground := .phase }, { on := 6, ground := .phase }, { on := 7, ground := .phase }, { on := 8, ground := .phase }, { on := 9, ground := .phase }, { on := 10, ground := .phase }, { on := 11, ground := .phase }, { on := 12, ground := .phase }, { on := 13, ground := .phase }, { on := 14, ground := .phase }, { on := 15, ground := .phase }, { on := 16, ground := .phase }, { on := 17, ground := .phase }, { on := 18, ground := .phase }, { on := 19, ground := .phase }, { on := 20, ground := .phase }, { on := 21, ground := .phase }, { on := 22, ground := .phase }, { on := 23, ground := .phase }, { on := 24, ground := .phase }, { on := 25, ground := .phase }, { on := 26, ground := .phase }, { on := 27, ground := .phase }, { on := 28, ground := .phase }, { on := 29, ground := .phase }, { on := 30, ground := .phase }, { on := 31, ground := .phase }, { on := 32, ground := .phase }, { on := 33, ground := .phase }, { on := 34, ground := .phase }, { on := 35, ground := .phase }, { on := 36, ground := .phase }, { on := 37, ground := .phase }, { on := 38, ground := .phase }, { on := 39, ground := .phase }, { on := 40, ground := .phase }, { on := 41, ground := .phase }], guard := none } : Oper)) (v := ?vs4_42) rfl awake7_plain (by as_aux_lemma => kernel_rfl) (by as_aux_lemma => kernel_rfl) (fun _ _ _ h => h) (Or.inl ⟨by rfl, ?ys4_42⟩) (by assumption) ?rs4_42
  case ys4_42 => (intro w hSw; (try dsimp only at hSw); go_simp; try with_reducible rfl)
  try simp only [Act.put, List.setIfInBounds_toArray, List.set_cons_zero]
  refine wpAnyH_done (by as_aux_lemma => kernel_rfl) ?_ _
  refine NoPanic.normal ?_
  go_wp2_with fail
  go_ret
  exact ⟨rfl, belowT HB6.out (by assumption)⟩
end Go.Proofs.Ytmbmpgedoopjlaa
