/- The landed frame's Right (by inRoom), wellByte, Begins (by bytes.HasPrefix). -/
import Derived.Test.YtnafodnaolmffaaFrmB
import Derived.Test.YtnafodnaolmffaaFrmRefA
import Derived.Test.YtnafodnaolmffaaBufOwn
import Derived.ChangeKeysEq
import Derived.Test.YtnafodnaolmffaaLanGet
import Derived.Test.YtnafodnaolmffaaLanCrcF
import Derived.Test.YtnafodnaolmffaaVr
import Derived.Test.YtnafodnaolmffaaSp
import Derived.Test.YtnafodnaolmffaaV64
namespace Go.Proofs.Ytnafodnaolmffaa
open Go.RowKit

/-- as much of a frame's numbers as their bytes have room for -/
def roomF (f : Fr) : Fr := ⟨IntKind.u8.wrap f.src, IntKind.u8.wrap f.cnt, f.well, IntKind.i32.wrap f.val⟩
theorem right_room (f : Fr) : rightF f = (decide (f = roomF f) && decide (f.src < 12)) := by
  rw [Bool.eq_iff_iff, right_iff]
  obtain ⟨s, c, b, v⟩ := f
  simp only [roomF, Fr.mk.injEq, Bool.and_eq_true, decide_eq_true_eq, IntKind.wrap_u8, IntKind.wrap_i32, true_and]
  omega

namespace Lan14
theorem inRoom_core (s c v x y z : Int) (b : Bool) (w : World) (e1 : IntKind.u8.wrap s = x) (e2 : IntKind.u8.wrap c = y) (e3 : wrap32 v = z) (g1 : IntKind.i64.wrap x = x) (g2 : IntKind.i64.wrap y = y) (g3 : wrap64 z = z) :
    Calls Try.prog 38 #[.agg #[.int .i64 s, .int .i64 c, .bool b, .int .i64 v]] w fun e w' => e = .returned (.agg #[.int .i64 x, .int .i64 y, .bool b, .int .i64 z]) ∧ Below w.heap.size w w' := by
  have B2 := Lib.hid (belowT (below1 w (.cells #[.int .i64 s, .int .i64 c, .bool b, .int .i64 v] 35)) (below1 (w.alloc (.cells #[.int .i64 s, .int .i64 c, .bool b, .int .i64 v] 35)) (.cells #[.int .i64 x, .int .i64 y, .bool b, .int .i64 z] 35)))
  go_enter Try.func38, Try.ntmps38
  go_wp2
  refine bodyPost_ret (v := .agg #[.int .i64 x, .int .i64 y, .bool b, .int .i64 z]) (by simp [results, Try.results38, go_sem, *]) rfl ⟨rfl, ?_⟩
  exact B2.out
theorem inRoom_any (f : Fr) (w : World) : Calls Try.prog 38 #[fv f] w fun e w' => e = .returned (fv (roomF f)) ∧ Below w.heap.size w w' := by
  have a1 : IntKind.i64.wrap (IntKind.u8.wrap f.src) = IntKind.u8.wrap f.src := by rw [IntKind.wrap_u8, IntKind.wrap_i64]; omega
  have a2 : IntKind.i64.wrap (IntKind.u8.wrap f.cnt) = IntKind.u8.wrap f.cnt := by rw [IntKind.wrap_u8, IntKind.wrap_i64]; omega
  have a3 : wrap64 (IntKind.i32.wrap f.val) = IntKind.i32.wrap f.val := by rw [IntKind.wrap_i32]; unfold wrap64; omega
  have a4 : wrap32 f.val = IntKind.i32.wrap f.val := by rw [IntKind.wrap_i32]; unfold wrap32; omega
  exact inRoom_core f.src f.cnt f.val _ _ _ f.well w rfl rfl a4 a1 a2 a3

/-- The operations of a drawn region, as the translation has them. -/
def right1 : Array Oper := #[
  { dst := some 3, op := .load 35 (.tmp 1), type := 35, pos := "frame.go:39", after := #[], guard := none },
  { dst := some 4, op := .load 35 (.tmp 1), type := 35, pos := "frame.go:39", after := #[], guard := none },
  { dst := some 5, op := .call { callee := .value (.func 38), args := #[.tmp 4], argTypes := #[35] }, type := 35, pos := "frame.go:39", after := #[{ on := 1, ground := .data }], guard := none },
  { dst := some 6, op := .binOp .eql 35 (.tmp 3) (.tmp 5) 35, type := 4, pos := "frame.go:39", after := #[{ on := 0, ground := .data }, { on := 2, ground := .data }], guard := none },
  { dst := some 7, op := .move (.tmp 6), type := 4, pos := "frame.go:39", after := #[{ on := 3, ground := .data }, { on := 2, ground := .chain }], guard := none },
  { dst := some 8, op := .fieldAddr 35 (.tmp 1) 0, type := 0, pos := "frame.go:39", after := #[{ on := 4, ground := .guard }], guard := some (4, true) },
  { dst := some 9, op := .load 3 (.tmp 8), type := 3, pos := "frame.go:39", after := #[{ on := 5, ground := .data }, { on := 4, ground := .guard }], guard := some (4, true) },
  { dst := some 10, op := .binOp .lss 3 (.tmp 9) (.const (.int .i64 12)) 3, type := 4, pos := "frame.go:39", after := #[{ on := 6, ground := .data }, { on := 4, ground := .guard }], guard := some (4, true) },
  { dst := some 11, op := .pick (.tmp 7) (.tmp 10) (.const (.bool false)), type := 4, pos := "frame.go:39", after := #[{ on := 4, ground := .data }, { on := 7, ground := .data }], guard := none },
  { dst := some 2, op := .assign (.tmp 11), type := 4, pos := "frame.go:39", after := #[{ on := 8, ground := .data }, { on := 4, ground := .chain }, { on := 0, ground := .phase }, { on := 1, ground := .phase }, { on := 2, ground := .phase }, { on := 3, ground := .phase }, { on := 4, ground := .phase }, { on := 5, ground := .phase }, { on := 6, ground := .phase }, { on := 7, ground := .phase }, { on := 8, ground := .phase }], guard := none }]
theorem right1_plain : Region.noSelect right1 = true := by kernel_rfl

theorem Right_core (s c s' c' v v' : Int) (b r : Bool) (w : World) (HR : Hid (∀ w, Calls Try.prog 38 #[.agg #[.int .i64 s, .int .i64 c, .bool b, .int .i64 v]] w fun e w' => e = .returned (.agg #[.int .i64 s', .int .i64 c', .bool b, .int .i64 v']) ∧ Below w.heap.size w w'))
    (h : (s = s') = False ∧ r = false ∨ s' = s ∧ (c = c') = False ∧ r = false ∨ s' = s ∧ c' = c ∧ (v = v') = False ∧ r = false ∨ s' = s ∧ c' = c ∧ v' = v ∧ r = decide (s < 12)) :
    Calls Try.prog 26 #[.agg #[.int .i64 s, .int .i64 c, .bool b, .int .i64 v]] w fun e w' => e = .returned (.bool r) ∧ Below w.heap.size w w' := by
  have B1 := Lib.hid (below1 w (.cells #[.int .i64 s, .int .i64 c, .bool b, .int .i64 v] 35))
  have H1 := hasl w [.int .i64 s, .int .i64 c, .bool b, .int .i64 v] 35
  go_enter Try.func26, Try.ntmps26
  go_upto_region 1 with fail
  obtain ⟨W0, hW0⟩ : ∃ W0, W0 = w.alloc (.cells #[.int .i64 s, .int .i64 c, .bool b, .int .i64 v] 35) := ⟨_, rfl⟩
  rw [← hW0]
  rw [← hW0] at B1 H1
  clear hW0
  have q0 := H1.at 0 rfl
  have q1 := H1.at 1 rfl
  have q2 := H1.at 2 rfl
  have q3 := H1.at 3 rfl
  have r0 : ∀ w', Below W0.heap.size W0 w' → w'.cell? ⟨w.heap.size, 0, none⟩ = some (.int .i64 s) := fun w' h => keepc h q0
  have r1 : ∀ w', Below W0.heap.size W0 w' → w'.cell? ⟨w.heap.size, 1, none⟩ = some (.int .i64 c) := fun w' h => keepc h q1
  have r2 : ∀ w', Below W0.heap.size W0 w' → w'.cell? ⟨w.heap.size, 2, none⟩ = some (.bool b) := fun w' h => keepc h q2
  have r3 : ∀ w', Below W0.heap.size W0 w' → w'.cell? ⟨w.heap.size, 3, none⟩ = some (.int .i64 v) := fun w' h => keepc h q3
  clear q0 q1 q2 q3 H1
  rcases h with ⟨h1, hr⟩ | ⟨rfl, h1, hr⟩ | ⟨rfl, rfl, h1, hr⟩ | ⟨rfl, rfl, rfl, hr⟩
  · have HQ := Lib.hid hr
    clear hr
    change (Code.region 1 right1 true).wp Try.prog _ _ _
    refine wp_region_noPanic ?_
    refine wp_region_held_drew (S := fun w' => Below W0.heap.size W0 w') (by kernel_rfl) ((Below.refl _ _).drew) (fun hHeld => ?_)
    refine wpAnyH_take (i := 0) (oi := ({ dst := some 3, op := .load 35 (.tmp 1), type := 35, pos := "frame.go:39", after := #[], guard := none } : Oper)) (v := ?vs7_0) rfl right1_plain (by as_aux_lemma => kernel_rfl) (by as_aux_lemma => kernel_rfl) (fun _ _ _ h => h) (Or.inl ⟨by rfl, ?ys7_0⟩) (by assumption) ?rs7_0
    case ys7_0 => (intro w hSw; (try dsimp only at hSw); go_simp; try with_reducible rfl)
    try simp only [Act.put, List.setIfInBounds_toArray, List.set_cons_zero, List.set_cons_succ]
    refine wpAnyH_take (i := 1) (oi := ({ dst := some 4, op := .load 35 (.tmp 1), type := 35, pos := "frame.go:39", after := #[], guard := none } : Oper)) (v := ?vs7_1) rfl right1_plain (by as_aux_lemma => kernel_rfl) (by as_aux_lemma => kernel_rfl) (fun _ _ _ h => h) (Or.inl ⟨by rfl, ?ys7_1⟩) (by assumption) ?rs7_1
    case ys7_1 => (intro w hSw; (try dsimp only at hSw); go_simp; try with_reducible rfl)
    try simp only [Act.put, List.setIfInBounds_toArray, List.set_cons_zero, List.set_cons_succ]
    refine wpAnyH_ready (rs := [2]) (by as_aux_lemma => kernel_rfl) (by simp) ?_
    refine AllReadyH.cons (o := ({ dst := some 5, op := .call { callee := .value (.func 38), args := #[.tmp 4], argTypes := #[35] }, type := 35, pos := "frame.go:39", after := #[{ on := 1, ground := .data }], guard := none } : Oper)) rfl (fun KK hK => ?_) AllReadyH.nil
    rw [if_pos (by rfl)]
    go_simp
    go_at_call 38; refine (HR.out _).mono ?_; rintro e w1 ⟨rfl, hb1⟩
    go_wp2_with fail
    refine hK.out _ _ ?_ (fun hHeld1 => ?_)
    · exact belowT (by assumption) hb1
    clear hK KK hb1
    try simp only [Act.put, List.setIfInBounds_toArray, List.set_cons_zero, List.set_cons_succ]
    refine wpAnyH_take (i := 3) (oi := ({ dst := some 6, op := .binOp .eql 35 (.tmp 3) (.tmp 5) 35, type := 4, pos := "frame.go:39", after := #[{ on := 0, ground := .data }, { on := 2, ground := .data }], guard := none } : Oper)) (v := ?vs7_3) rfl right1_plain (by as_aux_lemma => kernel_rfl) (by as_aux_lemma => kernel_rfl) (fun _ _ _ h => h) (Or.inl ⟨by rfl, ?ys7_3⟩) (by assumption) ?rs7_3
    case ys7_3 => (intro w hSw; (try dsimp only at hSw); go_simp; try with_reducible rfl)
    try simp only [Act.put, List.setIfInBounds_toArray, List.set_cons_zero, List.set_cons_succ]
    refine wpAnyH_take (i := 4) (oi := ({ dst := some 7, op := .move (.tmp 6), type := 4, pos := "frame.go:39", after := #[{ on := 3, ground := .data }, { on := 2, ground := .chain }], guard := none } : Oper)) (v := ?vs7_4) rfl right1_plain (by as_aux_lemma => kernel_rfl) (by as_aux_lemma => kernel_rfl) (fun _ _ _ h => h) (Or.inl ⟨by rfl, ?ys7_4⟩) (by assumption) ?rs7_4
    case ys7_4 => (intro w hSw; (try dsimp only at hSw); go_simp; try with_reducible rfl)
    try simp only [Act.put, List.setIfInBounds_toArray, List.set_cons_zero, List.set_cons_succ]
    refine wpAnyH_take (i := 5) (oi := ({ dst := some 8, op := .fieldAddr 35 (.tmp 1) 0, type := 0, pos := "frame.go:39", after := #[{ on := 4, ground := .guard }], guard := some (4, true) } : Oper)) (v := undef) rfl right1_plain (by as_aux_lemma => kernel_rfl) (by as_aux_lemma => kernel_rfl) (fun _ _ _ h => h) (Or.inr ⟨by rfl, rfl⟩) (by assumption) ?_
    try simp only [Act.put, List.setIfInBounds_toArray, List.set_cons_zero, List.set_cons_succ]
    refine wpAnyH_take (i := 6) (oi := ({ dst := some 9, op := .load 3 (.tmp 8), type := 3, pos := "frame.go:39", after := #[{ on := 5, ground := .data }, { on := 4, ground := .guard }], guard := some (4, true) } : Oper)) (v := undef) rfl right1_plain (by as_aux_lemma => kernel_rfl) (by as_aux_lemma => kernel_rfl) (fun _ _ _ h => h) (Or.inr ⟨by rfl, rfl⟩) (by assumption) ?_
    try simp only [Act.put, List.setIfInBounds_toArray, List.set_cons_zero, List.set_cons_succ]
    refine wpAnyH_take (i := 7) (oi := ({ dst := some 10, op := .binOp .lss 3 (.tmp 9) (.const (.int .i64 12)) 3, type := 4, pos := "frame.go:39", after := #[{ on := 6, ground := .data }, { on := 4, ground := .guard }], guard := some (4, true) } : Oper)) (v := undef) rfl right1_plain (by as_aux_lemma => kernel_rfl) (by as_aux_lemma => kernel_rfl) (fun _ _ _ h => h) (Or.inr ⟨by rfl, rfl⟩) (by assumption) ?_
    try simp only [Act.put, List.setIfInBounds_toArray, List.set_cons_zero, List.set_cons_succ]
    refine wpAnyH_take (i := 8) (oi := ({ dst := some 11, op := .pick (.tmp 7) (.tmp 10) (.const (.bool false)), type := 4, pos := "frame.go:39", after := #[{ on := 4, ground := .data }, { on := 7, ground := .data }], guard := none } : Oper)) (v := ?vs7_8) rfl right1_plain (by as_aux_lemma => kernel_rfl) (by as_aux_lemma => kernel_rfl) (fun _ _ _ h => h) (Or.inl ⟨by rfl, ?ys7_8⟩) (by assumption) ?rs7_8
    case ys7_8 => (intro w hSw; (try dsimp only at hSw); go_simp; try with_reducible rfl)
    try simp only [Act.put, List.setIfInBounds_toArray, List.set_cons_zero, List.set_cons_succ]
    refine wpAnyH_take (i := 9) (oi := ({ dst := some 2, op := .assign (.tmp 11), type := 4, pos := "frame.go:39", after := #[{ on := 8, ground := .data }, { on := 4, ground := .chain }, { on := 0, ground := .phase }, { on := 1, ground := .phase }, { on := 2, ground := .phase }, { on := 3, ground := .phase }, { on := 4, ground := .phase }, { on := 5, ground := .phase }, { on := 6, ground := .phase }, { on := 7, ground := .phase }, { on := 8, ground := .phase }], guard := none } : Oper)) (v := ?vs7_9) rfl right1_plain (by as_aux_lemma => kernel_rfl) (by as_aux_lemma => kernel_rfl) (fun _ _ _ h => h) (Or.inl ⟨by rfl, ?ys7_9⟩) (by assumption) ?rs7_9
    case ys7_9 => (intro w hSw; (try dsimp only at hSw); go_simp; try with_reducible rfl)
    try simp only [Act.put, List.setIfInBounds_toArray, List.set_cons_zero, List.set_cons_succ]
    refine wpAnyH_done (by as_aux_lemma => kernel_rfl) ?_ _
    refine NoPanic.normal ?_
    go_wp2_with fail
    go_ret
    exact ⟨by rw [HQ.out]; rfl, belowT B1.out (by assumption)⟩
  · have HQ := Lib.hid hr
    clear hr
    change (Code.region 1 right1 true).wp Try.prog _ _ _
    refine wp_region_noPanic ?_
    refine wp_region_held_drew (S := fun w' => Below W0.heap.size W0 w') (by kernel_rfl) ((Below.refl _ _).drew) (fun hHeld => ?_)
    refine wpAnyH_take (i := 0) (oi := ({ dst := some 3, op := .load 35 (.tmp 1), type := 35, pos := "frame.go:39", after := #[], guard := none } : Oper)) (v := ?vs8_0) rfl right1_plain (by as_aux_lemma => kernel_rfl) (by as_aux_lemma => kernel_rfl) (fun _ _ _ h => h) (Or.inl ⟨by rfl, ?ys8_0⟩) (by assumption) ?rs8_0
    case ys8_0 => (intro w hSw; (try dsimp only at hSw); go_simp; try with_reducible rfl)
    try simp only [Act.put, List.setIfInBounds_toArray, List.set_cons_zero, List.set_cons_succ]
    refine wpAnyH_take (i := 1) (oi := ({ dst := some 4, op := .load 35 (.tmp 1), type := 35, pos := "frame.go:39", after := #[], guard := none } : Oper)) (v := ?vs8_1) rfl right1_plain (by as_aux_lemma => kernel_rfl) (by as_aux_lemma => kernel_rfl) (fun _ _ _ h => h) (Or.inl ⟨by rfl, ?ys8_1⟩) (by assumption) ?rs8_1
    case ys8_1 => (intro w hSw; (try dsimp only at hSw); go_simp; try with_reducible rfl)
    try simp only [Act.put, List.setIfInBounds_toArray, List.set_cons_zero, List.set_cons_succ]
    refine wpAnyH_ready (rs := [2]) (by as_aux_lemma => kernel_rfl) (by simp) ?_
    refine AllReadyH.cons (o := ({ dst := some 5, op := .call { callee := .value (.func 38), args := #[.tmp 4], argTypes := #[35] }, type := 35, pos := "frame.go:39", after := #[{ on := 1, ground := .data }], guard := none } : Oper)) rfl (fun KK hK => ?_) AllReadyH.nil
    rw [if_pos (by rfl)]
    go_simp
    go_at_call 38; refine (HR.out _).mono ?_; rintro e w1 ⟨rfl, hb1⟩
    go_wp2_with fail
    refine hK.out _ _ ?_ (fun hHeld1 => ?_)
    · exact belowT (by assumption) hb1
    clear hK KK hb1
    try simp only [Act.put, List.setIfInBounds_toArray, List.set_cons_zero, List.set_cons_succ]
    refine wpAnyH_take (i := 3) (oi := ({ dst := some 6, op := .binOp .eql 35 (.tmp 3) (.tmp 5) 35, type := 4, pos := "frame.go:39", after := #[{ on := 0, ground := .data }, { on := 2, ground := .data }], guard := none } : Oper)) (v := ?vs8_3) rfl right1_plain (by as_aux_lemma => kernel_rfl) (by as_aux_lemma => kernel_rfl) (fun _ _ _ h => h) (Or.inl ⟨by rfl, ?ys8_3⟩) (by assumption) ?rs8_3
    case ys8_3 => (intro w hSw; (try dsimp only at hSw); go_simp; try with_reducible rfl)
    try simp only [Act.put, List.setIfInBounds_toArray, List.set_cons_zero, List.set_cons_succ]
    refine wpAnyH_take (i := 4) (oi := ({ dst := some 7, op := .move (.tmp 6), type := 4, pos := "frame.go:39", after := #[{ on := 3, ground := .data }, { on := 2, ground := .chain }], guard := none } : Oper)) (v := ?vs8_4) rfl right1_plain (by as_aux_lemma => kernel_rfl) (by as_aux_lemma => kernel_rfl) (fun _ _ _ h => h) (Or.inl ⟨by rfl, ?ys8_4⟩) (by assumption) ?rs8_4
    case ys8_4 => (intro w hSw; (try dsimp only at hSw); go_simp; try with_reducible rfl)
    try simp only [Act.put, List.setIfInBounds_toArray, List.set_cons_zero, List.set_cons_succ]
    refine wpAnyH_take (i := 5) (oi := ({ dst := some 8, op := .fieldAddr 35 (.tmp 1) 0, type := 0, pos := "frame.go:39", after := #[{ on := 4, ground := .guard }], guard := some (4, true) } : Oper)) (v := undef) rfl right1_plain (by as_aux_lemma => kernel_rfl) (by as_aux_lemma => kernel_rfl) (fun _ _ _ h => h) (Or.inr ⟨by rfl, rfl⟩) (by assumption) ?_
    try simp only [Act.put, List.setIfInBounds_toArray, List.set_cons_zero, List.set_cons_succ]
    refine wpAnyH_take (i := 6) (oi := ({ dst := some 9, op := .load 3 (.tmp 8), type := 3, pos := "frame.go:39", after := #[{ on := 5, ground := .data }, { on := 4, ground := .guard }], guard := some (4, true) } : Oper)) (v := undef) rfl right1_plain (by as_aux_lemma => kernel_rfl) (by as_aux_lemma => kernel_rfl) (fun _ _ _ h => h) (Or.inr ⟨by rfl, rfl⟩) (by assumption) ?_
    try simp only [Act.put, List.setIfInBounds_toArray, List.set_cons_zero, List.set_cons_succ]
    refine wpAnyH_take (i := 7) (oi := ({ dst := some 10, op := .binOp .lss 3 (.tmp 9) (.const (.int .i64 12)) 3, type := 4, pos := "frame.go:39", after := #[{ on := 6, ground := .data }, { on := 4, ground := .guard }], guard := some (4, true) } : Oper)) (v := undef) rfl right1_plain (by as_aux_lemma => kernel_rfl) (by as_aux_lemma => kernel_rfl) (fun _ _ _ h => h) (Or.inr ⟨by rfl, rfl⟩) (by assumption) ?_
    try simp only [Act.put, List.setIfInBounds_toArray, List.set_cons_zero, List.set_cons_succ]
    refine wpAnyH_take (i := 8) (oi := ({ dst := some 11, op := .pick (.tmp 7) (.tmp 10) (.const (.bool false)), type := 4, pos := "frame.go:39", after := #[{ on := 4, ground := .data }, { on := 7, ground := .data }], guard := none } : Oper)) (v := ?vs8_8) rfl right1_plain (by as_aux_lemma => kernel_rfl) (by as_aux_lemma => kernel_rfl) (fun _ _ _ h => h) (Or.inl ⟨by rfl, ?ys8_8⟩) (by assumption) ?rs8_8
    case ys8_8 => (intro w hSw; (try dsimp only at hSw); go_simp; try with_reducible rfl)
    try simp only [Act.put, List.setIfInBounds_toArray, List.set_cons_zero, List.set_cons_succ]
    refine wpAnyH_take (i := 9) (oi := ({ dst := some 2, op := .assign (.tmp 11), type := 4, pos := "frame.go:39", after := #[{ on := 8, ground := .data }, { on := 4, ground := .chain }, { on := 0, ground := .phase }, { on := 1, ground := .phase }, { on := 2, ground := .phase }, { on := 3, ground := .phase }, { on := 4, ground := .phase }, { on := 5, ground := .phase }, { on := 6, ground := .phase }, { on := 7, ground := .phase }, { on := 8, ground := .phase }], guard := none } : Oper)) (v := ?vs8_9) rfl right1_plain (by as_aux_lemma => kernel_rfl) (by as_aux_lemma => kernel_rfl) (fun _ _ _ h => h) (Or.inl ⟨by rfl, ?ys8_9⟩) (by assumption) ?rs8_9
    case ys8_9 => (intro w hSw; (try dsimp only at hSw); go_simp; try with_reducible rfl)
    try simp only [Act.put, List.setIfInBounds_toArray, List.set_cons_zero, List.set_cons_succ]
    refine wpAnyH_done (by as_aux_lemma => kernel_rfl) ?_ _
    refine NoPanic.normal ?_
    go_wp2_with fail
    go_ret
    exact ⟨by rw [HQ.out]; rfl, belowT B1.out (by assumption)⟩
  · have HQ := Lib.hid hr
    clear hr
    change (Code.region 1 right1 true).wp Try.prog _ _ _
    refine wp_region_noPanic ?_
    refine wp_region_held_drew (S := fun w' => Below W0.heap.size W0 w') (by kernel_rfl) ((Below.refl _ _).drew) (fun hHeld => ?_)
    refine wpAnyH_take (i := 0) (oi := ({ dst := some 3, op := .load 35 (.tmp 1), type := 35, pos := "frame.go:39", after := #[], guard := none } : Oper)) (v := ?vs9_0) rfl right1_plain (by as_aux_lemma => kernel_rfl) (by as_aux_lemma => kernel_rfl) (fun _ _ _ h => h) (Or.inl ⟨by rfl, ?ys9_0⟩) (by assumption) ?rs9_0
    case ys9_0 => (intro w hSw; (try dsimp only at hSw); go_simp; try with_reducible rfl)
    try simp only [Act.put, List.setIfInBounds_toArray, List.set_cons_zero, List.set_cons_succ]
    refine wpAnyH_take (i := 1) (oi := ({ dst := some 4, op := .load 35 (.tmp 1), type := 35, pos := "frame.go:39", after := #[], guard := none } : Oper)) (v := ?vs9_1) rfl right1_plain (by as_aux_lemma => kernel_rfl) (by as_aux_lemma => kernel_rfl) (fun _ _ _ h => h) (Or.inl ⟨by rfl, ?ys9_1⟩) (by assumption) ?rs9_1
    case ys9_1 => (intro w hSw; (try dsimp only at hSw); go_simp; try with_reducible rfl)
    try simp only [Act.put, List.setIfInBounds_toArray, List.set_cons_zero, List.set_cons_succ]
    refine wpAnyH_ready (rs := [2]) (by as_aux_lemma => kernel_rfl) (by simp) ?_
    refine AllReadyH.cons (o := ({ dst := some 5, op := .call { callee := .value (.func 38), args := #[.tmp 4], argTypes := #[35] }, type := 35, pos := "frame.go:39", after := #[{ on := 1, ground := .data }], guard := none } : Oper)) rfl (fun KK hK => ?_) AllReadyH.nil
    rw [if_pos (by rfl)]
    go_simp
    go_at_call 38; refine (HR.out _).mono ?_; rintro e w1 ⟨rfl, hb1⟩
    go_wp2_with fail
    refine hK.out _ _ ?_ (fun hHeld1 => ?_)
    · exact belowT (by assumption) hb1
    clear hK KK hb1
    try simp only [Act.put, List.setIfInBounds_toArray, List.set_cons_zero, List.set_cons_succ]
    refine wpAnyH_take (i := 3) (oi := ({ dst := some 6, op := .binOp .eql 35 (.tmp 3) (.tmp 5) 35, type := 4, pos := "frame.go:39", after := #[{ on := 0, ground := .data }, { on := 2, ground := .data }], guard := none } : Oper)) (v := ?vs9_3) rfl right1_plain (by as_aux_lemma => kernel_rfl) (by as_aux_lemma => kernel_rfl) (fun _ _ _ h => h) (Or.inl ⟨by rfl, ?ys9_3⟩) (by assumption) ?rs9_3
    case ys9_3 => (intro w hSw; (try dsimp only at hSw); go_simp; try with_reducible rfl)
    try simp only [Act.put, List.setIfInBounds_toArray, List.set_cons_zero, List.set_cons_succ]
    refine wpAnyH_take (i := 4) (oi := ({ dst := some 7, op := .move (.tmp 6), type := 4, pos := "frame.go:39", after := #[{ on := 3, ground := .data }, { on := 2, ground := .chain }], guard := none } : Oper)) (v := ?vs9_4) rfl right1_plain (by as_aux_lemma => kernel_rfl) (by as_aux_lemma => kernel_rfl) (fun _ _ _ h => h) (Or.inl ⟨by rfl, ?ys9_4⟩) (by assumption) ?rs9_4
    case ys9_4 => (intro w hSw; (try dsimp only at hSw); go_simp; try with_reducible rfl)
    try simp only [Act.put, List.setIfInBounds_toArray, List.set_cons_zero, List.set_cons_succ]
    refine wpAnyH_take (i := 5) (oi := ({ dst := some 8, op := .fieldAddr 35 (.tmp 1) 0, type := 0, pos := "frame.go:39", after := #[{ on := 4, ground := .guard }], guard := some (4, true) } : Oper)) (v := undef) rfl right1_plain (by as_aux_lemma => kernel_rfl) (by as_aux_lemma => kernel_rfl) (fun _ _ _ h => h) (Or.inr ⟨by rfl, rfl⟩) (by assumption) ?_
    try simp only [Act.put, List.setIfInBounds_toArray, List.set_cons_zero, List.set_cons_succ]
    refine wpAnyH_take (i := 6) (oi := ({ dst := some 9, op := .load 3 (.tmp 8), type := 3, pos := "frame.go:39", after := #[{ on := 5, ground := .data }, { on := 4, ground := .guard }], guard := some (4, true) } : Oper)) (v := undef) rfl right1_plain (by as_aux_lemma => kernel_rfl) (by as_aux_lemma => kernel_rfl) (fun _ _ _ h => h) (Or.inr ⟨by rfl, rfl⟩) (by assumption) ?_
    try simp only [Act.put, List.setIfInBounds_toArray, List.set_cons_zero, List.set_cons_succ]
    refine wpAnyH_take (i := 7) (oi := ({ dst := some 10, op := .binOp .lss 3 (.tmp 9) (.const (.int .i64 12)) 3, type := 4, pos := "frame.go:39", after := #[{ on := 6, ground := .data }, { on := 4, ground := .guard }], guard := some (4, true) } : Oper)) (v := undef) rfl right1_plain (by as_aux_lemma => kernel_rfl) (by as_aux_lemma => kernel_rfl) (fun _ _ _ h => h) (Or.inr ⟨by rfl, rfl⟩) (by assumption) ?_
    try simp only [Act.put, List.setIfInBounds_toArray, List.set_cons_zero, List.set_cons_succ]
    refine wpAnyH_take (i := 8) (oi := ({ dst := some 11, op := .pick (.tmp 7) (.tmp 10) (.const (.bool false)), type := 4, pos := "frame.go:39", after := #[{ on := 4, ground := .data }, { on := 7, ground := .data }], guard := none } : Oper)) (v := ?vs9_8) rfl right1_plain (by as_aux_lemma => kernel_rfl) (by as_aux_lemma => kernel_rfl) (fun _ _ _ h => h) (Or.inl ⟨by rfl, ?ys9_8⟩) (by assumption) ?rs9_8
    case ys9_8 => (intro w hSw; (try dsimp only at hSw); go_simp; try with_reducible rfl)
    try simp only [Act.put, List.setIfInBounds_toArray, List.set_cons_zero, List.set_cons_succ]
    refine wpAnyH_take (i := 9) (oi := ({ dst := some 2, op := .assign (.tmp 11), type := 4, pos := "frame.go:39", after := #[{ on := 8, ground := .data }, { on := 4, ground := .chain }, { on := 0, ground := .phase }, { on := 1, ground := .phase }, { on := 2, ground := .phase }, { on := 3, ground := .phase }, { on := 4, ground := .phase }, { on := 5, ground := .phase }, { on := 6, ground := .phase }, { on := 7, ground := .phase }, { on := 8, ground := .phase }], guard := none } : Oper)) (v := ?vs9_9) rfl right1_plain (by as_aux_lemma => kernel_rfl) (by as_aux_lemma => kernel_rfl) (fun _ _ _ h => h) (Or.inl ⟨by rfl, ?ys9_9⟩) (by assumption) ?rs9_9
    case ys9_9 => (intro w hSw; (try dsimp only at hSw); go_simp; try with_reducible rfl)
    try simp only [Act.put, List.setIfInBounds_toArray, List.set_cons_zero, List.set_cons_succ]
    refine wpAnyH_done (by as_aux_lemma => kernel_rfl) ?_ _
    refine NoPanic.normal ?_
    go_wp2_with fail
    go_ret
    exact ⟨by rw [HQ.out]; rfl, belowT B1.out (by assumption)⟩
  · have HQ := Lib.hid hr
    clear hr
    change (Code.region 1 right1 true).wp Try.prog _ _ _
    refine wp_region_noPanic ?_
    refine wp_region_held_drew (S := fun w' => Below W0.heap.size W0 w') (by kernel_rfl) ((Below.refl _ _).drew) (fun hHeld => ?_)
    refine wpAnyH_take (i := 0) (oi := ({ dst := some 3, op := .load 35 (.tmp 1), type := 35, pos := "frame.go:39", after := #[], guard := none } : Oper)) (v := ?vs10_0) rfl right1_plain (by as_aux_lemma => kernel_rfl) (by as_aux_lemma => kernel_rfl) (fun _ _ _ h => h) (Or.inl ⟨by rfl, ?ys10_0⟩) (by assumption) ?rs10_0
    case ys10_0 => (intro w hSw; (try dsimp only at hSw); go_simp; try with_reducible rfl)
    try simp only [Act.put, List.setIfInBounds_toArray, List.set_cons_zero, List.set_cons_succ]
    refine wpAnyH_take (i := 1) (oi := ({ dst := some 4, op := .load 35 (.tmp 1), type := 35, pos := "frame.go:39", after := #[], guard := none } : Oper)) (v := ?vs10_1) rfl right1_plain (by as_aux_lemma => kernel_rfl) (by as_aux_lemma => kernel_rfl) (fun _ _ _ h => h) (Or.inl ⟨by rfl, ?ys10_1⟩) (by assumption) ?rs10_1
    case ys10_1 => (intro w hSw; (try dsimp only at hSw); go_simp; try with_reducible rfl)
    try simp only [Act.put, List.setIfInBounds_toArray, List.set_cons_zero, List.set_cons_succ]
    refine wpAnyH_ready (rs := [2]) (by as_aux_lemma => kernel_rfl) (by simp) ?_
    refine AllReadyH.cons (o := ({ dst := some 5, op := .call { callee := .value (.func 38), args := #[.tmp 4], argTypes := #[35] }, type := 35, pos := "frame.go:39", after := #[{ on := 1, ground := .data }], guard := none } : Oper)) rfl (fun KK hK => ?_) AllReadyH.nil
    rw [if_pos (by rfl)]
    go_simp
    go_at_call 38; refine (HR.out _).mono ?_; rintro e w1 ⟨rfl, hb1⟩
    go_wp2_with fail
    refine hK.out _ _ ?_ (fun hHeld1 => ?_)
    · exact belowT (by assumption) hb1
    clear hK KK hb1
    try simp only [Act.put, List.setIfInBounds_toArray, List.set_cons_zero, List.set_cons_succ]
    refine wpAnyH_take (i := 3) (oi := ({ dst := some 6, op := .binOp .eql 35 (.tmp 3) (.tmp 5) 35, type := 4, pos := "frame.go:39", after := #[{ on := 0, ground := .data }, { on := 2, ground := .data }], guard := none } : Oper)) (v := ?vs10_3) rfl right1_plain (by as_aux_lemma => kernel_rfl) (by as_aux_lemma => kernel_rfl) (fun _ _ _ h => h) (Or.inl ⟨by rfl, ?ys10_3⟩) (by assumption) ?rs10_3
    case ys10_3 => (intro w hSw; (try dsimp only at hSw); go_simp; try with_reducible rfl)
    try simp only [Act.put, List.setIfInBounds_toArray, List.set_cons_zero, List.set_cons_succ]
    refine wpAnyH_take (i := 4) (oi := ({ dst := some 7, op := .move (.tmp 6), type := 4, pos := "frame.go:39", after := #[{ on := 3, ground := .data }, { on := 2, ground := .chain }], guard := none } : Oper)) (v := ?vs10_4) rfl right1_plain (by as_aux_lemma => kernel_rfl) (by as_aux_lemma => kernel_rfl) (fun _ _ _ h => h) (Or.inl ⟨by rfl, ?ys10_4⟩) (by assumption) ?rs10_4
    case ys10_4 => (intro w hSw; (try dsimp only at hSw); go_simp; try with_reducible rfl)
    try simp only [Act.put, List.setIfInBounds_toArray, List.set_cons_zero, List.set_cons_succ]
    refine wpAnyH_take (i := 5) (oi := ({ dst := some 8, op := .fieldAddr 35 (.tmp 1) 0, type := 0, pos := "frame.go:39", after := #[{ on := 4, ground := .guard }], guard := some (4, true) } : Oper)) (v := ?vs10_5) rfl right1_plain (by as_aux_lemma => kernel_rfl) (by as_aux_lemma => kernel_rfl) (fun _ _ _ h => h) (Or.inl ⟨by rfl, ?ys10_5⟩) (by assumption) ?rs10_5
    case ys10_5 => (intro w hSw; (try dsimp only at hSw); go_simp; try with_reducible rfl)
    try simp only [Act.put, List.setIfInBounds_toArray, List.set_cons_zero, List.set_cons_succ]
    refine wpAnyH_take (i := 6) (oi := ({ dst := some 9, op := .load 3 (.tmp 8), type := 3, pos := "frame.go:39", after := #[{ on := 5, ground := .data }, { on := 4, ground := .guard }], guard := some (4, true) } : Oper)) (v := ?vs10_6) rfl right1_plain (by as_aux_lemma => kernel_rfl) (by as_aux_lemma => kernel_rfl) (fun _ _ _ h => h) (Or.inl ⟨by rfl, ?ys10_6⟩) (by assumption) ?rs10_6
    case ys10_6 => (intro w hSw; (try dsimp only at hSw); go_simp; try with_reducible rfl)
    try simp only [Act.put, List.setIfInBounds_toArray, List.set_cons_zero, List.set_cons_succ]
    refine wpAnyH_take (i := 7) (oi := ({ dst := some 10, op := .binOp .lss 3 (.tmp 9) (.const (.int .i64 12)) 3, type := 4, pos := "frame.go:39", after := #[{ on := 6, ground := .data }, { on := 4, ground := .guard }], guard := some (4, true) } : Oper)) (v := ?vs10_7) rfl right1_plain (by as_aux_lemma => kernel_rfl) (by as_aux_lemma => kernel_rfl) (fun _ _ _ h => h) (Or.inl ⟨by rfl, ?ys10_7⟩) (by assumption) ?rs10_7
    case ys10_7 => (intro w hSw; (try dsimp only at hSw); go_simp; try with_reducible rfl)
    try simp only [Act.put, List.setIfInBounds_toArray, List.set_cons_zero, List.set_cons_succ]
    refine wpAnyH_take (i := 8) (oi := ({ dst := some 11, op := .pick (.tmp 7) (.tmp 10) (.const (.bool false)), type := 4, pos := "frame.go:39", after := #[{ on := 4, ground := .data }, { on := 7, ground := .data }], guard := none } : Oper)) (v := ?vs10_8) rfl right1_plain (by as_aux_lemma => kernel_rfl) (by as_aux_lemma => kernel_rfl) (fun _ _ _ h => h) (Or.inl ⟨by rfl, ?ys10_8⟩) (by assumption) ?rs10_8
    case ys10_8 => (intro w hSw; (try dsimp only at hSw); go_simp; try with_reducible rfl)
    try simp only [Act.put, List.setIfInBounds_toArray, List.set_cons_zero, List.set_cons_succ]
    refine wpAnyH_take (i := 9) (oi := ({ dst := some 2, op := .assign (.tmp 11), type := 4, pos := "frame.go:39", after := #[{ on := 8, ground := .data }, { on := 4, ground := .chain }, { on := 0, ground := .phase }, { on := 1, ground := .phase }, { on := 2, ground := .phase }, { on := 3, ground := .phase }, { on := 4, ground := .phase }, { on := 5, ground := .phase }, { on := 6, ground := .phase }, { on := 7, ground := .phase }, { on := 8, ground := .phase }], guard := none } : Oper)) (v := ?vs10_9) rfl right1_plain (by as_aux_lemma => kernel_rfl) (by as_aux_lemma => kernel_rfl) (fun _ _ _ h => h) (Or.inl ⟨by rfl, ?ys10_9⟩) (by assumption) ?rs10_9
    case ys10_9 => (intro w hSw; (try dsimp only at hSw); go_simp; try with_reducible rfl)
    try simp only [Act.put, List.setIfInBounds_toArray, List.set_cons_zero, List.set_cons_succ]
    refine wpAnyH_done (by as_aux_lemma => kernel_rfl) ?_ _
    refine NoPanic.normal ?_
    go_wp2_with fail
    go_ret
    exact ⟨by rw [HQ.out]; rfl, belowT B1.out (by assumption)⟩

theorem Right_any (f : Fr) (w : World) : Calls Try.prog 26 #[fv f] w fun e w' => e = .returned (.bool (rightF f)) ∧ Below w.heap.size w w' := by
  have HR := Lib.hid fun w => inRoom_any f w
  have e := right_room f
  obtain ⟨s, c, b, v⟩ := f
  refine Right_core s c _ _ v _ b _ w HR ?_
  rw [e]
  simp only [roomF, Fr.mk.injEq, true_and, eq_iff_iff, iff_false]
  by_cases h1 : s = IntKind.u8.wrap s
  · by_cases h2 : c = IntKind.u8.wrap c
    · by_cases h3 : v = IntKind.i32.wrap v
      · exact .inr (.inr (.inr ⟨h1.symm, h2.symm, h3.symm, by rw [decide_eq_true ⟨h1, h2, h3⟩, Bool.true_and]⟩))
      · exact .inr (.inr (.inl ⟨h1.symm, h2.symm, h3, by rw [decide_eq_false (fun k => h3 k.2.2), Bool.false_and]⟩))
    · exact .inr (.inl ⟨h1.symm, h2, by rw [decide_eq_false (fun k => h2 k.2.1), Bool.false_and]⟩)
  · exact .inl ⟨h1, by rw [decide_eq_false (fun k => h1 k.1), Bool.false_and]⟩

theorem well_any (b : Bool) (w : World) : Calls Try.prog 27 #[.bool b] w fun e w' => e = .returned (.int .u8 (((if b then 1 else 0 : UInt8)).toNat : Int)) ∧ Below w.heap.size w w' := by
  cases b
  all_goals
    go_enter Try.func27, Try.ntmps27
    go_wp2
    go_ret
    exact ⟨rfl, Below.refl _ _⟩

theorem Equal_came {w : World} {ba bb : Option Addr} {cap cap' : Nat} {l m : List UInt8} (C : Came w ba cap l) (D : Came w bb cap' m) :
    Calls Try.prog 54 #[.slice ba l.length cap, .slice bb m.length cap'] w fun e w' => e = .returned (.bool (l == m)) ∧ w = w' := by
  have k1 := C.string
  have k2 := D.string
  have e : (l == m) = ((⟨l.toArray⟩ : ByteArray).toList == (⟨m.toArray⟩ : ByteArray).toList) := by rw [ByteArray.toList_mk, ByteArray.toList_mk]
  rw [e]
  generalize (⟨l.toArray⟩ : ByteArray) = s at *
  generalize (⟨m.toArray⟩ : ByteArray) = t at *
  clear e C D
  go_enter Try.func54, Try.ntmps54
  go_wp2
  go_ret
  exact ⟨rfl, rfl⟩

theorem HasPrefix_came {w : World} {ba bb : Option Addr} {cap cap' : Nat} {l m : List UInt8} (C : Came w ba cap l) (D : Came w bb cap' m) :
    Calls Try.prog 50 #[.slice ba l.length cap, .slice bb m.length cap'] w fun e w' => e = .returned (.bool (decide (m.length ≤ l.length) && (l.take m.length == m))) ∧ w = w' := by
  by_cases h : m.length ≤ l.length
  · have E := Lib.hid (Equal_came (C.take m.length h) D)
    rw [List.length_take, Nat.min_eq_left h] at E
    have hs := came_head C m.length h
    have hi : (m.length : Int) ≤ (l.length : Int) := by omega
    rw [decide_eq_true h, Bool.true_and]
    generalize (l.take m.length == m) = r at *
    generalize l.length = n at *
    generalize m.length = k at *
    clear C D h
    go_enter Try.func50, Try.ntmps50
    go_wp2_with fail
    refine E.out.mono ?_; rintro e w1 ⟨rfl, rfl⟩
    go_wp2
    go_ret
    exact ⟨rfl, rfl⟩
  · have hi : ¬ (m.length : Int) ≤ (l.length : Int) := by omega
    rw [decide_eq_false h, Bool.false_and]
    generalize l.length = n at *
    generalize m.length = k at *
    clear C D h
    go_enter Try.func50, Try.ntmps50
    go_wp2
    go_ret
    exact ⟨rfl, rfl⟩

theorem begins_take (l : List UInt8) : beginsF l = (decide (2 ≤ l.length) && (l.take 2 == [165, 90])) := by
  match l with
  | [] => rfl
  | [_] => rfl
  | a :: b :: r =>
    unfold beginsF
    simp

theorem Begins_came {w : World} {ba : Option Addr} {cap : Nat} {l : List UInt8} (C : Came w ba cap l) :
    Calls Try.prog 42 #[.slice ba l.length cap] w fun e w' => e = .returned (.bool (beginsF l)) ∧ Below w.heap.size w w' := by
  have B1 := below1 w (.cells #[.int .u8 165, .int .u8 90] 5)
  have D : Came (w.alloc (.cells #[.int .u8 165, .int .u8 90] 5)) (some ⟨w.heap.size, 0, none⟩) 2 [165, 90] :=
    ⟨by decide, by decide, fun e => (by cases e), fun _ => ⟨_, _, rfl, lies_alloc w [165, 90] _⟩⟩
  have H := Lib.hid (HasPrefix_came (C.keep B1) D)
  rw [begins_take]
  have HB := Lib.hid B1
  clear B1 C D
  go_enter Try.func42, Try.ntmps42
  go_wp2_with fail
  refine H.out.mono ?_; rintro e w1 ⟨rfl, rfl⟩
  go_wp2_with fail
  go_ret
  exact ⟨rfl, HB.out⟩
end Lan14
end Go.Proofs.Ytnafodnaolmffaa
