/- The document's own answers for layer 8: Times. -/
import Derived.Test.YtjdpcmcekockgaaVecRef
namespace Go.Proofs.Ytjdpcmcekockgaa
open Go.RowKit

/-- nine numbers, row by row -/
structure M3 where
  a : V3
  b : V3
  c : V3
  deriving DecidableEq
abbrev vl (v : V3) : List Value := [.int .i64 v.x.toInt, .int .i64 v.y.toInt, .int .i64 v.z.toInt]
abbrev ml (m : M3) : List Value := [.int .i64 m.a.x.toInt, .int .i64 m.a.y.toInt, .int .i64 m.a.z.toInt, .int .i64 m.b.x.toInt, .int .i64 m.b.y.toInt, .int .i64 m.b.z.toInt, .int .i64 m.c.x.toInt, .int .i64 m.c.y.toInt, .int .i64 m.c.z.toInt]
abbrev mv (m : M3) : Value := .agg (ml m).toArray
def M3.times (m : M3) (v : V3) : V3 := ⟨m.a.dot v, m.b.dot v, m.c.dot v⟩

/-- what stays, in Times: the arguments' blocks, and the result's -/
def TimesS (w : World) (m : M3) (v : V3) (w' : World) : Prop := Below w.heap.size w w' ∧ HasL w' w.heap.size (ml m) ∧ HasL w' (w.heap.size + 1) (vl v) ∧ ∃ l, l.length = 3 ∧ OwnL w' (w.heap.size + 1 + 1) l

def M3.turn (m : M3) : M3 := ⟨⟨m.a.x, m.b.x, m.c.x⟩, ⟨m.a.y, m.b.y, m.c.y⟩, ⟨m.a.z, m.b.z, m.c.z⟩⟩

namespace Ref8
/-- The operations of a drawn region, as the translation has them. -/
def times1 : Array Oper := #[
  { dst := some 5, op := .indexAddr 25 (.tmp 2) (.const (.int .i64 0)), type := 0, pos := "ref.go:11", after := #[], guard := none },
  { dst := some 6, op := .load 23 (.tmp 5), type := 23, pos := "ref.go:11", after := #[{ on := 0, ground := .data }], guard := none },
  { dst := some 7, op := .load 23 (.tmp 3), type := 23, pos := "ref.go:11", after := #[], guard := none },
  { dst := some 8, op := .call { callee := .value (.func 47), args := #[.tmp 6, .tmp 7], argTypes := #[23, 23] }, type := 2, pos := "ref.go:11", after := #[{ on := 1, ground := .data }, { on := 2, ground := .data }], guard := none },
  { dst := some 9, op := .indexAddr 25 (.tmp 2) (.const (.int .i64 1)), type := 0, pos := "ref.go:11", after := #[], guard := none },
  { dst := some 10, op := .load 23 (.tmp 9), type := 23, pos := "ref.go:11", after := #[{ on := 4, ground := .data }], guard := none },
  { dst := some 11, op := .load 23 (.tmp 3), type := 23, pos := "ref.go:11", after := #[], guard := none },
  { dst := some 12, op := .call { callee := .value (.func 47), args := #[.tmp 10, .tmp 11], argTypes := #[23, 23] }, type := 2, pos := "ref.go:11", after := #[{ on := 5, ground := .data }, { on := 6, ground := .data }, { on := 3, ground := .chain }], guard := none },
  { dst := some 13, op := .indexAddr 25 (.tmp 2) (.const (.int .i64 2)), type := 0, pos := "ref.go:11", after := #[], guard := none },
  { dst := some 14, op := .load 23 (.tmp 13), type := 23, pos := "ref.go:11", after := #[{ on := 8, ground := .data }], guard := none },
  { dst := some 15, op := .load 23 (.tmp 3), type := 23, pos := "ref.go:11", after := #[], guard := none },
  { dst := some 16, op := .call { callee := .value (.func 47), args := #[.tmp 14, .tmp 15], argTypes := #[23, 23] }, type := 2, pos := "ref.go:11", after := #[{ on := 9, ground := .data }, { on := 10, ground := .data }, { on := 7, ground := .chain }], guard := none },
  { dst := some 17, op := .build 23 #[(0, .tmp 8), (1, .tmp 12), (2, .tmp 16)], type := 23, pos := "ref.go:11", after := #[{ on := 3, ground := .data }, { on := 7, ground := .data }, { on := 11, ground := .data }], guard := none },
  { dst := none, op := .store 23 (.tmp 4) (.tmp 17), type := 0, pos := "ref.go:11", after := #[{ on := 12, ground := .data }, { on := 11, ground := .chain }, { on := 0, ground := .phase }, { on := 1, ground := .phase }, { on := 2, ground := .phase }, { on := 3, ground := .phase }, { on := 4, ground := .phase }, { on := 5, ground := .phase }, { on := 6, ground := .phase }, { on := 7, ground := .phase }, { on := 8, ground := .phase }, { on := 9, ground := .phase }, { on := 10, ground := .phase }, { on := 11, ground := .phase }, { on := 12, ground := .phase }], guard := none }]
theorem times1_plain : Region.noSelect times1 = true := by kernel_rfl

set_option maxHeartbeats 4000000 in
theorem Times_any (m : M3) (v : V3) (w : World) :
    Calls Try.prog 32 #[mv m, vv v] w fun e w' => e = .returned (vv (m.times v)) ∧ Below w.heap.size w w' := by
  have DA := Lib.hid (Ref7.Dot_any m.a v); have DB := Lib.hid (Ref7.Dot_any m.b v); have DC := Lib.hid (Ref7.Dot_any m.c v)
  have kS : ∀ w1 w2, TimesS w m v w1 → Below w1.heap.size w1 w2 → TimesS w m v w2 := by
    unfold TimesS
    exact fun w1 w2 ⟨h1, h2, h3, l, h4, h5⟩ hb => ⟨belowT h1 hb, h2.keep hb, h3.keep hb, l, h4, h5.keep hb⟩
  have dS : ∀ w1, TimesS w m v w1 → TimesS w m v w1.drew := fun w1 h => kS _ _ h (Below.refl _ _).drew
  have m0 : ∀ w', TimesS w m v w' → w'.cell? ⟨w.heap.size, 0, none⟩ = some (.int .i64 m.a.x.toInt) := by unfold TimesS; exact fun w' h => h.2.1.at 0 rfl
  have m1 : ∀ w', TimesS w m v w' → w'.cell? ⟨w.heap.size, 1, none⟩ = some (.int .i64 m.a.y.toInt) := by unfold TimesS; exact fun w' h => h.2.1.at 1 rfl
  have m2 : ∀ w', TimesS w m v w' → w'.cell? ⟨w.heap.size, 2, none⟩ = some (.int .i64 m.a.z.toInt) := by unfold TimesS; exact fun w' h => h.2.1.at 2 rfl
  have m3 : ∀ w', TimesS w m v w' → w'.cell? ⟨w.heap.size, 3, none⟩ = some (.int .i64 m.b.x.toInt) := by unfold TimesS; exact fun w' h => h.2.1.at 3 rfl
  have m4 : ∀ w', TimesS w m v w' → w'.cell? ⟨w.heap.size, 4, none⟩ = some (.int .i64 m.b.y.toInt) := by unfold TimesS; exact fun w' h => h.2.1.at 4 rfl
  have m5 : ∀ w', TimesS w m v w' → w'.cell? ⟨w.heap.size, 5, none⟩ = some (.int .i64 m.b.z.toInt) := by unfold TimesS; exact fun w' h => h.2.1.at 5 rfl
  have m6 : ∀ w', TimesS w m v w' → w'.cell? ⟨w.heap.size, 6, none⟩ = some (.int .i64 m.c.x.toInt) := by unfold TimesS; exact fun w' h => h.2.1.at 6 rfl
  have m7 : ∀ w', TimesS w m v w' → w'.cell? ⟨w.heap.size, 7, none⟩ = some (.int .i64 m.c.y.toInt) := by unfold TimesS; exact fun w' h => h.2.1.at 7 rfl
  have m8 : ∀ w', TimesS w m v w' → w'.cell? ⟨w.heap.size, 8, none⟩ = some (.int .i64 m.c.z.toInt) := by unfold TimesS; exact fun w' h => h.2.1.at 8 rfl
  have v0 : ∀ w', TimesS w m v w' → w'.cell? ⟨w.heap.size + 1, 0, none⟩ = some (.int .i64 v.x.toInt) := by unfold TimesS; exact fun w' h => h.2.2.1.at 0 rfl
  have v1 : ∀ w', TimesS w m v w' → w'.cell? ⟨w.heap.size + 1, 1, none⟩ = some (.int .i64 v.y.toInt) := by unfold TimesS; exact fun w' h => h.2.2.1.at 1 rfl
  have v2 : ∀ w', TimesS w m v w' → w'.cell? ⟨w.heap.size + 1, 2, none⟩ = some (.int .i64 v.z.toInt) := by unfold TimesS; exact fun w' h => h.2.2.1.at 2 rfl
  have i0 : TimesS w m v (((w.alloc (.cells (ml m).toArray 25)).alloc (.cells (vl v).toArray 23)).alloc (.cells #[.int .i64 0, .int .i64 0, .int .i64 0] 23)) := by
    unfold TimesS
    refine ⟨below3 w _ _ _, ((hasl w (ml m) _).keep (below1 _ _)).keep (below1 _ _), ?_, [.int .i64 0, .int .i64 0, .int .i64 0], rfl, ?_⟩
    · have h := (hasl (w.alloc (.cells (ml m).toArray 25)) (vl v) 23).keep (below1 _ (.cells #[.int .i64 0, .int .i64 0, .int .i64 0] 23))
      rw [heap1] at h; exact h
    · have h := ownl ((w.alloc (.cells (ml m).toArray 25)).alloc (.cells (vl v).toArray 23)) [.int .i64 0, .int .i64 0, .int .i64 0] 23
      rw [heap1, heap1] at h; exact h
  have r0 : ∀ w', TimesS w m v w' → ∃ z0 z1 z2, w'.cell? ⟨w.heap.size + 1 + 1, 0, none⟩ = some z0 ∧ w'.cell? ⟨w.heap.size + 1 + 1, 1, none⟩ = some z1 ∧ w'.cell? ⟨w.heap.size + 1 + 1, 2, none⟩ = some z2 ∧ w'.frozen? ⟨w.heap.size + 1 + 1, 0, none⟩ = false ∧ w'.frozen? ⟨w.heap.size + 1 + 1, 1, none⟩ = false ∧ w'.frozen? ⟨w.heap.size + 1 + 1, 2, none⟩ = false := by
    unfold TimesS
    intro w' ⟨_, _, _, l, h4, h5⟩
    exact ⟨_, _, _, h5.1 0 (by omega), h5.1 1 (by omega), h5.1 2 (by omega), h5.2 0 (by omega), h5.2 1 (by omega), h5.2 2 (by omega)⟩
  have sS : ∀ w1 o z, TimesS w m v w1 → TimesS w m v (w1.setCell ⟨w.heap.size + 1 + 1, o, none⟩ z) := by
    unfold TimesS
    exact fun w1 o z ⟨h1, h2, h3, l, h4, h5⟩ => ⟨h1.setCell (p := ⟨w.heap.size + 1 + 1, o, none⟩) (by show w.heap.size ≤ w.heap.size + 1 + 1; omega) z, h2.set (by omega) o z, h3.set (by omega) o z, _, by rw [List.length_set]; exact h4, h5.set o z⟩
  have bS : ∀ w1, TimesS w m v w1 → Below w.heap.size w w1 := by unfold TimesS; exact fun w1 h => h.1
  obtain ⟨W0, hW0⟩ : ∃ W0, W0 = ((w.alloc (.cells (ml m).toArray 25)).alloc (.cells (vl v).toArray 23)).alloc (.cells #[.int .i64 0, .int .i64 0, .int .i64 0] 23) := ⟨_, rfl⟩
  rw [← hW0] at i0
  have HW := Lib.hid hW0
  clear hW0
  unfold M3.times
  go_enter Try.func32, Try.ntmps32
  go_upto_region 1 with fail
  rw [← HW.out]
  clear HW
  change (Code.region 1 times1 true).wp Try.prog _ _ _
  refine wp_region_noPanic ?_
  refine wp_region_held_drew (S := (TimesS w m v)) (by kernel_rfl) (dS _ i0) (fun hHeld => ?_)
  refine wpAnyH_take (i := 0) (oi := ({ dst := some 5, op := .indexAddr 25 (.tmp 2) (.const (.int .i64 0)), type := 0, pos := "ref.go:11", after := #[], guard := none } : Oper)) (v := ?vs2_0) rfl times1_plain (by as_aux_lemma => kernel_rfl) (by as_aux_lemma => kernel_rfl) (fun _ _ _ h => h) (Or.inl ⟨by rfl, ?ys2_0⟩) (by assumption) ?rs2_0
  case ys2_0 => (intro w hSw; (try dsimp only at hSw); go_simp; try with_reducible rfl)
  try simp only [Act.put, List.setIfInBounds_toArray, List.set_cons_zero, List.set_cons_succ]
  refine wpAnyH_take (i := 1) (oi := ({ dst := some 6, op := .load 23 (.tmp 5), type := 23, pos := "ref.go:11", after := #[{ on := 0, ground := .data }], guard := none } : Oper)) (v := ?vs2_1) rfl times1_plain (by as_aux_lemma => kernel_rfl) (by as_aux_lemma => kernel_rfl) (fun _ _ _ h => h) (Or.inl ⟨by rfl, ?ys2_1⟩) (by assumption) ?rs2_1
  case ys2_1 => (intro w hSw; (try dsimp only at hSw); go_simp; try with_reducible rfl)
  try simp only [Act.put, List.setIfInBounds_toArray, List.set_cons_zero, List.set_cons_succ]
  refine wpAnyH_take (i := 2) (oi := ({ dst := some 7, op := .load 23 (.tmp 3), type := 23, pos := "ref.go:11", after := #[], guard := none } : Oper)) (v := ?vs2_2) rfl times1_plain (by as_aux_lemma => kernel_rfl) (by as_aux_lemma => kernel_rfl) (fun _ _ _ h => h) (Or.inl ⟨by rfl, ?ys2_2⟩) (by assumption) ?rs2_2
  case ys2_2 => (intro w hSw; (try dsimp only at hSw); go_simp; try with_reducible rfl)
  try simp only [Act.put, List.setIfInBounds_toArray, List.set_cons_zero, List.set_cons_succ]
  refine wpAnyH_take (i := 4) (oi := ({ dst := some 9, op := .indexAddr 25 (.tmp 2) (.const (.int .i64 1)), type := 0, pos := "ref.go:11", after := #[], guard := none } : Oper)) (v := ?vs2_4) rfl times1_plain (by as_aux_lemma => kernel_rfl) (by as_aux_lemma => kernel_rfl) (fun _ _ _ h => h) (Or.inl ⟨by rfl, ?ys2_4⟩) (by assumption) ?rs2_4
  case ys2_4 => (intro w hSw; (try dsimp only at hSw); go_simp; try with_reducible rfl)
  try simp only [Act.put, List.setIfInBounds_toArray, List.set_cons_zero, List.set_cons_succ]
  refine wpAnyH_take (i := 5) (oi := ({ dst := some 10, op := .load 23 (.tmp 9), type := 23, pos := "ref.go:11", after := #[{ on := 4, ground := .data }], guard := none } : Oper)) (v := ?vs2_5) rfl times1_plain (by as_aux_lemma => kernel_rfl) (by as_aux_lemma => kernel_rfl) (fun _ _ _ h => h) (Or.inl ⟨by rfl, ?ys2_5⟩) (by assumption) ?rs2_5
  case ys2_5 => (intro w hSw; (try dsimp only at hSw); go_simp; try with_reducible rfl)
  try simp only [Act.put, List.setIfInBounds_toArray, List.set_cons_zero, List.set_cons_succ]
  refine wpAnyH_take (i := 6) (oi := ({ dst := some 11, op := .load 23 (.tmp 3), type := 23, pos := "ref.go:11", after := #[], guard := none } : Oper)) (v := ?vs2_6) rfl times1_plain (by as_aux_lemma => kernel_rfl) (by as_aux_lemma => kernel_rfl) (fun _ _ _ h => h) (Or.inl ⟨by rfl, ?ys2_6⟩) (by assumption) ?rs2_6
  case ys2_6 => (intro w hSw; (try dsimp only at hSw); go_simp; try with_reducible rfl)
  try simp only [Act.put, List.setIfInBounds_toArray, List.set_cons_zero, List.set_cons_succ]
  refine wpAnyH_take (i := 8) (oi := ({ dst := some 13, op := .indexAddr 25 (.tmp 2) (.const (.int .i64 2)), type := 0, pos := "ref.go:11", after := #[], guard := none } : Oper)) (v := ?vs2_8) rfl times1_plain (by as_aux_lemma => kernel_rfl) (by as_aux_lemma => kernel_rfl) (fun _ _ _ h => h) (Or.inl ⟨by rfl, ?ys2_8⟩) (by assumption) ?rs2_8
  case ys2_8 => (intro w hSw; (try dsimp only at hSw); go_simp; try with_reducible rfl)
  try simp only [Act.put, List.setIfInBounds_toArray, List.set_cons_zero, List.set_cons_succ]
  refine wpAnyH_take (i := 9) (oi := ({ dst := some 14, op := .load 23 (.tmp 13), type := 23, pos := "ref.go:11", after := #[{ on := 8, ground := .data }], guard := none } : Oper)) (v := ?vs2_9) rfl times1_plain (by as_aux_lemma => kernel_rfl) (by as_aux_lemma => kernel_rfl) (fun _ _ _ h => h) (Or.inl ⟨by rfl, ?ys2_9⟩) (by assumption) ?rs2_9
  case ys2_9 => (intro w hSw; (try dsimp only at hSw); go_simp; try with_reducible rfl)
  try simp only [Act.put, List.setIfInBounds_toArray, List.set_cons_zero, List.set_cons_succ]
  refine wpAnyH_take (i := 10) (oi := ({ dst := some 15, op := .load 23 (.tmp 3), type := 23, pos := "ref.go:11", after := #[], guard := none } : Oper)) (v := ?vs2_10) rfl times1_plain (by as_aux_lemma => kernel_rfl) (by as_aux_lemma => kernel_rfl) (fun _ _ _ h => h) (Or.inl ⟨by rfl, ?ys2_10⟩) (by assumption) ?rs2_10
  case ys2_10 => (intro w hSw; (try dsimp only at hSw); go_simp; try with_reducible rfl)
  try simp only [Act.put, List.setIfInBounds_toArray, List.set_cons_zero, List.set_cons_succ]
  refine wpAnyH_ready (rs := [3]) (by as_aux_lemma => kernel_rfl) (by simp) ?_
  refine AllReadyH.cons (o := ({ dst := some 8, op := .call { callee := .value (.func 47), args := #[.tmp 6, .tmp 7], argTypes := #[23, 23] }, type := 2, pos := "ref.go:11", after := #[{ on := 1, ground := .data }, { on := 2, ground := .data }], guard := none } : Oper)) rfl (fun KK hK => ?_) AllReadyH.nil
  rw [if_pos (by rfl)]
  go_simp
  go_at_call 47; refine (DA.out _).mono ?_; rintro e w1 ⟨rfl, hb1⟩
  go_wp2_with fail
  refine hK.out _ _ ?_ (fun hHeld1 => ?_)
  · exact kS _ _ (by assumption) hb1
  clear hK KK hb1
  try simp only [Act.put, List.setIfInBounds_toArray, List.set_cons_zero, List.set_cons_succ]
  refine wpAnyH_ready (rs := [7]) (by as_aux_lemma => kernel_rfl) (by simp) ?_
  refine AllReadyH.cons (o := ({ dst := some 12, op := .call { callee := .value (.func 47), args := #[.tmp 10, .tmp 11], argTypes := #[23, 23] }, type := 2, pos := "ref.go:11", after := #[{ on := 5, ground := .data }, { on := 6, ground := .data }, { on := 3, ground := .chain }], guard := none } : Oper)) rfl (fun KK hK => ?_) AllReadyH.nil
  rw [if_pos (by rfl)]
  go_simp
  go_at_call 47; refine (DB.out _).mono ?_; rintro e w2 ⟨rfl, hb2⟩
  go_wp2_with fail
  refine hK.out _ _ ?_ (fun hHeld2 => ?_)
  · exact kS _ _ (by assumption) hb2
  clear hK KK hb2 hHeld1
  try simp only [Act.put, List.setIfInBounds_toArray, List.set_cons_zero, List.set_cons_succ]
  refine wpAnyH_ready (rs := [11]) (by as_aux_lemma => kernel_rfl) (by simp) ?_
  refine AllReadyH.cons (o := ({ dst := some 16, op := .call { callee := .value (.func 47), args := #[.tmp 14, .tmp 15], argTypes := #[23, 23] }, type := 2, pos := "ref.go:11", after := #[{ on := 9, ground := .data }, { on := 10, ground := .data }, { on := 7, ground := .chain }], guard := none } : Oper)) rfl (fun KK hK => ?_) AllReadyH.nil
  rw [if_pos (by rfl)]
  go_simp
  go_at_call 47; refine (DC.out _).mono ?_; rintro e w3 ⟨rfl, hb3⟩
  go_wp2_with fail
  refine hK.out _ _ ?_ (fun hHeld3 => ?_)
  · exact kS _ _ (by assumption) hb3
  clear hK KK hb3 hHeld2
  try simp only [Act.put, List.setIfInBounds_toArray, List.set_cons_zero, List.set_cons_succ]
  refine wpAnyH_take (i := 12) (oi := ({ dst := some 17, op := .build 23 #[(0, .tmp 8), (1, .tmp 12), (2, .tmp 16)], type := 23, pos := "ref.go:11", after := #[{ on := 3, ground := .data }, { on := 7, ground := .data }, { on := 11, ground := .data }], guard := none } : Oper)) (v := ?vs2_12) rfl times1_plain (by as_aux_lemma => kernel_rfl) (by as_aux_lemma => kernel_rfl) (fun _ _ _ h => h) (Or.inl ⟨by rfl, ?ys2_12⟩) (by assumption) ?rs2_12
  case ys2_12 => (intro w hSw; (try dsimp only at hSw); go_simp; try with_reducible rfl)
  try simp only [Act.put, List.setIfInBounds_toArray, List.set_cons_zero, List.set_cons_succ]
  refine wpAnyH_ready (rs := [13]) (by as_aux_lemma => kernel_rfl) (by simp) ?_
  refine AllReadyH.cons (o := ({ dst := none, op := .store 23 (.tmp 4) (.tmp 17), type := 0, pos := "ref.go:11", after := #[{ on := 12, ground := .data }, { on := 11, ground := .chain }, { on := 0, ground := .phase }, { on := 1, ground := .phase }, { on := 2, ground := .phase }, { on := 3, ground := .phase }, { on := 4, ground := .phase }, { on := 5, ground := .phase }, { on := 6, ground := .phase }, { on := 7, ground := .phase }, { on := 8, ground := .phase }, { on := 9, ground := .phase }, { on := 10, ground := .phase }, { on := 11, ground := .phase }, { on := 12, ground := .phase }], guard := none } : Oper)) rfl (fun KK hK => ?_) AllReadyH.nil
  rw [if_pos (by rfl)]
  obtain ⟨z0, z1, z2, k0, k1, k2, f0, f1, f2⟩ := r0 w3 (by assumption)
  go_simp
  refine hK.out _ _ ?_ (fun hHeldS => ?_)
  · exact sS _ _ _ (sS _ _ _ (sS _ _ _ (by assumption)))
  clear hK KK
  try simp only [Act.put, List.setIfInBounds_toArray, List.set_cons_zero, List.set_cons_succ]
  refine wpAnyH_done (by as_aux_lemma => kernel_rfl) ?_ _
  refine NoPanic.normal ?_
  have hS3 : TimesS w m v w3 := by assumption
  have BB := bS _ (sS _ 2 (.int .i64 (m.c.dot v).toInt) (sS _ 1 (.int .i64 (m.b.dot v).toInt) (sS _ 0 (.int .i64 (m.a.dot v).toInt) hS3)))
  go_wp2_with fail
  exact bodyPost_ret (v := .agg #[.int .i64 (m.a.dot v).toInt, .int .i64 (m.b.dot v).toInt, .int .i64 (m.c.dot v).toInt]) (by simp [results, Try.results32, go_sem, *]) rfl ⟨rfl, BB⟩
end Ref8
end Go.Proofs.Ytjdpcmcekockgaa
