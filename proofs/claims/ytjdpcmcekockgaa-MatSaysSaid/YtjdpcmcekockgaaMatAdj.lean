/- The document's own answers for layer 8: Adj. -/
import Derived.Test.YtjdpcmcekockgaaMatDet
namespace Go.Proofs.Ytjdpcmcekockgaa
open Go.RowKit

/-- what stays, in Adj: the argument's block, and the result's -/
def AdjS (w : World) (m : M3) (w' : World) : Prop := Below w.heap.size w w' ∧ HasL w' w.heap.size (ml m) ∧ ∃ l, l.length = 9 ∧ OwnL w' (w.heap.size + 1) l

namespace Ref8
/-- The operations of a drawn region, as the translation has them. -/
def adj1 : Array Oper := #[
  { dst := some 3, op := .indexAddr 25 (.tmp 1) (.const (.int .i64 1)), type := 0, pos := "ref.go:40", after := #[], guard := none },
  { dst := some 4, op := .load 23 (.tmp 3), type := 23, pos := "ref.go:40", after := #[{ on := 0, ground := .data }], guard := none },
  { dst := some 5, op := .indexAddr 25 (.tmp 1) (.const (.int .i64 2)), type := 0, pos := "ref.go:40", after := #[], guard := none },
  { dst := some 6, op := .load 23 (.tmp 5), type := 23, pos := "ref.go:40", after := #[{ on := 2, ground := .data }], guard := none },
  { dst := some 7, op := .call { callee := .value (.func 43), args := #[.tmp 4, .tmp 6], argTypes := #[23, 23] }, type := 23, pos := "ref.go:40", after := #[{ on := 1, ground := .data }, { on := 3, ground := .data }], guard := none },
  { dst := some 8, op := .indexAddr 25 (.tmp 1) (.const (.int .i64 2)), type := 0, pos := "ref.go:40", after := #[], guard := none },
  { dst := some 9, op := .load 23 (.tmp 8), type := 23, pos := "ref.go:40", after := #[{ on := 5, ground := .data }], guard := none },
  { dst := some 10, op := .indexAddr 25 (.tmp 1) (.const (.int .i64 0)), type := 0, pos := "ref.go:40", after := #[], guard := none },
  { dst := some 11, op := .load 23 (.tmp 10), type := 23, pos := "ref.go:40", after := #[{ on := 7, ground := .data }], guard := none },
  { dst := some 12, op := .call { callee := .value (.func 43), args := #[.tmp 9, .tmp 11], argTypes := #[23, 23] }, type := 23, pos := "ref.go:40", after := #[{ on := 6, ground := .data }, { on := 8, ground := .data }, { on := 4, ground := .chain }], guard := none },
  { dst := some 13, op := .indexAddr 25 (.tmp 1) (.const (.int .i64 0)), type := 0, pos := "ref.go:40", after := #[], guard := none },
  { dst := some 14, op := .load 23 (.tmp 13), type := 23, pos := "ref.go:40", after := #[{ on := 10, ground := .data }], guard := none },
  { dst := some 15, op := .indexAddr 25 (.tmp 1) (.const (.int .i64 1)), type := 0, pos := "ref.go:40", after := #[], guard := none },
  { dst := some 16, op := .load 23 (.tmp 15), type := 23, pos := "ref.go:40", after := #[{ on := 12, ground := .data }], guard := none },
  { dst := some 17, op := .call { callee := .value (.func 43), args := #[.tmp 14, .tmp 16], argTypes := #[23, 23] }, type := 23, pos := "ref.go:40", after := #[{ on := 11, ground := .data }, { on := 13, ground := .data }, { on := 9, ground := .chain }], guard := none },
  { dst := some 18, op := .build 25 #[(0, .tmp 7), (1, .tmp 12), (2, .tmp 17)], type := 25, pos := "ref.go:40", after := #[{ on := 4, ground := .data }, { on := 9, ground := .data }, { on := 14, ground := .data }], guard := none },
  { dst := some 19, op := .call { callee := .value (.func 33), args := #[.tmp 18], argTypes := #[25] }, type := 25, pos := "ref.go:40", after := #[{ on := 15, ground := .data }, { on := 14, ground := .chain }], guard := none },
  { dst := none, op := .store 25 (.tmp 2) (.tmp 19), type := 0, pos := "ref.go:40", after := #[{ on := 16, ground := .data }, { on := 16, ground := .chain }, { on := 0, ground := .phase }, { on := 1, ground := .phase }, { on := 2, ground := .phase }, { on := 3, ground := .phase }, { on := 4, ground := .phase }, { on := 5, ground := .phase }, { on := 6, ground := .phase }, { on := 7, ground := .phase }, { on := 8, ground := .phase }, { on := 9, ground := .phase }, { on := 10, ground := .phase }, { on := 11, ground := .phase }, { on := 12, ground := .phase }, { on := 13, ground := .phase }, { on := 14, ground := .phase }, { on := 15, ground := .phase }, { on := 16, ground := .phase }], guard := none }]
theorem adj1_plain : Region.noSelect adj1 = true := by kernel_rfl

set_option maxHeartbeats 8000000 in
theorem Adj_any (m : M3) (w : World) :
    Calls Try.prog 35 #[mv m] w fun e w' => e = .returned (mv m.adj) ∧ Below w.heap.size w w' := by
  have CA := Lib.hid (Ref7.Cross_any m.b m.c); have CB := Lib.hid (Ref7.Cross_any m.c m.a); have CC := Lib.hid (Ref7.Cross_any m.a m.b)
  have TU := Lib.hid (Turn_any ⟨m.b.cross m.c, m.c.cross m.a, m.a.cross m.b⟩)
  have kS : ∀ w1 w2, AdjS w m w1 → Below w1.heap.size w1 w2 → AdjS w m w2 := by
    unfold AdjS
    exact fun w1 w2 ⟨h1, h2, l, h4, h5⟩ hb => ⟨belowT h1 hb, h2.keep hb, l, h4, h5.keep hb⟩
  have dS : ∀ w1, AdjS w m w1 → AdjS w m w1.drew := fun w1 h => kS _ _ h (Below.refl _ _).drew
  have m0 : ∀ w', AdjS w m w' → w'.cell? ⟨w.heap.size, 0, none⟩ = some (.int .i64 m.a.x.toInt) := by unfold AdjS; exact fun w' h => h.2.1.at 0 rfl
  have m1 : ∀ w', AdjS w m w' → w'.cell? ⟨w.heap.size, 1, none⟩ = some (.int .i64 m.a.y.toInt) := by unfold AdjS; exact fun w' h => h.2.1.at 1 rfl
  have m2 : ∀ w', AdjS w m w' → w'.cell? ⟨w.heap.size, 2, none⟩ = some (.int .i64 m.a.z.toInt) := by unfold AdjS; exact fun w' h => h.2.1.at 2 rfl
  have m3 : ∀ w', AdjS w m w' → w'.cell? ⟨w.heap.size, 3, none⟩ = some (.int .i64 m.b.x.toInt) := by unfold AdjS; exact fun w' h => h.2.1.at 3 rfl
  have m4 : ∀ w', AdjS w m w' → w'.cell? ⟨w.heap.size, 4, none⟩ = some (.int .i64 m.b.y.toInt) := by unfold AdjS; exact fun w' h => h.2.1.at 4 rfl
  have m5 : ∀ w', AdjS w m w' → w'.cell? ⟨w.heap.size, 5, none⟩ = some (.int .i64 m.b.z.toInt) := by unfold AdjS; exact fun w' h => h.2.1.at 5 rfl
  have m6 : ∀ w', AdjS w m w' → w'.cell? ⟨w.heap.size, 6, none⟩ = some (.int .i64 m.c.x.toInt) := by unfold AdjS; exact fun w' h => h.2.1.at 6 rfl
  have m7 : ∀ w', AdjS w m w' → w'.cell? ⟨w.heap.size, 7, none⟩ = some (.int .i64 m.c.y.toInt) := by unfold AdjS; exact fun w' h => h.2.1.at 7 rfl
  have m8 : ∀ w', AdjS w m w' → w'.cell? ⟨w.heap.size, 8, none⟩ = some (.int .i64 m.c.z.toInt) := by unfold AdjS; exact fun w' h => h.2.1.at 8 rfl
  have i0 : AdjS w m ((w.alloc (.cells (ml m).toArray 25)).alloc (.cells #[.int .i64 0, .int .i64 0, .int .i64 0, .int .i64 0, .int .i64 0, .int .i64 0, .int .i64 0, .int .i64 0, .int .i64 0] 25)) := by
    unfold AdjS
    refine ⟨below2 w _ _, (hasl w (ml m) _).keep (below1 _ _), [.int .i64 0, .int .i64 0, .int .i64 0, .int .i64 0, .int .i64 0, .int .i64 0, .int .i64 0, .int .i64 0, .int .i64 0], rfl, ?_⟩
    have h := ownl (w.alloc (.cells (ml m).toArray 25)) [.int .i64 0, .int .i64 0, .int .i64 0, .int .i64 0, .int .i64 0, .int .i64 0, .int .i64 0, .int .i64 0, .int .i64 0] 25
    rw [heap1] at h; exact h
  have r0 : ∀ w', AdjS w m w' → ∃ z0 z1 z2 z3 z4 z5 z6 z7 z8, w'.cell? ⟨w.heap.size + 1, 0, none⟩ = some z0 ∧ w'.cell? ⟨w.heap.size + 1, 1, none⟩ = some z1 ∧ w'.cell? ⟨w.heap.size + 1, 2, none⟩ = some z2 ∧ w'.cell? ⟨w.heap.size + 1, 3, none⟩ = some z3 ∧ w'.cell? ⟨w.heap.size + 1, 4, none⟩ = some z4 ∧ w'.cell? ⟨w.heap.size + 1, 5, none⟩ = some z5 ∧ w'.cell? ⟨w.heap.size + 1, 6, none⟩ = some z6 ∧ w'.cell? ⟨w.heap.size + 1, 7, none⟩ = some z7 ∧ w'.cell? ⟨w.heap.size + 1, 8, none⟩ = some z8 ∧ w'.frozen? ⟨w.heap.size + 1, 0, none⟩ = false ∧ w'.frozen? ⟨w.heap.size + 1, 1, none⟩ = false ∧ w'.frozen? ⟨w.heap.size + 1, 2, none⟩ = false ∧ w'.frozen? ⟨w.heap.size + 1, 3, none⟩ = false ∧ w'.frozen? ⟨w.heap.size + 1, 4, none⟩ = false ∧ w'.frozen? ⟨w.heap.size + 1, 5, none⟩ = false ∧ w'.frozen? ⟨w.heap.size + 1, 6, none⟩ = false ∧ w'.frozen? ⟨w.heap.size + 1, 7, none⟩ = false ∧ w'.frozen? ⟨w.heap.size + 1, 8, none⟩ = false := by
    unfold AdjS
    intro w' ⟨_, _, l, h4, h5⟩
    exact ⟨_, _, _, _, _, _, _, _, _, h5.1 0 (by omega), h5.1 1 (by omega), h5.1 2 (by omega), h5.1 3 (by omega), h5.1 4 (by omega), h5.1 5 (by omega), h5.1 6 (by omega), h5.1 7 (by omega), h5.1 8 (by omega), h5.2 0 (by omega), h5.2 1 (by omega), h5.2 2 (by omega), h5.2 3 (by omega), h5.2 4 (by omega), h5.2 5 (by omega), h5.2 6 (by omega), h5.2 7 (by omega), h5.2 8 (by omega)⟩
  have sS : ∀ w1 o z, AdjS w m w1 → AdjS w m (w1.setCell ⟨w.heap.size + 1, o, none⟩ z) := by
    unfold AdjS
    exact fun w1 o z ⟨h1, h2, l, h4, h5⟩ => ⟨h1.setCell (p := ⟨w.heap.size + 1, o, none⟩) (by show w.heap.size ≤ w.heap.size + 1; omega) z, h2.set (by omega) o z, _, by rw [List.length_set]; exact h4, h5.set o z⟩
  have bS : ∀ w1, AdjS w m w1 → Below w.heap.size w w1 := by unfold AdjS; exact fun w1 h => h.1
  obtain ⟨W0, hW0⟩ : ∃ W0, W0 = (w.alloc (.cells (ml m).toArray 25)).alloc (.cells #[.int .i64 0, .int .i64 0, .int .i64 0, .int .i64 0, .int .i64 0, .int .i64 0, .int .i64 0, .int .i64 0, .int .i64 0] 25) := ⟨_, rfl⟩
  rw [← hW0] at i0
  have HW := Lib.hid hW0
  clear hW0

  have eT : M3.turn ⟨m.b.cross m.c, m.c.cross m.a, m.a.cross m.b⟩ = m.adj := rfl
  rw [eT] at TU
  clear eT
  generalize m.adj = t at *
  generalize m.b.cross m.c = x at *; generalize m.c.cross m.a = y at *; generalize m.a.cross m.b = z at *
  go_enter Try.func35, Try.ntmps35
  go_upto_region 1 with fail
  rw [← HW.out]
  clear HW
  change (Code.region 1 adj1 true).wp Try.prog _ _ _
  refine wp_region_noPanic ?_
  refine wp_region_held_drew (S := (AdjS w m)) (by kernel_rfl) (dS _ i0) (fun hHeld => ?_)
  refine wpAnyH_take (i := 0) (oi := ({ dst := some 3, op := .indexAddr 25 (.tmp 1) (.const (.int .i64 1)), type := 0, pos := "ref.go:40", after := #[], guard := none } : Oper)) (v := ?vs4_0) rfl adj1_plain (by as_aux_lemma => kernel_rfl) (by as_aux_lemma => kernel_rfl) (fun _ _ _ h => h) (Or.inl ⟨by rfl, ?ys4_0⟩) (by assumption) ?rs4_0
  case ys4_0 => (intro w hSw; (try dsimp only at hSw); go_simp; try with_reducible rfl)
  try simp only [Act.put, List.setIfInBounds_toArray, List.set_cons_zero, List.set_cons_succ]
  refine wpAnyH_take (i := 1) (oi := ({ dst := some 4, op := .load 23 (.tmp 3), type := 23, pos := "ref.go:40", after := #[{ on := 0, ground := .data }], guard := none } : Oper)) (v := ?vs4_1) rfl adj1_plain (by as_aux_lemma => kernel_rfl) (by as_aux_lemma => kernel_rfl) (fun _ _ _ h => h) (Or.inl ⟨by rfl, ?ys4_1⟩) (by assumption) ?rs4_1
  case ys4_1 => (intro w hSw; (try dsimp only at hSw); go_simp; try with_reducible rfl)
  try simp only [Act.put, List.setIfInBounds_toArray, List.set_cons_zero, List.set_cons_succ]
  refine wpAnyH_take (i := 2) (oi := ({ dst := some 5, op := .indexAddr 25 (.tmp 1) (.const (.int .i64 2)), type := 0, pos := "ref.go:40", after := #[], guard := none } : Oper)) (v := ?vs4_2) rfl adj1_plain (by as_aux_lemma => kernel_rfl) (by as_aux_lemma => kernel_rfl) (fun _ _ _ h => h) (Or.inl ⟨by rfl, ?ys4_2⟩) (by assumption) ?rs4_2
  case ys4_2 => (intro w hSw; (try dsimp only at hSw); go_simp; try with_reducible rfl)
  try simp only [Act.put, List.setIfInBounds_toArray, List.set_cons_zero, List.set_cons_succ]
  refine wpAnyH_take (i := 3) (oi := ({ dst := some 6, op := .load 23 (.tmp 5), type := 23, pos := "ref.go:40", after := #[{ on := 2, ground := .data }], guard := none } : Oper)) (v := ?vs4_3) rfl adj1_plain (by as_aux_lemma => kernel_rfl) (by as_aux_lemma => kernel_rfl) (fun _ _ _ h => h) (Or.inl ⟨by rfl, ?ys4_3⟩) (by assumption) ?rs4_3
  case ys4_3 => (intro w hSw; (try dsimp only at hSw); go_simp; try with_reducible rfl)
  try simp only [Act.put, List.setIfInBounds_toArray, List.set_cons_zero, List.set_cons_succ]
  refine wpAnyH_take (i := 5) (oi := ({ dst := some 8, op := .indexAddr 25 (.tmp 1) (.const (.int .i64 2)), type := 0, pos := "ref.go:40", after := #[], guard := none } : Oper)) (v := ?vs4_5) rfl adj1_plain (by as_aux_lemma => kernel_rfl) (by as_aux_lemma => kernel_rfl) (fun _ _ _ h => h) (Or.inl ⟨by rfl, ?ys4_5⟩) (by assumption) ?rs4_5
  case ys4_5 => (intro w hSw; (try dsimp only at hSw); go_simp; try with_reducible rfl)
  try simp only [Act.put, List.setIfInBounds_toArray, List.set_cons_zero, List.set_cons_succ]
  refine wpAnyH_take (i := 6) (oi := ({ dst := some 9, op := .load 23 (.tmp 8), type := 23, pos := "ref.go:40", after := #[{ on := 5, ground := .data }], guard := none } : Oper)) (v := ?vs4_6) rfl adj1_plain (by as_aux_lemma => kernel_rfl) (by as_aux_lemma => kernel_rfl) (fun _ _ _ h => h) (Or.inl ⟨by rfl, ?ys4_6⟩) (by assumption) ?rs4_6
  case ys4_6 => (intro w hSw; (try dsimp only at hSw); go_simp; try with_reducible rfl)
  try simp only [Act.put, List.setIfInBounds_toArray, List.set_cons_zero, List.set_cons_succ]
  refine wpAnyH_take (i := 7) (oi := ({ dst := some 10, op := .indexAddr 25 (.tmp 1) (.const (.int .i64 0)), type := 0, pos := "ref.go:40", after := #[], guard := none } : Oper)) (v := ?vs4_7) rfl adj1_plain (by as_aux_lemma => kernel_rfl) (by as_aux_lemma => kernel_rfl) (fun _ _ _ h => h) (Or.inl ⟨by rfl, ?ys4_7⟩) (by assumption) ?rs4_7
  case ys4_7 => (intro w hSw; (try dsimp only at hSw); go_simp; try with_reducible rfl)
  try simp only [Act.put, List.setIfInBounds_toArray, List.set_cons_zero, List.set_cons_succ]
  refine wpAnyH_take (i := 8) (oi := ({ dst := some 11, op := .load 23 (.tmp 10), type := 23, pos := "ref.go:40", after := #[{ on := 7, ground := .data }], guard := none } : Oper)) (v := ?vs4_8) rfl adj1_plain (by as_aux_lemma => kernel_rfl) (by as_aux_lemma => kernel_rfl) (fun _ _ _ h => h) (Or.inl ⟨by rfl, ?ys4_8⟩) (by assumption) ?rs4_8
  case ys4_8 => (intro w hSw; (try dsimp only at hSw); go_simp; try with_reducible rfl)
  try simp only [Act.put, List.setIfInBounds_toArray, List.set_cons_zero, List.set_cons_succ]
  refine wpAnyH_take (i := 10) (oi := ({ dst := some 13, op := .indexAddr 25 (.tmp 1) (.const (.int .i64 0)), type := 0, pos := "ref.go:40", after := #[], guard := none } : Oper)) (v := ?vs4_10) rfl adj1_plain (by as_aux_lemma => kernel_rfl) (by as_aux_lemma => kernel_rfl) (fun _ _ _ h => h) (Or.inl ⟨by rfl, ?ys4_10⟩) (by assumption) ?rs4_10
  case ys4_10 => (intro w hSw; (try dsimp only at hSw); go_simp; try with_reducible rfl)
  try simp only [Act.put, List.setIfInBounds_toArray, List.set_cons_zero, List.set_cons_succ]
  refine wpAnyH_take (i := 11) (oi := ({ dst := some 14, op := .load 23 (.tmp 13), type := 23, pos := "ref.go:40", after := #[{ on := 10, ground := .data }], guard := none } : Oper)) (v := ?vs4_11) rfl adj1_plain (by as_aux_lemma => kernel_rfl) (by as_aux_lemma => kernel_rfl) (fun _ _ _ h => h) (Or.inl ⟨by rfl, ?ys4_11⟩) (by assumption) ?rs4_11
  case ys4_11 => (intro w hSw; (try dsimp only at hSw); go_simp; try with_reducible rfl)
  try simp only [Act.put, List.setIfInBounds_toArray, List.set_cons_zero, List.set_cons_succ]
  refine wpAnyH_take (i := 12) (oi := ({ dst := some 15, op := .indexAddr 25 (.tmp 1) (.const (.int .i64 1)), type := 0, pos := "ref.go:40", after := #[], guard := none } : Oper)) (v := ?vs4_12) rfl adj1_plain (by as_aux_lemma => kernel_rfl) (by as_aux_lemma => kernel_rfl) (fun _ _ _ h => h) (Or.inl ⟨by rfl, ?ys4_12⟩) (by assumption) ?rs4_12
  case ys4_12 => (intro w hSw; (try dsimp only at hSw); go_simp; try with_reducible rfl)
  try simp only [Act.put, List.setIfInBounds_toArray, List.set_cons_zero, List.set_cons_succ]
  refine wpAnyH_take (i := 13) (oi := ({ dst := some 16, op := .load 23 (.tmp 15), type := 23, pos := "ref.go:40", after := #[{ on := 12, ground := .data }], guard := none } : Oper)) (v := ?vs4_13) rfl adj1_plain (by as_aux_lemma => kernel_rfl) (by as_aux_lemma => kernel_rfl) (fun _ _ _ h => h) (Or.inl ⟨by rfl, ?ys4_13⟩) (by assumption) ?rs4_13
  case ys4_13 => (intro w hSw; (try dsimp only at hSw); go_simp; try with_reducible rfl)
  try simp only [Act.put, List.setIfInBounds_toArray, List.set_cons_zero, List.set_cons_succ]
  refine wpAnyH_ready (rs := [4]) (by as_aux_lemma => kernel_rfl) (by simp) ?_
  refine AllReadyH.cons (o := ({ dst := some 7, op := .call { callee := .value (.func 43), args := #[.tmp 4, .tmp 6], argTypes := #[23, 23] }, type := 23, pos := "ref.go:40", after := #[{ on := 1, ground := .data }, { on := 3, ground := .data }], guard := none } : Oper)) rfl (fun KK hK => ?_) AllReadyH.nil
  rw [if_pos (by rfl)]
  go_simp
  go_at_call 43; refine (CA.out _).mono ?_; rintro e w1 ⟨rfl, hb1⟩
  go_wp2_with fail
  refine hK.out _ _ ?_ (fun hHeld1 => ?_)
  · exact kS _ _ (by assumption) hb1
  clear hK KK hb1
  try simp only [Act.put, List.setIfInBounds_toArray, List.set_cons_zero, List.set_cons_succ]
  refine wpAnyH_ready (rs := [9]) (by as_aux_lemma => kernel_rfl) (by simp) ?_
  refine AllReadyH.cons (o := ({ dst := some 12, op := .call { callee := .value (.func 43), args := #[.tmp 9, .tmp 11], argTypes := #[23, 23] }, type := 23, pos := "ref.go:40", after := #[{ on := 6, ground := .data }, { on := 8, ground := .data }, { on := 4, ground := .chain }], guard := none } : Oper)) rfl (fun KK hK => ?_) AllReadyH.nil
  rw [if_pos (by rfl)]
  go_simp
  go_at_call 43; refine (CB.out _).mono ?_; rintro e w2 ⟨rfl, hb2⟩
  go_wp2_with fail
  refine hK.out _ _ ?_ (fun hHeld2 => ?_)
  · exact kS _ _ (by assumption) hb2
  clear hK KK hb2 hHeld1
  try simp only [Act.put, List.setIfInBounds_toArray, List.set_cons_zero, List.set_cons_succ]
  refine wpAnyH_ready (rs := [14]) (by as_aux_lemma => kernel_rfl) (by simp) ?_
  refine AllReadyH.cons (o := ({ dst := some 17, op := .call { callee := .value (.func 43), args := #[.tmp 14, .tmp 16], argTypes := #[23, 23] }, type := 23, pos := "ref.go:40", after := #[{ on := 11, ground := .data }, { on := 13, ground := .data }, { on := 9, ground := .chain }], guard := none } : Oper)) rfl (fun KK hK => ?_) AllReadyH.nil
  rw [if_pos (by rfl)]
  go_simp
  go_at_call 43; refine (CC.out _).mono ?_; rintro e w3 ⟨rfl, hb3⟩
  go_wp2_with fail
  refine hK.out _ _ ?_ (fun hHeld3 => ?_)
  · exact kS _ _ (by assumption) hb3
  clear hK KK hb3 hHeld2
  try simp only [Act.put, List.setIfInBounds_toArray, List.set_cons_zero, List.set_cons_succ]
  refine wpAnyH_take (i := 15) (oi := ({ dst := some 18, op := .build 25 #[(0, .tmp 7), (1, .tmp 12), (2, .tmp 17)], type := 25, pos := "ref.go:40", after := #[{ on := 4, ground := .data }, { on := 9, ground := .data }, { on := 14, ground := .data }], guard := none } : Oper)) (v := ?vs4_15) rfl adj1_plain (by as_aux_lemma => kernel_rfl) (by as_aux_lemma => kernel_rfl) (fun _ _ _ h => h) (Or.inl ⟨by rfl, ?ys4_15⟩) (by assumption) ?rs4_15
  case ys4_15 => (intro w hSw; (try dsimp only at hSw); go_simp; try with_reducible rfl)
  try simp only [Act.put, List.setIfInBounds_toArray, List.set_cons_zero, List.set_cons_succ]
  refine wpAnyH_ready (rs := [16]) (by as_aux_lemma => kernel_rfl) (by simp) ?_
  refine AllReadyH.cons (o := ({ dst := some 19, op := .call { callee := .value (.func 33), args := #[.tmp 18], argTypes := #[25] }, type := 25, pos := "ref.go:40", after := #[{ on := 15, ground := .data }, { on := 14, ground := .chain }], guard := none } : Oper)) rfl (fun KK hK => ?_) AllReadyH.nil
  rw [if_pos (by rfl)]
  go_simp
  go_at_call 33; refine (TU.out _).mono ?_; rintro e w4 ⟨rfl, hb4⟩
  go_wp2_with fail
  refine hK.out _ _ ?_ (fun hHeld4 => ?_)
  · exact kS _ _ (by assumption) hb4
  clear hK KK hb4 hHeld3
  try simp only [Act.put, List.setIfInBounds_toArray, List.set_cons_zero, List.set_cons_succ]
  refine wpAnyH_ready (rs := [17]) (by as_aux_lemma => kernel_rfl) (by simp) ?_
  refine AllReadyH.cons (o := ({ dst := none, op := .store 25 (.tmp 2) (.tmp 19), type := 0, pos := "ref.go:40", after := #[{ on := 16, ground := .data }, { on := 16, ground := .chain }, { on := 0, ground := .phase }, { on := 1, ground := .phase }, { on := 2, ground := .phase }, { on := 3, ground := .phase }, { on := 4, ground := .phase }, { on := 5, ground := .phase }, { on := 6, ground := .phase }, { on := 7, ground := .phase }, { on := 8, ground := .phase }, { on := 9, ground := .phase }, { on := 10, ground := .phase }, { on := 11, ground := .phase }, { on := 12, ground := .phase }, { on := 13, ground := .phase }, { on := 14, ground := .phase }, { on := 15, ground := .phase }, { on := 16, ground := .phase }], guard := none } : Oper)) rfl (fun KK hK => ?_) AllReadyH.nil
  rw [if_pos (by rfl)]
  obtain ⟨z0, z1, z2, z3, z4, z5, z6, z7, z8, k0, k1, k2, k3, k4, k5, k6, k7, k8, f0, f1, f2, f3, f4, f5, f6, f7, f8⟩ := r0 w4 (by assumption)
  go_simp
  refine hK.out _ _ ?_ (fun hHeldS => ?_)
  · exact sS _ _ _ (sS _ _ _ (sS _ _ _ (sS _ _ _ (sS _ _ _ (sS _ _ _ (sS _ _ _ (sS _ _ _ (sS _ _ _ (by assumption)))))))))
  clear hK KK
  try simp only [Act.put, List.setIfInBounds_toArray, List.set_cons_zero, List.set_cons_succ]
  refine wpAnyH_done (by as_aux_lemma => kernel_rfl) ?_ _
  refine NoPanic.normal ?_
  have BB := bS _ hHeldS
  go_wp2_with fail
  exact bodyPost_ret (v := mv t) (by simp [mv, ml, results, Try.results35, go_sem, *]) rfl ⟨rfl, BB⟩
end Ref8
end Go.Proofs.Ytjdpcmcekockgaa
