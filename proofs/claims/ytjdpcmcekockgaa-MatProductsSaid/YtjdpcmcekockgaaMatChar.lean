/- The document's own answers for layer 8: Char. -/
import Derived.Test.YtjdpcmcekockgaaMatAdj
namespace Go.Proofs.Ytjdpcmcekockgaa
open Go.RowKit

/-- what stays, in Char: the argument's block, and the result's -/
def CharS (w : World) (m : M3) (w' : World) : Prop := Below w.heap.size w w' ∧ HasL w' w.heap.size (ml m) ∧ ∃ l, l.length = 3 ∧ OwnL w' (w.heap.size + 1) l
def M3.char (m : M3) : V3 := ⟨-m.det, m.adj.trace, -m.trace⟩

namespace Ref8
/-- The operations of a drawn region, as the translation has them. -/
def char1 : Array Oper := #[
  { dst := some 3, op := .load 25 (.tmp 1), type := 25, pos := "ref.go:77", after := #[], guard := none },
  { dst := some 4, op := .call { callee := .value (.func 34), args := #[.tmp 3], argTypes := #[25] }, type := 2, pos := "ref.go:77", after := #[{ on := 0, ground := .data }], guard := none },
  { dst := some 5, op := .unOp .neg 2 (.tmp 4), type := 2, pos := "ref.go:77", after := #[{ on := 1, ground := .data }], guard := none },
  { dst := some 6, op := .load 25 (.tmp 1), type := 25, pos := "ref.go:77", after := #[], guard := none },
  { dst := some 7, op := .call { callee := .value (.func 35), args := #[.tmp 6], argTypes := #[25] }, type := 25, pos := "ref.go:77", after := #[{ on := 3, ground := .data }, { on := 1, ground := .chain }], guard := none },
  { dst := some 8, op := .call { callee := .value (.func 36), args := #[.tmp 7], argTypes := #[25] }, type := 2, pos := "ref.go:77", after := #[{ on := 4, ground := .data }, { on := 4, ground := .chain }], guard := none },
  { dst := some 9, op := .load 25 (.tmp 1), type := 25, pos := "ref.go:77", after := #[], guard := none },
  { dst := some 10, op := .call { callee := .value (.func 36), args := #[.tmp 9], argTypes := #[25] }, type := 2, pos := "ref.go:77", after := #[{ on := 6, ground := .data }, { on := 5, ground := .chain }], guard := none },
  { dst := some 11, op := .unOp .neg 2 (.tmp 10), type := 2, pos := "ref.go:77", after := #[{ on := 7, ground := .data }], guard := none },
  { dst := some 12, op := .build 22 #[(0, .tmp 5), (1, .tmp 8), (2, .tmp 11)], type := 22, pos := "ref.go:77", after := #[{ on := 2, ground := .data }, { on := 5, ground := .data }, { on := 8, ground := .data }], guard := none },
  { dst := none, op := .store 22 (.tmp 2) (.tmp 12), type := 0, pos := "ref.go:77", after := #[{ on := 9, ground := .data }, { on := 7, ground := .chain }, { on := 0, ground := .phase }, { on := 1, ground := .phase }, { on := 2, ground := .phase }, { on := 3, ground := .phase }, { on := 4, ground := .phase }, { on := 5, ground := .phase }, { on := 6, ground := .phase }, { on := 7, ground := .phase }, { on := 8, ground := .phase }, { on := 9, ground := .phase }], guard := none }]
theorem char1_plain : Region.noSelect char1 = true := by kernel_rfl

set_option maxHeartbeats 8000000 in
theorem Char_any (m : M3) (w : World) :
    Calls Try.prog 26 #[mv m] w fun e w' => e = .returned (vv m.char) ∧ Below w.heap.size w w' := by
  have CD := Lib.hid (Det_any m); have CA := Lib.hid (Adj_any m); have CT := Lib.hid (Trace_any m.adj); have CU := Lib.hid (Trace_any m)
  have n0 := v_neg m.det; have n1 := v_neg m.trace
  have kS : ∀ w1 w2, CharS w m w1 → Below w1.heap.size w1 w2 → CharS w m w2 := by
    unfold CharS
    exact fun w1 w2 ⟨h1, h2, l, h4, h5⟩ hb => ⟨belowT h1 hb, h2.keep hb, l, h4, h5.keep hb⟩
  have dS : ∀ w1, CharS w m w1 → CharS w m w1.drew := fun w1 h => kS _ _ h (Below.refl _ _).drew
  have m0 : ∀ w', CharS w m w' → w'.cell? ⟨w.heap.size, 0, none⟩ = some (.int .i64 m.a.x.toInt) := by unfold CharS; exact fun w' h => h.2.1.at 0 rfl
  have m1 : ∀ w', CharS w m w' → w'.cell? ⟨w.heap.size, 1, none⟩ = some (.int .i64 m.a.y.toInt) := by unfold CharS; exact fun w' h => h.2.1.at 1 rfl
  have m2 : ∀ w', CharS w m w' → w'.cell? ⟨w.heap.size, 2, none⟩ = some (.int .i64 m.a.z.toInt) := by unfold CharS; exact fun w' h => h.2.1.at 2 rfl
  have m3 : ∀ w', CharS w m w' → w'.cell? ⟨w.heap.size, 3, none⟩ = some (.int .i64 m.b.x.toInt) := by unfold CharS; exact fun w' h => h.2.1.at 3 rfl
  have m4 : ∀ w', CharS w m w' → w'.cell? ⟨w.heap.size, 4, none⟩ = some (.int .i64 m.b.y.toInt) := by unfold CharS; exact fun w' h => h.2.1.at 4 rfl
  have m5 : ∀ w', CharS w m w' → w'.cell? ⟨w.heap.size, 5, none⟩ = some (.int .i64 m.b.z.toInt) := by unfold CharS; exact fun w' h => h.2.1.at 5 rfl
  have m6 : ∀ w', CharS w m w' → w'.cell? ⟨w.heap.size, 6, none⟩ = some (.int .i64 m.c.x.toInt) := by unfold CharS; exact fun w' h => h.2.1.at 6 rfl
  have m7 : ∀ w', CharS w m w' → w'.cell? ⟨w.heap.size, 7, none⟩ = some (.int .i64 m.c.y.toInt) := by unfold CharS; exact fun w' h => h.2.1.at 7 rfl
  have m8 : ∀ w', CharS w m w' → w'.cell? ⟨w.heap.size, 8, none⟩ = some (.int .i64 m.c.z.toInt) := by unfold CharS; exact fun w' h => h.2.1.at 8 rfl
  have i0 : CharS w m ((w.alloc (.cells (ml m).toArray 25)).alloc (.cells #[.int .i64 0, .int .i64 0, .int .i64 0] 22)) := by
    unfold CharS
    refine ⟨below2 w _ _, (hasl w (ml m) _).keep (below1 _ _), [.int .i64 0, .int .i64 0, .int .i64 0], rfl, ?_⟩
    have h := ownl (w.alloc (.cells (ml m).toArray 25)) [.int .i64 0, .int .i64 0, .int .i64 0] 22
    rw [heap1] at h; exact h
  have r0' : ∀ w', CharS w m w' → ∃ z0 z1 z2, w'.cell? ⟨w.heap.size + 1, 0, none⟩ = some z0 ∧ w'.cell? ⟨w.heap.size + 1, 1, none⟩ = some z1 ∧ w'.cell? ⟨w.heap.size + 1, 2, none⟩ = some z2 ∧ w'.frozen? ⟨w.heap.size + 1, 0, none⟩ = false ∧ w'.frozen? ⟨w.heap.size + 1, 1, none⟩ = false ∧ w'.frozen? ⟨w.heap.size + 1, 2, none⟩ = false := by
    unfold CharS
    intro w' ⟨_, _, l, h4, h5⟩
    exact ⟨_, _, _, h5.1 0 (by omega), h5.1 1 (by omega), h5.1 2 (by omega), h5.2 0 (by omega), h5.2 1 (by omega), h5.2 2 (by omega)⟩
  have sS : ∀ w1 o z, CharS w m w1 → CharS w m (w1.setCell ⟨w.heap.size + 1, o, none⟩ z) := by
    unfold CharS
    exact fun w1 o z ⟨h1, h2, l, h4, h5⟩ => ⟨h1.setCell (p := ⟨w.heap.size + 1, o, none⟩) (by show w.heap.size ≤ w.heap.size + 1; omega) z, h2.set (by omega) o z, _, by rw [List.length_set]; exact h4, h5.set o z⟩
  have bS : ∀ w1, CharS w m w1 → Below w.heap.size w w1 := by unfold CharS; exact fun w1 h => h.1
  obtain ⟨W0, hW0⟩ : ∃ W0, W0 = (w.alloc (.cells (ml m).toArray 25)).alloc (.cells #[.int .i64 0, .int .i64 0, .int .i64 0] 22) := ⟨_, rfl⟩
  rw [← hW0] at i0
  have HW := Lib.hid hW0
  clear hW0
  unfold M3.char vv
  simp only
  generalize (-m.det).toInt = r0 at *; generalize (-m.trace).toInt = r2 at *
  generalize m.det.toInt = d at *; generalize m.trace.toInt = tr at *; generalize m.adj.trace.toInt = r1 at *
  generalize m.adj = t at *
  go_enter Try.func26, Try.ntmps26
  go_upto_region 1 with fail
  rw [← HW.out]
  clear HW
  change (Code.region 1 char1 true).wp Try.prog _ _ _
  refine wp_region_noPanic ?_
  refine wp_region_held_drew (S := (CharS w m)) (by kernel_rfl) (dS _ i0) (fun hHeld => ?_)
  refine wpAnyH_take (i := 0) (oi := ({ dst := some 3, op := .load 25 (.tmp 1), type := 25, pos := "ref.go:77", after := #[], guard := none } : Oper)) (v := ?vs5_0) rfl char1_plain (by as_aux_lemma => kernel_rfl) (by as_aux_lemma => kernel_rfl) (fun _ _ _ h => h) (Or.inl ⟨by rfl, ?ys5_0⟩) (by assumption) ?rs5_0
  case ys5_0 => (intro w hSw; (try dsimp only at hSw); go_simp; try with_reducible rfl)
  try simp only [Act.put, List.setIfInBounds_toArray, List.set_cons_zero, List.set_cons_succ]
  refine wpAnyH_take (i := 3) (oi := ({ dst := some 6, op := .load 25 (.tmp 1), type := 25, pos := "ref.go:77", after := #[], guard := none } : Oper)) (v := ?vs5_3) rfl char1_plain (by as_aux_lemma => kernel_rfl) (by as_aux_lemma => kernel_rfl) (fun _ _ _ h => h) (Or.inl ⟨by rfl, ?ys5_3⟩) (by assumption) ?rs5_3
  case ys5_3 => (intro w hSw; (try dsimp only at hSw); go_simp; try with_reducible rfl)
  try simp only [Act.put, List.setIfInBounds_toArray, List.set_cons_zero, List.set_cons_succ]
  refine wpAnyH_take (i := 6) (oi := ({ dst := some 9, op := .load 25 (.tmp 1), type := 25, pos := "ref.go:77", after := #[], guard := none } : Oper)) (v := ?vs5_6) rfl char1_plain (by as_aux_lemma => kernel_rfl) (by as_aux_lemma => kernel_rfl) (fun _ _ _ h => h) (Or.inl ⟨by rfl, ?ys5_6⟩) (by assumption) ?rs5_6
  case ys5_6 => (intro w hSw; (try dsimp only at hSw); go_simp; try with_reducible rfl)
  try simp only [Act.put, List.setIfInBounds_toArray, List.set_cons_zero, List.set_cons_succ]
  refine wpAnyH_ready (rs := [1]) (by as_aux_lemma => kernel_rfl) (by simp) ?_
  refine AllReadyH.cons (o := ({ dst := some 4, op := .call { callee := .value (.func 34), args := #[.tmp 3], argTypes := #[25] }, type := 2, pos := "ref.go:77", after := #[{ on := 0, ground := .data }], guard := none } : Oper)) rfl (fun KK hK => ?_) AllReadyH.nil
  rw [if_pos (by rfl)]
  go_simp
  go_at_call 34; refine (CD.out _).mono ?_; rintro e w1 ⟨rfl, hb1⟩
  go_wp2_with fail
  refine hK.out _ _ ?_ (fun hHeld1 => ?_)
  · exact kS _ _ (by assumption) hb1
  clear hK KK hb1
  try simp only [Act.put, List.setIfInBounds_toArray, List.set_cons_zero, List.set_cons_succ]
  refine wpAnyH_take (i := 2) (oi := ({ dst := some 5, op := .unOp .neg 2 (.tmp 4), type := 2, pos := "ref.go:77", after := #[{ on := 1, ground := .data }], guard := none } : Oper)) (v := ?vs5_2) rfl char1_plain (by as_aux_lemma => kernel_rfl) (by as_aux_lemma => kernel_rfl) (fun _ _ _ h => h) (Or.inl ⟨by rfl, ?ys5_2⟩) (by assumption) ?rs5_2
  case ys5_2 => (intro w hSw; (try dsimp only at hSw); go_simp; try with_reducible rfl)
  try simp only [Act.put, List.setIfInBounds_toArray, List.set_cons_zero, List.set_cons_succ]
  refine wpAnyH_ready (rs := [4]) (by as_aux_lemma => kernel_rfl) (by simp) ?_
  refine AllReadyH.cons (o := ({ dst := some 7, op := .call { callee := .value (.func 35), args := #[.tmp 6], argTypes := #[25] }, type := 25, pos := "ref.go:77", after := #[{ on := 3, ground := .data }, { on := 1, ground := .chain }], guard := none } : Oper)) rfl (fun KK hK => ?_) AllReadyH.nil
  rw [if_pos (by rfl)]
  go_simp
  go_at_call 35; refine (CA.out _).mono ?_; rintro e w2 ⟨rfl, hb2⟩
  go_wp2_with fail
  refine hK.out _ _ ?_ (fun hHeld2 => ?_)
  · exact kS _ _ (by assumption) hb2
  clear hK KK hb2 hHeld1
  try simp only [Act.put, List.setIfInBounds_toArray, List.set_cons_zero, List.set_cons_succ]
  refine wpAnyH_ready (rs := [5]) (by as_aux_lemma => kernel_rfl) (by simp) ?_
  refine AllReadyH.cons (o := ({ dst := some 8, op := .call { callee := .value (.func 36), args := #[.tmp 7], argTypes := #[25] }, type := 2, pos := "ref.go:77", after := #[{ on := 4, ground := .data }, { on := 4, ground := .chain }], guard := none } : Oper)) rfl (fun KK hK => ?_) AllReadyH.nil
  rw [if_pos (by rfl)]
  go_simp
  go_at_call 36; refine (CT.out _).mono ?_; rintro e w3 ⟨rfl, hb3⟩
  go_wp2_with fail
  refine hK.out _ _ ?_ (fun hHeld3 => ?_)
  · exact kS _ _ (by assumption) hb3
  clear hK KK hb3 hHeld2
  try simp only [Act.put, List.setIfInBounds_toArray, List.set_cons_zero, List.set_cons_succ]
  refine wpAnyH_ready (rs := [7]) (by as_aux_lemma => kernel_rfl) (by simp) ?_
  refine AllReadyH.cons (o := ({ dst := some 10, op := .call { callee := .value (.func 36), args := #[.tmp 9], argTypes := #[25] }, type := 2, pos := "ref.go:77", after := #[{ on := 6, ground := .data }, { on := 5, ground := .chain }], guard := none } : Oper)) rfl (fun KK hK => ?_) AllReadyH.nil
  rw [if_pos (by rfl)]
  go_simp
  go_at_call 36; refine (CU.out _).mono ?_; rintro e w4 ⟨rfl, hb4⟩
  go_wp2_with fail
  refine hK.out _ _ ?_ (fun hHeld4 => ?_)
  · exact kS _ _ (by assumption) hb4
  clear hK KK hb4 hHeld3
  try simp only [Act.put, List.setIfInBounds_toArray, List.set_cons_zero, List.set_cons_succ]
  refine wpAnyH_take (i := 8) (oi := ({ dst := some 11, op := .unOp .neg 2 (.tmp 10), type := 2, pos := "ref.go:77", after := #[{ on := 7, ground := .data }], guard := none } : Oper)) (v := ?vs5_8) rfl char1_plain (by as_aux_lemma => kernel_rfl) (by as_aux_lemma => kernel_rfl) (fun _ _ _ h => h) (Or.inl ⟨by rfl, ?ys5_8⟩) (by assumption) ?rs5_8
  case ys5_8 => (intro w hSw; (try dsimp only at hSw); go_simp; try with_reducible rfl)
  try simp only [Act.put, List.setIfInBounds_toArray, List.set_cons_zero, List.set_cons_succ]
  refine wpAnyH_take (i := 9) (oi := ({ dst := some 12, op := .build 22 #[(0, .tmp 5), (1, .tmp 8), (2, .tmp 11)], type := 22, pos := "ref.go:77", after := #[{ on := 2, ground := .data }, { on := 5, ground := .data }, { on := 8, ground := .data }], guard := none } : Oper)) (v := ?vs5_9) rfl char1_plain (by as_aux_lemma => kernel_rfl) (by as_aux_lemma => kernel_rfl) (fun _ _ _ h => h) (Or.inl ⟨by rfl, ?ys5_9⟩) (by assumption) ?rs5_9
  case ys5_9 => (intro w hSw; (try dsimp only at hSw); go_simp; try with_reducible rfl)
  try simp only [Act.put, List.setIfInBounds_toArray, List.set_cons_zero, List.set_cons_succ]
  refine wpAnyH_ready (rs := [10]) (by as_aux_lemma => kernel_rfl) (by simp) ?_
  refine AllReadyH.cons (o := ({ dst := none, op := .store 22 (.tmp 2) (.tmp 12), type := 0, pos := "ref.go:77", after := #[{ on := 9, ground := .data }, { on := 7, ground := .chain }, { on := 0, ground := .phase }, { on := 1, ground := .phase }, { on := 2, ground := .phase }, { on := 3, ground := .phase }, { on := 4, ground := .phase }, { on := 5, ground := .phase }, { on := 6, ground := .phase }, { on := 7, ground := .phase }, { on := 8, ground := .phase }, { on := 9, ground := .phase }], guard := none } : Oper)) rfl (fun KK hK => ?_) AllReadyH.nil
  rw [if_pos (by rfl)]
  obtain ⟨z0, z1, z2, k0, k1, k2, f0, f1, f2⟩ := r0' w4 (by assumption)
  go_simp
  refine hK.out _ _ ?_ (fun hHeldS => ?_)
  · exact sS _ _ _ (sS _ _ _ (sS _ _ _ (by assumption)))
  clear hK KK
  try simp only [Act.put, List.setIfInBounds_toArray, List.set_cons_zero, List.set_cons_succ]
  refine wpAnyH_done (by as_aux_lemma => kernel_rfl) ?_ _
  refine NoPanic.normal ?_
  have wi : ∀ x : Int, IntKind.i64.wrap x = wrap64 x := fun x => by simp [IntKind.wrap, wrap64, IntKind.signed, IntKind.bits] <;> omega
  have n0' : IntKind.i64.wrap (-d) = r0 := by rw [wi]; exact n0
  have n1' : IntKind.i64.wrap (-tr) = r2 := by rw [wi]; exact n1
  have BB := bS _ hHeldS
  go_wp2_with fail
  exact bodyPost_ret (v := .agg #[.int .i64 r0, .int .i64 r1, .int .i64 r2]) (by simp [results, Try.results26, go_sem, *]) rfl ⟨rfl, BB⟩
end Ref8
end Go.Proofs.Ytjdpcmcekockgaa
