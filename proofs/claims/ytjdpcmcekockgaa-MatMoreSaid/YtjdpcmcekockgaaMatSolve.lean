/- The document's own answers for layer 8: Solve. -/
import Derived.Test.YtjdpcmcekockgaaMatChar
namespace Go.Proofs.Ytjdpcmcekockgaa
open Go.RowKit
namespace Ref8
set_option maxHeartbeats 4000000 in
theorem Solve_flat (m : M3) (v : V3) (w : World) (h : m.det = 0) :
    Calls Try.prog 30 #[mv m, vv v] w fun e w' => e = .returned (.tuple #[.agg #[.int .i64 0, .int .i64 0, .int .i64 0], .int .i64 0, .int .i64 7]) ∧ Below w.heap.size w w' := by
  have CD := Lib.hid (Det_any m)
  rw [h, show (0 : BitVec 64).toInt = 0 by decide] at CD
  have kS : ∀ w1 w2, TimesS w m v w1 → Below w1.heap.size w1 w2 → TimesS w m v w2 := by
    unfold TimesS
    exact fun w1 w2 ⟨h1, h2, h3, l, h4, h5⟩ hb => ⟨belowT h1 hb, h2.keep hb, h3.keep hb, l, h4, h5.keep hb⟩
  have dS : ∀ w1, TimesS w m v w1 → TimesS w m v w1.drew := fun w1 h => kS _ _ h (Below.refl _ _).drew
  have m0 : ∀ w', TimesS w m v w' → w'.cell? ⟨w.heap.size, 0, none⟩ = some (.int .i64 m.a.x.toInt) := by unfold TimesS; exact fun w' h => h.2.1.at 0 rfl
  have m1 : ∀ w', TimesS w m v w' → w'.cell? ⟨w.heap.size, 1, none⟩ = some (.int .i64 m.a.y.toInt) := by unfold TimesS; exact fun w' h => h.2.1.at 1 rfl
  have m2 : ∀ w', TimesS w m v w' → w'.cell? ⟨w.heap.size, 2, none⟩ = some (.int .i64 m.a.z.toInt) := by unfold TimesS; exact fun w' h => h.2.1.at 2 rfl
  have m3 : ∀ w', TimesS w m v w' → w'.cell? ⟨w.heap.size, 3, none⟩ = some (.int .i64 m.b.x.toInt) := by unfold TimesS; exact fun w' h => h.2.1.at 3 rfl
  have m4 : ∀ w', TimesS w m v w' → w'.cell? ⟨w.heap.size, 4, none⟩ = some (.int .i64 m.b.y.toInt) := by unfold TimesS; exact fun w' h => h.2.1.at 4 rfl
  have m5 : ∀ w', TimesS w m v w' → w'.cell? ⟨w.heap.size, 5, none⟩ = some (.int .i64 m.b.z.toInt) := by unfold TimesS; exact fun w' h => h.2.1.at 5 rfl
  have m6 : ∀ w', TimesS w m v w' → w'.cell? ⟨w.heap.size, 6, none⟩ = some (.int .i64 m.c.x.toInt) := by unfold TimesS; exact fun w' h => h.2.1.at 6 rfl
  have m7 : ∀ w', TimesS w m v w' → w'.cell? ⟨w.heap.size, 7, none⟩ = some (.int .i64 m.c.y.toInt) := by unfold TimesS; exact fun w' h => h.2.1.at 7 rfl
  have m8 : ∀ w', TimesS w m v w' → w'.cell? ⟨w.heap.size, 8, none⟩ = some (.int .i64 m.c.z.toInt) := by unfold TimesS; exact fun w' h => h.2.1.at 8 rfl
  have v0 : ∀ w', TimesS w m v w' → w'.cell? ⟨w.heap.size + 1, 0, none⟩ = some (.int .i64 v.x.toInt) := by unfold TimesS; exact fun w' h => h.2.2.1.at 0 rfl
  have v1 : ∀ w', TimesS w m v w' → w'.cell? ⟨w.heap.size + 1, 1, none⟩ = some (.int .i64 v.y.toInt) := by unfold TimesS; exact fun w' h => h.2.2.1.at 1 rfl
  have v2 : ∀ w', TimesS w m v w' → w'.cell? ⟨w.heap.size + 1, 2, none⟩ = some (.int .i64 v.z.toInt) := by unfold TimesS; exact fun w' h => h.2.2.1.at 2 rfl
  have i0 : TimesS w m v (((w.alloc (.cells (ml m).toArray 25)).alloc (.cells (vl v).toArray 23)).alloc (.cells #[.int .i64 0, .int .i64 0, .int .i64 0] 23)) := by
    unfold TimesS
    refine ⟨below3 w _ _ _, ((hasl w (ml m) _).keep (below1 _ _)).keep (below1 _ _), ?_, [.int .i64 0, .int .i64 0, .int .i64 0], rfl, ?_⟩
    · have h := (hasl (w.alloc (.cells (ml m).toArray 25)) (vl v) 23).keep (below1 _ (.cells #[.int .i64 0, .int .i64 0, .int .i64 0] 23))
      rw [heap1] at h; exact h
    · have h := ownl ((w.alloc (.cells (ml m).toArray 25)).alloc (.cells (vl v).toArray 23)) [.int .i64 0, .int .i64 0, .int .i64 0] 23
      rw [heap1, heap1] at h; exact h
  have r0 : ∀ w', TimesS w m v w' → ∃ z0 z1 z2, w'.cell? ⟨w.heap.size + 1 + 1, 0, none⟩ = some z0 ∧ w'.cell? ⟨w.heap.size + 1 + 1, 1, none⟩ = some z1 ∧ w'.cell? ⟨w.heap.size + 1 + 1, 2, none⟩ = some z2 ∧ w'.frozen? ⟨w.heap.size + 1 + 1, 0, none⟩ = false ∧ w'.frozen? ⟨w.heap.size + 1 + 1, 1, none⟩ = false ∧ w'.frozen? ⟨w.heap.size + 1 + 1, 2, none⟩ = false := by
    unfold TimesS
    intro w' ⟨_, _, _, l, h4, h5⟩
    exact ⟨_, _, _, h5.1 0 (by omega), h5.1 1 (by omega), h5.1 2 (by omega), h5.2 0 (by omega), h5.2 1 (by omega), h5.2 2 (by omega)⟩
  have sS : ∀ w1 o z, TimesS w m v w1 → TimesS w m v (w1.setCell ⟨w.heap.size + 1 + 1, o, none⟩ z) := by
    unfold TimesS
    exact fun w1 o z ⟨h1, h2, h3, l, h4, h5⟩ => ⟨h1.setCell (p := ⟨w.heap.size + 1 + 1, o, none⟩) (by show w.heap.size ≤ w.heap.size + 1 + 1; omega) z, h2.set (by omega) o z, h3.set (by omega) o z, _, by rw [List.length_set]; exact h4, h5.set o z⟩
  have bS : ∀ w1, TimesS w m v w1 → Below w.heap.size w w1 := by unfold TimesS; exact fun w1 h => h.1
  go_enter Try.func30, Try.ntmps30
  go_wp2_with (go_at_call 34; refine (CD.out _).mono ?_; rintro e w1 ⟨rfl, hb⟩; have S1 := kS _ _ i0 hb; obtain ⟨z0, z1, z2, k0, k1, k2, f0, f1, f2⟩ := r0 _ S1)
  exact bodyPost_ret (v := .tuple #[.agg #[.int .i64 0, .int .i64 0, .int .i64 0], .int .i64 0, .int .i64 7]) (by simp [results, Try.results30, go_sem, *]) rfl ⟨rfl, bS _ (sS _ _ _ (sS _ _ _ (sS _ _ _ S1)))⟩

/-- The operations of a drawn region, as the translation has them. -/
def solve4 : Array Oper := #[
  { dst := some 13, op := .load 25 (.tmp 2), type := 25, pos := "ref.go:55", after := #[], guard := none },
  { dst := some 14, op := .call { callee := .value (.func 35), args := #[.tmp 13], argTypes := #[25] }, type := 25, pos := "ref.go:55", after := #[{ on := 0, ground := .data }], guard := none },
  { dst := some 15, op := .load 23 (.tmp 3), type := 23, pos := "ref.go:55", after := #[], guard := none },
  { dst := some 16, op := .call { callee := .value (.func 32), args := #[.tmp 14, .tmp 15], argTypes := #[25, 23] }, type := 23, pos := "ref.go:55", after := #[{ on := 1, ground := .data }, { on := 2, ground := .data }, { on := 1, ground := .chain }], guard := none },
  { dst := some 17, op := .move (.tmp 7), type := 2, pos := "ref.go:55", after := #[{ on := 5, ground := .gcOnly Go.Departure.lateStores }], guard := none },
  { dst := none, op := .store 23 (.tmp 4) (.tmp 16), type := 0, pos := "ref.go:55", after := #[{ on := 3, ground := .data }, { on := 3, ground := .chain }, { on := 0, ground := .phase }, { on := 1, ground := .phase }, { on := 2, ground := .phase }, { on := 3, ground := .phase }, { on := 4, ground := .textOnly Go.Departure.lateStores }], guard := none },
  { dst := some 5, op := .assign (.tmp 17), type := 2, pos := "ref.go:55", after := #[{ on := 4, ground := .data }, { on := 5, ground := .chain }, { on := 0, ground := .phase }, { on := 1, ground := .phase }, { on := 2, ground := .phase }, { on := 3, ground := .phase }, { on := 4, ground := .phase }, { on := 5, ground := .phase }], guard := none },
  { dst := some 6, op := .assign (.const (.int .i64 0)), type := 30, pos := "ref.go:55", after := #[{ on := 6, ground := .chain }, { on := 0, ground := .phase }, { on := 1, ground := .phase }, { on := 2, ground := .phase }, { on := 3, ground := .phase }, { on := 4, ground := .phase }, { on := 5, ground := .phase }, { on := 6, ground := .phase }], guard := none }]
theorem solve4_plain : Region.noSelect solve4 = true := by kernel_rfl

set_option maxHeartbeats 4000000 in
theorem Solve_firm (m : M3) (v : V3) (w : World) (h : m.det ≠ 0) :
    Calls Try.prog 30 #[mv m, vv v] w fun e w' => e = .returned (.tuple #[vv (m.adj.times v), .int .i64 m.det.toInt, .int .i64 0]) ∧ Below w.heap.size w w' := by
  have CD := Lib.hid (Det_any m); have CA := Lib.hid (Adj_any m); have CT := Lib.hid (Times_any m.adj v)
  have t0 : (m.det.toInt == 0) = false := by
    rw [beq_eq_false_iff_ne]
    exact fun e => h (BitVec.eq_of_toInt_eq (by rw [e]; rfl))
  clear h
  generalize m.det.toInt = d at *
  have kS : ∀ w1 w2, TimesS w m v w1 → Below w1.heap.size w1 w2 → TimesS w m v w2 := by
    unfold TimesS
    exact fun w1 w2 ⟨h1, h2, h3, l, h4, h5⟩ hb => ⟨belowT h1 hb, h2.keep hb, h3.keep hb, l, h4, h5.keep hb⟩
  have dS : ∀ w1, TimesS w m v w1 → TimesS w m v w1.drew := fun w1 h => kS _ _ h (Below.refl _ _).drew
  have m0 : ∀ w', TimesS w m v w' → w'.cell? ⟨w.heap.size, 0, none⟩ = some (.int .i64 m.a.x.toInt) := by unfold TimesS; exact fun w' h => h.2.1.at 0 rfl
  have m1 : ∀ w', TimesS w m v w' → w'.cell? ⟨w.heap.size, 1, none⟩ = some (.int .i64 m.a.y.toInt) := by unfold TimesS; exact fun w' h => h.2.1.at 1 rfl
  have m2 : ∀ w', TimesS w m v w' → w'.cell? ⟨w.heap.size, 2, none⟩ = some (.int .i64 m.a.z.toInt) := by unfold TimesS; exact fun w' h => h.2.1.at 2 rfl
  have m3 : ∀ w', TimesS w m v w' → w'.cell? ⟨w.heap.size, 3, none⟩ = some (.int .i64 m.b.x.toInt) := by unfold TimesS; exact fun w' h => h.2.1.at 3 rfl
  have m4 : ∀ w', TimesS w m v w' → w'.cell? ⟨w.heap.size, 4, none⟩ = some (.int .i64 m.b.y.toInt) := by unfold TimesS; exact fun w' h => h.2.1.at 4 rfl
  have m5 : ∀ w', TimesS w m v w' → w'.cell? ⟨w.heap.size, 5, none⟩ = some (.int .i64 m.b.z.toInt) := by unfold TimesS; exact fun w' h => h.2.1.at 5 rfl
  have m6 : ∀ w', TimesS w m v w' → w'.cell? ⟨w.heap.size, 6, none⟩ = some (.int .i64 m.c.x.toInt) := by unfold TimesS; exact fun w' h => h.2.1.at 6 rfl
  have m7 : ∀ w', TimesS w m v w' → w'.cell? ⟨w.heap.size, 7, none⟩ = some (.int .i64 m.c.y.toInt) := by unfold TimesS; exact fun w' h => h.2.1.at 7 rfl
  have m8 : ∀ w', TimesS w m v w' → w'.cell? ⟨w.heap.size, 8, none⟩ = some (.int .i64 m.c.z.toInt) := by unfold TimesS; exact fun w' h => h.2.1.at 8 rfl
  have v0 : ∀ w', TimesS w m v w' → w'.cell? ⟨w.heap.size + 1, 0, none⟩ = some (.int .i64 v.x.toInt) := by unfold TimesS; exact fun w' h => h.2.2.1.at 0 rfl
  have v1 : ∀ w', TimesS w m v w' → w'.cell? ⟨w.heap.size + 1, 1, none⟩ = some (.int .i64 v.y.toInt) := by unfold TimesS; exact fun w' h => h.2.2.1.at 1 rfl
  have v2 : ∀ w', TimesS w m v w' → w'.cell? ⟨w.heap.size + 1, 2, none⟩ = some (.int .i64 v.z.toInt) := by unfold TimesS; exact fun w' h => h.2.2.1.at 2 rfl
  have i0 : TimesS w m v (((w.alloc (.cells (ml m).toArray 25)).alloc (.cells (vl v).toArray 23)).alloc (.cells #[.int .i64 0, .int .i64 0, .int .i64 0] 23)) := by
    unfold TimesS
    refine ⟨below3 w _ _ _, ((hasl w (ml m) _).keep (below1 _ _)).keep (below1 _ _), ?_, [.int .i64 0, .int .i64 0, .int .i64 0], rfl, ?_⟩
    · have h := (hasl (w.alloc (.cells (ml m).toArray 25)) (vl v) 23).keep (below1 _ (.cells #[.int .i64 0, .int .i64 0, .int .i64 0] 23))
      rw [heap1] at h; exact h
    · have h := ownl ((w.alloc (.cells (ml m).toArray 25)).alloc (.cells (vl v).toArray 23)) [.int .i64 0, .int .i64 0, .int .i64 0] 23
      rw [heap1, heap1] at h; exact h
  have r0 : ∀ w', TimesS w m v w' → ∃ z0 z1 z2, w'.cell? ⟨w.heap.size + 1 + 1, 0, none⟩ = some z0 ∧ w'.cell? ⟨w.heap.size + 1 + 1, 1, none⟩ = some z1 ∧ w'.cell? ⟨w.heap.size + 1 + 1, 2, none⟩ = some z2 ∧ w'.frozen? ⟨w.heap.size + 1 + 1, 0, none⟩ = false ∧ w'.frozen? ⟨w.heap.size + 1 + 1, 1, none⟩ = false ∧ w'.frozen? ⟨w.heap.size + 1 + 1, 2, none⟩ = false := by
    unfold TimesS
    intro w' ⟨_, _, _, l, h4, h5⟩
    exact ⟨_, _, _, h5.1 0 (by omega), h5.1 1 (by omega), h5.1 2 (by omega), h5.2 0 (by omega), h5.2 1 (by omega), h5.2 2 (by omega)⟩
  have sS : ∀ w1 o z, TimesS w m v w1 → TimesS w m v (w1.setCell ⟨w.heap.size + 1 + 1, o, none⟩ z) := by
    unfold TimesS
    exact fun w1 o z ⟨h1, h2, h3, l, h4, h5⟩ => ⟨h1.setCell (p := ⟨w.heap.size + 1 + 1, o, none⟩) (by show w.heap.size ≤ w.heap.size + 1 + 1; omega) z, h2.set (by omega) o z, h3.set (by omega) o z, _, by rw [List.length_set]; exact h4, h5.set o z⟩
  have bS : ∀ w1, TimesS w m v w1 → Below w.heap.size w w1 := by unfold TimesS; exact fun w1 h => h.1
  generalize m.adj.times v = x at *
  generalize m.adj = t at *
  go_enter Try.func30, Try.ntmps30
  go_upto_region 4 with (go_at_call 34; refine (CD.out _).mono ?_; rintro e w1 ⟨rfl, hb⟩; have S1 := kS _ _ i0 hb; obtain ⟨z0, z1, z2, k0, k1, k2, f0, f1, f2⟩ := r0 _ S1)
  clear k0 k1 k2 f0 f1 f2
  change (Code.region 4 solve4 true).wp Try.prog _ _ _
  refine wp_region_noPanic ?_
  refine wp_region_held_drew (S := (TimesS w m v)) (by kernel_rfl) (dS _ S1) (fun hHeld => ?_)
  refine wpAnyH_take (i := 0) (oi := ({ dst := some 13, op := .load 25 (.tmp 2), type := 25, pos := "ref.go:55", after := #[], guard := none } : Oper)) (v := ?vs6_0) rfl solve4_plain (by as_aux_lemma => kernel_rfl) (by as_aux_lemma => kernel_rfl) (fun _ _ _ h => h) (Or.inl ⟨by rfl, ?ys6_0⟩) (by assumption) ?rs6_0
  case ys6_0 => (intro w hSw; (try dsimp only at hSw); go_simp; try with_reducible rfl)
  try simp only [Act.put, List.setIfInBounds_toArray, List.set_cons_zero, List.set_cons_succ]
  refine wpAnyH_take (i := 2) (oi := ({ dst := some 15, op := .load 23 (.tmp 3), type := 23, pos := "ref.go:55", after := #[], guard := none } : Oper)) (v := ?vs6_2) rfl solve4_plain (by as_aux_lemma => kernel_rfl) (by as_aux_lemma => kernel_rfl) (fun _ _ _ h => h) (Or.inl ⟨by rfl, ?ys6_2⟩) (by assumption) ?rs6_2
  case ys6_2 => (intro w hSw; (try dsimp only at hSw); go_simp; try with_reducible rfl)
  try simp only [Act.put, List.setIfInBounds_toArray, List.set_cons_zero, List.set_cons_succ]
  refine wpAnyH_take (i := 4) (oi := ({ dst := some 17, op := .move (.tmp 7), type := 2, pos := "ref.go:55", after := #[{ on := 5, ground := .gcOnly Go.Departure.lateStores }], guard := none } : Oper)) (v := ?vs6_4) rfl solve4_plain (by as_aux_lemma => kernel_rfl) (by as_aux_lemma => kernel_rfl) (fun _ _ _ h => h) (Or.inl ⟨by rfl, ?ys6_4⟩) (by assumption) ?rs6_4
  case ys6_4 => (intro w hSw; (try dsimp only at hSw); go_simp; try with_reducible rfl)
  try simp only [Act.put, List.setIfInBounds_toArray, List.set_cons_zero, List.set_cons_succ]
  refine wpAnyH_ready (rs := [1]) (by as_aux_lemma => kernel_rfl) (by simp) ?_
  refine AllReadyH.cons (o := ({ dst := some 14, op := .call { callee := .value (.func 35), args := #[.tmp 13], argTypes := #[25] }, type := 25, pos := "ref.go:55", after := #[{ on := 0, ground := .data }], guard := none } : Oper)) rfl (fun KK hK => ?_) AllReadyH.nil
  rw [if_pos (by rfl)]
  go_simp
  go_at_call 35; refine (CA.out _).mono ?_; rintro e w2 ⟨rfl, hb2⟩
  go_wp2_with fail
  refine hK.out _ _ ?_ (fun hHeld2 => ?_)
  · exact kS _ _ (by assumption) hb2
  clear hK KK hb2
  try simp only [Act.put, List.setIfInBounds_toArray, List.set_cons_zero, List.set_cons_succ]
  refine wpAnyH_ready (rs := [3]) (by as_aux_lemma => kernel_rfl) (by simp) ?_
  refine AllReadyH.cons (o := ({ dst := some 16, op := .call { callee := .value (.func 32), args := #[.tmp 14, .tmp 15], argTypes := #[25, 23] }, type := 23, pos := "ref.go:55", after := #[{ on := 1, ground := .data }, { on := 2, ground := .data }, { on := 1, ground := .chain }], guard := none } : Oper)) rfl (fun KK hK => ?_) AllReadyH.nil
  rw [if_pos (by rfl)]
  go_simp
  go_at_call 32; refine (CT.out _).mono ?_; rintro e w3 ⟨rfl, hb3⟩
  go_wp2_with fail
  refine hK.out _ _ ?_ (fun hHeld3 => ?_)
  · exact kS _ _ (by assumption) hb3
  clear hK KK hb3 hHeld2
  try simp only [Act.put, List.setIfInBounds_toArray, List.set_cons_zero, List.set_cons_succ]
  refine wpAnyH_ready (rs := [5]) (by as_aux_lemma => kernel_rfl) (by simp) ?_
  refine AllReadyH.cons (o := ({ dst := none, op := .store 23 (.tmp 4) (.tmp 16), type := 0, pos := "ref.go:55", after := #[{ on := 3, ground := .data }, { on := 3, ground := .chain }, { on := 0, ground := .phase }, { on := 1, ground := .phase }, { on := 2, ground := .phase }, { on := 3, ground := .phase }, { on := 4, ground := .textOnly Go.Departure.lateStores }], guard := none } : Oper)) rfl (fun KK hK => ?_) AllReadyH.nil
  rw [if_pos (by rfl)]
  obtain ⟨z0, z1, z2, k0, k1, k2, f0, f1, f2⟩ := r0 w3 (by assumption)
  go_simp
  refine hK.out _ _ ?_ (fun hHeldS => ?_)
  · exact sS _ _ _ (sS _ _ _ (sS _ _ _ (by assumption)))
  clear hK KK
  try simp only [Act.put, List.setIfInBounds_toArray, List.set_cons_zero, List.set_cons_succ]
  refine wpAnyH_take (i := 6) (oi := ({ dst := some 5, op := .assign (.tmp 17), type := 2, pos := "ref.go:55", after := #[{ on := 4, ground := .data }, { on := 5, ground := .chain }, { on := 0, ground := .phase }, { on := 1, ground := .phase }, { on := 2, ground := .phase }, { on := 3, ground := .phase }, { on := 4, ground := .phase }, { on := 5, ground := .phase }], guard := none } : Oper)) (v := ?vs6_6) rfl solve4_plain (by as_aux_lemma => kernel_rfl) (by as_aux_lemma => kernel_rfl) (fun _ _ _ h => h) (Or.inl ⟨by rfl, ?ys6_6⟩) (by assumption) ?rs6_6
  case ys6_6 => (intro w hSw; (try dsimp only at hSw); go_simp; try with_reducible rfl)
  try simp only [Act.put, List.setIfInBounds_toArray, List.set_cons_zero, List.set_cons_succ]
  refine wpAnyH_take (i := 7) (oi := ({ dst := some 6, op := .assign (.const (.int .i64 0)), type := 30, pos := "ref.go:55", after := #[{ on := 6, ground := .chain }, { on := 0, ground := .phase }, { on := 1, ground := .phase }, { on := 2, ground := .phase }, { on := 3, ground := .phase }, { on := 4, ground := .phase }, { on := 5, ground := .phase }, { on := 6, ground := .phase }], guard := none } : Oper)) (v := ?vs6_7) rfl solve4_plain (by as_aux_lemma => kernel_rfl) (by as_aux_lemma => kernel_rfl) (fun _ _ _ h => h) (Or.inl ⟨by rfl, ?ys6_7⟩) (by assumption) ?rs6_7
  case ys6_7 => (intro w hSw; (try dsimp only at hSw); go_simp; try with_reducible rfl)
  try simp only [Act.put, List.setIfInBounds_toArray, List.set_cons_zero, List.set_cons_succ]
  refine wpAnyH_done (by as_aux_lemma => kernel_rfl) ?_ _
  refine NoPanic.normal ?_
  have BB := bS _ hHeldS
  go_wp2_with fail
  exact bodyPost_ret (v := .tuple #[vv x, .int .i64 d, .int .i64 0]) (by simp [results, Try.results30, go_sem, *]) rfl ⟨rfl, BB⟩
end Ref8
end Go.Proofs.Ytjdpcmcekockgaa
