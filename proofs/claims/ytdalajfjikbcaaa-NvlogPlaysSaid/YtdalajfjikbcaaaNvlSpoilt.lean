/- NvlogSpoilt over Own19. -/
import Derived.Test.YtdalajfjikbcaaaNvlAwake
import Derived.Test.YtdalajfjikbcaaaSp
import Derived.Test.YtdalajfjikbcaaaRebase
import Derived.BigQuiet
namespace Go.Proofs.Ytdalajfjikbcaaa
open Go.RowKit

theorem umod (a k : Int) (h0 : 0 < k) (h1 : k ≤ 1000) : ∃ n : Nat, (n : Int) < k ∧ wrap64 ((IntKind.u64.wrap a).tmod k) = n := by
  have hw : 0 ≤ IntKind.u64.wrap a := by rw [IntKind.wrap_u64]; omega
  have hm := Int.tmod_lt_of_pos (IntKind.u64.wrap a) h0
  have hz := Int.tmod_nonneg k hw
  refine ⟨((IntKind.u64.wrap a).tmod k).toNat, by omega, ?_⟩
  generalize (IntKind.u64.wrap a).tmod k = z at *
  unfold wrap64
  omega

/-- The operations of a drawn region, as the translation has them. -/
def spt1 : Array Oper := #[
  { dst := some 20, op := .call { callee := .value (.func 15), args := #[], argTypes := #[] }, type := 22, pos := "law.go:96", after := #[], guard := none },
  { dst := some 21, op := .load 26 (.tmp 3), type := 26, pos := "law.go:96", after := #[], guard := none },
  { dst := some 22, op := .call { callee := .value (.func 11), args := #[.tmp 20, .tmp 21, .const (.int .i64 12)], argTypes := #[22, 26, 3] }, type := 33, pos := "law.go:96", after := #[{ on := 0, ground := .data }, { on := 1, ground := .data }, { on := 0, ground := .chain }], guard := none },
  { dst := some 19, op := .move (.tmp 22), type := 33, pos := "law.go:96", after := #[{ on := 2, ground := .data }], guard := none },
  { dst := some 23, op := .extract (.tmp 19) 0, type := 22, pos := "law.go:96", after := #[{ on := 3, ground := .data }], guard := none },
  { dst := some 24, op := .extract (.tmp 19) 1, type := 30, pos := "law.go:96", after := #[{ on := 3, ground := .data }, { on := 6, ground := .gcOnly Go.Departure.lateStores }], guard := none },
  { dst := some 7, op := .assign (.tmp 23), type := 22, pos := "law.go:96", after := #[{ on := 4, ground := .data }, { on := 2, ground := .chain }, { on := 0, ground := .phase }, { on := 1, ground := .phase }, { on := 2, ground := .phase }, { on := 3, ground := .phase }, { on := 4, ground := .phase }, { on := 5, ground := .textOnly Go.Departure.lateStores }], guard := none },
  { dst := some 8, op := .assign (.tmp 24), type := 30, pos := "law.go:96", after := #[{ on := 5, ground := .data }, { on := 6, ground := .chain }, { on := 0, ground := .phase }, { on := 1, ground := .phase }, { on := 2, ground := .phase }, { on := 3, ground := .phase }, { on := 4, ground := .phase }, { on := 5, ground := .phase }, { on := 6, ground := .phase }], guard := none }]
theorem spt1_plain : Region.noSelect spt1 = true := by kernel_rfl

set_option maxHeartbeats 8000000 in
set_option maxRecDepth 100000 in
theorem spoilt_no (O : Own19) (a b : Nt) (i m : Int) (w : World) (h : rightN a = false ∨ rightN b = false) :
    Calls Try.prog 5 #[nv a, nv b, .agg #[.int .i64 i, .int .i64 m]] w fun e w' => e = .returned (.bool true) ∧ Below w.heap.size w w' := by
  have AW := Lib.hid fun w => awake_any O w
  have ON := Lib.hid O.new
  have RA := Lib.hid fun w => O.right a w
  have RB := Lib.hid fun w => O.right b w
  obtain ⟨X, e1, hX⟩ : ∃ X e1, saveF zeroM a 12 = (X, e1) := ⟨_, _, rfl⟩
  obtain ⟨Y, e2, hY⟩ : ∃ Y e2, saveF X b 12 = (Y, e2) := ⟨_, _, rfl⟩
  have lX : X.length = 24 := by
    by_cases ha : rightN a = true
    · have := (save_ok zero_ok ha (by rw [zero_new]; decide) 12).2.1.len
      rw [hX] at this
      exact this
    · have := (save_wrong (n := a) zero_ok (Or.inl (by simpa using ha)) 12).2
      rw [hX] at this
      rw [show X = zeroM from this]; rfl
  have SA : Hid (∀ (w : World) (ba : Option Addr) (cap : Nat), Came w ba cap zeroM → Calls Try.prog 11 #[.slice ba 24 cap, nv a, .int .i64 12] w fun e w' => ∃ b2 c2, e = .returned (.tuple #[.slice b2 X.length c2, .int .i64 e1]) ∧ Came w' b2 c2 X ∧ Below w.heap.size w w') := Lib.hid fun w ba cap C => by
    have := O.save w ba cap zeroM a 12 C (by decide)
    rw [hX] at this
    exact this
  have SB : Hid (∀ (w : World) (ba : Option Addr) (cap : Nat), Came w ba cap X → Calls Try.prog 11 #[.slice ba X.length cap, nv b, .int .i64 12] w fun e w' => ∃ b2 c2, e = .returned (.tuple #[.slice b2 Y.length c2, .int .i64 e2]) ∧ Came w' b2 c2 Y ∧ Below w.heap.size w w') := Lib.hid fun w ba cap C => by
    have := O.save w ba cap X b 12 C (by omega)
    rw [hY] at this
    exact this
  cases ha : rightN a
  · have he1 : e1 ≠ 0 := by
      have := (save_wrong (n := a) zero_ok (Or.inl ha) 12).1
      rw [hX] at this
      exact this
    have hq : (e1 == 0) = false := by simpa using he1
    rw [ha] at RA
    clear hX hY lX ha h he1 RB
    obtain ⟨x, y, z⟩ := a
    obtain ⟨p, q, r⟩ := b
    simp only [nv] at SA SB RA ⊢
    have S0 := ((((Sp.none w).more [.int .i64 x, .int .i64 y, .int .i64 z] 26).more [.int .i64 p, .int .i64 q, .int .i64 r] 26).more [.int .i64 i, .int .i64 m] 40)
    rw [heap1 (w.alloc _), heap1] at S0
    obtain ⟨W0, hW0⟩ : ∃ W, W = ((w.alloc (.cells #[.int .i64 x, .int .i64 y, .int .i64 z] 26)).alloc (.cells #[.int .i64 p, .int .i64 q, .int .i64 r] 26)).alloc (.cells #[.int .i64 i, .int .i64 m] 40) := ⟨_, rfl⟩
    have S0 : Sp w [(w.heap.size, [some (.int .i64 x), some (.int .i64 y), some (.int .i64 z)]), (w.heap.size + 1, [some (.int .i64 p), some (.int .i64 q), some (.int .i64 r)]), (w.heap.size + 1 + 1, [some (.int .i64 i), some (.int .i64 m)])] W0 := hW0 ▸ S0
    have S0 := Lib.hid S0
    have HW0 := Lib.hid hW0
    clear hW0
    go_enter Try.func5, Try.ntmps5
    go_upto_region 1 with fail
    rw [← HW0.out]
    clear HW0
    have rx : ∀ w', Below W0.heap.size W0 w' → w'.cell? ⟨w.heap.size, 0, none⟩ = some (.int .i64 x) := fun w' h => (S0.out.keep h).at 0 rfl 0 rfl
    have ry : ∀ w', Below W0.heap.size W0 w' → w'.cell? ⟨w.heap.size, 1, none⟩ = some (.int .i64 y) := fun w' h => (S0.out.keep h).at 0 rfl 1 rfl
    have rz : ∀ w', Below W0.heap.size W0 w' → w'.cell? ⟨w.heap.size, 2, none⟩ = some (.int .i64 z) := fun w' h => (S0.out.keep h).at 0 rfl 2 rfl
    change (Code.region 1 spt1 true).wp Try.prog _ _ _
    refine wp_region_noPanic ?_
    refine wp_region_held_drew (S := fun w' => Below W0.heap.size W0 w') (by kernel_rfl) ((Below.refl _ _).drew) (fun hHeld => ?_)
    refine wpAnyH_take (i := 1) (oi := ({ dst := some 21, op := .load 26 (.tmp 3), type := 26, pos := "law.go:96", after := #[], guard := none } : Oper)) (v := ?vs17_1) rfl spt1_plain (by as_aux_lemma => kernel_rfl) (by as_aux_lemma => kernel_rfl) (fun _ _ _ h => h) (Or.inl ⟨by rfl, ?ys17_1⟩) (by assumption) ?rs17_1
    case ys17_1 => (intro w hSw; (try dsimp only at hSw); go_simp; try with_reducible rfl)
    try simp only [Act.put, List.setIfInBounds_toArray, List.set_cons_zero, List.set_cons_succ]
    refine wpAnyH_ready (rs := [0]) (by as_aux_lemma => kernel_rfl) (by simp) ?_
    refine AllReadyH.cons (o := ({ dst := some 20, op := .call { callee := .value (.func 15), args := #[], argTypes := #[] }, type := 22, pos := "law.go:96", after := #[], guard := none } : Oper)) rfl (fun KK hK => ?_) AllReadyH.nil
    rw [if_pos (by rfl)]
    go_simp
    go_at_call 15; refine (ON.out _).mono ?_; rintro e w1 ⟨b1, c1, rfl, C1, hb1⟩
    have HC1 := Lib.hid C1
    go_wp2_with fail
    refine hK.out _ _ ?_ (fun hHeld1 => ?_)
    · exact belowT (by assumption) hb1
    refine wpAnyH_rebase (S' := fun w' => Below w1.heap.size w1 w') (fun w' h => belowT hHeld1 h) _ _ _ _ ?_
    have hHeldR1 := Below.refl w1.heap.size w1
    clear hK KK
    try simp only [Act.put, List.setIfInBounds_toArray, List.set_cons_zero, List.set_cons_succ]
    refine wpAnyH_ready (rs := [2]) (by as_aux_lemma => kernel_rfl) (by simp) ?_
    refine AllReadyH.cons (o := ({ dst := some 22, op := .call { callee := .value (.func 11), args := #[.tmp 20, .tmp 21, .const (.int .i64 12)], argTypes := #[22, 26, 3] }, type := 33, pos := "law.go:96", after := #[{ on := 0, ground := .data }, { on := 1, ground := .data }, { on := 0, ground := .chain }], guard := none } : Oper)) rfl (fun KK hK => ?_) AllReadyH.nil
    rw [if_pos (by rfl)]
    go_simp
    go_at_call 11; refine (SA.out _ _ _ HC1.out).mono ?_; rintro e w2 ⟨b2, c2, rfl, C2, hb2⟩
    have HC2 := Lib.hid C2
    go_wp2_with fail
    refine hK.out _ _ ?_ (fun hHeld2 => ?_)
    · exact belowT (by assumption) hb2
    refine wpAnyH_rebase (S' := fun w' => Below w2.heap.size w2 w') (fun w' h => belowT hHeld2 h) _ _ _ _ ?_
    have hHeldR2 := Below.refl w2.heap.size w2
    clear hK KK
    try simp only [Act.put, List.setIfInBounds_toArray, List.set_cons_zero, List.set_cons_succ]
    refine wpAnyH_take (i := 3) (oi := ({ dst := some 19, op := .move (.tmp 22), type := 33, pos := "law.go:96", after := #[{ on := 2, ground := .data }], guard := none } : Oper)) (v := ?vs17_3) rfl spt1_plain (by as_aux_lemma => kernel_rfl) (by as_aux_lemma => kernel_rfl) (fun _ _ _ h => h) (Or.inl ⟨by rfl, ?ys17_3⟩) (by assumption) ?rs17_3
    case ys17_3 => (intro w hSw; (try dsimp only at hSw); have hS0 := belowT hHeld2 hSw; have hS1 := belowT hHeld1 hS0; go_simp; try with_reducible rfl)
    try simp only [Act.put, List.setIfInBounds_toArray, List.set_cons_zero, List.set_cons_succ]
    refine wpAnyH_take (i := 4) (oi := ({ dst := some 23, op := .extract (.tmp 19) 0, type := 22, pos := "law.go:96", after := #[{ on := 3, ground := .data }], guard := none } : Oper)) (v := ?vs17_4) rfl spt1_plain (by as_aux_lemma => kernel_rfl) (by as_aux_lemma => kernel_rfl) (fun _ _ _ h => h) (Or.inl ⟨by rfl, ?ys17_4⟩) (by assumption) ?rs17_4
    case ys17_4 => (intro w hSw; (try dsimp only at hSw); have hS0 := belowT hHeld2 hSw; have hS1 := belowT hHeld1 hS0; go_simp; try with_reducible rfl)
    try simp only [Act.put, List.setIfInBounds_toArray, List.set_cons_zero, List.set_cons_succ]
    refine wpAnyH_take (i := 5) (oi := ({ dst := some 24, op := .extract (.tmp 19) 1, type := 30, pos := "law.go:96", after := #[{ on := 3, ground := .data }, { on := 6, ground := .gcOnly Go.Departure.lateStores }], guard := none } : Oper)) (v := ?vs17_5) rfl spt1_plain (by as_aux_lemma => kernel_rfl) (by as_aux_lemma => kernel_rfl) (fun _ _ _ h => h) (Or.inl ⟨by rfl, ?ys17_5⟩) (by assumption) ?rs17_5
    case ys17_5 => (intro w hSw; (try dsimp only at hSw); have hS0 := belowT hHeld2 hSw; have hS1 := belowT hHeld1 hS0; go_simp; try with_reducible rfl)
    try simp only [Act.put, List.setIfInBounds_toArray, List.set_cons_zero, List.set_cons_succ]
    refine wpAnyH_take (i := 6) (oi := ({ dst := some 7, op := .assign (.tmp 23), type := 22, pos := "law.go:96", after := #[{ on := 4, ground := .data }, { on := 2, ground := .chain }, { on := 0, ground := .phase }, { on := 1, ground := .phase }, { on := 2, ground := .phase }, { on := 3, ground := .phase }, { on := 4, ground := .phase }, { on := 5, ground := .textOnly Go.Departure.lateStores }], guard := none } : Oper)) (v := ?vs17_6) rfl spt1_plain (by as_aux_lemma => kernel_rfl) (by as_aux_lemma => kernel_rfl) (fun _ _ _ h => h) (Or.inl ⟨by rfl, ?ys17_6⟩) (by assumption) ?rs17_6
    case ys17_6 => (intro w hSw; (try dsimp only at hSw); have hS0 := belowT hHeld2 hSw; have hS1 := belowT hHeld1 hS0; go_simp; try with_reducible rfl)
    try simp only [Act.put, List.setIfInBounds_toArray, List.set_cons_zero, List.set_cons_succ]
    refine wpAnyH_take (i := 7) (oi := ({ dst := some 8, op := .assign (.tmp 24), type := 30, pos := "law.go:96", after := #[{ on := 5, ground := .data }, { on := 6, ground := .chain }, { on := 0, ground := .phase }, { on := 1, ground := .phase }, { on := 2, ground := .phase }, { on := 3, ground := .phase }, { on := 4, ground := .phase }, { on := 5, ground := .phase }, { on := 6, ground := .phase }], guard := none } : Oper)) (v := ?vs17_7) rfl spt1_plain (by as_aux_lemma => kernel_rfl) (by as_aux_lemma => kernel_rfl) (fun _ _ _ h => h) (Or.inl ⟨by rfl, ?ys17_7⟩) (by assumption) ?rs17_7
    case ys17_7 => (intro w hSw; (try dsimp only at hSw); have hS0 := belowT hHeld2 hSw; have hS1 := belowT hHeld1 hS0; go_simp; try with_reducible rfl)
    try simp only [Act.put, List.setIfInBounds_toArray, List.set_cons_zero, List.set_cons_succ]
    refine wpAnyH_done (by as_aux_lemma => kernel_rfl) ?_ _
    refine NoPanic.normal ?_
    have S2 := Lib.hid (S0.out.keep (belowT hHeld1 hHeld2))
    have q0 := S2.out.at 1 rfl 0 rfl
    have q1 := S2.out.at 1 rfl 1 rfl
    have q2 := S2.out.at 1 rfl 2 rfl
    clear S0 rx ry rz SA ON C1 C2 HC1 hHeld hHeld1 hHeld2 hHeldR1 hHeldR2
    go_wp2_with fail
    refine (SB.out _ _ _ HC2.out).mono ?_; rintro e w3 ⟨b3, c3, rfl, C3, hb3⟩
    have S3 := Lib.hid (S2.out.keep hb3)
    have Y3 := Lib.hid C3
    clear hb3 C3 S2 HC2 SB q0 q1 q2
    have q0 := S3.out.at 0 rfl 0 rfl
    have q1 := S3.out.at 0 rfl 1 rfl
    have q2 := S3.out.at 0 rfl 2 rfl
    go_wp2_with fail
    refine (RA.out _).mono ?_; rintro e w4 ⟨rfl, hb4⟩
    have S4 := Lib.hid (S3.out.keep hb4)
    clear RA hb4 S3 q0 q1 q2
    go_wp2_with fail
    refine (AW.out _).mono ?_; rintro e w6 ⟨rfl, hb6⟩
    have HB6 := Lib.hid (belowT S4.out.below hb6)
    clear hb6 S4 AW
    go_wp2
    go_ret
    exact ⟨rfl, HB6.out⟩
  · have hb : rightN b = false := h.resolve_left (by rw [ha]; simp)
    obtain ⟨a1, a2, a3, _⟩ := save_ok zero_ok ha (by rw [zero_new]; decide) 12
    rw [hX] at a1 a2
    have he2 : e2 ≠ 0 := by
      have := (save_wrong (n := b) a2 (Or.inl hb) 12).1
      rw [hY] at this
      exact this
    have hq : (e2 == 0) = false := by simpa using he2
    have a1 : e1 = 0 := a1
    subst a1
    rw [ha] at RA
    rw [hb] at RB
    clear hX hY lX ha hb h he2 a2 a3
    obtain ⟨x, y, z⟩ := a
    obtain ⟨p, q, r⟩ := b
    simp only [nv] at SA SB RA RB ⊢
    have S0 := ((((Sp.none w).more [.int .i64 x, .int .i64 y, .int .i64 z] 26).more [.int .i64 p, .int .i64 q, .int .i64 r] 26).more [.int .i64 i, .int .i64 m] 40)
    rw [heap1 (w.alloc _), heap1] at S0
    obtain ⟨W0, hW0⟩ : ∃ W, W = ((w.alloc (.cells #[.int .i64 x, .int .i64 y, .int .i64 z] 26)).alloc (.cells #[.int .i64 p, .int .i64 q, .int .i64 r] 26)).alloc (.cells #[.int .i64 i, .int .i64 m] 40) := ⟨_, rfl⟩
    have S0 : Sp w [(w.heap.size, [some (.int .i64 x), some (.int .i64 y), some (.int .i64 z)]), (w.heap.size + 1, [some (.int .i64 p), some (.int .i64 q), some (.int .i64 r)]), (w.heap.size + 1 + 1, [some (.int .i64 i), some (.int .i64 m)])] W0 := hW0 ▸ S0
    have S0 := Lib.hid S0
    have HW0 := Lib.hid hW0
    clear hW0
    go_enter Try.func5, Try.ntmps5
    go_upto_region 1 with fail
    rw [← HW0.out]
    clear HW0
    have rx : ∀ w', Below W0.heap.size W0 w' → w'.cell? ⟨w.heap.size, 0, none⟩ = some (.int .i64 x) := fun w' h => (S0.out.keep h).at 0 rfl 0 rfl
    have ry : ∀ w', Below W0.heap.size W0 w' → w'.cell? ⟨w.heap.size, 1, none⟩ = some (.int .i64 y) := fun w' h => (S0.out.keep h).at 0 rfl 1 rfl
    have rz : ∀ w', Below W0.heap.size W0 w' → w'.cell? ⟨w.heap.size, 2, none⟩ = some (.int .i64 z) := fun w' h => (S0.out.keep h).at 0 rfl 2 rfl
    change (Code.region 1 spt1 true).wp Try.prog _ _ _
    refine wp_region_noPanic ?_
    refine wp_region_held_drew (S := fun w' => Below W0.heap.size W0 w') (by kernel_rfl) ((Below.refl _ _).drew) (fun hHeld => ?_)
    refine wpAnyH_take (i := 1) (oi := ({ dst := some 21, op := .load 26 (.tmp 3), type := 26, pos := "law.go:96", after := #[], guard := none } : Oper)) (v := ?vs18_1) rfl spt1_plain (by as_aux_lemma => kernel_rfl) (by as_aux_lemma => kernel_rfl) (fun _ _ _ h => h) (Or.inl ⟨by rfl, ?ys18_1⟩) (by assumption) ?rs18_1
    case ys18_1 => (intro w hSw; (try dsimp only at hSw); go_simp; try with_reducible rfl)
    try simp only [Act.put, List.setIfInBounds_toArray, List.set_cons_zero, List.set_cons_succ]
    refine wpAnyH_ready (rs := [0]) (by as_aux_lemma => kernel_rfl) (by simp) ?_
    refine AllReadyH.cons (o := ({ dst := some 20, op := .call { callee := .value (.func 15), args := #[], argTypes := #[] }, type := 22, pos := "law.go:96", after := #[], guard := none } : Oper)) rfl (fun KK hK => ?_) AllReadyH.nil
    rw [if_pos (by rfl)]
    go_simp
    go_at_call 15; refine (ON.out _).mono ?_; rintro e w1 ⟨b1, c1, rfl, C1, hb1⟩
    have HC1 := Lib.hid C1
    go_wp2_with fail
    refine hK.out _ _ ?_ (fun hHeld1 => ?_)
    · exact belowT (by assumption) hb1
    refine wpAnyH_rebase (S' := fun w' => Below w1.heap.size w1 w') (fun w' h => belowT hHeld1 h) _ _ _ _ ?_
    have hHeldR1 := Below.refl w1.heap.size w1
    clear hK KK
    try simp only [Act.put, List.setIfInBounds_toArray, List.set_cons_zero, List.set_cons_succ]
    refine wpAnyH_ready (rs := [2]) (by as_aux_lemma => kernel_rfl) (by simp) ?_
    refine AllReadyH.cons (o := ({ dst := some 22, op := .call { callee := .value (.func 11), args := #[.tmp 20, .tmp 21, .const (.int .i64 12)], argTypes := #[22, 26, 3] }, type := 33, pos := "law.go:96", after := #[{ on := 0, ground := .data }, { on := 1, ground := .data }, { on := 0, ground := .chain }], guard := none } : Oper)) rfl (fun KK hK => ?_) AllReadyH.nil
    rw [if_pos (by rfl)]
    go_simp
    go_at_call 11; refine (SA.out _ _ _ HC1.out).mono ?_; rintro e w2 ⟨b2, c2, rfl, C2, hb2⟩
    have HC2 := Lib.hid C2
    go_wp2_with fail
    refine hK.out _ _ ?_ (fun hHeld2 => ?_)
    · exact belowT (by assumption) hb2
    refine wpAnyH_rebase (S' := fun w' => Below w2.heap.size w2 w') (fun w' h => belowT hHeld2 h) _ _ _ _ ?_
    have hHeldR2 := Below.refl w2.heap.size w2
    clear hK KK
    try simp only [Act.put, List.setIfInBounds_toArray, List.set_cons_zero, List.set_cons_succ]
    refine wpAnyH_take (i := 3) (oi := ({ dst := some 19, op := .move (.tmp 22), type := 33, pos := "law.go:96", after := #[{ on := 2, ground := .data }], guard := none } : Oper)) (v := ?vs18_3) rfl spt1_plain (by as_aux_lemma => kernel_rfl) (by as_aux_lemma => kernel_rfl) (fun _ _ _ h => h) (Or.inl ⟨by rfl, ?ys18_3⟩) (by assumption) ?rs18_3
    case ys18_3 => (intro w hSw; (try dsimp only at hSw); have hS0 := belowT hHeld2 hSw; have hS1 := belowT hHeld1 hS0; go_simp; try with_reducible rfl)
    try simp only [Act.put, List.setIfInBounds_toArray, List.set_cons_zero, List.set_cons_succ]
    refine wpAnyH_take (i := 4) (oi := ({ dst := some 23, op := .extract (.tmp 19) 0, type := 22, pos := "law.go:96", after := #[{ on := 3, ground := .data }], guard := none } : Oper)) (v := ?vs18_4) rfl spt1_plain (by as_aux_lemma => kernel_rfl) (by as_aux_lemma => kernel_rfl) (fun _ _ _ h => h) (Or.inl ⟨by rfl, ?ys18_4⟩) (by assumption) ?rs18_4
    case ys18_4 => (intro w hSw; (try dsimp only at hSw); have hS0 := belowT hHeld2 hSw; have hS1 := belowT hHeld1 hS0; go_simp; try with_reducible rfl)
    try simp only [Act.put, List.setIfInBounds_toArray, List.set_cons_zero, List.set_cons_succ]
    refine wpAnyH_take (i := 5) (oi := ({ dst := some 24, op := .extract (.tmp 19) 1, type := 30, pos := "law.go:96", after := #[{ on := 3, ground := .data }, { on := 6, ground := .gcOnly Go.Departure.lateStores }], guard := none } : Oper)) (v := ?vs18_5) rfl spt1_plain (by as_aux_lemma => kernel_rfl) (by as_aux_lemma => kernel_rfl) (fun _ _ _ h => h) (Or.inl ⟨by rfl, ?ys18_5⟩) (by assumption) ?rs18_5
    case ys18_5 => (intro w hSw; (try dsimp only at hSw); have hS0 := belowT hHeld2 hSw; have hS1 := belowT hHeld1 hS0; go_simp; try with_reducible rfl)
    try simp only [Act.put, List.setIfInBounds_toArray, List.set_cons_zero, List.set_cons_succ]
    refine wpAnyH_take (i := 6) (oi := ({ dst := some 7, op := .assign (.tmp 23), type := 22, pos := "law.go:96", after := #[{ on := 4, ground := .data }, { on := 2, ground := .chain }, { on := 0, ground := .phase }, { on := 1, ground := .phase }, { on := 2, ground := .phase }, { on := 3, ground := .phase }, { on := 4, ground := .phase }, { on := 5, ground := .textOnly Go.Departure.lateStores }], guard := none } : Oper)) (v := ?vs18_6) rfl spt1_plain (by as_aux_lemma => kernel_rfl) (by as_aux_lemma => kernel_rfl) (fun _ _ _ h => h) (Or.inl ⟨by rfl, ?ys18_6⟩) (by assumption) ?rs18_6
    case ys18_6 => (intro w hSw; (try dsimp only at hSw); have hS0 := belowT hHeld2 hSw; have hS1 := belowT hHeld1 hS0; go_simp; try with_reducible rfl)
    try simp only [Act.put, List.setIfInBounds_toArray, List.set_cons_zero, List.set_cons_succ]
    refine wpAnyH_take (i := 7) (oi := ({ dst := some 8, op := .assign (.tmp 24), type := 30, pos := "law.go:96", after := #[{ on := 5, ground := .data }, { on := 6, ground := .chain }, { on := 0, ground := .phase }, { on := 1, ground := .phase }, { on := 2, ground := .phase }, { on := 3, ground := .phase }, { on := 4, ground := .phase }, { on := 5, ground := .phase }, { on := 6, ground := .phase }], guard := none } : Oper)) (v := ?vs18_7) rfl spt1_plain (by as_aux_lemma => kernel_rfl) (by as_aux_lemma => kernel_rfl) (fun _ _ _ h => h) (Or.inl ⟨by rfl, ?ys18_7⟩) (by assumption) ?rs18_7
    case ys18_7 => (intro w hSw; (try dsimp only at hSw); have hS0 := belowT hHeld2 hSw; have hS1 := belowT hHeld1 hS0; go_simp; try with_reducible rfl)
    try simp only [Act.put, List.setIfInBounds_toArray, List.set_cons_zero, List.set_cons_succ]
    refine wpAnyH_done (by as_aux_lemma => kernel_rfl) ?_ _
    refine NoPanic.normal ?_
    have S2 := Lib.hid (S0.out.keep (belowT hHeld1 hHeld2))
    have q0 := S2.out.at 1 rfl 0 rfl
    have q1 := S2.out.at 1 rfl 1 rfl
    have q2 := S2.out.at 1 rfl 2 rfl
    clear S0 rx ry rz SA ON C1 C2 HC1 hHeld hHeld1 hHeld2 hHeldR1 hHeldR2
    go_wp2_with fail
    refine (SB.out _ _ _ HC2.out).mono ?_; rintro e w3 ⟨b3, c3, rfl, C3, hb3⟩
    have S3 := Lib.hid (S2.out.keep hb3)
    have Y3 := Lib.hid C3
    clear hb3 C3 S2 HC2 SB q0 q1 q2
    have q0 := S3.out.at 0 rfl 0 rfl
    have q1 := S3.out.at 0 rfl 1 rfl
    have q2 := S3.out.at 0 rfl 2 rfl
    go_wp2_with fail
    refine (RA.out _).mono ?_; rintro e w4 ⟨rfl, hb4⟩
    have S4 := Lib.hid (S3.out.keep hb4)
    clear RA hb4 S3 q0 q1 q2
    have q0 := S4.out.at 1 rfl 0 rfl
    have q1 := S4.out.at 1 rfl 1 rfl
    have q2 := S4.out.at 1 rfl 2 rfl
    go_wp2_with fail
    refine (RB.out _).mono ?_; rintro e w5 ⟨rfl, hb5⟩
    have S5 := Lib.hid (S4.out.keep hb5)
    clear RB hb5 S4 q0 q1 q2
    go_wp2_with fail
    refine (AW.out _).mono ?_; rintro e w6 ⟨rfl, hb6⟩
    have HB6 := Lib.hid (belowT S5.out.below hb6)
    clear hb6 S5 AW
    go_wp2
    go_ret
    exact ⟨rfl, HB6.out⟩

set_option maxHeartbeats 8000000 in
set_option maxRecDepth 100000 in
theorem spoilt_yes (O : Own19) (a b : Nt) (i m : Int) (I J' J : Nat) (w : World) (ha : rightN a = true) (hb : rightN b = true) (hI : (I : Int) < 12) (eI : wrap64 ((IntKind.u64.wrap i).tmod 12) = I) (hJ : (J' : Int) < 12) (eJ' : wrap64 ((IntKind.u64.wrap m).tmod 12) = J') (eJ : (12 : Int) + J' = J) :
    Calls Try.prog 5 #[nv a, nv b, .agg #[.int .i64 i, .int .i64 m]] w fun e w' => e = .returned (.bool true) ∧ Below w.heap.size w w' := by
  have AW := Lib.hid fun w => awake_any O w
  have ON := Lib.hid O.new
  obtain ⟨T, hx1, hx2⟩ := two_saves (b := b) ha
  have hs1 := save_right zero_ok ha (by rw [zero_new]; decide) 12
  rw [toF_of zero_new, zero_new, show mostF 12 = 12 from rfl] at hs1
  have e12 : ∀ (n : Nt) (s : Nat), (slotN n s).take 12 = slotN n s := fun n s => List.take_of_length_le (by rw [slot_length]; exact Nat.le_refl _)
  rw [e12] at hs1
  have hs1 : saveF zeroM a 12 = (putF zeroM 0 (slotN a 1), 0) := hs1
  have okX : OkM (putF zeroM 0 (slotN a 1)) := by
    have := (save_ok zero_ok ha (by rw [zero_new]; decide) 12).2.1
    rw [hs1] at this
    exact this
  have hs2 := save_right okX hb (by rw [hx1]; show (1 : Nat) < 2147483648; decide) 12
  rw [toF_of hx1, hx1, show mostF 12 = 12 from rfl, e12] at hs2
  have hs2 : saveF (putF zeroM 0 (slotN a 1)) b 12 = (putF (putF zeroM 0 (slotN a 1)) 12 (slotN b 2), 0) := hs2
  obtain ⟨t1, t2, t3⟩ := two_spoilt T ha hb I J (by omega) (by omega) (by omega)
  have lY := T.len
  generalize putF (putF zeroM 0 (slotN a 1)) 12 (slotN b 2) = Y at *
  generalize putF zeroM 0 (slotN a 1) = X at *
  have SA : Hid (∀ (w : World) (ba : Option Addr) (cap : Nat), Came w ba cap zeroM → Calls Try.prog 11 #[.slice ba 24 cap, nv a, .int .i64 12] w fun e w' => ∃ b2 c2, e = .returned (.tuple #[.slice b2 24 c2, .int .i64 0]) ∧ Came w' b2 c2 X ∧ Below w.heap.size w w') := Lib.hid fun w ba cap C => by
    have := O.save w ba cap zeroM a 12 C (by decide)
    rw [hs1] at this
    simp only [hx2] at this
    exact this
  have SB : Hid (∀ (w : World) (ba : Option Addr) (cap : Nat), Came w ba cap X → Calls Try.prog 11 #[.slice ba 24 cap, nv b, .int .i64 12] w fun e w' => ∃ b2 c2, e = .returned (.tuple #[.slice b2 24 c2, .int .i64 0]) ∧ Came w' b2 c2 Y ∧ Below w.heap.size w w') := Lib.hid fun w ba cap C => by
    have := O.save w ba cap X b 12 C (by omega)
    rw [hs2] at this
    simp only [hx2, lY] at this
    exact this
  have lA : (spoilF Y (J : Int)).length = 24 := by rw [spoil_length, lY]
  have lB : (spoilF Y (I : Int)).length = 24 := by rw [spoil_length, lY]
  have lC : (spoilF (spoilF Y (I : Int)) (J : Int)).length = 24 := by rw [spoil_length, lB]
  have PA : Hid (∀ (w : World) (ba : Option Addr) (cap : Nat), Came w ba cap Y → Calls Try.prog 7 #[.slice ba 24 cap, .int .i64 J] w fun e w' => ∃ b2 c2, e = .returned (.slice b2 24 c2) ∧ Came w' b2 c2 (spoilF Y (J : Int)) ∧ Below w.heap.size w w') := Lib.hid fun w ba cap C => by
    have := O.spoil w ba cap Y J C (by omega)
    rw [lA, lY] at this
    exact this
  have PB : Hid (∀ (w : World) (ba : Option Addr) (cap : Nat), Came w ba cap Y → Calls Try.prog 7 #[.slice ba 24 cap, .int .i64 I] w fun e w' => ∃ b2 c2, e = .returned (.slice b2 24 c2) ∧ Came w' b2 c2 (spoilF Y (I : Int)) ∧ Below w.heap.size w w') := Lib.hid fun w ba cap C => by
    have := O.spoil w ba cap Y I C (by omega)
    rw [lB, lY] at this
    exact this
  have PC : Hid (∀ (w : World) (ba : Option Addr) (cap : Nat), Came w ba cap (spoilF Y (I : Int)) → Calls Try.prog 7 #[.slice ba 24 cap, .int .i64 J] w fun e w' => ∃ b2 c2, e = .returned (.slice b2 24 c2) ∧ Came w' b2 c2 (spoilF (spoilF Y (I : Int)) (J : Int)) ∧ Below w.heap.size w w') := Lib.hid fun w ba cap C => by
    have := O.spoil w ba cap _ J C (by omega)
    rw [lC, lB] at this
    exact this
  have LD : ∀ (P : List UInt8) (n : Nt) (y : Int), P.length = 24 → loadF P = (n, y) → Hid (∀ (w : World) (ba : Option Addr) (cap : Nat), Came w ba cap P → Calls Try.prog 13 #[.slice ba 24 cap] w fun e w' => e = .returned (.tuple #[nv n, .int .i64 y]) ∧ Below w.heap.size w w') := fun P n y hl hd => Lib.hid fun w ba cap C => by
    have := O.load w ba cap P C (by omega)
    rw [hd, hl] at this
    exact this
  have DA := LD _ a 0 lA t1
  have DB := LD _ b 0 lB t2
  have DC := LD _ nt0 9 lC t3
  generalize spoilF (spoilF Y (I : Int)) (J : Int) = C' at *
  generalize spoilF Y (J : Int) = A' at *
  generalize spoilF Y (I : Int) = B' at *
  clear hs1 hs2 T hx1 hx2 t1 t2 t3 lA lB lC lY okX LD ha hb
  obtain ⟨x, y, z⟩ := a
  obtain ⟨p, q, r⟩ := b
  simp only [nv, nt0] at SA SB DA DB DC ⊢
  have S0 := ((((Sp.none w).more [.int .i64 x, .int .i64 y, .int .i64 z] 26).more [.int .i64 p, .int .i64 q, .int .i64 r] 26).more [.int .i64 i, .int .i64 m] 40)
  rw [heap1 (w.alloc _), heap1] at S0
  obtain ⟨W0, hW0⟩ : ∃ W, W = ((w.alloc (.cells #[.int .i64 x, .int .i64 y, .int .i64 z] 26)).alloc (.cells #[.int .i64 p, .int .i64 q, .int .i64 r] 26)).alloc (.cells #[.int .i64 i, .int .i64 m] 40) := ⟨_, rfl⟩
  have S0 : Sp w [(w.heap.size, [some (.int .i64 x), some (.int .i64 y), some (.int .i64 z)]), (w.heap.size + 1, [some (.int .i64 p), some (.int .i64 q), some (.int .i64 r)]), (w.heap.size + 1 + 1, [some (.int .i64 i), some (.int .i64 m)])] W0 := hW0 ▸ S0
  have S0 := Lib.hid S0
  have HW0 := Lib.hid hW0
  clear hW0
  go_enter Try.func5, Try.ntmps5
  go_upto_region 1 with fail
  rw [← HW0.out]
  clear HW0
  have rx : ∀ w', Below W0.heap.size W0 w' → w'.cell? ⟨w.heap.size, 0, none⟩ = some (.int .i64 x) := fun w' h => (S0.out.keep h).at 0 rfl 0 rfl
  have ry : ∀ w', Below W0.heap.size W0 w' → w'.cell? ⟨w.heap.size, 1, none⟩ = some (.int .i64 y) := fun w' h => (S0.out.keep h).at 0 rfl 1 rfl
  have rz : ∀ w', Below W0.heap.size W0 w' → w'.cell? ⟨w.heap.size, 2, none⟩ = some (.int .i64 z) := fun w' h => (S0.out.keep h).at 0 rfl 2 rfl
  change (Code.region 1 spt1 true).wp Try.prog _ _ _
  refine wp_region_noPanic ?_
  refine wp_region_held_drew (S := fun w' => Below W0.heap.size W0 w') (by kernel_rfl) ((Below.refl _ _).drew) (fun hHeld => ?_)
  refine wpAnyH_take (i := 1) (oi := ({ dst := some 21, op := .load 26 (.tmp 3), type := 26, pos := "law.go:96", after := #[], guard := none } : Oper)) (v := ?vs19_1) rfl spt1_plain (by as_aux_lemma => kernel_rfl) (by as_aux_lemma => kernel_rfl) (fun _ _ _ h => h) (Or.inl ⟨by rfl, ?ys19_1⟩) (by assumption) ?rs19_1
  case ys19_1 => (intro w hSw; (try dsimp only at hSw); go_simp; try with_reducible rfl)
  try simp only [Act.put, List.setIfInBounds_toArray, List.set_cons_zero, List.set_cons_succ]
  refine wpAnyH_ready (rs := [0]) (by as_aux_lemma => kernel_rfl) (by simp) ?_
  refine AllReadyH.cons (o := ({ dst := some 20, op := .call { callee := .value (.func 15), args := #[], argTypes := #[] }, type := 22, pos := "law.go:96", after := #[], guard := none } : Oper)) rfl (fun KK hK => ?_) AllReadyH.nil
  rw [if_pos (by rfl)]
  go_simp
  go_at_call 15; refine (ON.out _).mono ?_; rintro e w1 ⟨b1, c1, rfl, C1, hb1⟩
  have HC1 := Lib.hid C1
  go_wp2_with fail
  refine hK.out _ _ ?_ (fun hHeld1 => ?_)
  · exact belowT (by assumption) hb1
  refine wpAnyH_rebase (S' := fun w' => Below w1.heap.size w1 w') (fun w' h => belowT hHeld1 h) _ _ _ _ ?_
  have hHeldR1 := Below.refl w1.heap.size w1
  clear hK KK
  try simp only [Act.put, List.setIfInBounds_toArray, List.set_cons_zero, List.set_cons_succ]
  refine wpAnyH_ready (rs := [2]) (by as_aux_lemma => kernel_rfl) (by simp) ?_
  refine AllReadyH.cons (o := ({ dst := some 22, op := .call { callee := .value (.func 11), args := #[.tmp 20, .tmp 21, .const (.int .i64 12)], argTypes := #[22, 26, 3] }, type := 33, pos := "law.go:96", after := #[{ on := 0, ground := .data }, { on := 1, ground := .data }, { on := 0, ground := .chain }], guard := none } : Oper)) rfl (fun KK hK => ?_) AllReadyH.nil
  rw [if_pos (by rfl)]
  go_simp
  go_at_call 11; refine (SA.out _ _ _ HC1.out).mono ?_; rintro e w2 ⟨b2, c2, rfl, C2, hb2⟩
  have HC2 := Lib.hid C2
  go_wp2_with fail
  refine hK.out _ _ ?_ (fun hHeld2 => ?_)
  · exact belowT (by assumption) hb2
  refine wpAnyH_rebase (S' := fun w' => Below w2.heap.size w2 w') (fun w' h => belowT hHeld2 h) _ _ _ _ ?_
  have hHeldR2 := Below.refl w2.heap.size w2
  clear hK KK
  try simp only [Act.put, List.setIfInBounds_toArray, List.set_cons_zero, List.set_cons_succ]
  refine wpAnyH_take (i := 3) (oi := ({ dst := some 19, op := .move (.tmp 22), type := 33, pos := "law.go:96", after := #[{ on := 2, ground := .data }], guard := none } : Oper)) (v := ?vs19_3) rfl spt1_plain (by as_aux_lemma => kernel_rfl) (by as_aux_lemma => kernel_rfl) (fun _ _ _ h => h) (Or.inl ⟨by rfl, ?ys19_3⟩) (by assumption) ?rs19_3
  case ys19_3 => (intro w hSw; (try dsimp only at hSw); have hS0 := belowT hHeld2 hSw; have hS1 := belowT hHeld1 hS0; go_simp; try with_reducible rfl)
  try simp only [Act.put, List.setIfInBounds_toArray, List.set_cons_zero, List.set_cons_succ]
  refine wpAnyH_take (i := 4) (oi := ({ dst := some 23, op := .extract (.tmp 19) 0, type := 22, pos := "law.go:96", after := #[{ on := 3, ground := .data }], guard := none } : Oper)) (v := ?vs19_4) rfl spt1_plain (by as_aux_lemma => kernel_rfl) (by as_aux_lemma => kernel_rfl) (fun _ _ _ h => h) (Or.inl ⟨by rfl, ?ys19_4⟩) (by assumption) ?rs19_4
  case ys19_4 => (intro w hSw; (try dsimp only at hSw); have hS0 := belowT hHeld2 hSw; have hS1 := belowT hHeld1 hS0; go_simp; try with_reducible rfl)
  try simp only [Act.put, List.setIfInBounds_toArray, List.set_cons_zero, List.set_cons_succ]
  refine wpAnyH_take (i := 5) (oi := ({ dst := some 24, op := .extract (.tmp 19) 1, type := 30, pos := "law.go:96", after := #[{ on := 3, ground := .data }, { on := 6, ground := .gcOnly Go.Departure.lateStores }], guard := none } : Oper)) (v := ?vs19_5) rfl spt1_plain (by as_aux_lemma => kernel_rfl) (by as_aux_lemma => kernel_rfl) (fun _ _ _ h => h) (Or.inl ⟨by rfl, ?ys19_5⟩) (by assumption) ?rs19_5
  case ys19_5 => (intro w hSw; (try dsimp only at hSw); have hS0 := belowT hHeld2 hSw; have hS1 := belowT hHeld1 hS0; go_simp; try with_reducible rfl)
  try simp only [Act.put, List.setIfInBounds_toArray, List.set_cons_zero, List.set_cons_succ]
  refine wpAnyH_take (i := 6) (oi := ({ dst := some 7, op := .assign (.tmp 23), type := 22, pos := "law.go:96", after := #[{ on := 4, ground := .data }, { on := 2, ground := .chain }, { on := 0, ground := .phase }, { on := 1, ground := .phase }, { on := 2, ground := .phase }, { on := 3, ground := .phase }, { on := 4, ground := .phase }, { on := 5, ground := .textOnly Go.Departure.lateStores }], guard := none } : Oper)) (v := ?vs19_6) rfl spt1_plain (by as_aux_lemma => kernel_rfl) (by as_aux_lemma => kernel_rfl) (fun _ _ _ h => h) (Or.inl ⟨by rfl, ?ys19_6⟩) (by assumption) ?rs19_6
  case ys19_6 => (intro w hSw; (try dsimp only at hSw); have hS0 := belowT hHeld2 hSw; have hS1 := belowT hHeld1 hS0; go_simp; try with_reducible rfl)
  try simp only [Act.put, List.setIfInBounds_toArray, List.set_cons_zero, List.set_cons_succ]
  refine wpAnyH_take (i := 7) (oi := ({ dst := some 8, op := .assign (.tmp 24), type := 30, pos := "law.go:96", after := #[{ on := 5, ground := .data }, { on := 6, ground := .chain }, { on := 0, ground := .phase }, { on := 1, ground := .phase }, { on := 2, ground := .phase }, { on := 3, ground := .phase }, { on := 4, ground := .phase }, { on := 5, ground := .phase }, { on := 6, ground := .phase }], guard := none } : Oper)) (v := ?vs19_7) rfl spt1_plain (by as_aux_lemma => kernel_rfl) (by as_aux_lemma => kernel_rfl) (fun _ _ _ h => h) (Or.inl ⟨by rfl, ?ys19_7⟩) (by assumption) ?rs19_7
  case ys19_7 => (intro w hSw; (try dsimp only at hSw); have hS0 := belowT hHeld2 hSw; have hS1 := belowT hHeld1 hS0; go_simp; try with_reducible rfl)
  try simp only [Act.put, List.setIfInBounds_toArray, List.set_cons_zero, List.set_cons_succ]
  refine wpAnyH_done (by as_aux_lemma => kernel_rfl) ?_ _
  refine NoPanic.normal ?_
  have S2 := Lib.hid (S0.out.keep (belowT hHeld1 hHeld2))
  have q0 := S2.out.at 1 rfl 0 rfl
  have q1 := S2.out.at 1 rfl 1 rfl
  have q2 := S2.out.at 1 rfl 2 rfl
  clear S0 rx ry rz SA ON C1 C2 HC1 hHeld hHeld1 hHeld2 hHeldR1 hHeldR2
  go_wp2_with fail
  refine (SB.out _ _ _ HC2.out).mono ?_; rintro e w3 ⟨b3, c3, rfl, C3, hb3⟩
  have S3 := Lib.hid (S2.out.keep hb3)
  have Y3 := Lib.hid C3
  clear hb3 C3 S2 HC2 SB q0 q1 q2
  go_wp2
  have n0 := S3.out.at 2 rfl 0 rfl
  have n1 := S3.out.at 2 rfl 1 rfl
  have hJ2 : (J : Int) ≤ 24 := by omega
  go_upto_region 5 with fail
  go_quiet (fail)
  obtain ⟨W4, hW4⟩ : ∃ W, W = w3.drewN nq := ⟨_, rfl⟩
  rw [← hW4, eI]
  have hb4 : Below w3.heap.size w3 W4 := hW4 ▸ belowN (Below.refl _ _) nq
  have S4 := Lib.hid (S3.out.keep hb4)
  have Y4 := Lib.hid (Y3.out.keep hb4)
  clear hb4 hW4 S3 Y3 n0 n1
  go_wp2_with fail
  refine (PA.out _ _ _ Y4.out).mono ?_; rintro e w5 ⟨b5, c5, rfl, C5, hb5⟩
  have S5 := Lib.hid (S4.out.keep hb5)
  have Y5 := Lib.hid (Y4.out.keep hb5)
  have X := Lib.hid (DA.out _ _ _ C5)
  clear hb5 C5 S4 Y4 PA DA eI eJ' eJ
  go_wp2_with fail
  refine X.out.mono ?_; rintro e w6 ⟨rfl, hb6⟩
  have hb6a := belowT hb6 (below1 w6 (.cells #[.int .i64 x, .int .i64 y, .int .i64 z] 26))
  have S6 := Lib.hid (S5.out.keep hb6a)
  have Y6 := Lib.hid (Y5.out.keep hb6a)
  have K6 := Lib.hid (hasl w6 [.int .i64 x, .int .i64 y, .int .i64 z] 26)
  clear hb6 hb6a S5 Y5 X
  go_wp2_with fail
  refine (PB.out _ _ _ Y6.out).mono ?_; rintro e w7 ⟨b7, c7, rfl, C7, hb7⟩
  have S7 := Lib.hid (S6.out.keep hb7)
  have Y7 := Lib.hid (Y6.out.keep hb7)
  have K7 := Lib.hid (K6.out.keep hb7)
  have X := Lib.hid (DB.out _ _ _ C7)
  clear hb7 C7 S6 Y6 K6 DB
  go_wp2_with fail
  refine X.out.mono ?_; rintro e w8 ⟨rfl, hb8⟩
  have hb8a := belowT hb8 (below1 w8 (.cells #[.int .i64 p, .int .i64 q, .int .i64 r] 26))
  have S8 := Lib.hid (S7.out.keep hb8a)
  have Y8 := Lib.hid (Y7.out.keep hb8a)
  have K8 := Lib.hid (K7.out.keep hb8a)
  have N8 := Lib.hid (hasl w8 [.int .i64 p, .int .i64 q, .int .i64 r] 26)
  clear hb8 hb8a S7 Y7 K7 X
  go_wp2_with fail
  refine (PB.out _ _ _ Y8.out).mono ?_; rintro e w9 ⟨b9, c9, rfl, C9, hb9⟩
  have S9 := Lib.hid (S8.out.keep hb9)
  have K9 := Lib.hid (K8.out.keep hb9)
  have N9 := Lib.hid (N8.out.keep hb9)
  have X := Lib.hid (PC.out _ _ _ C9)
  clear hb9 C9 S8 Y8 K8 N8 PB PC
  go_wp2_with fail
  refine X.out.mono ?_; rintro e wa ⟨b10, c10, rfl, C10, hb10⟩
  have S10 := Lib.hid (S9.out.keep hb10)
  have K10 := Lib.hid (K9.out.keep hb10)
  have N10 := Lib.hid (N9.out.keep hb10)
  have X := Lib.hid (DC.out _ _ _ C10)
  clear hb10 C10 S9 K9 N9 DC
  go_wp2_with fail
  refine X.out.mono ?_; rintro e wb ⟨rfl, hb11⟩
  have hb11a := belowT hb11 (below1 wb (.cells #[.int .i64 0, .int .i64 0, .int .i64 0] 26))
  have S11 := Lib.hid (S10.out.keep hb11a)
  have K11 := K10.out.keep hb11a
  have N11 := N10.out.keep hb11a
  clear hb11 hb11a S10 K10 N10 X
  have q0 := S11.out.at 0 rfl 0 rfl
  have q1 := S11.out.at 0 rfl 1 rfl
  have q2 := S11.out.at 0 rfl 2 rfl
  have p0 := S11.out.at 1 rfl 0 rfl
  have p1 := S11.out.at 1 rfl 1 rfl
  have p2 := S11.out.at 1 rfl 2 rfl
  have k0 := K11.at 0 rfl
  have k1 := K11.at 1 rfl
  have k2 := K11.at 2 rfl
  have u0 := N11.at 0 rfl
  have u1 := N11.at 1 rfl
  have u2 := N11.at 2 rfl
  clear K11 N11
  go_wp2_with fail
  refine (AW.out _).mono ?_; rintro e wc ⟨rfl, hb12⟩
  have HB := Lib.hid (belowT S11.out.below hb12)
  clear hb12 S11 AW q0 q1 q2 p0 p1 p2 k0 k1 k2 u0 u1 u2
  go_wp2
  go_ret
  exact ⟨rfl, HB.out⟩

theorem Spoilt19_all (O : Own19) (a b : Nt) (i m : Int) (w : World) :
    Calls Try.prog 5 #[nv a, nv b, .agg #[.int .i64 i, .int .i64 m]] w fun e w' => e = .returned (.bool true) ∧ Below w.heap.size w w' := by
  by_cases h : rightN a = true ∧ rightN b = true
  · obtain ⟨I, hI, eI⟩ := umod i 12 (by decide) (by decide)
    obtain ⟨J, hJ, eJ⟩ := umod m 12 (by decide) (by decide)
    exact spoilt_yes O a b i m I J (12 + J) w h.1 h.2 hI eI hJ eJ (by omega)
  · refine spoilt_no O a b i m w ?_
    cases ha : rightN a
    · exact Or.inl rfl
    · refine Or.inr ?_
      cases hb : rightN b
      · rfl
      · exact absurd ⟨ha, hb⟩ h
end Go.Proofs.Ytdalajfjikbcaaa
