/- The landed observer's Predict. -/
import Derived.Test.YtkjkmnclnedfhaaDoorObLanA
namespace Go.Proofs.YtkjkmnclnedfhaaDoor
open Go.RowKit Obs

/-- The operations of a drawn region, as the translation has them. -/
def opre1 : Array Oper := #[
  { dst := some 5, op := .fieldAddr 34 (.tmp 3) 0, type := 0, pos := "observer.go:21", after := #[], guard := none },
  { dst := some 6, op := .load 32 (.tmp 5), type := 32, pos := "observer.go:21", after := #[{ on := 0, ground := .data }], guard := none },
  { dst := some 7, op := .fieldAddr 25 (.tmp 2) 4, type := 0, pos := "observer.go:21", after := #[], guard := none },
  { dst := some 8, op := .load 2 (.tmp 7), type := 2, pos := "observer.go:21", after := #[{ on := 2, ground := .data }], guard := none },
  { dst := some 9, op := .call { callee := .value (.func 40), args := #[.tmp 6, .tmp 8], argTypes := #[32, 2] }, type := 32, pos := "observer.go:21", after := #[{ on := 1, ground := .data }, { on := 3, ground := .data }], guard := none },
  { dst := some 10, op := .fieldAddr 25 (.tmp 2) 5, type := 0, pos := "observer.go:21", after := #[], guard := none },
  { dst := some 11, op := .load 2 (.tmp 10), type := 2, pos := "observer.go:21", after := #[{ on := 5, ground := .data }], guard := none },
  { dst := some 12, op := .call { callee := .value (.func 31), args := #[.tmp 11], argTypes := #[2] }, type := 32, pos := "observer.go:21", after := #[{ on := 6, ground := .data }, { on := 4, ground := .chain }], guard := none },
  { dst := some 13, op := .call { callee := .value (.func 26), args := #[.tmp 9, .tmp 12], argTypes := #[32, 32] }, type := 32, pos := "observer.go:21", after := #[{ on := 4, ground := .data }, { on := 7, ground := .data }, { on := 7, ground := .chain }], guard := none },
  { dst := some 14, op := .fieldAddr 34 (.tmp 3) 0, type := 0, pos := "observer.go:21", after := #[{ on := 0, ground := .phase }, { on := 1, ground := .phase }, { on := 2, ground := .phase }, { on := 3, ground := .phase }, { on := 4, ground := .phase }, { on := 5, ground := .phase }, { on := 6, ground := .phase }, { on := 7, ground := .phase }, { on := 8, ground := .phase }], guard := none },
  { dst := none, op := .store 32 (.tmp 14) (.tmp 13), type := 0, pos := "observer.go:21", after := #[{ on := 9, ground := .data }, { on := 8, ground := .data }, { on := 8, ground := .chain }, { on := 0, ground := .phase }, { on := 1, ground := .phase }, { on := 2, ground := .phase }, { on := 3, ground := .phase }, { on := 4, ground := .phase }, { on := 5, ground := .phase }, { on := 6, ground := .phase }, { on := 7, ground := .phase }, { on := 8, ground := .phase }], guard := none }]
theorem opre1_plain : Region.noSelect opre1 = true := by kernel_rfl

/-- The operations of a drawn region, as the translation has them. -/
def opre2 : Array Oper := #[
  { dst := some 15, op := .fieldAddr 34 (.tmp 3) 1, type := 0, pos := "observer.go:22", after := #[], guard := none },
  { dst := some 16, op := .load 32 (.tmp 15), type := 32, pos := "observer.go:22", after := #[{ on := 0, ground := .data }], guard := none },
  { dst := some 17, op := .fieldAddr 25 (.tmp 2) 3, type := 0, pos := "observer.go:22", after := #[], guard := none },
  { dst := some 18, op := .load 2 (.tmp 17), type := 2, pos := "observer.go:22", after := #[{ on := 2, ground := .data }], guard := none },
  { dst := some 19, op := .call { callee := .value (.func 40), args := #[.tmp 16, .tmp 18], argTypes := #[32, 2] }, type := 32, pos := "observer.go:22", after := #[{ on := 1, ground := .data }, { on := 3, ground := .data }], guard := none },
  { dst := some 20, op := .fieldAddr 25 (.tmp 2) 2, type := 0, pos := "observer.go:22", after := #[], guard := none },
  { dst := some 21, op := .load 2 (.tmp 20), type := 2, pos := "observer.go:22", after := #[{ on := 5, ground := .data }], guard := none },
  { dst := some 22, op := .call { callee := .value (.func 31), args := #[.tmp 21], argTypes := #[2] }, type := 32, pos := "observer.go:22", after := #[{ on := 6, ground := .data }, { on := 4, ground := .chain }], guard := none },
  { dst := some 23, op := .call { callee := .value (.func 26), args := #[.tmp 19, .tmp 22], argTypes := #[32, 32] }, type := 32, pos := "observer.go:22", after := #[{ on := 4, ground := .data }, { on := 7, ground := .data }, { on := 7, ground := .chain }], guard := none },
  { dst := some 24, op := .fieldAddr 34 (.tmp 3) 1, type := 0, pos := "observer.go:22", after := #[{ on := 0, ground := .phase }, { on := 1, ground := .phase }, { on := 2, ground := .phase }, { on := 3, ground := .phase }, { on := 4, ground := .phase }, { on := 5, ground := .phase }, { on := 6, ground := .phase }, { on := 7, ground := .phase }, { on := 8, ground := .phase }], guard := none },
  { dst := none, op := .store 32 (.tmp 24) (.tmp 23), type := 0, pos := "observer.go:22", after := #[{ on := 9, ground := .data }, { on := 8, ground := .data }, { on := 8, ground := .chain }, { on := 0, ground := .phase }, { on := 1, ground := .phase }, { on := 2, ground := .phase }, { on := 3, ground := .phase }, { on := 4, ground := .phase }, { on := 5, ground := .phase }, { on := 6, ground := .phase }, { on := 7, ground := .phase }, { on := 8, ground := .phase }], guard := none }]
theorem opre2_plain : Region.noSelect opre2 = true := by kernel_rfl

set_option maxHeartbeats 8000000 in
set_option maxRecDepth 100000 in
theorem Predict_core (a : Ai) (o : Ob) (pL pH q1 mL mH rL rH q2 nL nH : Int) (w : World)
    (W1 : Hid (∀ w', Below w.heap.size w w' → Calls Tryd.prog 40 #[sv o.vL o.vH, .int .i64 a.move] w' fun e w'' => e = .returned (sv pL pH) ∧ Below w'.heap.size w' w''))
    (U1 : Hid (∀ w', Below w.heap.size w w' → Calls Tryd.prog 31 #[.int .i64 a.most] w' fun e w'' => e = .returned (sv q1 a.most) ∧ Below w'.heap.size w' w''))
    (M1 : Hid (∀ w', Below w.heap.size w w' → Calls Tryd.prog 26 #[sv pL pH, sv q1 a.most] w' fun e w'' => e = .returned (sv mL mH) ∧ Below w'.heap.size w' w''))
    (W2 : Hid (∀ w', Below w.heap.size w w' → Calls Tryd.prog 40 #[sv o.bL o.bH, .int .i64 a.change] w' fun e w'' => e = .returned (sv rL rH) ∧ Below w'.heap.size w' w''))
    (U2 : Hid (∀ w', Below w.heap.size w w' → Calls Tryd.prog 31 #[.int .i64 a.bias] w' fun e w'' => e = .returned (sv q2 a.bias) ∧ Below w'.heap.size w' w''))
    (M2 : Hid (∀ w', Below w.heap.size w w' → Calls Tryd.prog 26 #[sv rL rH, sv q2 a.bias] w' fun e w'' => e = .returned (sv nL nH) ∧ Below w'.heap.size w' w''))
    : Calls Tryd.prog 32 #[av a, ov o] w fun e w' => e = .returned (.agg #[.int .i64 mL, .int .i64 mH, .int .i64 nL, .int .i64 nH, .bool o.ref]) ∧ Below w.heap.size w w' := by
  have hS1 := (((Sp.none w).more [.int .i64 a.e0, .int .i64 a.e1, .int .i64 a.e2, .bool a.b0, .bool a.b1, .bool a.b2, .int .i64 a.bias, .int .i64 a.change, .int .i64 a.move, .int .i64 a.most] 25).more [.int .i64 o.vL, .int .i64 o.vH, .int .i64 o.bL, .int .i64 o.bH, .bool o.ref] 34).more [.int .i64 0, .int .i64 0, .int .i64 0, .int .i64 0, .bool false] 34
  simp only [heap1] at hS1
  have HS1 := Lib.hid hS1
  clear hS1
  go_enter Tryd.func32, Tryd.ntmps32
  go_upto_region 1 with fail
  go_cut [] from 5 to 13 (fun wx => Sp w [(w.heap.size, [some (.int .i64 a.e0), some (.int .i64 a.e1), some (.int .i64 a.e2), some (.bool a.b0), some (.bool a.b1), some (.bool a.b2), some (.int .i64 a.bias), some (.int .i64 a.change), some (.int .i64 a.move), some (.int .i64 a.most)]), (w.heap.size + 1, [some (.int .i64 mL), some (.int .i64 mH), some (.int .i64 o.bL), some (.int .i64 o.bH), some (.bool o.ref)]), (w.heap.size + 1 + 1, [some (.int .i64 0), some (.int .i64 0), some (.int .i64 0), some (.int .i64 0), some (.bool false)])] wx)
  case first =>
    obtain ⟨w1, hX, HK⟩ := (HS1.out).named
    rw [← hX]
    clear hX
    have hT := ((HK).forget 1 rfl 0).forget 1 rfl 1
    obtain ⟨bs1, hbs⟩ : ∃ bs : List (Nat × List (Option Value)), bs = [(w.heap.size, [some (.int .i64 a.e0), some (.int .i64 a.e1), some (.int .i64 a.e2), some (.bool a.b0), some (.bool a.b1), some (.bool a.b2), some (.int .i64 a.bias), some (.int .i64 a.change), some (.int .i64 a.move), some (.int .i64 a.most)]), (w.heap.size + 1, [none, none, some (.int .i64 o.bL), some (.int .i64 o.bH), some (.bool o.ref)]), (w.heap.size + 1 + 1, [some (.int .i64 0), some (.int .i64 0), some (.int .i64 0), some (.int .i64 0), some (.bool false)])] := ⟨_, rfl⟩
    replace hT : Sp w bs1 w1 := hbs ▸ hT
    have c0_8 : ∀ w', Sp w bs1 w' → w'.cell? ⟨w.heap.size, 8, none⟩ = some (.int .i64 a.move) := by rw [hbs]; exact fun w' h => h.at 0 rfl 8 rfl
    have c0_9 : ∀ w', Sp w bs1 w' → w'.cell? ⟨w.heap.size, 9, none⟩ = some (.int .i64 a.most) := by rw [hbs]; exact fun w' h => h.at 0 rfl 9 rfl
    have kS : ∀ w1 w2, Sp w bs1 w1 → Below w1.heap.size w1 w2 → Sp w bs1 w2 := fun _ _ h hb => h.keep hb
    have s1_0 : ∀ w' z, Sp w bs1 w' → Sp w bs1 (w'.setCell ⟨w.heap.size + 1, 0, none⟩ z) := by rw [hbs]; exact fun w' z h => h.hit 1 rfl 0 rfl z
    have s1_1 : ∀ w' z, Sp w bs1 w' → Sp w bs1 (w'.setCell ⟨w.heap.size + 1, 1, none⟩ z) := by rw [hbs]; exact fun w' z h => h.hit 1 rfl 1 rfl z
    have nx : ∀ w', Sp w [(w.heap.size, [some (.int .i64 a.e0), some (.int .i64 a.e1), some (.int .i64 a.e2), some (.bool a.b0), some (.bool a.b1), some (.bool a.b2), some (.int .i64 a.bias), some (.int .i64 a.change), some (.int .i64 a.move), some (.int .i64 a.most)]), (w.heap.size + 1, [some (.int .i64 o.vL), some (.int .i64 o.vH), some (.int .i64 o.bL), some (.int .i64 o.bH), some (.bool o.ref)]), (w.heap.size + 1 + 1, [some (.int .i64 0), some (.int .i64 0), some (.int .i64 0), some (.int .i64 0), some (.bool false)])] w' → Sp w [(w.heap.size, [some (.int .i64 a.e0), some (.int .i64 a.e1), some (.int .i64 a.e2), some (.bool a.b0), some (.bool a.b1), some (.bool a.b2), some (.int .i64 a.bias), some (.int .i64 a.change), some (.int .i64 a.move), some (.int .i64 a.most)]), (w.heap.size + 1, [some (.int .i64 mL), some (.int .i64 mH), some (.int .i64 o.bL), some (.int .i64 o.bH), some (.bool o.ref)]), (w.heap.size + 1 + 1, [some (.int .i64 0), some (.int .i64 0), some (.int .i64 0), some (.int .i64 0), some (.bool false)])] ((w'.setCell ⟨w.heap.size + 1, 0, none⟩ (.int .i64 mL)).setCell ⟨w.heap.size + 1, 1, none⟩ (.int .i64 mH)) := fun w' h => ((h.put 1 rfl 0 _).put 1 rfl 1 _)
    clear hbs HS1
    change (Code.region 1 opre1 true).wp Tryd.prog _ _ _
    refine wp_region_noPanic ?_
    refine wp_region_held_drew (S := (Sp w bs1)) (by kernel_rfl) (hT.drew) (fun hHeld => ?_)
    obtain ⟨w2, hX⟩ : ∃ x, x = w1.drew := ⟨_, rfl⟩
    have hb : Below w1.heap.size w1 w2 := hX ▸ (Below.refl _ _).drew
    rw [← hX] at hHeld ⊢
    have HB := hHeld; clear hHeld
    replace HK := HK.keep hb
    clear hb hX
    refine wpAnyH_take (i := 0) (oi := ({ dst := some 5, op := .fieldAddr 34 (.tmp 3) 0, type := 0, pos := "observer.go:21", after := #[], guard := none } : Oper)) (v := ?vt1_1_) rfl opre1_plain (by as_aux_lemma => kernel_rfl) (by as_aux_lemma => kernel_rfl) (fun _ _ _ h => h) (Or.inl ⟨by rfl, ?yt1_1_⟩) HB ?rt1_1_
    case yt1_1_ => (intro w hSw; (try dsimp only at hSw); go_simp; try with_reducible rfl)
    try simp only [Act.put, List.setIfInBounds_toArray, List.set_cons_zero, List.set_cons_succ]
    refine wpAnyH_take (i := 2) (oi := ({ dst := some 7, op := .fieldAddr 25 (.tmp 2) 4, type := 0, pos := "observer.go:21", after := #[], guard := none } : Oper)) (v := ?vt1_2_) rfl opre1_plain (by as_aux_lemma => kernel_rfl) (by as_aux_lemma => kernel_rfl) (fun _ _ _ h => h) (Or.inl ⟨by rfl, ?yt1_2_⟩) HB ?rt1_2_
    case yt1_2_ => (intro w hSw; (try dsimp only at hSw); go_simp; try with_reducible rfl)
    try simp only [Act.put, List.setIfInBounds_toArray, List.set_cons_zero, List.set_cons_succ]
    refine wpAnyH_take (i := 3) (oi := ({ dst := some 8, op := .load 2 (.tmp 7), type := 2, pos := "observer.go:21", after := #[{ on := 2, ground := .data }], guard := none } : Oper)) (v := ?vt1_3_) rfl opre1_plain (by as_aux_lemma => kernel_rfl) (by as_aux_lemma => kernel_rfl) (fun _ _ _ h => h) (Or.inl ⟨by rfl, ?yt1_3_⟩) HB ?rt1_3_
    case yt1_3_ => (intro w hSw; (try dsimp only at hSw); go_simp; try with_reducible rfl)
    try simp only [Act.put, List.setIfInBounds_toArray, List.set_cons_zero, List.set_cons_succ]
    refine wpAnyH_take (i := 5) (oi := ({ dst := some 10, op := .fieldAddr 25 (.tmp 2) 5, type := 0, pos := "observer.go:21", after := #[], guard := none } : Oper)) (v := ?vt1_4_) rfl opre1_plain (by as_aux_lemma => kernel_rfl) (by as_aux_lemma => kernel_rfl) (fun _ _ _ h => h) (Or.inl ⟨by rfl, ?yt1_4_⟩) HB ?rt1_4_
    case yt1_4_ => (intro w hSw; (try dsimp only at hSw); go_simp; try with_reducible rfl)
    try simp only [Act.put, List.setIfInBounds_toArray, List.set_cons_zero, List.set_cons_succ]
    refine wpAnyH_take (i := 6) (oi := ({ dst := some 11, op := .load 2 (.tmp 10), type := 2, pos := "observer.go:21", after := #[{ on := 5, ground := .data }], guard := none } : Oper)) (v := ?vt1_5_) rfl opre1_plain (by as_aux_lemma => kernel_rfl) (by as_aux_lemma => kernel_rfl) (fun _ _ _ h => h) (Or.inl ⟨by rfl, ?yt1_5_⟩) HB ?rt1_5_
    case yt1_5_ => (intro w hSw; (try dsimp only at hSw); go_simp; try with_reducible rfl)
    try simp only [Act.put, List.setIfInBounds_toArray, List.set_cons_zero, List.set_cons_succ]
    refine wpAnyH_ready (rs := [1]) (by as_aux_lemma => kernel_rfl) (by simp) ?_
    refine AllReadyH.cons (o := ({ dst := some 6, op := .load 32 (.tmp 5), type := 32, pos := "observer.go:21", after := #[{ on := 0, ground := .data }], guard := none } : Oper)) rfl (fun KK hK => ?_) AllReadyH.nil
    rw [if_pos (by rfl)]
    have ld0 := HK.at 1 rfl 0 (v := .int .i64 o.vL) rfl
    have ld1 := HK.at 1 rfl 1 (v := .int .i64 o.vH) rfl
    go_simp
    obtain ⟨w3, hX⟩ : ∃ x, x = w2 := ⟨_, rfl⟩
    have hb : Below w2.heap.size w2 w3 := (show w2 = w3 from hX.symm) ▸ Below.refl _ _
    rw [← hX]
    clear hX ld0 ld1
    refine hK.out _ _ ?_ (fun hHeld => ?_)
    · exact kS _ _ HB hb
    replace HB := hHeld; clear hHeld hK KK
    replace HK := HK.keep hb
    clear hb
    try simp only [Act.put, List.setIfInBounds_toArray, List.set_cons_zero, List.set_cons_succ]
    refine wpAnyH_ready (rs := [4]) (by as_aux_lemma => kernel_rfl) (by simp) ?_
    refine AllReadyH.cons (o := ({ dst := some 9, op := .call { callee := .value (.func 40), args := #[.tmp 6, .tmp 8], argTypes := #[32, 2] }, type := 32, pos := "observer.go:21", after := #[{ on := 1, ground := .data }, { on := 3, ground := .data }], guard := none } : Oper)) rfl (fun KK hK => ?_) AllReadyH.nil
    rw [if_pos (by rfl)]
    go_simp
    go_at_call 40; refine (W1.out _ HK.below).mono ?_; rintro e w4 ⟨rfl, hb⟩
    go_wp2_with fail
    refine hK.out _ _ ?_ (fun hHeld => ?_)
    · exact kS _ _ HB hb
    replace HB := hHeld; clear hHeld hK KK
    replace HK := HK.keep hb
    clear hb
    try simp only [Act.put, List.setIfInBounds_toArray, List.set_cons_zero, List.set_cons_succ]
    refine wpAnyH_ready (rs := [7]) (by as_aux_lemma => kernel_rfl) (by simp) ?_
    refine AllReadyH.cons (o := ({ dst := some 12, op := .call { callee := .value (.func 31), args := #[.tmp 11], argTypes := #[2] }, type := 32, pos := "observer.go:21", after := #[{ on := 6, ground := .data }, { on := 4, ground := .chain }], guard := none } : Oper)) rfl (fun KK hK => ?_) AllReadyH.nil
    rw [if_pos (by rfl)]
    go_simp
    go_at_call 31; refine (U1.out _ HK.below).mono ?_; rintro e w5 ⟨rfl, hb⟩
    go_wp2_with fail
    refine hK.out _ _ ?_ (fun hHeld => ?_)
    · exact kS _ _ HB hb
    replace HB := hHeld; clear hHeld hK KK
    replace HK := HK.keep hb
    clear hb
    try simp only [Act.put, List.setIfInBounds_toArray, List.set_cons_zero, List.set_cons_succ]
    refine wpAnyH_ready (rs := [8]) (by as_aux_lemma => kernel_rfl) (by simp) ?_
    refine AllReadyH.cons (o := ({ dst := some 13, op := .call { callee := .value (.func 26), args := #[.tmp 9, .tmp 12], argTypes := #[32, 32] }, type := 32, pos := "observer.go:21", after := #[{ on := 4, ground := .data }, { on := 7, ground := .data }, { on := 7, ground := .chain }], guard := none } : Oper)) rfl (fun KK hK => ?_) AllReadyH.nil
    rw [if_pos (by rfl)]
    go_simp
    go_at_call 26; refine (M1.out _ HK.below).mono ?_; rintro e w6 ⟨rfl, hb⟩
    go_wp2_with fail
    refine hK.out _ _ ?_ (fun hHeld => ?_)
    · exact kS _ _ HB hb
    replace HB := hHeld; clear hHeld hK KK
    replace HK := HK.keep hb
    clear hb
    try simp only [Act.put, List.setIfInBounds_toArray, List.set_cons_zero, List.set_cons_succ]
    refine wpAnyH_take (i := 9) (oi := ({ dst := some 14, op := .fieldAddr 34 (.tmp 3) 0, type := 0, pos := "observer.go:21", after := #[{ on := 0, ground := .phase }, { on := 1, ground := .phase }, { on := 2, ground := .phase }, { on := 3, ground := .phase }, { on := 4, ground := .phase }, { on := 5, ground := .phase }, { on := 6, ground := .phase }, { on := 7, ground := .phase }, { on := 8, ground := .phase }], guard := none } : Oper)) (v := ?vt1_6_) rfl opre1_plain (by as_aux_lemma => kernel_rfl) (by as_aux_lemma => kernel_rfl) (fun _ _ _ h => h) (Or.inl ⟨by rfl, ?yt1_6_⟩) HB ?rt1_6_
    case yt1_6_ => (intro w hSw; (try dsimp only at hSw); go_simp; try with_reducible rfl)
    try simp only [Act.put, List.setIfInBounds_toArray, List.set_cons_zero, List.set_cons_succ]
    refine wpAnyH_ready (rs := [10]) (by as_aux_lemma => kernel_rfl) (by simp) ?_
    refine AllReadyH.cons (o := ({ dst := none, op := .store 32 (.tmp 14) (.tmp 13), type := 0, pos := "observer.go:21", after := #[{ on := 9, ground := .data }, { on := 8, ground := .data }, { on := 8, ground := .chain }, { on := 0, ground := .phase }, { on := 1, ground := .phase }, { on := 2, ground := .phase }, { on := 3, ground := .phase }, { on := 4, ground := .phase }, { on := 5, ground := .phase }, { on := 6, ground := .phase }, { on := 7, ground := .phase }, { on := 8, ground := .phase }], guard := none } : Oper)) rfl (fun KK hK => ?_) AllReadyH.nil
    rw [if_pos (by rfl)]
    obtain ⟨z1_0, l1_0, f1_0⟩ := HK.there 1 rfl 0 rfl
    obtain ⟨z1_1, l1_1, f1_1⟩ := HK.there 1 rfl 1 rfl
    have N1 := nx _ HK
    have HN := (s1_1 _ (.int .i64 mH) (s1_0 _ (.int .i64 mL) HB))
    go_simp
    obtain ⟨w7, hX⟩ : ∃ x, x = ((w6.setCell ⟨w.heap.size + 1, 0, none⟩ (.int .i64 mL)).setCell ⟨w.heap.size + 1, 1, none⟩ (.int .i64 mH)) := ⟨_, rfl⟩
    rw [← hX] at HN N1 ⊢
    clear hX HK l1_0 f1_0 l1_1 f1_1
    refine hK.out _ _ ?_ (fun hHeld => ?_)
    · exact HN
    replace HB := hHeld; clear hHeld hK KK HN
    try simp only [Act.put]
    refine wpAnyH_done (by as_aux_lemma => kernel_rfl) ?_ _
    refine NoPanic.normal ?_
    go_wp2_with fail
    go_meet
    exact N1
  case rest =>
    rename World => w40
    have HS2 := Lib.hid hcut
    clear hcut HS1
    clear W1 U1 M1
    go_upto_region 2 with fail
    go_cut [] from 15 to 24 (fun wx => Sp w [(w.heap.size, [some (.int .i64 a.e0), some (.int .i64 a.e1), some (.int .i64 a.e2), some (.bool a.b0), some (.bool a.b1), some (.bool a.b2), some (.int .i64 a.bias), some (.int .i64 a.change), some (.int .i64 a.move), some (.int .i64 a.most)]), (w.heap.size + 1, [some (.int .i64 mL), some (.int .i64 mH), some (.int .i64 nL), some (.int .i64 nH), some (.bool o.ref)]), (w.heap.size + 1 + 1, [some (.int .i64 0), some (.int .i64 0), some (.int .i64 0), some (.int .i64 0), some (.bool false)])] wx)
    case first =>
      obtain ⟨w41, hX, HK⟩ := (HS2.out).named
      rw [← hX]
      clear hX
      have hT := ((HK).forget 1 rfl 2).forget 1 rfl 3
      obtain ⟨bs2, hbs⟩ : ∃ bs : List (Nat × List (Option Value)), bs = [(w.heap.size, [some (.int .i64 a.e0), some (.int .i64 a.e1), some (.int .i64 a.e2), some (.bool a.b0), some (.bool a.b1), some (.bool a.b2), some (.int .i64 a.bias), some (.int .i64 a.change), some (.int .i64 a.move), some (.int .i64 a.most)]), (w.heap.size + 1, [some (.int .i64 mL), some (.int .i64 mH), none, none, some (.bool o.ref)]), (w.heap.size + 1 + 1, [some (.int .i64 0), some (.int .i64 0), some (.int .i64 0), some (.int .i64 0), some (.bool false)])] := ⟨_, rfl⟩
      replace hT : Sp w bs2 w41 := hbs ▸ hT
      have c0_6 : ∀ w', Sp w bs2 w' → w'.cell? ⟨w.heap.size, 6, none⟩ = some (.int .i64 a.bias) := by rw [hbs]; exact fun w' h => h.at 0 rfl 6 rfl
      have c0_7 : ∀ w', Sp w bs2 w' → w'.cell? ⟨w.heap.size, 7, none⟩ = some (.int .i64 a.change) := by rw [hbs]; exact fun w' h => h.at 0 rfl 7 rfl
      have kS : ∀ w1 w2, Sp w bs2 w1 → Below w1.heap.size w1 w2 → Sp w bs2 w2 := fun _ _ h hb => h.keep hb
      have s1_2 : ∀ w' z, Sp w bs2 w' → Sp w bs2 (w'.setCell ⟨w.heap.size + 1, 2, none⟩ z) := by rw [hbs]; exact fun w' z h => h.hit 1 rfl 2 rfl z
      have s1_3 : ∀ w' z, Sp w bs2 w' → Sp w bs2 (w'.setCell ⟨w.heap.size + 1, 3, none⟩ z) := by rw [hbs]; exact fun w' z h => h.hit 1 rfl 3 rfl z
      have nx : ∀ w', Sp w [(w.heap.size, [some (.int .i64 a.e0), some (.int .i64 a.e1), some (.int .i64 a.e2), some (.bool a.b0), some (.bool a.b1), some (.bool a.b2), some (.int .i64 a.bias), some (.int .i64 a.change), some (.int .i64 a.move), some (.int .i64 a.most)]), (w.heap.size + 1, [some (.int .i64 mL), some (.int .i64 mH), some (.int .i64 o.bL), some (.int .i64 o.bH), some (.bool o.ref)]), (w.heap.size + 1 + 1, [some (.int .i64 0), some (.int .i64 0), some (.int .i64 0), some (.int .i64 0), some (.bool false)])] w' → Sp w [(w.heap.size, [some (.int .i64 a.e0), some (.int .i64 a.e1), some (.int .i64 a.e2), some (.bool a.b0), some (.bool a.b1), some (.bool a.b2), some (.int .i64 a.bias), some (.int .i64 a.change), some (.int .i64 a.move), some (.int .i64 a.most)]), (w.heap.size + 1, [some (.int .i64 mL), some (.int .i64 mH), some (.int .i64 nL), some (.int .i64 nH), some (.bool o.ref)]), (w.heap.size + 1 + 1, [some (.int .i64 0), some (.int .i64 0), some (.int .i64 0), some (.int .i64 0), some (.bool false)])] ((w'.setCell ⟨w.heap.size + 1, 2, none⟩ (.int .i64 nL)).setCell ⟨w.heap.size + 1, 3, none⟩ (.int .i64 nH)) := fun w' h => ((h.put 1 rfl 2 _).put 1 rfl 3 _)
      clear hbs HS2
      change (Code.region 2 opre2 true).wp Tryd.prog _ _ _
      refine wp_region_noPanic ?_
      refine wp_region_held_drew (S := (Sp w bs2)) (by kernel_rfl) (hT.drew) (fun hHeld => ?_)
      obtain ⟨w42, hX⟩ : ∃ x, x = w41.drew := ⟨_, rfl⟩
      have hb : Below w41.heap.size w41 w42 := hX ▸ (Below.refl _ _).drew
      rw [← hX] at hHeld ⊢
      have HB := hHeld; clear hHeld
      replace HK := HK.keep hb
      clear hb hX
      refine wpAnyH_take (i := 0) (oi := ({ dst := some 15, op := .fieldAddr 34 (.tmp 3) 1, type := 0, pos := "observer.go:22", after := #[], guard := none } : Oper)) (v := ?vt2_1_) rfl opre2_plain (by as_aux_lemma => kernel_rfl) (by as_aux_lemma => kernel_rfl) (fun _ _ _ h => h) (Or.inl ⟨by rfl, ?yt2_1_⟩) HB ?rt2_1_
      case yt2_1_ => (intro w hSw; (try dsimp only at hSw); go_simp; try with_reducible rfl)
      try simp only [Act.put, List.setIfInBounds_toArray, List.set_cons_zero, List.set_cons_succ]
      refine wpAnyH_take (i := 2) (oi := ({ dst := some 17, op := .fieldAddr 25 (.tmp 2) 3, type := 0, pos := "observer.go:22", after := #[], guard := none } : Oper)) (v := ?vt2_2_) rfl opre2_plain (by as_aux_lemma => kernel_rfl) (by as_aux_lemma => kernel_rfl) (fun _ _ _ h => h) (Or.inl ⟨by rfl, ?yt2_2_⟩) HB ?rt2_2_
      case yt2_2_ => (intro w hSw; (try dsimp only at hSw); go_simp; try with_reducible rfl)
      try simp only [Act.put, List.setIfInBounds_toArray, List.set_cons_zero, List.set_cons_succ]
      refine wpAnyH_take (i := 3) (oi := ({ dst := some 18, op := .load 2 (.tmp 17), type := 2, pos := "observer.go:22", after := #[{ on := 2, ground := .data }], guard := none } : Oper)) (v := ?vt2_3_) rfl opre2_plain (by as_aux_lemma => kernel_rfl) (by as_aux_lemma => kernel_rfl) (fun _ _ _ h => h) (Or.inl ⟨by rfl, ?yt2_3_⟩) HB ?rt2_3_
      case yt2_3_ => (intro w hSw; (try dsimp only at hSw); go_simp; try with_reducible rfl)
      try simp only [Act.put, List.setIfInBounds_toArray, List.set_cons_zero, List.set_cons_succ]
      refine wpAnyH_take (i := 5) (oi := ({ dst := some 20, op := .fieldAddr 25 (.tmp 2) 2, type := 0, pos := "observer.go:22", after := #[], guard := none } : Oper)) (v := ?vt2_4_) rfl opre2_plain (by as_aux_lemma => kernel_rfl) (by as_aux_lemma => kernel_rfl) (fun _ _ _ h => h) (Or.inl ⟨by rfl, ?yt2_4_⟩) HB ?rt2_4_
      case yt2_4_ => (intro w hSw; (try dsimp only at hSw); go_simp; try with_reducible rfl)
      try simp only [Act.put, List.setIfInBounds_toArray, List.set_cons_zero, List.set_cons_succ]
      refine wpAnyH_take (i := 6) (oi := ({ dst := some 21, op := .load 2 (.tmp 20), type := 2, pos := "observer.go:22", after := #[{ on := 5, ground := .data }], guard := none } : Oper)) (v := ?vt2_5_) rfl opre2_plain (by as_aux_lemma => kernel_rfl) (by as_aux_lemma => kernel_rfl) (fun _ _ _ h => h) (Or.inl ⟨by rfl, ?yt2_5_⟩) HB ?rt2_5_
      case yt2_5_ => (intro w hSw; (try dsimp only at hSw); go_simp; try with_reducible rfl)
      try simp only [Act.put, List.setIfInBounds_toArray, List.set_cons_zero, List.set_cons_succ]
      refine wpAnyH_ready (rs := [1]) (by as_aux_lemma => kernel_rfl) (by simp) ?_
      refine AllReadyH.cons (o := ({ dst := some 16, op := .load 32 (.tmp 15), type := 32, pos := "observer.go:22", after := #[{ on := 0, ground := .data }], guard := none } : Oper)) rfl (fun KK hK => ?_) AllReadyH.nil
      rw [if_pos (by rfl)]
      have ld2 := HK.at 1 rfl 2 (v := .int .i64 o.bL) rfl
      have ld3 := HK.at 1 rfl 3 (v := .int .i64 o.bH) rfl
      go_simp
      obtain ⟨w43, hX⟩ : ∃ x, x = w42 := ⟨_, rfl⟩
      have hb : Below w42.heap.size w42 w43 := (show w42 = w43 from hX.symm) ▸ Below.refl _ _
      rw [← hX]
      clear hX ld2 ld3
      refine hK.out _ _ ?_ (fun hHeld => ?_)
      · exact kS _ _ HB hb
      replace HB := hHeld; clear hHeld hK KK
      replace HK := HK.keep hb
      clear hb
      try simp only [Act.put, List.setIfInBounds_toArray, List.set_cons_zero, List.set_cons_succ]
      refine wpAnyH_ready (rs := [4]) (by as_aux_lemma => kernel_rfl) (by simp) ?_
      refine AllReadyH.cons (o := ({ dst := some 19, op := .call { callee := .value (.func 40), args := #[.tmp 16, .tmp 18], argTypes := #[32, 2] }, type := 32, pos := "observer.go:22", after := #[{ on := 1, ground := .data }, { on := 3, ground := .data }], guard := none } : Oper)) rfl (fun KK hK => ?_) AllReadyH.nil
      rw [if_pos (by rfl)]
      go_simp
      go_at_call 40; refine (W2.out _ HK.below).mono ?_; rintro e w44 ⟨rfl, hb⟩
      go_wp2_with fail
      refine hK.out _ _ ?_ (fun hHeld => ?_)
      · exact kS _ _ HB hb
      replace HB := hHeld; clear hHeld hK KK
      replace HK := HK.keep hb
      clear hb
      try simp only [Act.put, List.setIfInBounds_toArray, List.set_cons_zero, List.set_cons_succ]
      refine wpAnyH_ready (rs := [7]) (by as_aux_lemma => kernel_rfl) (by simp) ?_
      refine AllReadyH.cons (o := ({ dst := some 22, op := .call { callee := .value (.func 31), args := #[.tmp 21], argTypes := #[2] }, type := 32, pos := "observer.go:22", after := #[{ on := 6, ground := .data }, { on := 4, ground := .chain }], guard := none } : Oper)) rfl (fun KK hK => ?_) AllReadyH.nil
      rw [if_pos (by rfl)]
      go_simp
      go_at_call 31; refine (U2.out _ HK.below).mono ?_; rintro e w45 ⟨rfl, hb⟩
      go_wp2_with fail
      refine hK.out _ _ ?_ (fun hHeld => ?_)
      · exact kS _ _ HB hb
      replace HB := hHeld; clear hHeld hK KK
      replace HK := HK.keep hb
      clear hb
      try simp only [Act.put, List.setIfInBounds_toArray, List.set_cons_zero, List.set_cons_succ]
      refine wpAnyH_ready (rs := [8]) (by as_aux_lemma => kernel_rfl) (by simp) ?_
      refine AllReadyH.cons (o := ({ dst := some 23, op := .call { callee := .value (.func 26), args := #[.tmp 19, .tmp 22], argTypes := #[32, 32] }, type := 32, pos := "observer.go:22", after := #[{ on := 4, ground := .data }, { on := 7, ground := .data }, { on := 7, ground := .chain }], guard := none } : Oper)) rfl (fun KK hK => ?_) AllReadyH.nil
      rw [if_pos (by rfl)]
      go_simp
      go_at_call 26; refine (M2.out _ HK.below).mono ?_; rintro e w46 ⟨rfl, hb⟩
      go_wp2_with fail
      refine hK.out _ _ ?_ (fun hHeld => ?_)
      · exact kS _ _ HB hb
      replace HB := hHeld; clear hHeld hK KK
      replace HK := HK.keep hb
      clear hb
      try simp only [Act.put, List.setIfInBounds_toArray, List.set_cons_zero, List.set_cons_succ]
      refine wpAnyH_take (i := 9) (oi := ({ dst := some 24, op := .fieldAddr 34 (.tmp 3) 1, type := 0, pos := "observer.go:22", after := #[{ on := 0, ground := .phase }, { on := 1, ground := .phase }, { on := 2, ground := .phase }, { on := 3, ground := .phase }, { on := 4, ground := .phase }, { on := 5, ground := .phase }, { on := 6, ground := .phase }, { on := 7, ground := .phase }, { on := 8, ground := .phase }], guard := none } : Oper)) (v := ?vt2_6_) rfl opre2_plain (by as_aux_lemma => kernel_rfl) (by as_aux_lemma => kernel_rfl) (fun _ _ _ h => h) (Or.inl ⟨by rfl, ?yt2_6_⟩) HB ?rt2_6_
      case yt2_6_ => (intro w hSw; (try dsimp only at hSw); go_simp; try with_reducible rfl)
      try simp only [Act.put, List.setIfInBounds_toArray, List.set_cons_zero, List.set_cons_succ]
      refine wpAnyH_ready (rs := [10]) (by as_aux_lemma => kernel_rfl) (by simp) ?_
      refine AllReadyH.cons (o := ({ dst := none, op := .store 32 (.tmp 24) (.tmp 23), type := 0, pos := "observer.go:22", after := #[{ on := 9, ground := .data }, { on := 8, ground := .data }, { on := 8, ground := .chain }, { on := 0, ground := .phase }, { on := 1, ground := .phase }, { on := 2, ground := .phase }, { on := 3, ground := .phase }, { on := 4, ground := .phase }, { on := 5, ground := .phase }, { on := 6, ground := .phase }, { on := 7, ground := .phase }, { on := 8, ground := .phase }], guard := none } : Oper)) rfl (fun KK hK => ?_) AllReadyH.nil
      rw [if_pos (by rfl)]
      obtain ⟨z1_2, l1_2, f1_2⟩ := HK.there 1 rfl 2 rfl
      obtain ⟨z1_3, l1_3, f1_3⟩ := HK.there 1 rfl 3 rfl
      have N1 := nx _ HK
      have HN := (s1_3 _ (.int .i64 nH) (s1_2 _ (.int .i64 nL) HB))
      go_simp
      obtain ⟨w47, hX⟩ : ∃ x, x = ((w46.setCell ⟨w.heap.size + 1, 2, none⟩ (.int .i64 nL)).setCell ⟨w.heap.size + 1, 3, none⟩ (.int .i64 nH)) := ⟨_, rfl⟩
      rw [← hX] at HN N1 ⊢
      clear hX HK l1_2 f1_2 l1_3 f1_3
      refine hK.out _ _ ?_ (fun hHeld => ?_)
      · exact HN
      replace HB := hHeld; clear hHeld hK KK HN
      try simp only [Act.put]
      refine wpAnyH_done (by as_aux_lemma => kernel_rfl) ?_ _
      refine NoPanic.normal ?_
      go_wp2_with fail
      go_meet
      exact N1
    case rest =>
      rename World => w80
      have HS3 := Lib.hid hcut
      clear hcut HS2
      clear W2 U2 M2
      have k1_0 := (HS3.out).at 1 rfl 0 (v := .int .i64 mL) rfl
      have k1_1 := (HS3.out).at 1 rfl 1 (v := .int .i64 mH) rfl
      have k1_2 := (HS3.out).at 1 rfl 2 (v := .int .i64 nL) rfl
      have k1_3 := (HS3.out).at 1 rfl 3 (v := .int .i64 nH) rfl
      have k1_4 := (HS3.out).at 1 rfl 4 (v := .bool o.ref) rfl
      have r2_0 := (HS3.out).at 2 rfl 0 (v := .int .i64 0) rfl
      have r2_1 := (HS3.out).at 2 rfl 1 (v := .int .i64 0) rfl
      have r2_2 := (HS3.out).at 2 rfl 2 (v := .int .i64 0) rfl
      have r2_3 := (HS3.out).at 2 rfl 3 (v := .int .i64 0) rfl
      have r2_4 := (HS3.out).at 2 rfl 4 (v := .bool false) rfl
      have rf2_0 := (HS3.out).free 2 rfl 0 rfl
      have rf2_1 := (HS3.out).free 2 rfl 1 rfl
      have rf2_2 := (HS3.out).free 2 rfl 2 rfl
      have rf2_3 := (HS3.out).free 2 rfl 3 rfl
      have rf2_4 := (HS3.out).free 2 rfl 4 rfl
      have BH := Lib.hid HS3.out.below
      clear HS3
      go_wp2_with fail
      refine bodyPost_ret (v := .agg #[.int .i64 mL, .int .i64 mH, .int .i64 nL, .int .i64 nH, .bool o.ref]) (by simp [results, Tryd.results32, go_sem, *]) rfl ⟨rfl, ?_⟩
      iterate 5 refine Below.setCell (p := ⟨w.heap.size + 1 + 1, _, none⟩) ?_ (show w.heap.size ≤ w.heap.size + 1 + 1 by omega) _
      exact BH.out

theorem Predict_any (a : Ai) (o : Ob) (w : World) (n : NoneAt w) (h : AR a) (k : OR o) :
    Calls Tryd.prog 32 #[av a, ov o] w fun e w' => e = .returned (ov (predict a o)) ∧ Below w.heap.size w w' := by
  have h1 := h.most; have h2 := h.bias; have h3 := h.move; have h4 := h.change
  exact Predict_core a o _ _ _ _ _ _ _ _ _ _ w (Lib.hid fun w' B => sWiden o.vL o.vH a.move w' (n.keep B) k.vL k.vH h3.1 (by omega)) (Lib.hid fun w' _ => upTo_any a.most (by omega) (by omega) w') (Lib.hid fun w' B => Meet_ob _ _ _ _ w' (n.keep B))
    (Lib.hid fun w' B => sWiden o.bL o.bH a.change w' (n.keep B) k.bL k.bH h4.1 (by omega)) (Lib.hid fun w' _ => upTo_any a.bias h2.1 (by omega) w') (Lib.hid fun w' B => Meet_ob _ _ _ _ w' (n.keep B))
end Go.Proofs.YtkjkmnclnedfhaaDoor
