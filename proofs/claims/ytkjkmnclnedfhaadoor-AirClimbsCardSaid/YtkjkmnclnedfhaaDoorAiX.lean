/- The law's own example: its region in which every order is gone through. -/
import Derived.Test.YtkjkmnclnedfhaaDoorAiC
import Derived.BigRegion
namespace Go.Proofs.YtkjkmnclnedfhaaDoor
open Go.RowKit Obs

/-- The operations of a drawn region, as the translation has them. -/
def aaw8 : Array Oper := #[
  { dst := some 19, op := .call { callee := .value (.func 17), args := #[], argTypes := #[] }, type := 61, pos := "law.go:21", after := #[], guard := none },
  { dst := some 20, op := .load 55 (.tmp 1), type := 55, pos := "law.go:21", after := #[], guard := none },
  { dst := some 21, op := .load 55 (.tmp 1), type := 55, pos := "law.go:21", after := #[], guard := none },
  { dst := some 22, op := .buildSlice 63 2 #[(0, .tmp 20), (1, .tmp 21)], type := 63, pos := "law.go:21", after := #[{ on := 1, ground := .data }, { on := 2, ground := .data }], guard := none },
  { dst := some 23, op := .call { callee := .value (.func 16), args := #[.tmp 19, .tmp 22], argTypes := #[61, 63] }, type := 56, pos := "law.go:21", after := #[{ on := 0, ground := .data }, { on := 3, ground := .data }, { on := 0, ground := .chain }], guard := none },
  { dst := some 18, op := .move (.tmp 23), type := 56, pos := "law.go:21", after := #[{ on := 4, ground := .data }], guard := none },
  { dst := some 24, op := .extract (.tmp 18) 0, type := 32, pos := "law.go:21", after := #[{ on := 5, ground := .data }], guard := none },
  { dst := some 25, op := .extract (.tmp 18) 1, type := 32, pos := "law.go:21", after := #[{ on := 5, ground := .data }, { on := 10, ground := .gcOnly Go.Departure.lateStores }], guard := none },
  { dst := some 3, op := .alloc 32, type := 0, pos := "law.go:21", after := #[], guard := none },
  { dst := some 4, op := .alloc 32, type := 0, pos := "law.go:21", after := #[], guard := none },
  { dst := none, op := .store 32 (.tmp 3) (.tmp 24), type := 0, pos := "law.go:21", after := #[{ on := 8, ground := .data }, { on := 6, ground := .data }, { on := 4, ground := .chain }, { on := 0, ground := .phase }, { on := 1, ground := .phase }, { on := 2, ground := .phase }, { on := 3, ground := .phase }, { on := 4, ground := .phase }, { on := 5, ground := .phase }, { on := 6, ground := .phase }, { on := 7, ground := .textOnly Go.Departure.lateStores }, { on := 8, ground := .phase }, { on := 9, ground := .phase }], guard := none },
  { dst := none, op := .store 32 (.tmp 4) (.tmp 25), type := 0, pos := "law.go:21", after := #[{ on := 9, ground := .data }, { on := 7, ground := .data }, { on := 10, ground := .chain }, { on := 0, ground := .phase }, { on := 1, ground := .phase }, { on := 2, ground := .phase }, { on := 3, ground := .phase }, { on := 4, ground := .phase }, { on := 5, ground := .phase }, { on := 6, ground := .phase }, { on := 7, ground := .phase }, { on := 8, ground := .phase }, { on := 9, ground := .phase }, { on := 10, ground := .phase }], guard := none }]
theorem aaw8_plain : Region.noSelect aaw8 = true := by kernel_rfl
/-- what the operation stands behind -/
def aaw8_a0 := ({ dst := some 19, op := .call { callee := .value (.func 17), args := #[], argTypes := #[] }, type := 61, pos := "law.go:21", after := #[], guard := none } : Oper).after
/-- what the operation stands behind -/
def aaw8_a1 := ({ dst := some 20, op := .load 55 (.tmp 1), type := 55, pos := "law.go:21", after := #[], guard := none } : Oper).after
/-- what the operation stands behind -/
def aaw8_a2 := ({ dst := some 21, op := .load 55 (.tmp 1), type := 55, pos := "law.go:21", after := #[], guard := none } : Oper).after
/-- what the operation stands behind -/
def aaw8_a3 := ({ dst := some 22, op := .buildSlice 63 2 #[(0, .tmp 20), (1, .tmp 21)], type := 63, pos := "law.go:21", after := #[{ on := 1, ground := .data }, { on := 2, ground := .data }], guard := none } : Oper).after
/-- what the operation stands behind -/
def aaw8_a4 := ({ dst := some 23, op := .call { callee := .value (.func 16), args := #[.tmp 19, .tmp 22], argTypes := #[61, 63] }, type := 56, pos := "law.go:21", after := #[{ on := 0, ground := .data }, { on := 3, ground := .data }, { on := 0, ground := .chain }], guard := none } : Oper).after
/-- what the operation stands behind -/
def aaw8_a5 := ({ dst := some 18, op := .move (.tmp 23), type := 56, pos := "law.go:21", after := #[{ on := 4, ground := .data }], guard := none } : Oper).after
/-- what the operation stands behind -/
def aaw8_a6 := ({ dst := some 24, op := .extract (.tmp 18) 0, type := 32, pos := "law.go:21", after := #[{ on := 5, ground := .data }], guard := none } : Oper).after
/-- what the operation stands behind -/
def aaw8_a7 := ({ dst := some 25, op := .extract (.tmp 18) 1, type := 32, pos := "law.go:21", after := #[{ on := 5, ground := .data }, { on := 10, ground := .gcOnly Go.Departure.lateStores }], guard := none } : Oper).after
/-- what the operation stands behind -/
def aaw8_a8 := ({ dst := some 3, op := .alloc 32, type := 0, pos := "law.go:21", after := #[], guard := none } : Oper).after
/-- what the operation stands behind -/
def aaw8_a9 := ({ dst := some 4, op := .alloc 32, type := 0, pos := "law.go:21", after := #[], guard := none } : Oper).after
/-- what the operation stands behind -/
def aaw8_a10 := ({ dst := none, op := .store 32 (.tmp 3) (.tmp 24), type := 0, pos := "law.go:21", after := #[{ on := 8, ground := .data }, { on := 6, ground := .data }, { on := 4, ground := .chain }, { on := 0, ground := .phase }, { on := 1, ground := .phase }, { on := 2, ground := .phase }, { on := 3, ground := .phase }, { on := 4, ground := .phase }, { on := 5, ground := .phase }, { on := 6, ground := .phase }, { on := 7, ground := .textOnly Go.Departure.lateStores }, { on := 8, ground := .phase }, { on := 9, ground := .phase }], guard := none } : Oper).after
/-- what the operation stands behind -/
def aaw8_a11 := ({ dst := none, op := .store 32 (.tmp 4) (.tmp 25), type := 0, pos := "law.go:21", after := #[{ on := 9, ground := .data }, { on := 7, ground := .data }, { on := 10, ground := .chain }, { on := 0, ground := .phase }, { on := 1, ground := .phase }, { on := 2, ground := .phase }, { on := 3, ground := .phase }, { on := 4, ground := .phase }, { on := 5, ground := .phase }, { on := 6, ground := .phase }, { on := 7, ground := .phase }, { on := 8, ground := .phase }, { on := 9, ground := .phase }, { on := 10, ground := .phase }], guard := none } : Oper).after

set_option maxHeartbeats 40000000 in
set_option maxRecDepth 100000 in
theorem aw8_core (cf : Array Value) (R : Rd) (aL aH sL sH : Int) (w w2 : World) (y0 y2 y9 y10 y11 y12 y13 y14 y15 y16 y17 : Value) (Q : Exit → Act → World → Prop)
    (US : Hid (∀ w', Below w.heap.size w w' → Calls Tryd.prog 17 #[] w' fun e w'' => e = .returned (.agg cf) ∧ Below w'.heap.size w' w''))
    (BO : Hid (∀ w' ba, Below w.heap.size w w' → CameRd w' ba 2 [R, R] → Calls Tryd.prog 16 #[.agg cf, .slice ba 2 2] w' fun e w'' => e = .returned (.tuple #[sv aL aH, sv sL sH]) ∧ Below w'.heap.size w' w''))
    (HS4 : Hid (Sp w [(w.heap.size, (rc R).map some)] w2))
    (hQ : ∀ ga gs x18 x19 x20 x21 x22 x23 x24 x25 wz, Sp w [(w.heap.size, (rc R).map some), (ga, [some (.int .i64 aL), some (.int .i64 aH)]), (gs, [some (.int .i64 sL), some (.int .i64 sH)])] wz → Q .normal { tmps := #[y0, .pointer (some ⟨w.heap.size, 0, none⟩), y2, .pointer (some ⟨ga, 0, none⟩), .pointer (some ⟨gs, 0, none⟩), undef, undef, undef, undef, y9, y10, y11, y12, y13, y14, y15, y16, y17, x18, x19, x20, x21, x22, x23, x24, x25, undef, undef, undef, undef, undef, undef, undef, undef, undef, undef, undef, undef, undef, undef, undef, undef, undef, undef, undef, undef, undef, undef, undef, undef, undef, undef, undef, undef, undef, undef, undef, undef, undef, undef, undef, undef, undef, undef, undef, undef, undef, undef, undef, undef, undef, undef, undef, undef, undef, undef, undef, undef, undef, undef, undef, undef, undef, undef, undef, undef, undef, undef, undef, undef, undef, undef, undef, undef, undef], defers := [] } wz) :
    (Code.region 8 aaw8 true).wp Tryd.prog Q { tmps := #[y0, .pointer (some ⟨w.heap.size, 0, none⟩), y2, undef, undef, undef, undef, undef, undef, y9, y10, y11, y12, y13, y14, y15, y16, y17, undef, undef, undef, undef, undef, undef, undef, undef, undef, undef, undef, undef, undef, undef, undef, undef, undef, undef, undef, undef, undef, undef, undef, undef, undef, undef, undef, undef, undef, undef, undef, undef, undef, undef, undef, undef, undef, undef, undef, undef, undef, undef, undef, undef, undef, undef, undef, undef, undef, undef, undef, undef, undef, undef, undef, undef, undef, undef, undef, undef, undef, undef, undef, undef, undef, undef, undef, undef, undef, undef, undef, undef, undef, undef, undef, undef, undef], defers := [] } w2 := by
  have hir := sizeRd R
  have hT := HS4.out
  have RL : ∀ w', Sp w [(w.heap.size, (rc R).map some)] w' → w'.rangeAt (w.heap.size) 0 (ra R).toList := fun w' h => h.range 0 (l := rc R) rfl
  have kS : ∀ w1 w2, Sp w [(w.heap.size, (rc R).map some)] w1 → Below w1.heap.size w1 w2 → Sp w [(w.heap.size, (rc R).map some)] w2 := fun _ _ h hb => h.keep hb
  change (Code.region 8 aaw8 true).wp Tryd.prog _ _ _
  refine wp_region_noPanic ?_
  refine wp_region_held_drew (S := (Sp w [(w.heap.size, (rc R).map some)])) (by kernel_rfl) (hT.drew) (fun hHeld => ?_)
  obtain ⟨w20, hX⟩ : ∃ x, x = w2.drew := ⟨_, rfl⟩
  have hb : Below w2.heap.size w2 w20 := hX ▸ (Below.refl _ _).drew
  rw [← hX] at hHeld ⊢
  have HB := hHeld; clear hHeld
  clear hb hX
  refine wpAnyH_take (i := 1) (oi := ({ dst := some 20, op := .load 55 (.tmp 1), type := 55, pos := "law.go:21", after := aaw8_a1, guard := none } : Oper)) rfl aaw8_plain (by as_aux_lemma => kernel_rfl) (by as_aux_lemma => kernel_rfl) (fun _ _ _ h => h) (yields_load (by rfl) 55 _ rfl _ _ rfl _ _ RL Tryd.underlying55 rfl hir) HB ?_
  try simp only [Act.put, List.setIfInBounds_toArray, List.set_cons_zero, List.set_cons_succ]
  refine wpAnyH_take (i := 2) (oi := ({ dst := some 21, op := .load 55 (.tmp 1), type := 55, pos := "law.go:21", after := aaw8_a2, guard := none } : Oper)) rfl aaw8_plain (by as_aux_lemma => kernel_rfl) (by as_aux_lemma => kernel_rfl) (fun _ _ _ h => h) (yields_load (by rfl) 55 _ rfl _ _ rfl _ _ RL Tryd.underlying55 rfl hir) HB ?_
  try simp only [Act.put, List.setIfInBounds_toArray, List.set_cons_zero, List.set_cons_succ]
  refine wpAnyH_ready (rs := [0, 3, 8, 9]) (by as_aux_lemma => kernel_rfl) (by simp) ?_
  refine AllReadyH.cons (o := ({ dst := some 19, op := .call { callee := .value (.func 17), args := #[], argTypes := #[] }, type := 61, pos := "law.go:21", after := aaw8_a0, guard := none } : Oper)) rfl (fun KK hK => ?_) (AllReadyH.cons (o := ({ dst := some 22, op := .buildSlice 63 2 #[(0, .tmp 20), (1, .tmp 21)], type := 63, pos := "law.go:21", after := aaw8_a3, guard := none } : Oper)) rfl (fun KK hK => ?_) (AllReadyH.cons (o := ({ dst := some 3, op := .alloc 32, type := 0, pos := "law.go:21", after := aaw8_a8, guard := none } : Oper)) rfl (fun KK hK => ?_) (AllReadyH.cons (o := ({ dst := some 4, op := .alloc 32, type := 0, pos := "law.go:21", after := aaw8_a9, guard := none } : Oper)) rfl (fun KK hK => ?_) AllReadyH.nil)))
  · skip
    rw [if_pos (by rfl)]
    go_simp
    go_at_call 17; refine (US.out _ HB.below).mono ?_; rintro e w21 ⟨rfl, hb⟩
    go_wp2_with fail
    refine hK.out _ _ ?_ (fun hHeld => ?_)
    · exact kS _ _ HB hb
    replace HB := hHeld; clear hHeld hK KK
    clear hb
    try simp only [Act.put, List.setIfInBounds_toArray, List.set_cons_zero, List.set_cons_succ]
    refine wpAnyH_ready (rs := [3, 8, 9]) (by as_aux_lemma => kernel_rfl) (by simp) ?_
    refine AllReadyH.cons (o := ({ dst := some 22, op := .buildSlice 63 2 #[(0, .tmp 20), (1, .tmp 21)], type := 63, pos := "law.go:21", after := aaw8_a3, guard := none } : Oper)) rfl (fun KK hK => ?_) (AllReadyH.cons (o := ({ dst := some 3, op := .alloc 32, type := 0, pos := "law.go:21", after := aaw8_a8, guard := none } : Oper)) rfl (fun KK hK => ?_) (AllReadyH.cons (o := ({ dst := some 4, op := .alloc 32, type := 0, pos := "law.go:21", after := aaw8_a9, guard := none } : Oper)) rfl (fun KK hK => ?_) AllReadyH.nil))
    · skip
      rw [if_pos (by rfl)]
      refine oper_build2 (R := R) rfl rfl rfl ?_
      have CM := came_two w21 R
      have hb := below1 w21 (.cells (rc R ++ rc R).toArray 55)
      obtain ⟨gr, hG⟩ : ∃ g, g = w21.heap.size := ⟨_, rfl⟩
      rw [← hG] at CM ⊢
      clear hG
      obtain ⟨w22, hX⟩ : ∃ x, x = w21.alloc (.cells (rc R ++ rc R).toArray 55) := ⟨_, rfl⟩
      rw [← hX] at CM hb ⊢
      clear hX
      refine hK.out _ _ ?_ (fun hHeld => ?_)
      · exact kS _ _ HB hb
      replace HB := hHeld; clear hHeld hK KK
      clear hb
      try simp only [Act.put, List.setIfInBounds_toArray, List.set_cons_zero, List.set_cons_succ]
      refine wpAnyH_ready (rs := [4, 8, 9]) (by as_aux_lemma => kernel_rfl) (by simp) ?_
      refine AllReadyH.cons (o := ({ dst := some 23, op := .call { callee := .value (.func 16), args := #[.tmp 19, .tmp 22], argTypes := #[61, 63] }, type := 56, pos := "law.go:21", after := aaw8_a4, guard := none } : Oper)) rfl (fun KK hK => ?_) (AllReadyH.cons (o := ({ dst := some 3, op := .alloc 32, type := 0, pos := "law.go:21", after := aaw8_a8, guard := none } : Oper)) rfl (fun KK hK => ?_) (AllReadyH.cons (o := ({ dst := some 4, op := .alloc 32, type := 0, pos := "law.go:21", after := aaw8_a9, guard := none } : Oper)) rfl (fun KK hK => ?_) AllReadyH.nil))
      · skip
        rw [if_pos (by rfl)]
        go_simp
        go_at_call 16; refine (BO.out _ _ HB.below CM).mono ?_; rintro e w23 ⟨rfl, hb⟩
        go_wp2_with fail
        refine hK.out _ _ ?_ (fun hHeld => ?_)
        · exact kS _ _ HB hb
        replace HB := hHeld; clear hHeld hK KK
        replace CM := CM.keep hb
        clear hb
        try simp only [Act.put, List.setIfInBounds_toArray, List.set_cons_zero, List.set_cons_succ]
        refine wpAnyH_take (i := 5) (oi := ({ dst := some 18, op := .move (.tmp 23), type := 56, pos := "law.go:21", after := aaw8_a5, guard := none } : Oper)) (v := ?vt1_3_) rfl aaw8_plain (by as_aux_lemma => kernel_rfl) (by as_aux_lemma => kernel_rfl) (fun _ _ _ h => h) (Or.inl ⟨by rfl, ?yt1_3_⟩) HB ?rt1_3_
        case yt1_3_ => (intro w hSw; (try dsimp only at hSw); go_simp; try with_reducible rfl)
        try simp only [Act.put, List.setIfInBounds_toArray, List.set_cons_zero, List.set_cons_succ]
        refine wpAnyH_take (i := 6) (oi := ({ dst := some 24, op := .extract (.tmp 18) 0, type := 32, pos := "law.go:21", after := aaw8_a6, guard := none } : Oper)) (v := ?vt1_4_) rfl aaw8_plain (by as_aux_lemma => kernel_rfl) (by as_aux_lemma => kernel_rfl) (fun _ _ _ h => h) (Or.inl ⟨by rfl, ?yt1_4_⟩) HB ?rt1_4_
        case yt1_4_ => (intro w hSw; (try dsimp only at hSw); go_simp; try with_reducible rfl)
        try simp only [Act.put, List.setIfInBounds_toArray, List.set_cons_zero, List.set_cons_succ]
        refine wpAnyH_take (i := 7) (oi := ({ dst := some 25, op := .extract (.tmp 18) 1, type := 32, pos := "law.go:21", after := aaw8_a7, guard := none } : Oper)) (v := ?vt1_5_) rfl aaw8_plain (by as_aux_lemma => kernel_rfl) (by as_aux_lemma => kernel_rfl) (fun _ _ _ h => h) (Or.inl ⟨by rfl, ?yt1_5_⟩) HB ?rt1_5_
        case yt1_5_ => (intro w hSw; (try dsimp only at hSw); go_simp; try with_reducible rfl)
        try simp only [Act.put, List.setIfInBounds_toArray, List.set_cons_zero, List.set_cons_succ]
        refine wpAnyH_ready (rs := [8, 9]) (by as_aux_lemma => kernel_rfl) (by simp) ?_
        refine AllReadyH.cons (o := ({ dst := some 3, op := .alloc 32, type := 0, pos := "law.go:21", after := aaw8_a8, guard := none } : Oper)) rfl (fun KK hK => ?_) (AllReadyH.cons (o := ({ dst := some 4, op := .alloc 32, type := 0, pos := "law.go:21", after := aaw8_a9, guard := none } : Oper)) rfl (fun KK hK => ?_) AllReadyH.nil)
        · skip
          rw [if_pos (by rfl)]
          go_simp
          have hb := below1 w23 (.cells #[.int .i64 0, .int .i64 0] 32)
          have HA := HB.more [.int .i64 0, .int .i64 0] 32
          first | (have hne := Sp.lt2 HS) | skip
          obtain ⟨ga, hG⟩ : ∃ g, g = w23.heap.size := ⟨_, rfl⟩
          rw [← hG] at HA ⊢
          try rw [← hG] at hne
          clear hG
          obtain ⟨w24, hX⟩ : ∃ x, x = w23.alloc (.cells #[.int .i64 0, .int .i64 0] 32) := ⟨_, rfl⟩
          replace HA : Sp w [(w.heap.size, (rc R).map some), (ga, [some (.int .i64 0), some (.int .i64 0)])] w24 := hX ▸ HA
          rw [← hX] at hb ⊢
          clear hX
          refine hK.out _ _ ?_ (fun hHeld => ?_)
          · exact kS _ _ HB hb
          replace HB := hHeld; clear hHeld hK KK
          replace CM := CM.keep hb
          clear hb
          try simp only [Act.put, List.setIfInBounds_toArray, List.set_cons_zero, List.set_cons_succ]
          refine wpAnyH_ready (rs := [9]) (by as_aux_lemma => kernel_rfl) (by simp) ?_
          refine AllReadyH.cons (o := ({ dst := some 4, op := .alloc 32, type := 0, pos := "law.go:21", after := aaw8_a9, guard := none } : Oper)) rfl (fun KK hK => ?_) AllReadyH.nil
          rw [if_pos (by rfl)]
          go_simp
          have hb := below1 w24 (.cells #[.int .i64 0, .int .i64 0] 32)
          have HS := HB.more [.int .i64 0, .int .i64 0] 32
          first | (have hne := Sp.lt2 HA) | skip
          obtain ⟨gs, hG⟩ : ∃ g, g = w24.heap.size := ⟨_, rfl⟩
          rw [← hG] at HS ⊢
          try rw [← hG] at hne
          clear hG
          obtain ⟨w25, hX⟩ : ∃ x, x = w24.alloc (.cells #[.int .i64 0, .int .i64 0] 32) := ⟨_, rfl⟩
          replace HS : Sp w [(w.heap.size, (rc R).map some), (gs, [some (.int .i64 0), some (.int .i64 0)])] w25 := hX ▸ HS
          rw [← hX] at hb ⊢
          clear hX
          refine hK.out _ _ ?_ (fun hHeld => ?_)
          · exact kS _ _ HB hb
          replace HB := hHeld; clear hHeld hK KK
          replace CM := CM.keep hb
          replace HA := HA.keep hb
          clear hb
          try simp only [Act.put, List.setIfInBounds_toArray, List.set_cons_zero, List.set_cons_succ]
          refine wpAnyH_ready (rs := [10]) (by as_aux_lemma => kernel_rfl) (by simp) ?_
          refine AllReadyH.cons (o := ({ dst := none, op := .store 32 (.tmp 3) (.tmp 24), type := 0, pos := "law.go:21", after := aaw8_a10, guard := none } : Oper)) rfl (fun KK hK => ?_) AllReadyH.nil
          rw [if_pos (by rfl)]
          have hne2 : ga ≠ gs := by (have h1 := hne; clear hne; (try dsimp only at h1); omega)
          have HC := Sp.join HA HS hne2
          clear HA HS hne hne2
          refine put_span (g := ga) (u := aL) (v := aH) rfl rfl rfl (HC.free_row 1 rfl (n := 2) rfl) ?_
          have N1 := (HC.put 1 rfl 0 (.int .i64 aL)).put 1 rfl 1 (.int .i64 aH)
          obtain ⟨w26, hX⟩ := setCell2_named w25 ga aL aH
          rw [← hX] at N1 ⊢
          have HN : Sp w [(w.heap.size, (rc R).map some)] w26 := N1.take 1
          clear hX HC
          refine hK.out _ _ ?_ (fun hHeld => ?_)
          · exact HN
          replace HB := hHeld; clear hHeld hK KK HN
          try simp only [Act.put]
          refine wpAnyH_ready (rs := [11]) (by as_aux_lemma => kernel_rfl) (by simp) ?_
          refine AllReadyH.cons (o := ({ dst := none, op := .store 32 (.tmp 4) (.tmp 25), type := 0, pos := "law.go:21", after := aaw8_a11, guard := none } : Oper)) rfl (fun KK hK => ?_) AllReadyH.nil
          rw [if_pos (by rfl)]
          refine put_span (g := gs) (u := sL) (v := sH) rfl rfl rfl (N1.free_row 2 rfl (n := 2) rfl) ?_
          have N2 := (N1.put 2 rfl 0 (.int .i64 sL)).put 2 rfl 1 (.int .i64 sH)
          obtain ⟨w27, hX⟩ := setCell2_named w26 gs sL sH
          rw [← hX] at N2 ⊢
          have HN : Sp w [(w.heap.size, (rc R).map some)] w27 := N2.take 1
          clear hX N1
          refine hK.out _ _ ?_ (fun hHeld => ?_)
          · exact HN
          replace HB := hHeld; clear hHeld hK KK HN
          try simp only [Act.put]
          refine wpAnyH_done (by as_aux_lemma => kernel_rfl) ?_ _
          refine NoPanic.normal ?_
          exact hQ _ _ _ _ _ _ _ _ _ _ _ N2
        · skip
          rw [if_pos (by rfl)]
          go_simp
          have hb := below1 w23 (.cells #[.int .i64 0, .int .i64 0] 32)
          have HS := HB.more [.int .i64 0, .int .i64 0] 32
          first | (have hne := Sp.lt2 HA) | skip
          obtain ⟨gs, hG⟩ : ∃ g, g = w23.heap.size := ⟨_, rfl⟩
          rw [← hG] at HS ⊢
          try rw [← hG] at hne
          clear hG
          obtain ⟨w24, hX⟩ : ∃ x, x = w23.alloc (.cells #[.int .i64 0, .int .i64 0] 32) := ⟨_, rfl⟩
          replace HS : Sp w [(w.heap.size, (rc R).map some), (gs, [some (.int .i64 0), some (.int .i64 0)])] w24 := hX ▸ HS
          rw [← hX] at hb ⊢
          clear hX
          refine hK.out _ _ ?_ (fun hHeld => ?_)
          · exact kS _ _ HB hb
          replace HB := hHeld; clear hHeld hK KK
          replace CM := CM.keep hb
          clear hb
          try simp only [Act.put, List.setIfInBounds_toArray, List.set_cons_zero, List.set_cons_succ]
          refine wpAnyH_ready (rs := [8]) (by as_aux_lemma => kernel_rfl) (by simp) ?_
          refine AllReadyH.cons (o := ({ dst := some 3, op := .alloc 32, type := 0, pos := "law.go:21", after := aaw8_a8, guard := none } : Oper)) rfl (fun KK hK => ?_) AllReadyH.nil
          rw [if_pos (by rfl)]
          go_simp
          have hb := below1 w24 (.cells #[.int .i64 0, .int .i64 0] 32)
          have HA := HB.more [.int .i64 0, .int .i64 0] 32
          first | (have hne := Sp.lt2 HS) | skip
          obtain ⟨ga, hG⟩ : ∃ g, g = w24.heap.size := ⟨_, rfl⟩
          rw [← hG] at HA ⊢
          try rw [← hG] at hne
          clear hG
          obtain ⟨w25, hX⟩ : ∃ x, x = w24.alloc (.cells #[.int .i64 0, .int .i64 0] 32) := ⟨_, rfl⟩
          replace HA : Sp w [(w.heap.size, (rc R).map some), (ga, [some (.int .i64 0), some (.int .i64 0)])] w25 := hX ▸ HA
          rw [← hX] at hb ⊢
          clear hX
          refine hK.out _ _ ?_ (fun hHeld => ?_)
          · exact kS _ _ HB hb
          replace HB := hHeld; clear hHeld hK KK
          replace CM := CM.keep hb
          replace HS := HS.keep hb
          clear hb
          try simp only [Act.put, List.setIfInBounds_toArray, List.set_cons_zero, List.set_cons_succ]
          refine wpAnyH_ready (rs := [10]) (by as_aux_lemma => kernel_rfl) (by simp) ?_
          refine AllReadyH.cons (o := ({ dst := none, op := .store 32 (.tmp 3) (.tmp 24), type := 0, pos := "law.go:21", after := aaw8_a10, guard := none } : Oper)) rfl (fun KK hK => ?_) AllReadyH.nil
          rw [if_pos (by rfl)]
          have hne2 : ga ≠ gs := by (have h1 := hne; clear hne; (try dsimp only at h1); omega)
          have HC := Sp.join HA HS hne2
          clear HA HS hne hne2
          refine put_span (g := ga) (u := aL) (v := aH) rfl rfl rfl (HC.free_row 1 rfl (n := 2) rfl) ?_
          have N1 := (HC.put 1 rfl 0 (.int .i64 aL)).put 1 rfl 1 (.int .i64 aH)
          obtain ⟨w26, hX⟩ := setCell2_named w25 ga aL aH
          rw [← hX] at N1 ⊢
          have HN : Sp w [(w.heap.size, (rc R).map some)] w26 := N1.take 1
          clear hX HC
          refine hK.out _ _ ?_ (fun hHeld => ?_)
          · exact HN
          replace HB := hHeld; clear hHeld hK KK HN
          try simp only [Act.put]
          refine wpAnyH_ready (rs := [11]) (by as_aux_lemma => kernel_rfl) (by simp) ?_
          refine AllReadyH.cons (o := ({ dst := none, op := .store 32 (.tmp 4) (.tmp 25), type := 0, pos := "law.go:21", after := aaw8_a11, guard := none } : Oper)) rfl (fun KK hK => ?_) AllReadyH.nil
          rw [if_pos (by rfl)]
          refine put_span (g := gs) (u := sL) (v := sH) rfl rfl rfl (N1.free_row 2 rfl (n := 2) rfl) ?_
          have N2 := (N1.put 2 rfl 0 (.int .i64 sL)).put 2 rfl 1 (.int .i64 sH)
          obtain ⟨w27, hX⟩ := setCell2_named w26 gs sL sH
          rw [← hX] at N2 ⊢
          have HN : Sp w [(w.heap.size, (rc R).map some)] w27 := N2.take 1
          clear hX N1
          refine hK.out _ _ ?_ (fun hHeld => ?_)
          · exact HN
          replace HB := hHeld; clear hHeld hK KK HN
          try simp only [Act.put]
          refine wpAnyH_done (by as_aux_lemma => kernel_rfl) ?_ _
          refine NoPanic.normal ?_
          exact hQ _ _ _ _ _ _ _ _ _ _ _ N2
      · skip
        rw [if_pos (by rfl)]
        go_simp
        have hb := below1 w22 (.cells #[.int .i64 0, .int .i64 0] 32)
        have HA := HB.more [.int .i64 0, .int .i64 0] 32
        first | (have hne := Sp.lt2 HS) | skip
        obtain ⟨ga, hG⟩ : ∃ g, g = w22.heap.size := ⟨_, rfl⟩
        rw [← hG] at HA ⊢
        try rw [← hG] at hne
        clear hG
        obtain ⟨w23, hX⟩ : ∃ x, x = w22.alloc (.cells #[.int .i64 0, .int .i64 0] 32) := ⟨_, rfl⟩
        replace HA : Sp w [(w.heap.size, (rc R).map some), (ga, [some (.int .i64 0), some (.int .i64 0)])] w23 := hX ▸ HA
        rw [← hX] at hb ⊢
        clear hX
        refine hK.out _ _ ?_ (fun hHeld => ?_)
        · exact kS _ _ HB hb
        replace HB := hHeld; clear hHeld hK KK
        replace CM := CM.keep hb
        clear hb
        try simp only [Act.put, List.setIfInBounds_toArray, List.set_cons_zero, List.set_cons_succ]
        refine wpAnyH_ready (rs := [4, 9]) (by as_aux_lemma => kernel_rfl) (by simp) ?_
        refine AllReadyH.cons (o := ({ dst := some 23, op := .call { callee := .value (.func 16), args := #[.tmp 19, .tmp 22], argTypes := #[61, 63] }, type := 56, pos := "law.go:21", after := aaw8_a4, guard := none } : Oper)) rfl (fun KK hK => ?_) (AllReadyH.cons (o := ({ dst := some 4, op := .alloc 32, type := 0, pos := "law.go:21", after := aaw8_a9, guard := none } : Oper)) rfl (fun KK hK => ?_) AllReadyH.nil)
        · skip
          rw [if_pos (by rfl)]
          go_simp
          go_at_call 16; refine (BO.out _ _ HB.below CM).mono ?_; rintro e w24 ⟨rfl, hb⟩
          go_wp2_with fail
          refine hK.out _ _ ?_ (fun hHeld => ?_)
          · exact kS _ _ HB hb
          replace HB := hHeld; clear hHeld hK KK
          replace CM := CM.keep hb
          replace HA := HA.keep hb
          clear hb
          try simp only [Act.put, List.setIfInBounds_toArray, List.set_cons_zero, List.set_cons_succ]
          refine wpAnyH_take (i := 5) (oi := ({ dst := some 18, op := .move (.tmp 23), type := 56, pos := "law.go:21", after := aaw8_a5, guard := none } : Oper)) (v := ?vt1_6_) rfl aaw8_plain (by as_aux_lemma => kernel_rfl) (by as_aux_lemma => kernel_rfl) (fun _ _ _ h => h) (Or.inl ⟨by rfl, ?yt1_6_⟩) HB ?rt1_6_
          case yt1_6_ => (intro w hSw; (try dsimp only at hSw); go_simp; try with_reducible rfl)
          try simp only [Act.put, List.setIfInBounds_toArray, List.set_cons_zero, List.set_cons_succ]
          refine wpAnyH_take (i := 6) (oi := ({ dst := some 24, op := .extract (.tmp 18) 0, type := 32, pos := "law.go:21", after := aaw8_a6, guard := none } : Oper)) (v := ?vt1_7_) rfl aaw8_plain (by as_aux_lemma => kernel_rfl) (by as_aux_lemma => kernel_rfl) (fun _ _ _ h => h) (Or.inl ⟨by rfl, ?yt1_7_⟩) HB ?rt1_7_
          case yt1_7_ => (intro w hSw; (try dsimp only at hSw); go_simp; try with_reducible rfl)
          try simp only [Act.put, List.setIfInBounds_toArray, List.set_cons_zero, List.set_cons_succ]
          refine wpAnyH_take (i := 7) (oi := ({ dst := some 25, op := .extract (.tmp 18) 1, type := 32, pos := "law.go:21", after := aaw8_a7, guard := none } : Oper)) (v := ?vt1_8_) rfl aaw8_plain (by as_aux_lemma => kernel_rfl) (by as_aux_lemma => kernel_rfl) (fun _ _ _ h => h) (Or.inl ⟨by rfl, ?yt1_8_⟩) HB ?rt1_8_
          case yt1_8_ => (intro w hSw; (try dsimp only at hSw); go_simp; try with_reducible rfl)
          try simp only [Act.put, List.setIfInBounds_toArray, List.set_cons_zero, List.set_cons_succ]
          refine wpAnyH_ready (rs := [9]) (by as_aux_lemma => kernel_rfl) (by simp) ?_
          refine AllReadyH.cons (o := ({ dst := some 4, op := .alloc 32, type := 0, pos := "law.go:21", after := aaw8_a9, guard := none } : Oper)) rfl (fun KK hK => ?_) AllReadyH.nil
          rw [if_pos (by rfl)]
          go_simp
          have hb := below1 w24 (.cells #[.int .i64 0, .int .i64 0] 32)
          have HS := HB.more [.int .i64 0, .int .i64 0] 32
          first | (have hne := Sp.lt2 HA) | skip
          obtain ⟨gs, hG⟩ : ∃ g, g = w24.heap.size := ⟨_, rfl⟩
          rw [← hG] at HS ⊢
          try rw [← hG] at hne
          clear hG
          obtain ⟨w25, hX⟩ : ∃ x, x = w24.alloc (.cells #[.int .i64 0, .int .i64 0] 32) := ⟨_, rfl⟩
          replace HS : Sp w [(w.heap.size, (rc R).map some), (gs, [some (.int .i64 0), some (.int .i64 0)])] w25 := hX ▸ HS
          rw [← hX] at hb ⊢
          clear hX
          refine hK.out _ _ ?_ (fun hHeld => ?_)
          · exact kS _ _ HB hb
          replace HB := hHeld; clear hHeld hK KK
          replace CM := CM.keep hb
          replace HA := HA.keep hb
          clear hb
          try simp only [Act.put, List.setIfInBounds_toArray, List.set_cons_zero, List.set_cons_succ]
          refine wpAnyH_ready (rs := [10]) (by as_aux_lemma => kernel_rfl) (by simp) ?_
          refine AllReadyH.cons (o := ({ dst := none, op := .store 32 (.tmp 3) (.tmp 24), type := 0, pos := "law.go:21", after := aaw8_a10, guard := none } : Oper)) rfl (fun KK hK => ?_) AllReadyH.nil
          rw [if_pos (by rfl)]
          have hne2 : ga ≠ gs := by (have h1 := hne; clear hne; (try dsimp only at h1); omega)
          have HC := Sp.join HA HS hne2
          clear HA HS hne hne2
          refine put_span (g := ga) (u := aL) (v := aH) rfl rfl rfl (HC.free_row 1 rfl (n := 2) rfl) ?_
          have N1 := (HC.put 1 rfl 0 (.int .i64 aL)).put 1 rfl 1 (.int .i64 aH)
          obtain ⟨w26, hX⟩ := setCell2_named w25 ga aL aH
          rw [← hX] at N1 ⊢
          have HN : Sp w [(w.heap.size, (rc R).map some)] w26 := N1.take 1
          clear hX HC
          refine hK.out _ _ ?_ (fun hHeld => ?_)
          · exact HN
          replace HB := hHeld; clear hHeld hK KK HN
          try simp only [Act.put]
          refine wpAnyH_ready (rs := [11]) (by as_aux_lemma => kernel_rfl) (by simp) ?_
          refine AllReadyH.cons (o := ({ dst := none, op := .store 32 (.tmp 4) (.tmp 25), type := 0, pos := "law.go:21", after := aaw8_a11, guard := none } : Oper)) rfl (fun KK hK => ?_) AllReadyH.nil
          rw [if_pos (by rfl)]
          refine put_span (g := gs) (u := sL) (v := sH) rfl rfl rfl (N1.free_row 2 rfl (n := 2) rfl) ?_
          have N2 := (N1.put 2 rfl 0 (.int .i64 sL)).put 2 rfl 1 (.int .i64 sH)
          obtain ⟨w27, hX⟩ := setCell2_named w26 gs sL sH
          rw [← hX] at N2 ⊢
          have HN : Sp w [(w.heap.size, (rc R).map some)] w27 := N2.take 1
          clear hX N1
          refine hK.out _ _ ?_ (fun hHeld => ?_)
          · exact HN
          replace HB := hHeld; clear hHeld hK KK HN
          try simp only [Act.put]
          refine wpAnyH_done (by as_aux_lemma => kernel_rfl) ?_ _
          refine NoPanic.normal ?_
          exact hQ _ _ _ _ _ _ _ _ _ _ _ N2
        · skip
          rw [if_pos (by rfl)]
          go_simp
          have hb := below1 w23 (.cells #[.int .i64 0, .int .i64 0] 32)
          have HS := HB.more [.int .i64 0, .int .i64 0] 32
          first | (have hne := Sp.lt2 HA) | skip
          obtain ⟨gs, hG⟩ : ∃ g, g = w23.heap.size := ⟨_, rfl⟩
          rw [← hG] at HS ⊢
          try rw [← hG] at hne
          clear hG
          obtain ⟨w24, hX⟩ : ∃ x, x = w23.alloc (.cells #[.int .i64 0, .int .i64 0] 32) := ⟨_, rfl⟩
          replace HS : Sp w [(w.heap.size, (rc R).map some), (gs, [some (.int .i64 0), some (.int .i64 0)])] w24 := hX ▸ HS
          rw [← hX] at hb ⊢
          clear hX
          refine hK.out _ _ ?_ (fun hHeld => ?_)
          · exact kS _ _ HB hb
          replace HB := hHeld; clear hHeld hK KK
          replace CM := CM.keep hb
          replace HA := HA.keep hb
          clear hb
          try simp only [Act.put, List.setIfInBounds_toArray, List.set_cons_zero, List.set_cons_succ]
          refine wpAnyH_ready (rs := [4]) (by as_aux_lemma => kernel_rfl) (by simp) ?_
          refine AllReadyH.cons (o := ({ dst := some 23, op := .call { callee := .value (.func 16), args := #[.tmp 19, .tmp 22], argTypes := #[61, 63] }, type := 56, pos := "law.go:21", after := aaw8_a4, guard := none } : Oper)) rfl (fun KK hK => ?_) AllReadyH.nil
          rw [if_pos (by rfl)]
          go_simp
          go_at_call 16; refine (BO.out _ _ HB.below CM).mono ?_; rintro e w25 ⟨rfl, hb⟩
          go_wp2_with fail
          refine hK.out _ _ ?_ (fun hHeld => ?_)
          · exact kS _ _ HB hb
          replace HB := hHeld; clear hHeld hK KK
          replace CM := CM.keep hb
          replace HA := HA.keep hb
          replace HS := HS.keep hb
          clear hb
          try simp only [Act.put, List.setIfInBounds_toArray, List.set_cons_zero, List.set_cons_succ]
          refine wpAnyH_take (i := 5) (oi := ({ dst := some 18, op := .move (.tmp 23), type := 56, pos := "law.go:21", after := aaw8_a5, guard := none } : Oper)) (v := ?vt1_9_) rfl aaw8_plain (by as_aux_lemma => kernel_rfl) (by as_aux_lemma => kernel_rfl) (fun _ _ _ h => h) (Or.inl ⟨by rfl, ?yt1_9_⟩) HB ?rt1_9_
          case yt1_9_ => (intro w hSw; (try dsimp only at hSw); go_simp; try with_reducible rfl)
          try simp only [Act.put, List.setIfInBounds_toArray, List.set_cons_zero, List.set_cons_succ]
          refine wpAnyH_take (i := 6) (oi := ({ dst := some 24, op := .extract (.tmp 18) 0, type := 32, pos := "law.go:21", after := aaw8_a6, guard := none } : Oper)) (v := ?vt1_10_) rfl aaw8_plain (by as_aux_lemma => kernel_rfl) (by as_aux_lemma => kernel_rfl) (fun _ _ _ h => h) (Or.inl ⟨by rfl, ?yt1_10_⟩) HB ?rt1_10_
          case yt1_10_ => (intro w hSw; (try dsimp only at hSw); go_simp; try with_reducible rfl)
          try simp only [Act.put, List.setIfInBounds_toArray, List.set_cons_zero, List.set_cons_succ]
          refine wpAnyH_take (i := 7) (oi := ({ dst := some 25, op := .extract (.tmp 18) 1, type := 32, pos := "law.go:21", after := aaw8_a7, guard := none } : Oper)) (v := ?vt1_11_) rfl aaw8_plain (by as_aux_lemma => kernel_rfl) (by as_aux_lemma => kernel_rfl) (fun _ _ _ h => h) (Or.inl ⟨by rfl, ?yt1_11_⟩) HB ?rt1_11_
          case yt1_11_ => (intro w hSw; (try dsimp only at hSw); go_simp; try with_reducible rfl)
          try simp only [Act.put, List.setIfInBounds_toArray, List.set_cons_zero, List.set_cons_succ]
          refine wpAnyH_ready (rs := [10]) (by as_aux_lemma => kernel_rfl) (by simp) ?_
          refine AllReadyH.cons (o := ({ dst := none, op := .store 32 (.tmp 3) (.tmp 24), type := 0, pos := "law.go:21", after := aaw8_a10, guard := none } : Oper)) rfl (fun KK hK => ?_) AllReadyH.nil
          rw [if_pos (by rfl)]
          have hne2 : ga ≠ gs := by (have h1 := hne; clear hne; (try dsimp only at h1); omega)
          have HC := Sp.join HA HS hne2
          clear HA HS hne hne2
          refine put_span (g := ga) (u := aL) (v := aH) rfl rfl rfl (HC.free_row 1 rfl (n := 2) rfl) ?_
          have N1 := (HC.put 1 rfl 0 (.int .i64 aL)).put 1 rfl 1 (.int .i64 aH)
          obtain ⟨w26, hX⟩ := setCell2_named w25 ga aL aH
          rw [← hX] at N1 ⊢
          have HN : Sp w [(w.heap.size, (rc R).map some)] w26 := N1.take 1
          clear hX HC
          refine hK.out _ _ ?_ (fun hHeld => ?_)
          · exact HN
          replace HB := hHeld; clear hHeld hK KK HN
          try simp only [Act.put]
          refine wpAnyH_ready (rs := [11]) (by as_aux_lemma => kernel_rfl) (by simp) ?_
          refine AllReadyH.cons (o := ({ dst := none, op := .store 32 (.tmp 4) (.tmp 25), type := 0, pos := "law.go:21", after := aaw8_a11, guard := none } : Oper)) rfl (fun KK hK => ?_) AllReadyH.nil
          rw [if_pos (by rfl)]
          refine put_span (g := gs) (u := sL) (v := sH) rfl rfl rfl (N1.free_row 2 rfl (n := 2) rfl) ?_
          have N2 := (N1.put 2 rfl 0 (.int .i64 sL)).put 2 rfl 1 (.int .i64 sH)
          obtain ⟨w27, hX⟩ := setCell2_named w26 gs sL sH
          rw [← hX] at N2 ⊢
          have HN : Sp w [(w.heap.size, (rc R).map some)] w27 := N2.take 1
          clear hX N1
          refine hK.out _ _ ?_ (fun hHeld => ?_)
          · exact HN
          replace HB := hHeld; clear hHeld hK KK HN
          try simp only [Act.put]
          refine wpAnyH_done (by as_aux_lemma => kernel_rfl) ?_ _
          refine NoPanic.normal ?_
          exact hQ _ _ _ _ _ _ _ _ _ _ _ N2
      · skip
        rw [if_pos (by rfl)]
        go_simp
        have hb := below1 w22 (.cells #[.int .i64 0, .int .i64 0] 32)
        have HS := HB.more [.int .i64 0, .int .i64 0] 32
        first | (have hne := Sp.lt2 HA) | skip
        obtain ⟨gs, hG⟩ : ∃ g, g = w22.heap.size := ⟨_, rfl⟩
        rw [← hG] at HS ⊢
        try rw [← hG] at hne
        clear hG
        obtain ⟨w23, hX⟩ : ∃ x, x = w22.alloc (.cells #[.int .i64 0, .int .i64 0] 32) := ⟨_, rfl⟩
        replace HS : Sp w [(w.heap.size, (rc R).map some), (gs, [some (.int .i64 0), some (.int .i64 0)])] w23 := hX ▸ HS
        rw [← hX] at hb ⊢
        clear hX
        refine hK.out _ _ ?_ (fun hHeld => ?_)
        · exact kS _ _ HB hb
        replace HB := hHeld; clear hHeld hK KK
        replace CM := CM.keep hb
        clear hb
        try simp only [Act.put, List.setIfInBounds_toArray, List.set_cons_zero, List.set_cons_succ]
        refine wpAnyH_ready (rs := [4, 8]) (by as_aux_lemma => kernel_rfl) (by simp) ?_
        refine AllReadyH.cons (o := ({ dst := some 23, op := .call { callee := .value (.func 16), args := #[.tmp 19, .tmp 22], argTypes := #[61, 63] }, type := 56, pos := "law.go:21", after := aaw8_a4, guard := none } : Oper)) rfl (fun KK hK => ?_) (AllReadyH.cons (o := ({ dst := some 3, op := .alloc 32, type := 0, pos := "law.go:21", after := aaw8_a8, guard := none } : Oper)) rfl (fun KK hK => ?_) AllReadyH.nil)
        · skip
          rw [if_pos (by rfl)]
          go_simp
          go_at_call 16; refine (BO.out _ _ HB.below CM).mono ?_; rintro e w24 ⟨rfl, hb⟩
          go_wp2_with fail
          refine hK.out _ _ ?_ (fun hHeld => ?_)
          · exact kS _ _ HB hb
          replace HB := hHeld; clear hHeld hK KK
          replace CM := CM.keep hb
          replace HS := HS.keep hb
          clear hb
          try simp only [Act.put, List.setIfInBounds_toArray, List.set_cons_zero, List.set_cons_succ]
          refine wpAnyH_take (i := 5) (oi := ({ dst := some 18, op := .move (.tmp 23), type := 56, pos := "law.go:21", after := aaw8_a5, guard := none } : Oper)) (v := ?vt1_12_) rfl aaw8_plain (by as_aux_lemma => kernel_rfl) (by as_aux_lemma => kernel_rfl) (fun _ _ _ h => h) (Or.inl ⟨by rfl, ?yt1_12_⟩) HB ?rt1_12_
          case yt1_12_ => (intro w hSw; (try dsimp only at hSw); go_simp; try with_reducible rfl)
          try simp only [Act.put, List.setIfInBounds_toArray, List.set_cons_zero, List.set_cons_succ]
          refine wpAnyH_take (i := 6) (oi := ({ dst := some 24, op := .extract (.tmp 18) 0, type := 32, pos := "law.go:21", after := aaw8_a6, guard := none } : Oper)) (v := ?vt1_13_) rfl aaw8_plain (by as_aux_lemma => kernel_rfl) (by as_aux_lemma => kernel_rfl) (fun _ _ _ h => h) (Or.inl ⟨by rfl, ?yt1_13_⟩) HB ?rt1_13_
          case yt1_13_ => (intro w hSw; (try dsimp only at hSw); go_simp; try with_reducible rfl)
          try simp only [Act.put, List.setIfInBounds_toArray, List.set_cons_zero, List.set_cons_succ]
          refine wpAnyH_take (i := 7) (oi := ({ dst := some 25, op := .extract (.tmp 18) 1, type := 32, pos := "law.go:21", after := aaw8_a7, guard := none } : Oper)) (v := ?vt1_14_) rfl aaw8_plain (by as_aux_lemma => kernel_rfl) (by as_aux_lemma => kernel_rfl) (fun _ _ _ h => h) (Or.inl ⟨by rfl, ?yt1_14_⟩) HB ?rt1_14_
          case yt1_14_ => (intro w hSw; (try dsimp only at hSw); go_simp; try with_reducible rfl)
          try simp only [Act.put, List.setIfInBounds_toArray, List.set_cons_zero, List.set_cons_succ]
          refine wpAnyH_ready (rs := [8]) (by as_aux_lemma => kernel_rfl) (by simp) ?_
          refine AllReadyH.cons (o := ({ dst := some 3, op := .alloc 32, type := 0, pos := "law.go:21", after := aaw8_a8, guard := none } : Oper)) rfl (fun KK hK => ?_) AllReadyH.nil
          rw [if_pos (by rfl)]
          go_simp
          have hb := below1 w24 (.cells #[.int .i64 0, .int .i64 0] 32)
          have HA := HB.more [.int .i64 0, .int .i64 0] 32
          first | (have hne := Sp.lt2 HS) | skip
          obtain ⟨ga, hG⟩ : ∃ g, g = w24.heap.size := ⟨_, rfl⟩
          rw [← hG] at HA ⊢
          try rw [← hG] at hne
          clear hG
          obtain ⟨w25, hX⟩ : ∃ x, x = w24.alloc (.cells #[.int .i64 0, .int .i64 0] 32) := ⟨_, rfl⟩
          replace HA : Sp w [(w.heap.size, (rc R).map some), (ga, [some (.int .i64 0), some (.int .i64 0)])] w25 := hX ▸ HA
          rw [← hX] at hb ⊢
          clear hX
          refine hK.out _ _ ?_ (fun hHeld => ?_)
          · exact kS _ _ HB hb
          replace HB := hHeld; clear hHeld hK KK
          replace CM := CM.keep hb
          replace HS := HS.keep hb
          clear hb
          try simp only [Act.put, List.setIfInBounds_toArray, List.set_cons_zero, List.set_cons_succ]
          refine wpAnyH_ready (rs := [10]) (by as_aux_lemma => kernel_rfl) (by simp) ?_
          refine AllReadyH.cons (o := ({ dst := none, op := .store 32 (.tmp 3) (.tmp 24), type := 0, pos := "law.go:21", after := aaw8_a10, guard := none } : Oper)) rfl (fun KK hK => ?_) AllReadyH.nil
          rw [if_pos (by rfl)]
          have hne2 : ga ≠ gs := by (have h1 := hne; clear hne; (try dsimp only at h1); omega)
          have HC := Sp.join HA HS hne2
          clear HA HS hne hne2
          refine put_span (g := ga) (u := aL) (v := aH) rfl rfl rfl (HC.free_row 1 rfl (n := 2) rfl) ?_
          have N1 := (HC.put 1 rfl 0 (.int .i64 aL)).put 1 rfl 1 (.int .i64 aH)
          obtain ⟨w26, hX⟩ := setCell2_named w25 ga aL aH
          rw [← hX] at N1 ⊢
          have HN : Sp w [(w.heap.size, (rc R).map some)] w26 := N1.take 1
          clear hX HC
          refine hK.out _ _ ?_ (fun hHeld => ?_)
          · exact HN
          replace HB := hHeld; clear hHeld hK KK HN
          try simp only [Act.put]
          refine wpAnyH_ready (rs := [11]) (by as_aux_lemma => kernel_rfl) (by simp) ?_
          refine AllReadyH.cons (o := ({ dst := none, op := .store 32 (.tmp 4) (.tmp 25), type := 0, pos := "law.go:21", after := aaw8_a11, guard := none } : Oper)) rfl (fun KK hK => ?_) AllReadyH.nil
          rw [if_pos (by rfl)]
          refine put_span (g := gs) (u := sL) (v := sH) rfl rfl rfl (N1.free_row 2 rfl (n := 2) rfl) ?_
          have N2 := (N1.put 2 rfl 0 (.int .i64 sL)).put 2 rfl 1 (.int .i64 sH)
          obtain ⟨w27, hX⟩ := setCell2_named w26 gs sL sH
          rw [← hX] at N2 ⊢
          have HN : Sp w [(w.heap.size, (rc R).map some)] w27 := N2.take 1
          clear hX N1
          refine hK.out _ _ ?_ (fun hHeld => ?_)
          · exact HN
          replace HB := hHeld; clear hHeld hK KK HN
          try simp only [Act.put]
          refine wpAnyH_done (by as_aux_lemma => kernel_rfl) ?_ _
          refine NoPanic.normal ?_
          exact hQ _ _ _ _ _ _ _ _ _ _ _ N2
        · skip
          rw [if_pos (by rfl)]
          go_simp
          have hb := below1 w23 (.cells #[.int .i64 0, .int .i64 0] 32)
          have HA := HB.more [.int .i64 0, .int .i64 0] 32
          first | (have hne := Sp.lt2 HS) | skip
          obtain ⟨ga, hG⟩ : ∃ g, g = w23.heap.size := ⟨_, rfl⟩
          rw [← hG] at HA ⊢
          try rw [← hG] at hne
          clear hG
          obtain ⟨w24, hX⟩ : ∃ x, x = w23.alloc (.cells #[.int .i64 0, .int .i64 0] 32) := ⟨_, rfl⟩
          replace HA : Sp w [(w.heap.size, (rc R).map some), (ga, [some (.int .i64 0), some (.int .i64 0)])] w24 := hX ▸ HA
          rw [← hX] at hb ⊢
          clear hX
          refine hK.out _ _ ?_ (fun hHeld => ?_)
          · exact kS _ _ HB hb
          replace HB := hHeld; clear hHeld hK KK
          replace CM := CM.keep hb
          replace HS := HS.keep hb
          clear hb
          try simp only [Act.put, List.setIfInBounds_toArray, List.set_cons_zero, List.set_cons_succ]
          refine wpAnyH_ready (rs := [4]) (by as_aux_lemma => kernel_rfl) (by simp) ?_
          refine AllReadyH.cons (o := ({ dst := some 23, op := .call { callee := .value (.func 16), args := #[.tmp 19, .tmp 22], argTypes := #[61, 63] }, type := 56, pos := "law.go:21", after := aaw8_a4, guard := none } : Oper)) rfl (fun KK hK => ?_) AllReadyH.nil
          rw [if_pos (by rfl)]
          go_simp
          go_at_call 16; refine (BO.out _ _ HB.below CM).mono ?_; rintro e w25 ⟨rfl, hb⟩
          go_wp2_with fail
          refine hK.out _ _ ?_ (fun hHeld => ?_)
          · exact kS _ _ HB hb
          replace HB := hHeld; clear hHeld hK KK
          replace CM := CM.keep hb
          replace HS := HS.keep hb
          replace HA := HA.keep hb
          clear hb
          try simp only [Act.put, List.setIfInBounds_toArray, List.set_cons_zero, List.set_cons_succ]
          refine wpAnyH_take (i := 5) (oi := ({ dst := some 18, op := .move (.tmp 23), type := 56, pos := "law.go:21", after := aaw8_a5, guard := none } : Oper)) (v := ?vt1_15_) rfl aaw8_plain (by as_aux_lemma => kernel_rfl) (by as_aux_lemma => kernel_rfl) (fun _ _ _ h => h) (Or.inl ⟨by rfl, ?yt1_15_⟩) HB ?rt1_15_
          case yt1_15_ => (intro w hSw; (try dsimp only at hSw); go_simp; try with_reducible rfl)
          try simp only [Act.put, List.setIfInBounds_toArray, List.set_cons_zero, List.set_cons_succ]
          refine wpAnyH_take (i := 6) (oi := ({ dst := some 24, op := .extract (.tmp 18) 0, type := 32, pos := "law.go:21", after := aaw8_a6, guard := none } : Oper)) (v := ?vt1_16_) rfl aaw8_plain (by as_aux_lemma => kernel_rfl) (by as_aux_lemma => kernel_rfl) (fun _ _ _ h => h) (Or.inl ⟨by rfl, ?yt1_16_⟩) HB ?rt1_16_
          case yt1_16_ => (intro w hSw; (try dsimp only at hSw); go_simp; try with_reducible rfl)
          try simp only [Act.put, List.setIfInBounds_toArray, List.set_cons_zero, List.set_cons_succ]
          refine wpAnyH_take (i := 7) (oi := ({ dst := some 25, op := .extract (.tmp 18) 1, type := 32, pos := "law.go:21", after := aaw8_a7, guard := none } : Oper)) (v := ?vt1_17_) rfl aaw8_plain (by as_aux_lemma => kernel_rfl) (by as_aux_lemma => kernel_rfl) (fun _ _ _ h => h) (Or.inl ⟨by rfl, ?yt1_17_⟩) HB ?rt1_17_
          case yt1_17_ => (intro w hSw; (try dsimp only at hSw); go_simp; try with_reducible rfl)
          try simp only [Act.put, List.setIfInBounds_toArray, List.set_cons_zero, List.set_cons_succ]
          refine wpAnyH_ready (rs := [10]) (by as_aux_lemma => kernel_rfl) (by simp) ?_
          refine AllReadyH.cons (o := ({ dst := none, op := .store 32 (.tmp 3) (.tmp 24), type := 0, pos := "law.go:21", after := aaw8_a10, guard := none } : Oper)) rfl (fun KK hK => ?_) AllReadyH.nil
          rw [if_pos (by rfl)]
          have hne2 : ga ≠ gs := by (have h1 := hne; clear hne; (try dsimp only at h1); omega)
          have HC := Sp.join HA HS hne2
          clear HA HS hne hne2
          refine put_span (g := ga) (u := aL) (v := aH) rfl rfl rfl (HC.free_row 1 rfl (n := 2) rfl) ?_
          have N1 := (HC.put 1 rfl 0 (.int .i64 aL)).put 1 rfl 1 (.int .i64 aH)
          obtain ⟨w26, hX⟩ := setCell2_named w25 ga aL aH
          rw [← hX] at N1 ⊢
          have HN : Sp w [(w.heap.size, (rc R).map some)] w26 := N1.take 1
          clear hX HC
          refine hK.out _ _ ?_ (fun hHeld => ?_)
          · exact HN
          replace HB := hHeld; clear hHeld hK KK HN
          try simp only [Act.put]
          refine wpAnyH_ready (rs := [11]) (by as_aux_lemma => kernel_rfl) (by simp) ?_
          refine AllReadyH.cons (o := ({ dst := none, op := .store 32 (.tmp 4) (.tmp 25), type := 0, pos := "law.go:21", after := aaw8_a11, guard := none } : Oper)) rfl (fun KK hK => ?_) AllReadyH.nil
          rw [if_pos (by rfl)]
          refine put_span (g := gs) (u := sL) (v := sH) rfl rfl rfl (N1.free_row 2 rfl (n := 2) rfl) ?_
          have N2 := (N1.put 2 rfl 0 (.int .i64 sL)).put 2 rfl 1 (.int .i64 sH)
          obtain ⟨w27, hX⟩ := setCell2_named w26 gs sL sH
          rw [← hX] at N2 ⊢
          have HN : Sp w [(w.heap.size, (rc R).map some)] w27 := N2.take 1
          clear hX N1
          refine hK.out _ _ ?_ (fun hHeld => ?_)
          · exact HN
          replace HB := hHeld; clear hHeld hK KK HN
          try simp only [Act.put]
          refine wpAnyH_done (by as_aux_lemma => kernel_rfl) ?_ _
          refine NoPanic.normal ?_
          exact hQ _ _ _ _ _ _ _ _ _ _ _ N2
    · skip
      rw [if_pos (by rfl)]
      go_simp
      have hb := below1 w21 (.cells #[.int .i64 0, .int .i64 0] 32)
      have HA := HB.more [.int .i64 0, .int .i64 0] 32
      first | (have hne := Sp.lt2 HS) | skip
      obtain ⟨ga, hG⟩ : ∃ g, g = w21.heap.size := ⟨_, rfl⟩
      rw [← hG] at HA ⊢
      try rw [← hG] at hne
      clear hG
      obtain ⟨w22, hX⟩ : ∃ x, x = w21.alloc (.cells #[.int .i64 0, .int .i64 0] 32) := ⟨_, rfl⟩
      replace HA : Sp w [(w.heap.size, (rc R).map some), (ga, [some (.int .i64 0), some (.int .i64 0)])] w22 := hX ▸ HA
      rw [← hX] at hb ⊢
      clear hX
      refine hK.out _ _ ?_ (fun hHeld => ?_)
      · exact kS _ _ HB hb
      replace HB := hHeld; clear hHeld hK KK
      clear hb
      try simp only [Act.put, List.setIfInBounds_toArray, List.set_cons_zero, List.set_cons_succ]
      refine wpAnyH_ready (rs := [3, 9]) (by as_aux_lemma => kernel_rfl) (by simp) ?_
      refine AllReadyH.cons (o := ({ dst := some 22, op := .buildSlice 63 2 #[(0, .tmp 20), (1, .tmp 21)], type := 63, pos := "law.go:21", after := aaw8_a3, guard := none } : Oper)) rfl (fun KK hK => ?_) (AllReadyH.cons (o := ({ dst := some 4, op := .alloc 32, type := 0, pos := "law.go:21", after := aaw8_a9, guard := none } : Oper)) rfl (fun KK hK => ?_) AllReadyH.nil)
      · skip
        rw [if_pos (by rfl)]
        refine oper_build2 (R := R) rfl rfl rfl ?_
        have CM := came_two w22 R
        have hb := below1 w22 (.cells (rc R ++ rc R).toArray 55)
        obtain ⟨gr, hG⟩ : ∃ g, g = w22.heap.size := ⟨_, rfl⟩
        rw [← hG] at CM ⊢
        clear hG
        obtain ⟨w23, hX⟩ : ∃ x, x = w22.alloc (.cells (rc R ++ rc R).toArray 55) := ⟨_, rfl⟩
        rw [← hX] at CM hb ⊢
        clear hX
        refine hK.out _ _ ?_ (fun hHeld => ?_)
        · exact kS _ _ HB hb
        replace HB := hHeld; clear hHeld hK KK
        replace HA := HA.keep hb
        clear hb
        try simp only [Act.put, List.setIfInBounds_toArray, List.set_cons_zero, List.set_cons_succ]
        refine wpAnyH_ready (rs := [4, 9]) (by as_aux_lemma => kernel_rfl) (by simp) ?_
        refine AllReadyH.cons (o := ({ dst := some 23, op := .call { callee := .value (.func 16), args := #[.tmp 19, .tmp 22], argTypes := #[61, 63] }, type := 56, pos := "law.go:21", after := aaw8_a4, guard := none } : Oper)) rfl (fun KK hK => ?_) (AllReadyH.cons (o := ({ dst := some 4, op := .alloc 32, type := 0, pos := "law.go:21", after := aaw8_a9, guard := none } : Oper)) rfl (fun KK hK => ?_) AllReadyH.nil)
        · skip
          rw [if_pos (by rfl)]
          go_simp
          go_at_call 16; refine (BO.out _ _ HB.below CM).mono ?_; rintro e w24 ⟨rfl, hb⟩
          go_wp2_with fail
          refine hK.out _ _ ?_ (fun hHeld => ?_)
          · exact kS _ _ HB hb
          replace HB := hHeld; clear hHeld hK KK
          replace HA := HA.keep hb
          replace CM := CM.keep hb
          clear hb
          try simp only [Act.put, List.setIfInBounds_toArray, List.set_cons_zero, List.set_cons_succ]
          refine wpAnyH_take (i := 5) (oi := ({ dst := some 18, op := .move (.tmp 23), type := 56, pos := "law.go:21", after := aaw8_a5, guard := none } : Oper)) (v := ?vt1_18_) rfl aaw8_plain (by as_aux_lemma => kernel_rfl) (by as_aux_lemma => kernel_rfl) (fun _ _ _ h => h) (Or.inl ⟨by rfl, ?yt1_18_⟩) HB ?rt1_18_
          case yt1_18_ => (intro w hSw; (try dsimp only at hSw); go_simp; try with_reducible rfl)
          try simp only [Act.put, List.setIfInBounds_toArray, List.set_cons_zero, List.set_cons_succ]
          refine wpAnyH_take (i := 6) (oi := ({ dst := some 24, op := .extract (.tmp 18) 0, type := 32, pos := "law.go:21", after := aaw8_a6, guard := none } : Oper)) (v := ?vt1_19_) rfl aaw8_plain (by as_aux_lemma => kernel_rfl) (by as_aux_lemma => kernel_rfl) (fun _ _ _ h => h) (Or.inl ⟨by rfl, ?yt1_19_⟩) HB ?rt1_19_
          case yt1_19_ => (intro w hSw; (try dsimp only at hSw); go_simp; try with_reducible rfl)
          try simp only [Act.put, List.setIfInBounds_toArray, List.set_cons_zero, List.set_cons_succ]
          refine wpAnyH_take (i := 7) (oi := ({ dst := some 25, op := .extract (.tmp 18) 1, type := 32, pos := "law.go:21", after := aaw8_a7, guard := none } : Oper)) (v := ?vt1_20_) rfl aaw8_plain (by as_aux_lemma => kernel_rfl) (by as_aux_lemma => kernel_rfl) (fun _ _ _ h => h) (Or.inl ⟨by rfl, ?yt1_20_⟩) HB ?rt1_20_
          case yt1_20_ => (intro w hSw; (try dsimp only at hSw); go_simp; try with_reducible rfl)
          try simp only [Act.put, List.setIfInBounds_toArray, List.set_cons_zero, List.set_cons_succ]
          refine wpAnyH_ready (rs := [9]) (by as_aux_lemma => kernel_rfl) (by simp) ?_
          refine AllReadyH.cons (o := ({ dst := some 4, op := .alloc 32, type := 0, pos := "law.go:21", after := aaw8_a9, guard := none } : Oper)) rfl (fun KK hK => ?_) AllReadyH.nil
          rw [if_pos (by rfl)]
          go_simp
          have hb := below1 w24 (.cells #[.int .i64 0, .int .i64 0] 32)
          have HS := HB.more [.int .i64 0, .int .i64 0] 32
          first | (have hne := Sp.lt2 HA) | skip
          obtain ⟨gs, hG⟩ : ∃ g, g = w24.heap.size := ⟨_, rfl⟩
          rw [← hG] at HS ⊢
          try rw [← hG] at hne
          clear hG
          obtain ⟨w25, hX⟩ : ∃ x, x = w24.alloc (.cells #[.int .i64 0, .int .i64 0] 32) := ⟨_, rfl⟩
          replace HS : Sp w [(w.heap.size, (rc R).map some), (gs, [some (.int .i64 0), some (.int .i64 0)])] w25 := hX ▸ HS
          rw [← hX] at hb ⊢
          clear hX
          refine hK.out _ _ ?_ (fun hHeld => ?_)
          · exact kS _ _ HB hb
          replace HB := hHeld; clear hHeld hK KK
          replace HA := HA.keep hb
          replace CM := CM.keep hb
          clear hb
          try simp only [Act.put, List.setIfInBounds_toArray, List.set_cons_zero, List.set_cons_succ]
          refine wpAnyH_ready (rs := [10]) (by as_aux_lemma => kernel_rfl) (by simp) ?_
          refine AllReadyH.cons (o := ({ dst := none, op := .store 32 (.tmp 3) (.tmp 24), type := 0, pos := "law.go:21", after := aaw8_a10, guard := none } : Oper)) rfl (fun KK hK => ?_) AllReadyH.nil
          rw [if_pos (by rfl)]
          have hne2 : ga ≠ gs := by (have h1 := hne; clear hne; (try dsimp only at h1); omega)
          have HC := Sp.join HA HS hne2
          clear HA HS hne hne2
          refine put_span (g := ga) (u := aL) (v := aH) rfl rfl rfl (HC.free_row 1 rfl (n := 2) rfl) ?_
          have N1 := (HC.put 1 rfl 0 (.int .i64 aL)).put 1 rfl 1 (.int .i64 aH)
          obtain ⟨w26, hX⟩ := setCell2_named w25 ga aL aH
          rw [← hX] at N1 ⊢
          have HN : Sp w [(w.heap.size, (rc R).map some)] w26 := N1.take 1
          clear hX HC
          refine hK.out _ _ ?_ (fun hHeld => ?_)
          · exact HN
          replace HB := hHeld; clear hHeld hK KK HN
          try simp only [Act.put]
          refine wpAnyH_ready (rs := [11]) (by as_aux_lemma => kernel_rfl) (by simp) ?_
          refine AllReadyH.cons (o := ({ dst := none, op := .store 32 (.tmp 4) (.tmp 25), type := 0, pos := "law.go:21", after := aaw8_a11, guard := none } : Oper)) rfl (fun KK hK => ?_) AllReadyH.nil
          rw [if_pos (by rfl)]
          refine put_span (g := gs) (u := sL) (v := sH) rfl rfl rfl (N1.free_row 2 rfl (n := 2) rfl) ?_
          have N2 := (N1.put 2 rfl 0 (.int .i64 sL)).put 2 rfl 1 (.int .i64 sH)
          obtain ⟨w27, hX⟩ := setCell2_named w26 gs sL sH
          rw [← hX] at N2 ⊢
          have HN : Sp w [(w.heap.size, (rc R).map some)] w27 := N2.take 1
          clear hX N1
          refine hK.out _ _ ?_ (fun hHeld => ?_)
          · exact HN
          replace HB := hHeld; clear hHeld hK KK HN
          try simp only [Act.put]
          refine wpAnyH_done (by as_aux_lemma => kernel_rfl) ?_ _
          refine NoPanic.normal ?_
          exact hQ _ _ _ _ _ _ _ _ _ _ _ N2
        · skip
          rw [if_pos (by rfl)]
          go_simp
          have hb := below1 w23 (.cells #[.int .i64 0, .int .i64 0] 32)
          have HS := HB.more [.int .i64 0, .int .i64 0] 32
          first | (have hne := Sp.lt2 HA) | skip
          obtain ⟨gs, hG⟩ : ∃ g, g = w23.heap.size := ⟨_, rfl⟩
          rw [← hG] at HS ⊢
          try rw [← hG] at hne
          clear hG
          obtain ⟨w24, hX⟩ : ∃ x, x = w23.alloc (.cells #[.int .i64 0, .int .i64 0] 32) := ⟨_, rfl⟩
          replace HS : Sp w [(w.heap.size, (rc R).map some), (gs, [some (.int .i64 0), some (.int .i64 0)])] w24 := hX ▸ HS
          rw [← hX] at hb ⊢
          clear hX
          refine hK.out _ _ ?_ (fun hHeld => ?_)
          · exact kS _ _ HB hb
          replace HB := hHeld; clear hHeld hK KK
          replace HA := HA.keep hb
          replace CM := CM.keep hb
          clear hb
          try simp only [Act.put, List.setIfInBounds_toArray, List.set_cons_zero, List.set_cons_succ]
          refine wpAnyH_ready (rs := [4]) (by as_aux_lemma => kernel_rfl) (by simp) ?_
          refine AllReadyH.cons (o := ({ dst := some 23, op := .call { callee := .value (.func 16), args := #[.tmp 19, .tmp 22], argTypes := #[61, 63] }, type := 56, pos := "law.go:21", after := aaw8_a4, guard := none } : Oper)) rfl (fun KK hK => ?_) AllReadyH.nil
          rw [if_pos (by rfl)]
          go_simp
          go_at_call 16; refine (BO.out _ _ HB.below CM).mono ?_; rintro e w25 ⟨rfl, hb⟩
          go_wp2_with fail
          refine hK.out _ _ ?_ (fun hHeld => ?_)
          · exact kS _ _ HB hb
          replace HB := hHeld; clear hHeld hK KK
          replace HA := HA.keep hb
          replace CM := CM.keep hb
          replace HS := HS.keep hb
          clear hb
          try simp only [Act.put, List.setIfInBounds_toArray, List.set_cons_zero, List.set_cons_succ]
          refine wpAnyH_take (i := 5) (oi := ({ dst := some 18, op := .move (.tmp 23), type := 56, pos := "law.go:21", after := aaw8_a5, guard := none } : Oper)) (v := ?vt1_21_) rfl aaw8_plain (by as_aux_lemma => kernel_rfl) (by as_aux_lemma => kernel_rfl) (fun _ _ _ h => h) (Or.inl ⟨by rfl, ?yt1_21_⟩) HB ?rt1_21_
          case yt1_21_ => (intro w hSw; (try dsimp only at hSw); go_simp; try with_reducible rfl)
          try simp only [Act.put, List.setIfInBounds_toArray, List.set_cons_zero, List.set_cons_succ]
          refine wpAnyH_take (i := 6) (oi := ({ dst := some 24, op := .extract (.tmp 18) 0, type := 32, pos := "law.go:21", after := aaw8_a6, guard := none } : Oper)) (v := ?vt1_22_) rfl aaw8_plain (by as_aux_lemma => kernel_rfl) (by as_aux_lemma => kernel_rfl) (fun _ _ _ h => h) (Or.inl ⟨by rfl, ?yt1_22_⟩) HB ?rt1_22_
          case yt1_22_ => (intro w hSw; (try dsimp only at hSw); go_simp; try with_reducible rfl)
          try simp only [Act.put, List.setIfInBounds_toArray, List.set_cons_zero, List.set_cons_succ]
          refine wpAnyH_take (i := 7) (oi := ({ dst := some 25, op := .extract (.tmp 18) 1, type := 32, pos := "law.go:21", after := aaw8_a7, guard := none } : Oper)) (v := ?vt1_23_) rfl aaw8_plain (by as_aux_lemma => kernel_rfl) (by as_aux_lemma => kernel_rfl) (fun _ _ _ h => h) (Or.inl ⟨by rfl, ?yt1_23_⟩) HB ?rt1_23_
          case yt1_23_ => (intro w hSw; (try dsimp only at hSw); go_simp; try with_reducible rfl)
          try simp only [Act.put, List.setIfInBounds_toArray, List.set_cons_zero, List.set_cons_succ]
          refine wpAnyH_ready (rs := [10]) (by as_aux_lemma => kernel_rfl) (by simp) ?_
          refine AllReadyH.cons (o := ({ dst := none, op := .store 32 (.tmp 3) (.tmp 24), type := 0, pos := "law.go:21", after := aaw8_a10, guard := none } : Oper)) rfl (fun KK hK => ?_) AllReadyH.nil
          rw [if_pos (by rfl)]
          have hne2 : ga ≠ gs := by (have h1 := hne; clear hne; (try dsimp only at h1); omega)
          have HC := Sp.join HA HS hne2
          clear HA HS hne hne2
          refine put_span (g := ga) (u := aL) (v := aH) rfl rfl rfl (HC.free_row 1 rfl (n := 2) rfl) ?_
          have N1 := (HC.put 1 rfl 0 (.int .i64 aL)).put 1 rfl 1 (.int .i64 aH)
          obtain ⟨w26, hX⟩ := setCell2_named w25 ga aL aH
          rw [← hX] at N1 ⊢
          have HN : Sp w [(w.heap.size, (rc R).map some)] w26 := N1.take 1
          clear hX HC
          refine hK.out _ _ ?_ (fun hHeld => ?_)
          · exact HN
          replace HB := hHeld; clear hHeld hK KK HN
          try simp only [Act.put]
          refine wpAnyH_ready (rs := [11]) (by as_aux_lemma => kernel_rfl) (by simp) ?_
          refine AllReadyH.cons (o := ({ dst := none, op := .store 32 (.tmp 4) (.tmp 25), type := 0, pos := "law.go:21", after := aaw8_a11, guard := none } : Oper)) rfl (fun KK hK => ?_) AllReadyH.nil
          rw [if_pos (by rfl)]
          refine put_span (g := gs) (u := sL) (v := sH) rfl rfl rfl (N1.free_row 2 rfl (n := 2) rfl) ?_
          have N2 := (N1.put 2 rfl 0 (.int .i64 sL)).put 2 rfl 1 (.int .i64 sH)
          obtain ⟨w27, hX⟩ := setCell2_named w26 gs sL sH
          rw [← hX] at N2 ⊢
          have HN : Sp w [(w.heap.size, (rc R).map some)] w27 := N2.take 1
          clear hX N1
          refine hK.out _ _ ?_ (fun hHeld => ?_)
          · exact HN
          replace HB := hHeld; clear hHeld hK KK HN
          try simp only [Act.put]
          refine wpAnyH_done (by as_aux_lemma => kernel_rfl) ?_ _
          refine NoPanic.normal ?_
          exact hQ _ _ _ _ _ _ _ _ _ _ _ N2
      · skip
        rw [if_pos (by rfl)]
        go_simp
        have hb := below1 w22 (.cells #[.int .i64 0, .int .i64 0] 32)
        have HS := HB.more [.int .i64 0, .int .i64 0] 32
        first | (have hne := Sp.lt2 HA) | skip
        obtain ⟨gs, hG⟩ : ∃ g, g = w22.heap.size := ⟨_, rfl⟩
        rw [← hG] at HS ⊢
        try rw [← hG] at hne
        clear hG
        obtain ⟨w23, hX⟩ : ∃ x, x = w22.alloc (.cells #[.int .i64 0, .int .i64 0] 32) := ⟨_, rfl⟩
        replace HS : Sp w [(w.heap.size, (rc R).map some), (gs, [some (.int .i64 0), some (.int .i64 0)])] w23 := hX ▸ HS
        rw [← hX] at hb ⊢
        clear hX
        refine hK.out _ _ ?_ (fun hHeld => ?_)
        · exact kS _ _ HB hb
        replace HB := hHeld; clear hHeld hK KK
        replace HA := HA.keep hb
        clear hb
        try simp only [Act.put, List.setIfInBounds_toArray, List.set_cons_zero, List.set_cons_succ]
        refine wpAnyH_ready (rs := [3]) (by as_aux_lemma => kernel_rfl) (by simp) ?_
        refine AllReadyH.cons (o := ({ dst := some 22, op := .buildSlice 63 2 #[(0, .tmp 20), (1, .tmp 21)], type := 63, pos := "law.go:21", after := aaw8_a3, guard := none } : Oper)) rfl (fun KK hK => ?_) AllReadyH.nil
        rw [if_pos (by rfl)]
        refine oper_build2 (R := R) rfl rfl rfl ?_
        have CM := came_two w23 R
        have hb := below1 w23 (.cells (rc R ++ rc R).toArray 55)
        obtain ⟨gr, hG⟩ : ∃ g, g = w23.heap.size := ⟨_, rfl⟩
        rw [← hG] at CM ⊢
        clear hG
        obtain ⟨w24, hX⟩ : ∃ x, x = w23.alloc (.cells (rc R ++ rc R).toArray 55) := ⟨_, rfl⟩
        rw [← hX] at CM hb ⊢
        clear hX
        refine hK.out _ _ ?_ (fun hHeld => ?_)
        · exact kS _ _ HB hb
        replace HB := hHeld; clear hHeld hK KK
        replace HA := HA.keep hb
        replace HS := HS.keep hb
        clear hb
        try simp only [Act.put, List.setIfInBounds_toArray, List.set_cons_zero, List.set_cons_succ]
        refine wpAnyH_ready (rs := [4]) (by as_aux_lemma => kernel_rfl) (by simp) ?_
        refine AllReadyH.cons (o := ({ dst := some 23, op := .call { callee := .value (.func 16), args := #[.tmp 19, .tmp 22], argTypes := #[61, 63] }, type := 56, pos := "law.go:21", after := aaw8_a4, guard := none } : Oper)) rfl (fun KK hK => ?_) AllReadyH.nil
        rw [if_pos (by rfl)]
        go_simp
        go_at_call 16; refine (BO.out _ _ HB.below CM).mono ?_; rintro e w25 ⟨rfl, hb⟩
        go_wp2_with fail
        refine hK.out _ _ ?_ (fun hHeld => ?_)
        · exact kS _ _ HB hb
        replace HB := hHeld; clear hHeld hK KK
        replace HA := HA.keep hb
        replace HS := HS.keep hb
        replace CM := CM.keep hb
        clear hb
        try simp only [Act.put, List.setIfInBounds_toArray, List.set_cons_zero, List.set_cons_succ]
        refine wpAnyH_take (i := 5) (oi := ({ dst := some 18, op := .move (.tmp 23), type := 56, pos := "law.go:21", after := aaw8_a5, guard := none } : Oper)) (v := ?vt1_24_) rfl aaw8_plain (by as_aux_lemma => kernel_rfl) (by as_aux_lemma => kernel_rfl) (fun _ _ _ h => h) (Or.inl ⟨by rfl, ?yt1_24_⟩) HB ?rt1_24_
        case yt1_24_ => (intro w hSw; (try dsimp only at hSw); go_simp; try with_reducible rfl)
        try simp only [Act.put, List.setIfInBounds_toArray, List.set_cons_zero, List.set_cons_succ]
        refine wpAnyH_take (i := 6) (oi := ({ dst := some 24, op := .extract (.tmp 18) 0, type := 32, pos := "law.go:21", after := aaw8_a6, guard := none } : Oper)) (v := ?vt1_25_) rfl aaw8_plain (by as_aux_lemma => kernel_rfl) (by as_aux_lemma => kernel_rfl) (fun _ _ _ h => h) (Or.inl ⟨by rfl, ?yt1_25_⟩) HB ?rt1_25_
        case yt1_25_ => (intro w hSw; (try dsimp only at hSw); go_simp; try with_reducible rfl)
        try simp only [Act.put, List.setIfInBounds_toArray, List.set_cons_zero, List.set_cons_succ]
        refine wpAnyH_take (i := 7) (oi := ({ dst := some 25, op := .extract (.tmp 18) 1, type := 32, pos := "law.go:21", after := aaw8_a7, guard := none } : Oper)) (v := ?vt1_26_) rfl aaw8_plain (by as_aux_lemma => kernel_rfl) (by as_aux_lemma => kernel_rfl) (fun _ _ _ h => h) (Or.inl ⟨by rfl, ?yt1_26_⟩) HB ?rt1_26_
        case yt1_26_ => (intro w hSw; (try dsimp only at hSw); go_simp; try with_reducible rfl)
        try simp only [Act.put, List.setIfInBounds_toArray, List.set_cons_zero, List.set_cons_succ]
        refine wpAnyH_ready (rs := [10]) (by as_aux_lemma => kernel_rfl) (by simp) ?_
        refine AllReadyH.cons (o := ({ dst := none, op := .store 32 (.tmp 3) (.tmp 24), type := 0, pos := "law.go:21", after := aaw8_a10, guard := none } : Oper)) rfl (fun KK hK => ?_) AllReadyH.nil
        rw [if_pos (by rfl)]
        have hne2 : ga ≠ gs := by (have h1 := hne; clear hne; (try dsimp only at h1); omega)
        have HC := Sp.join HA HS hne2
        clear HA HS hne hne2
        refine put_span (g := ga) (u := aL) (v := aH) rfl rfl rfl (HC.free_row 1 rfl (n := 2) rfl) ?_
        have N1 := (HC.put 1 rfl 0 (.int .i64 aL)).put 1 rfl 1 (.int .i64 aH)
        obtain ⟨w26, hX⟩ := setCell2_named w25 ga aL aH
        rw [← hX] at N1 ⊢
        have HN : Sp w [(w.heap.size, (rc R).map some)] w26 := N1.take 1
        clear hX HC
        refine hK.out _ _ ?_ (fun hHeld => ?_)
        · exact HN
        replace HB := hHeld; clear hHeld hK KK HN
        try simp only [Act.put]
        refine wpAnyH_ready (rs := [11]) (by as_aux_lemma => kernel_rfl) (by simp) ?_
        refine AllReadyH.cons (o := ({ dst := none, op := .store 32 (.tmp 4) (.tmp 25), type := 0, pos := "law.go:21", after := aaw8_a11, guard := none } : Oper)) rfl (fun KK hK => ?_) AllReadyH.nil
        rw [if_pos (by rfl)]
        refine put_span (g := gs) (u := sL) (v := sH) rfl rfl rfl (N1.free_row 2 rfl (n := 2) rfl) ?_
        have N2 := (N1.put 2 rfl 0 (.int .i64 sL)).put 2 rfl 1 (.int .i64 sH)
        obtain ⟨w27, hX⟩ := setCell2_named w26 gs sL sH
        rw [← hX] at N2 ⊢
        have HN : Sp w [(w.heap.size, (rc R).map some)] w27 := N2.take 1
        clear hX N1
        refine hK.out _ _ ?_ (fun hHeld => ?_)
        · exact HN
        replace HB := hHeld; clear hHeld hK KK HN
        try simp only [Act.put]
        refine wpAnyH_done (by as_aux_lemma => kernel_rfl) ?_ _
        refine NoPanic.normal ?_
        exact hQ _ _ _ _ _ _ _ _ _ _ _ N2
    · skip
      rw [if_pos (by rfl)]
      go_simp
      have hb := below1 w21 (.cells #[.int .i64 0, .int .i64 0] 32)
      have HS := HB.more [.int .i64 0, .int .i64 0] 32
      first | (have hne := Sp.lt2 HA) | skip
      obtain ⟨gs, hG⟩ : ∃ g, g = w21.heap.size := ⟨_, rfl⟩
      rw [← hG] at HS ⊢
      try rw [← hG] at hne
      clear hG
      obtain ⟨w22, hX⟩ : ∃ x, x = w21.alloc (.cells #[.int .i64 0, .int .i64 0] 32) := ⟨_, rfl⟩
      replace HS : Sp w [(w.heap.size, (rc R).map some), (gs, [some (.int .i64 0), some (.int .i64 0)])] w22 := hX ▸ HS
      rw [← hX] at hb ⊢
      clear hX
      refine hK.out _ _ ?_ (fun hHeld => ?_)
      · exact kS _ _ HB hb
      replace HB := hHeld; clear hHeld hK KK
      clear hb
      try simp only [Act.put, List.setIfInBounds_toArray, List.set_cons_zero, List.set_cons_succ]
      refine wpAnyH_ready (rs := [3, 8]) (by as_aux_lemma => kernel_rfl) (by simp) ?_
      refine AllReadyH.cons (o := ({ dst := some 22, op := .buildSlice 63 2 #[(0, .tmp 20), (1, .tmp 21)], type := 63, pos := "law.go:21", after := aaw8_a3, guard := none } : Oper)) rfl (fun KK hK => ?_) (AllReadyH.cons (o := ({ dst := some 3, op := .alloc 32, type := 0, pos := "law.go:21", after := aaw8_a8, guard := none } : Oper)) rfl (fun KK hK => ?_) AllReadyH.nil)
      · skip
        rw [if_pos (by rfl)]
        refine oper_build2 (R := R) rfl rfl rfl ?_
        have CM := came_two w22 R
        have hb := below1 w22 (.cells (rc R ++ rc R).toArray 55)
        obtain ⟨gr, hG⟩ : ∃ g, g = w22.heap.size := ⟨_, rfl⟩
        rw [← hG] at CM ⊢
        clear hG
        obtain ⟨w23, hX⟩ : ∃ x, x = w22.alloc (.cells (rc R ++ rc R).toArray 55) := ⟨_, rfl⟩
        rw [← hX] at CM hb ⊢
        clear hX
        refine hK.out _ _ ?_ (fun hHeld => ?_)
        · exact kS _ _ HB hb
        replace HB := hHeld; clear hHeld hK KK
        replace HS := HS.keep hb
        clear hb
        try simp only [Act.put, List.setIfInBounds_toArray, List.set_cons_zero, List.set_cons_succ]
        refine wpAnyH_ready (rs := [4, 8]) (by as_aux_lemma => kernel_rfl) (by simp) ?_
        refine AllReadyH.cons (o := ({ dst := some 23, op := .call { callee := .value (.func 16), args := #[.tmp 19, .tmp 22], argTypes := #[61, 63] }, type := 56, pos := "law.go:21", after := aaw8_a4, guard := none } : Oper)) rfl (fun KK hK => ?_) (AllReadyH.cons (o := ({ dst := some 3, op := .alloc 32, type := 0, pos := "law.go:21", after := aaw8_a8, guard := none } : Oper)) rfl (fun KK hK => ?_) AllReadyH.nil)
        · skip
          rw [if_pos (by rfl)]
          go_simp
          go_at_call 16; refine (BO.out _ _ HB.below CM).mono ?_; rintro e w24 ⟨rfl, hb⟩
          go_wp2_with fail
          refine hK.out _ _ ?_ (fun hHeld => ?_)
          · exact kS _ _ HB hb
          replace HB := hHeld; clear hHeld hK KK
          replace HS := HS.keep hb
          replace CM := CM.keep hb
          clear hb
          try simp only [Act.put, List.setIfInBounds_toArray, List.set_cons_zero, List.set_cons_succ]
          refine wpAnyH_take (i := 5) (oi := ({ dst := some 18, op := .move (.tmp 23), type := 56, pos := "law.go:21", after := aaw8_a5, guard := none } : Oper)) (v := ?vt1_27_) rfl aaw8_plain (by as_aux_lemma => kernel_rfl) (by as_aux_lemma => kernel_rfl) (fun _ _ _ h => h) (Or.inl ⟨by rfl, ?yt1_27_⟩) HB ?rt1_27_
          case yt1_27_ => (intro w hSw; (try dsimp only at hSw); go_simp; try with_reducible rfl)
          try simp only [Act.put, List.setIfInBounds_toArray, List.set_cons_zero, List.set_cons_succ]
          refine wpAnyH_take (i := 6) (oi := ({ dst := some 24, op := .extract (.tmp 18) 0, type := 32, pos := "law.go:21", after := aaw8_a6, guard := none } : Oper)) (v := ?vt1_28_) rfl aaw8_plain (by as_aux_lemma => kernel_rfl) (by as_aux_lemma => kernel_rfl) (fun _ _ _ h => h) (Or.inl ⟨by rfl, ?yt1_28_⟩) HB ?rt1_28_
          case yt1_28_ => (intro w hSw; (try dsimp only at hSw); go_simp; try with_reducible rfl)
          try simp only [Act.put, List.setIfInBounds_toArray, List.set_cons_zero, List.set_cons_succ]
          refine wpAnyH_take (i := 7) (oi := ({ dst := some 25, op := .extract (.tmp 18) 1, type := 32, pos := "law.go:21", after := aaw8_a7, guard := none } : Oper)) (v := ?vt1_29_) rfl aaw8_plain (by as_aux_lemma => kernel_rfl) (by as_aux_lemma => kernel_rfl) (fun _ _ _ h => h) (Or.inl ⟨by rfl, ?yt1_29_⟩) HB ?rt1_29_
          case yt1_29_ => (intro w hSw; (try dsimp only at hSw); go_simp; try with_reducible rfl)
          try simp only [Act.put, List.setIfInBounds_toArray, List.set_cons_zero, List.set_cons_succ]
          refine wpAnyH_ready (rs := [8]) (by as_aux_lemma => kernel_rfl) (by simp) ?_
          refine AllReadyH.cons (o := ({ dst := some 3, op := .alloc 32, type := 0, pos := "law.go:21", after := aaw8_a8, guard := none } : Oper)) rfl (fun KK hK => ?_) AllReadyH.nil
          rw [if_pos (by rfl)]
          go_simp
          have hb := below1 w24 (.cells #[.int .i64 0, .int .i64 0] 32)
          have HA := HB.more [.int .i64 0, .int .i64 0] 32
          first | (have hne := Sp.lt2 HS) | skip
          obtain ⟨ga, hG⟩ : ∃ g, g = w24.heap.size := ⟨_, rfl⟩
          rw [← hG] at HA ⊢
          try rw [← hG] at hne
          clear hG
          obtain ⟨w25, hX⟩ : ∃ x, x = w24.alloc (.cells #[.int .i64 0, .int .i64 0] 32) := ⟨_, rfl⟩
          replace HA : Sp w [(w.heap.size, (rc R).map some), (ga, [some (.int .i64 0), some (.int .i64 0)])] w25 := hX ▸ HA
          rw [← hX] at hb ⊢
          clear hX
          refine hK.out _ _ ?_ (fun hHeld => ?_)
          · exact kS _ _ HB hb
          replace HB := hHeld; clear hHeld hK KK
          replace HS := HS.keep hb
          replace CM := CM.keep hb
          clear hb
          try simp only [Act.put, List.setIfInBounds_toArray, List.set_cons_zero, List.set_cons_succ]
          refine wpAnyH_ready (rs := [10]) (by as_aux_lemma => kernel_rfl) (by simp) ?_
          refine AllReadyH.cons (o := ({ dst := none, op := .store 32 (.tmp 3) (.tmp 24), type := 0, pos := "law.go:21", after := aaw8_a10, guard := none } : Oper)) rfl (fun KK hK => ?_) AllReadyH.nil
          rw [if_pos (by rfl)]
          have hne2 : ga ≠ gs := by (have h1 := hne; clear hne; (try dsimp only at h1); omega)
          have HC := Sp.join HA HS hne2
          clear HA HS hne hne2
          refine put_span (g := ga) (u := aL) (v := aH) rfl rfl rfl (HC.free_row 1 rfl (n := 2) rfl) ?_
          have N1 := (HC.put 1 rfl 0 (.int .i64 aL)).put 1 rfl 1 (.int .i64 aH)
          obtain ⟨w26, hX⟩ := setCell2_named w25 ga aL aH
          rw [← hX] at N1 ⊢
          have HN : Sp w [(w.heap.size, (rc R).map some)] w26 := N1.take 1
          clear hX HC
          refine hK.out _ _ ?_ (fun hHeld => ?_)
          · exact HN
          replace HB := hHeld; clear hHeld hK KK HN
          try simp only [Act.put]
          refine wpAnyH_ready (rs := [11]) (by as_aux_lemma => kernel_rfl) (by simp) ?_
          refine AllReadyH.cons (o := ({ dst := none, op := .store 32 (.tmp 4) (.tmp 25), type := 0, pos := "law.go:21", after := aaw8_a11, guard := none } : Oper)) rfl (fun KK hK => ?_) AllReadyH.nil
          rw [if_pos (by rfl)]
          refine put_span (g := gs) (u := sL) (v := sH) rfl rfl rfl (N1.free_row 2 rfl (n := 2) rfl) ?_
          have N2 := (N1.put 2 rfl 0 (.int .i64 sL)).put 2 rfl 1 (.int .i64 sH)
          obtain ⟨w27, hX⟩ := setCell2_named w26 gs sL sH
          rw [← hX] at N2 ⊢
          have HN : Sp w [(w.heap.size, (rc R).map some)] w27 := N2.take 1
          clear hX N1
          refine hK.out _ _ ?_ (fun hHeld => ?_)
          · exact HN
          replace HB := hHeld; clear hHeld hK KK HN
          try simp only [Act.put]
          refine wpAnyH_done (by as_aux_lemma => kernel_rfl) ?_ _
          refine NoPanic.normal ?_
          exact hQ _ _ _ _ _ _ _ _ _ _ _ N2
        · skip
          rw [if_pos (by rfl)]
          go_simp
          have hb := below1 w23 (.cells #[.int .i64 0, .int .i64 0] 32)
          have HA := HB.more [.int .i64 0, .int .i64 0] 32
          first | (have hne := Sp.lt2 HS) | skip
          obtain ⟨ga, hG⟩ : ∃ g, g = w23.heap.size := ⟨_, rfl⟩
          rw [← hG] at HA ⊢
          try rw [← hG] at hne
          clear hG
          obtain ⟨w24, hX⟩ : ∃ x, x = w23.alloc (.cells #[.int .i64 0, .int .i64 0] 32) := ⟨_, rfl⟩
          replace HA : Sp w [(w.heap.size, (rc R).map some), (ga, [some (.int .i64 0), some (.int .i64 0)])] w24 := hX ▸ HA
          rw [← hX] at hb ⊢
          clear hX
          refine hK.out _ _ ?_ (fun hHeld => ?_)
          · exact kS _ _ HB hb
          replace HB := hHeld; clear hHeld hK KK
          replace HS := HS.keep hb
          replace CM := CM.keep hb
          clear hb
          try simp only [Act.put, List.setIfInBounds_toArray, List.set_cons_zero, List.set_cons_succ]
          refine wpAnyH_ready (rs := [4]) (by as_aux_lemma => kernel_rfl) (by simp) ?_
          refine AllReadyH.cons (o := ({ dst := some 23, op := .call { callee := .value (.func 16), args := #[.tmp 19, .tmp 22], argTypes := #[61, 63] }, type := 56, pos := "law.go:21", after := aaw8_a4, guard := none } : Oper)) rfl (fun KK hK => ?_) AllReadyH.nil
          rw [if_pos (by rfl)]
          go_simp
          go_at_call 16; refine (BO.out _ _ HB.below CM).mono ?_; rintro e w25 ⟨rfl, hb⟩
          go_wp2_with fail
          refine hK.out _ _ ?_ (fun hHeld => ?_)
          · exact kS _ _ HB hb
          replace HB := hHeld; clear hHeld hK KK
          replace HS := HS.keep hb
          replace CM := CM.keep hb
          replace HA := HA.keep hb
          clear hb
          try simp only [Act.put, List.setIfInBounds_toArray, List.set_cons_zero, List.set_cons_succ]
          refine wpAnyH_take (i := 5) (oi := ({ dst := some 18, op := .move (.tmp 23), type := 56, pos := "law.go:21", after := aaw8_a5, guard := none } : Oper)) (v := ?vt1_30_) rfl aaw8_plain (by as_aux_lemma => kernel_rfl) (by as_aux_lemma => kernel_rfl) (fun _ _ _ h => h) (Or.inl ⟨by rfl, ?yt1_30_⟩) HB ?rt1_30_
          case yt1_30_ => (intro w hSw; (try dsimp only at hSw); go_simp; try with_reducible rfl)
          try simp only [Act.put, List.setIfInBounds_toArray, List.set_cons_zero, List.set_cons_succ]
          refine wpAnyH_take (i := 6) (oi := ({ dst := some 24, op := .extract (.tmp 18) 0, type := 32, pos := "law.go:21", after := aaw8_a6, guard := none } : Oper)) (v := ?vt1_31_) rfl aaw8_plain (by as_aux_lemma => kernel_rfl) (by as_aux_lemma => kernel_rfl) (fun _ _ _ h => h) (Or.inl ⟨by rfl, ?yt1_31_⟩) HB ?rt1_31_
          case yt1_31_ => (intro w hSw; (try dsimp only at hSw); go_simp; try with_reducible rfl)
          try simp only [Act.put, List.setIfInBounds_toArray, List.set_cons_zero, List.set_cons_succ]
          refine wpAnyH_take (i := 7) (oi := ({ dst := some 25, op := .extract (.tmp 18) 1, type := 32, pos := "law.go:21", after := aaw8_a7, guard := none } : Oper)) (v := ?vt1_32_) rfl aaw8_plain (by as_aux_lemma => kernel_rfl) (by as_aux_lemma => kernel_rfl) (fun _ _ _ h => h) (Or.inl ⟨by rfl, ?yt1_32_⟩) HB ?rt1_32_
          case yt1_32_ => (intro w hSw; (try dsimp only at hSw); go_simp; try with_reducible rfl)
          try simp only [Act.put, List.setIfInBounds_toArray, List.set_cons_zero, List.set_cons_succ]
          refine wpAnyH_ready (rs := [10]) (by as_aux_lemma => kernel_rfl) (by simp) ?_
          refine AllReadyH.cons (o := ({ dst := none, op := .store 32 (.tmp 3) (.tmp 24), type := 0, pos := "law.go:21", after := aaw8_a10, guard := none } : Oper)) rfl (fun KK hK => ?_) AllReadyH.nil
          rw [if_pos (by rfl)]
          have hne2 : ga ≠ gs := by (have h1 := hne; clear hne; (try dsimp only at h1); omega)
          have HC := Sp.join HA HS hne2
          clear HA HS hne hne2
          refine put_span (g := ga) (u := aL) (v := aH) rfl rfl rfl (HC.free_row 1 rfl (n := 2) rfl) ?_
          have N1 := (HC.put 1 rfl 0 (.int .i64 aL)).put 1 rfl 1 (.int .i64 aH)
          obtain ⟨w26, hX⟩ := setCell2_named w25 ga aL aH
          rw [← hX] at N1 ⊢
          have HN : Sp w [(w.heap.size, (rc R).map some)] w26 := N1.take 1
          clear hX HC
          refine hK.out _ _ ?_ (fun hHeld => ?_)
          · exact HN
          replace HB := hHeld; clear hHeld hK KK HN
          try simp only [Act.put]
          refine wpAnyH_ready (rs := [11]) (by as_aux_lemma => kernel_rfl) (by simp) ?_
          refine AllReadyH.cons (o := ({ dst := none, op := .store 32 (.tmp 4) (.tmp 25), type := 0, pos := "law.go:21", after := aaw8_a11, guard := none } : Oper)) rfl (fun KK hK => ?_) AllReadyH.nil
          rw [if_pos (by rfl)]
          refine put_span (g := gs) (u := sL) (v := sH) rfl rfl rfl (N1.free_row 2 rfl (n := 2) rfl) ?_
          have N2 := (N1.put 2 rfl 0 (.int .i64 sL)).put 2 rfl 1 (.int .i64 sH)
          obtain ⟨w27, hX⟩ := setCell2_named w26 gs sL sH
          rw [← hX] at N2 ⊢
          have HN : Sp w [(w.heap.size, (rc R).map some)] w27 := N2.take 1
          clear hX N1
          refine hK.out _ _ ?_ (fun hHeld => ?_)
          · exact HN
          replace HB := hHeld; clear hHeld hK KK HN
          try simp only [Act.put]
          refine wpAnyH_done (by as_aux_lemma => kernel_rfl) ?_ _
          refine NoPanic.normal ?_
          exact hQ _ _ _ _ _ _ _ _ _ _ _ N2
      · skip
        rw [if_pos (by rfl)]
        go_simp
        have hb := below1 w22 (.cells #[.int .i64 0, .int .i64 0] 32)
        have HA := HB.more [.int .i64 0, .int .i64 0] 32
        first | (have hne := Sp.lt2 HS) | skip
        obtain ⟨ga, hG⟩ : ∃ g, g = w22.heap.size := ⟨_, rfl⟩
        rw [← hG] at HA ⊢
        try rw [← hG] at hne
        clear hG
        obtain ⟨w23, hX⟩ : ∃ x, x = w22.alloc (.cells #[.int .i64 0, .int .i64 0] 32) := ⟨_, rfl⟩
        replace HA : Sp w [(w.heap.size, (rc R).map some), (ga, [some (.int .i64 0), some (.int .i64 0)])] w23 := hX ▸ HA
        rw [← hX] at hb ⊢
        clear hX
        refine hK.out _ _ ?_ (fun hHeld => ?_)
        · exact kS _ _ HB hb
        replace HB := hHeld; clear hHeld hK KK
        replace HS := HS.keep hb
        clear hb
        try simp only [Act.put, List.setIfInBounds_toArray, List.set_cons_zero, List.set_cons_succ]
        refine wpAnyH_ready (rs := [3]) (by as_aux_lemma => kernel_rfl) (by simp) ?_
        refine AllReadyH.cons (o := ({ dst := some 22, op := .buildSlice 63 2 #[(0, .tmp 20), (1, .tmp 21)], type := 63, pos := "law.go:21", after := aaw8_a3, guard := none } : Oper)) rfl (fun KK hK => ?_) AllReadyH.nil
        rw [if_pos (by rfl)]
        refine oper_build2 (R := R) rfl rfl rfl ?_
        have CM := came_two w23 R
        have hb := below1 w23 (.cells (rc R ++ rc R).toArray 55)
        obtain ⟨gr, hG⟩ : ∃ g, g = w23.heap.size := ⟨_, rfl⟩
        rw [← hG] at CM ⊢
        clear hG
        obtain ⟨w24, hX⟩ : ∃ x, x = w23.alloc (.cells (rc R ++ rc R).toArray 55) := ⟨_, rfl⟩
        rw [← hX] at CM hb ⊢
        clear hX
        refine hK.out _ _ ?_ (fun hHeld => ?_)
        · exact kS _ _ HB hb
        replace HB := hHeld; clear hHeld hK KK
        replace HS := HS.keep hb
        replace HA := HA.keep hb
        clear hb
        try simp only [Act.put, List.setIfInBounds_toArray, List.set_cons_zero, List.set_cons_succ]
        refine wpAnyH_ready (rs := [4]) (by as_aux_lemma => kernel_rfl) (by simp) ?_
        refine AllReadyH.cons (o := ({ dst := some 23, op := .call { callee := .value (.func 16), args := #[.tmp 19, .tmp 22], argTypes := #[61, 63] }, type := 56, pos := "law.go:21", after := aaw8_a4, guard := none } : Oper)) rfl (fun KK hK => ?_) AllReadyH.nil
        rw [if_pos (by rfl)]
        go_simp
        go_at_call 16; refine (BO.out _ _ HB.below CM).mono ?_; rintro e w25 ⟨rfl, hb⟩
        go_wp2_with fail
        refine hK.out _ _ ?_ (fun hHeld => ?_)
        · exact kS _ _ HB hb
        replace HB := hHeld; clear hHeld hK KK
        replace HS := HS.keep hb
        replace HA := HA.keep hb
        replace CM := CM.keep hb
        clear hb
        try simp only [Act.put, List.setIfInBounds_toArray, List.set_cons_zero, List.set_cons_succ]
        refine wpAnyH_take (i := 5) (oi := ({ dst := some 18, op := .move (.tmp 23), type := 56, pos := "law.go:21", after := aaw8_a5, guard := none } : Oper)) (v := ?vt1_33_) rfl aaw8_plain (by as_aux_lemma => kernel_rfl) (by as_aux_lemma => kernel_rfl) (fun _ _ _ h => h) (Or.inl ⟨by rfl, ?yt1_33_⟩) HB ?rt1_33_
        case yt1_33_ => (intro w hSw; (try dsimp only at hSw); go_simp; try with_reducible rfl)
        try simp only [Act.put, List.setIfInBounds_toArray, List.set_cons_zero, List.set_cons_succ]
        refine wpAnyH_take (i := 6) (oi := ({ dst := some 24, op := .extract (.tmp 18) 0, type := 32, pos := "law.go:21", after := aaw8_a6, guard := none } : Oper)) (v := ?vt1_34_) rfl aaw8_plain (by as_aux_lemma => kernel_rfl) (by as_aux_lemma => kernel_rfl) (fun _ _ _ h => h) (Or.inl ⟨by rfl, ?yt1_34_⟩) HB ?rt1_34_
        case yt1_34_ => (intro w hSw; (try dsimp only at hSw); go_simp; try with_reducible rfl)
        try simp only [Act.put, List.setIfInBounds_toArray, List.set_cons_zero, List.set_cons_succ]
        refine wpAnyH_take (i := 7) (oi := ({ dst := some 25, op := .extract (.tmp 18) 1, type := 32, pos := "law.go:21", after := aaw8_a7, guard := none } : Oper)) (v := ?vt1_35_) rfl aaw8_plain (by as_aux_lemma => kernel_rfl) (by as_aux_lemma => kernel_rfl) (fun _ _ _ h => h) (Or.inl ⟨by rfl, ?yt1_35_⟩) HB ?rt1_35_
        case yt1_35_ => (intro w hSw; (try dsimp only at hSw); go_simp; try with_reducible rfl)
        try simp only [Act.put, List.setIfInBounds_toArray, List.set_cons_zero, List.set_cons_succ]
        refine wpAnyH_ready (rs := [10]) (by as_aux_lemma => kernel_rfl) (by simp) ?_
        refine AllReadyH.cons (o := ({ dst := none, op := .store 32 (.tmp 3) (.tmp 24), type := 0, pos := "law.go:21", after := aaw8_a10, guard := none } : Oper)) rfl (fun KK hK => ?_) AllReadyH.nil
        rw [if_pos (by rfl)]
        have hne2 : ga ≠ gs := by (have h1 := hne; clear hne; (try dsimp only at h1); omega)
        have HC := Sp.join HA HS hne2
        clear HA HS hne hne2
        refine put_span (g := ga) (u := aL) (v := aH) rfl rfl rfl (HC.free_row 1 rfl (n := 2) rfl) ?_
        have N1 := (HC.put 1 rfl 0 (.int .i64 aL)).put 1 rfl 1 (.int .i64 aH)
        obtain ⟨w26, hX⟩ := setCell2_named w25 ga aL aH
        rw [← hX] at N1 ⊢
        have HN : Sp w [(w.heap.size, (rc R).map some)] w26 := N1.take 1
        clear hX HC
        refine hK.out _ _ ?_ (fun hHeld => ?_)
        · exact HN
        replace HB := hHeld; clear hHeld hK KK HN
        try simp only [Act.put]
        refine wpAnyH_ready (rs := [11]) (by as_aux_lemma => kernel_rfl) (by simp) ?_
        refine AllReadyH.cons (o := ({ dst := none, op := .store 32 (.tmp 4) (.tmp 25), type := 0, pos := "law.go:21", after := aaw8_a11, guard := none } : Oper)) rfl (fun KK hK => ?_) AllReadyH.nil
        rw [if_pos (by rfl)]
        refine put_span (g := gs) (u := sL) (v := sH) rfl rfl rfl (N1.free_row 2 rfl (n := 2) rfl) ?_
        have N2 := (N1.put 2 rfl 0 (.int .i64 sL)).put 2 rfl 1 (.int .i64 sH)
        obtain ⟨w27, hX⟩ := setCell2_named w26 gs sL sH
        rw [← hX] at N2 ⊢
        have HN : Sp w [(w.heap.size, (rc R).map some)] w27 := N2.take 1
        clear hX N1
        refine hK.out _ _ ?_ (fun hHeld => ?_)
        · exact HN
        replace HB := hHeld; clear hHeld hK KK HN
        try simp only [Act.put]
        refine wpAnyH_done (by as_aux_lemma => kernel_rfl) ?_ _
        refine NoPanic.normal ?_
        exact hQ _ _ _ _ _ _ _ _ _ _ _ N2
  · skip
    rw [if_pos (by rfl)]
    refine oper_build2 (R := R) rfl rfl rfl ?_
    have CM := came_two w20 R
    have hb := below1 w20 (.cells (rc R ++ rc R).toArray 55)
    obtain ⟨gr, hG⟩ : ∃ g, g = w20.heap.size := ⟨_, rfl⟩
    rw [← hG] at CM ⊢
    clear hG
    obtain ⟨w21, hX⟩ : ∃ x, x = w20.alloc (.cells (rc R ++ rc R).toArray 55) := ⟨_, rfl⟩
    rw [← hX] at CM hb ⊢
    clear hX
    refine hK.out _ _ ?_ (fun hHeld => ?_)
    · exact kS _ _ HB hb
    replace HB := hHeld; clear hHeld hK KK
    clear hb
    try simp only [Act.put, List.setIfInBounds_toArray, List.set_cons_zero, List.set_cons_succ]
    refine wpAnyH_ready (rs := [0, 8, 9]) (by as_aux_lemma => kernel_rfl) (by simp) ?_
    refine AllReadyH.cons (o := ({ dst := some 19, op := .call { callee := .value (.func 17), args := #[], argTypes := #[] }, type := 61, pos := "law.go:21", after := aaw8_a0, guard := none } : Oper)) rfl (fun KK hK => ?_) (AllReadyH.cons (o := ({ dst := some 3, op := .alloc 32, type := 0, pos := "law.go:21", after := aaw8_a8, guard := none } : Oper)) rfl (fun KK hK => ?_) (AllReadyH.cons (o := ({ dst := some 4, op := .alloc 32, type := 0, pos := "law.go:21", after := aaw8_a9, guard := none } : Oper)) rfl (fun KK hK => ?_) AllReadyH.nil))
    · skip
      rw [if_pos (by rfl)]
      go_simp
      go_at_call 17; refine (US.out _ HB.below).mono ?_; rintro e w22 ⟨rfl, hb⟩
      go_wp2_with fail
      refine hK.out _ _ ?_ (fun hHeld => ?_)
      · exact kS _ _ HB hb
      replace HB := hHeld; clear hHeld hK KK
      replace CM := CM.keep hb
      clear hb
      try simp only [Act.put, List.setIfInBounds_toArray, List.set_cons_zero, List.set_cons_succ]
      refine wpAnyH_ready (rs := [4, 8, 9]) (by as_aux_lemma => kernel_rfl) (by simp) ?_
      refine AllReadyH.cons (o := ({ dst := some 23, op := .call { callee := .value (.func 16), args := #[.tmp 19, .tmp 22], argTypes := #[61, 63] }, type := 56, pos := "law.go:21", after := aaw8_a4, guard := none } : Oper)) rfl (fun KK hK => ?_) (AllReadyH.cons (o := ({ dst := some 3, op := .alloc 32, type := 0, pos := "law.go:21", after := aaw8_a8, guard := none } : Oper)) rfl (fun KK hK => ?_) (AllReadyH.cons (o := ({ dst := some 4, op := .alloc 32, type := 0, pos := "law.go:21", after := aaw8_a9, guard := none } : Oper)) rfl (fun KK hK => ?_) AllReadyH.nil))
      · skip
        rw [if_pos (by rfl)]
        go_simp
        go_at_call 16; refine (BO.out _ _ HB.below CM).mono ?_; rintro e w23 ⟨rfl, hb⟩
        go_wp2_with fail
        refine hK.out _ _ ?_ (fun hHeld => ?_)
        · exact kS _ _ HB hb
        replace HB := hHeld; clear hHeld hK KK
        replace CM := CM.keep hb
        clear hb
        try simp only [Act.put, List.setIfInBounds_toArray, List.set_cons_zero, List.set_cons_succ]
        refine wpAnyH_take (i := 5) (oi := ({ dst := some 18, op := .move (.tmp 23), type := 56, pos := "law.go:21", after := aaw8_a5, guard := none } : Oper)) (v := ?vt1_36_) rfl aaw8_plain (by as_aux_lemma => kernel_rfl) (by as_aux_lemma => kernel_rfl) (fun _ _ _ h => h) (Or.inl ⟨by rfl, ?yt1_36_⟩) HB ?rt1_36_
        case yt1_36_ => (intro w hSw; (try dsimp only at hSw); go_simp; try with_reducible rfl)
        try simp only [Act.put, List.setIfInBounds_toArray, List.set_cons_zero, List.set_cons_succ]
        refine wpAnyH_take (i := 6) (oi := ({ dst := some 24, op := .extract (.tmp 18) 0, type := 32, pos := "law.go:21", after := aaw8_a6, guard := none } : Oper)) (v := ?vt1_37_) rfl aaw8_plain (by as_aux_lemma => kernel_rfl) (by as_aux_lemma => kernel_rfl) (fun _ _ _ h => h) (Or.inl ⟨by rfl, ?yt1_37_⟩) HB ?rt1_37_
        case yt1_37_ => (intro w hSw; (try dsimp only at hSw); go_simp; try with_reducible rfl)
        try simp only [Act.put, List.setIfInBounds_toArray, List.set_cons_zero, List.set_cons_succ]
        refine wpAnyH_take (i := 7) (oi := ({ dst := some 25, op := .extract (.tmp 18) 1, type := 32, pos := "law.go:21", after := aaw8_a7, guard := none } : Oper)) (v := ?vt1_38_) rfl aaw8_plain (by as_aux_lemma => kernel_rfl) (by as_aux_lemma => kernel_rfl) (fun _ _ _ h => h) (Or.inl ⟨by rfl, ?yt1_38_⟩) HB ?rt1_38_
        case yt1_38_ => (intro w hSw; (try dsimp only at hSw); go_simp; try with_reducible rfl)
        try simp only [Act.put, List.setIfInBounds_toArray, List.set_cons_zero, List.set_cons_succ]
        refine wpAnyH_ready (rs := [8, 9]) (by as_aux_lemma => kernel_rfl) (by simp) ?_
        refine AllReadyH.cons (o := ({ dst := some 3, op := .alloc 32, type := 0, pos := "law.go:21", after := aaw8_a8, guard := none } : Oper)) rfl (fun KK hK => ?_) (AllReadyH.cons (o := ({ dst := some 4, op := .alloc 32, type := 0, pos := "law.go:21", after := aaw8_a9, guard := none } : Oper)) rfl (fun KK hK => ?_) AllReadyH.nil)
        · skip
          rw [if_pos (by rfl)]
          go_simp
          have hb := below1 w23 (.cells #[.int .i64 0, .int .i64 0] 32)
          have HA := HB.more [.int .i64 0, .int .i64 0] 32
          first | (have hne := Sp.lt2 HS) | skip
          obtain ⟨ga, hG⟩ : ∃ g, g = w23.heap.size := ⟨_, rfl⟩
          rw [← hG] at HA ⊢
          try rw [← hG] at hne
          clear hG
          obtain ⟨w24, hX⟩ : ∃ x, x = w23.alloc (.cells #[.int .i64 0, .int .i64 0] 32) := ⟨_, rfl⟩
          replace HA : Sp w [(w.heap.size, (rc R).map some), (ga, [some (.int .i64 0), some (.int .i64 0)])] w24 := hX ▸ HA
          rw [← hX] at hb ⊢
          clear hX
          refine hK.out _ _ ?_ (fun hHeld => ?_)
          · exact kS _ _ HB hb
          replace HB := hHeld; clear hHeld hK KK
          replace CM := CM.keep hb
          clear hb
          try simp only [Act.put, List.setIfInBounds_toArray, List.set_cons_zero, List.set_cons_succ]
          refine wpAnyH_ready (rs := [9]) (by as_aux_lemma => kernel_rfl) (by simp) ?_
          refine AllReadyH.cons (o := ({ dst := some 4, op := .alloc 32, type := 0, pos := "law.go:21", after := aaw8_a9, guard := none } : Oper)) rfl (fun KK hK => ?_) AllReadyH.nil
          rw [if_pos (by rfl)]
          go_simp
          have hb := below1 w24 (.cells #[.int .i64 0, .int .i64 0] 32)
          have HS := HB.more [.int .i64 0, .int .i64 0] 32
          first | (have hne := Sp.lt2 HA) | skip
          obtain ⟨gs, hG⟩ : ∃ g, g = w24.heap.size := ⟨_, rfl⟩
          rw [← hG] at HS ⊢
          try rw [← hG] at hne
          clear hG
          obtain ⟨w25, hX⟩ : ∃ x, x = w24.alloc (.cells #[.int .i64 0, .int .i64 0] 32) := ⟨_, rfl⟩
          replace HS : Sp w [(w.heap.size, (rc R).map some), (gs, [some (.int .i64 0), some (.int .i64 0)])] w25 := hX ▸ HS
          rw [← hX] at hb ⊢
          clear hX
          refine hK.out _ _ ?_ (fun hHeld => ?_)
          · exact kS _ _ HB hb
          replace HB := hHeld; clear hHeld hK KK
          replace CM := CM.keep hb
          replace HA := HA.keep hb
          clear hb
          try simp only [Act.put, List.setIfInBounds_toArray, List.set_cons_zero, List.set_cons_succ]
          refine wpAnyH_ready (rs := [10]) (by as_aux_lemma => kernel_rfl) (by simp) ?_
          refine AllReadyH.cons (o := ({ dst := none, op := .store 32 (.tmp 3) (.tmp 24), type := 0, pos := "law.go:21", after := aaw8_a10, guard := none } : Oper)) rfl (fun KK hK => ?_) AllReadyH.nil
          rw [if_pos (by rfl)]
          have hne2 : ga ≠ gs := by (have h1 := hne; clear hne; (try dsimp only at h1); omega)
          have HC := Sp.join HA HS hne2
          clear HA HS hne hne2
          refine put_span (g := ga) (u := aL) (v := aH) rfl rfl rfl (HC.free_row 1 rfl (n := 2) rfl) ?_
          have N1 := (HC.put 1 rfl 0 (.int .i64 aL)).put 1 rfl 1 (.int .i64 aH)
          obtain ⟨w26, hX⟩ := setCell2_named w25 ga aL aH
          rw [← hX] at N1 ⊢
          have HN : Sp w [(w.heap.size, (rc R).map some)] w26 := N1.take 1
          clear hX HC
          refine hK.out _ _ ?_ (fun hHeld => ?_)
          · exact HN
          replace HB := hHeld; clear hHeld hK KK HN
          try simp only [Act.put]
          refine wpAnyH_ready (rs := [11]) (by as_aux_lemma => kernel_rfl) (by simp) ?_
          refine AllReadyH.cons (o := ({ dst := none, op := .store 32 (.tmp 4) (.tmp 25), type := 0, pos := "law.go:21", after := aaw8_a11, guard := none } : Oper)) rfl (fun KK hK => ?_) AllReadyH.nil
          rw [if_pos (by rfl)]
          refine put_span (g := gs) (u := sL) (v := sH) rfl rfl rfl (N1.free_row 2 rfl (n := 2) rfl) ?_
          have N2 := (N1.put 2 rfl 0 (.int .i64 sL)).put 2 rfl 1 (.int .i64 sH)
          obtain ⟨w27, hX⟩ := setCell2_named w26 gs sL sH
          rw [← hX] at N2 ⊢
          have HN : Sp w [(w.heap.size, (rc R).map some)] w27 := N2.take 1
          clear hX N1
          refine hK.out _ _ ?_ (fun hHeld => ?_)
          · exact HN
          replace HB := hHeld; clear hHeld hK KK HN
          try simp only [Act.put]
          refine wpAnyH_done (by as_aux_lemma => kernel_rfl) ?_ _
          refine NoPanic.normal ?_
          exact hQ _ _ _ _ _ _ _ _ _ _ _ N2
        · skip
          rw [if_pos (by rfl)]
          go_simp
          have hb := below1 w23 (.cells #[.int .i64 0, .int .i64 0] 32)
          have HS := HB.more [.int .i64 0, .int .i64 0] 32
          first | (have hne := Sp.lt2 HA) | skip
          obtain ⟨gs, hG⟩ : ∃ g, g = w23.heap.size := ⟨_, rfl⟩
          rw [← hG] at HS ⊢
          try rw [← hG] at hne
          clear hG
          obtain ⟨w24, hX⟩ : ∃ x, x = w23.alloc (.cells #[.int .i64 0, .int .i64 0] 32) := ⟨_, rfl⟩
          replace HS : Sp w [(w.heap.size, (rc R).map some), (gs, [some (.int .i64 0), some (.int .i64 0)])] w24 := hX ▸ HS
          rw [← hX] at hb ⊢
          clear hX
          refine hK.out _ _ ?_ (fun hHeld => ?_)
          · exact kS _ _ HB hb
          replace HB := hHeld; clear hHeld hK KK
          replace CM := CM.keep hb
          clear hb
          try simp only [Act.put, List.setIfInBounds_toArray, List.set_cons_zero, List.set_cons_succ]
          refine wpAnyH_ready (rs := [8]) (by as_aux_lemma => kernel_rfl) (by simp) ?_
          refine AllReadyH.cons (o := ({ dst := some 3, op := .alloc 32, type := 0, pos := "law.go:21", after := aaw8_a8, guard := none } : Oper)) rfl (fun KK hK => ?_) AllReadyH.nil
          rw [if_pos (by rfl)]
          go_simp
          have hb := below1 w24 (.cells #[.int .i64 0, .int .i64 0] 32)
          have HA := HB.more [.int .i64 0, .int .i64 0] 32
          first | (have hne := Sp.lt2 HS) | skip
          obtain ⟨ga, hG⟩ : ∃ g, g = w24.heap.size := ⟨_, rfl⟩
          rw [← hG] at HA ⊢
          try rw [← hG] at hne
          clear hG
          obtain ⟨w25, hX⟩ : ∃ x, x = w24.alloc (.cells #[.int .i64 0, .int .i64 0] 32) := ⟨_, rfl⟩
          replace HA : Sp w [(w.heap.size, (rc R).map some), (ga, [some (.int .i64 0), some (.int .i64 0)])] w25 := hX ▸ HA
          rw [← hX] at hb ⊢
          clear hX
          refine hK.out _ _ ?_ (fun hHeld => ?_)
          · exact kS _ _ HB hb
          replace HB := hHeld; clear hHeld hK KK
          replace CM := CM.keep hb
          replace HS := HS.keep hb
          clear hb
          try simp only [Act.put, List.setIfInBounds_toArray, List.set_cons_zero, List.set_cons_succ]
          refine wpAnyH_ready (rs := [10]) (by as_aux_lemma => kernel_rfl) (by simp) ?_
          refine AllReadyH.cons (o := ({ dst := none, op := .store 32 (.tmp 3) (.tmp 24), type := 0, pos := "law.go:21", after := aaw8_a10, guard := none } : Oper)) rfl (fun KK hK => ?_) AllReadyH.nil
          rw [if_pos (by rfl)]
          have hne2 : ga ≠ gs := by (have h1 := hne; clear hne; (try dsimp only at h1); omega)
          have HC := Sp.join HA HS hne2
          clear HA HS hne hne2
          refine put_span (g := ga) (u := aL) (v := aH) rfl rfl rfl (HC.free_row 1 rfl (n := 2) rfl) ?_
          have N1 := (HC.put 1 rfl 0 (.int .i64 aL)).put 1 rfl 1 (.int .i64 aH)
          obtain ⟨w26, hX⟩ := setCell2_named w25 ga aL aH
          rw [← hX] at N1 ⊢
          have HN : Sp w [(w.heap.size, (rc R).map some)] w26 := N1.take 1
          clear hX HC
          refine hK.out _ _ ?_ (fun hHeld => ?_)
          · exact HN
          replace HB := hHeld; clear hHeld hK KK HN
          try simp only [Act.put]
          refine wpAnyH_ready (rs := [11]) (by as_aux_lemma => kernel_rfl) (by simp) ?_
          refine AllReadyH.cons (o := ({ dst := none, op := .store 32 (.tmp 4) (.tmp 25), type := 0, pos := "law.go:21", after := aaw8_a11, guard := none } : Oper)) rfl (fun KK hK => ?_) AllReadyH.nil
          rw [if_pos (by rfl)]
          refine put_span (g := gs) (u := sL) (v := sH) rfl rfl rfl (N1.free_row 2 rfl (n := 2) rfl) ?_
          have N2 := (N1.put 2 rfl 0 (.int .i64 sL)).put 2 rfl 1 (.int .i64 sH)
          obtain ⟨w27, hX⟩ := setCell2_named w26 gs sL sH
          rw [← hX] at N2 ⊢
          have HN : Sp w [(w.heap.size, (rc R).map some)] w27 := N2.take 1
          clear hX N1
          refine hK.out _ _ ?_ (fun hHeld => ?_)
          · exact HN
          replace HB := hHeld; clear hHeld hK KK HN
          try simp only [Act.put]
          refine wpAnyH_done (by as_aux_lemma => kernel_rfl) ?_ _
          refine NoPanic.normal ?_
          exact hQ _ _ _ _ _ _ _ _ _ _ _ N2
      · skip
        rw [if_pos (by rfl)]
        go_simp
        have hb := below1 w22 (.cells #[.int .i64 0, .int .i64 0] 32)
        have HA := HB.more [.int .i64 0, .int .i64 0] 32
        first | (have hne := Sp.lt2 HS) | skip
        obtain ⟨ga, hG⟩ : ∃ g, g = w22.heap.size := ⟨_, rfl⟩
        rw [← hG] at HA ⊢
        try rw [← hG] at hne
        clear hG
        obtain ⟨w23, hX⟩ : ∃ x, x = w22.alloc (.cells #[.int .i64 0, .int .i64 0] 32) := ⟨_, rfl⟩
        replace HA : Sp w [(w.heap.size, (rc R).map some), (ga, [some (.int .i64 0), some (.int .i64 0)])] w23 := hX ▸ HA
        rw [← hX] at hb ⊢
        clear hX
        refine hK.out _ _ ?_ (fun hHeld => ?_)
        · exact kS _ _ HB hb
        replace HB := hHeld; clear hHeld hK KK
        replace CM := CM.keep hb
        clear hb
        try simp only [Act.put, List.setIfInBounds_toArray, List.set_cons_zero, List.set_cons_succ]
        refine wpAnyH_ready (rs := [4, 9]) (by as_aux_lemma => kernel_rfl) (by simp) ?_
        refine AllReadyH.cons (o := ({ dst := some 23, op := .call { callee := .value (.func 16), args := #[.tmp 19, .tmp 22], argTypes := #[61, 63] }, type := 56, pos := "law.go:21", after := aaw8_a4, guard := none } : Oper)) rfl (fun KK hK => ?_) (AllReadyH.cons (o := ({ dst := some 4, op := .alloc 32, type := 0, pos := "law.go:21", after := aaw8_a9, guard := none } : Oper)) rfl (fun KK hK => ?_) AllReadyH.nil)
        · skip
          rw [if_pos (by rfl)]
          go_simp
          go_at_call 16; refine (BO.out _ _ HB.below CM).mono ?_; rintro e w24 ⟨rfl, hb⟩
          go_wp2_with fail
          refine hK.out _ _ ?_ (fun hHeld => ?_)
          · exact kS _ _ HB hb
          replace HB := hHeld; clear hHeld hK KK
          replace CM := CM.keep hb
          replace HA := HA.keep hb
          clear hb
          try simp only [Act.put, List.setIfInBounds_toArray, List.set_cons_zero, List.set_cons_succ]
          refine wpAnyH_take (i := 5) (oi := ({ dst := some 18, op := .move (.tmp 23), type := 56, pos := "law.go:21", after := aaw8_a5, guard := none } : Oper)) (v := ?vt1_39_) rfl aaw8_plain (by as_aux_lemma => kernel_rfl) (by as_aux_lemma => kernel_rfl) (fun _ _ _ h => h) (Or.inl ⟨by rfl, ?yt1_39_⟩) HB ?rt1_39_
          case yt1_39_ => (intro w hSw; (try dsimp only at hSw); go_simp; try with_reducible rfl)
          try simp only [Act.put, List.setIfInBounds_toArray, List.set_cons_zero, List.set_cons_succ]
          refine wpAnyH_take (i := 6) (oi := ({ dst := some 24, op := .extract (.tmp 18) 0, type := 32, pos := "law.go:21", after := aaw8_a6, guard := none } : Oper)) (v := ?vt1_40_) rfl aaw8_plain (by as_aux_lemma => kernel_rfl) (by as_aux_lemma => kernel_rfl) (fun _ _ _ h => h) (Or.inl ⟨by rfl, ?yt1_40_⟩) HB ?rt1_40_
          case yt1_40_ => (intro w hSw; (try dsimp only at hSw); go_simp; try with_reducible rfl)
          try simp only [Act.put, List.setIfInBounds_toArray, List.set_cons_zero, List.set_cons_succ]
          refine wpAnyH_take (i := 7) (oi := ({ dst := some 25, op := .extract (.tmp 18) 1, type := 32, pos := "law.go:21", after := aaw8_a7, guard := none } : Oper)) (v := ?vt1_41_) rfl aaw8_plain (by as_aux_lemma => kernel_rfl) (by as_aux_lemma => kernel_rfl) (fun _ _ _ h => h) (Or.inl ⟨by rfl, ?yt1_41_⟩) HB ?rt1_41_
          case yt1_41_ => (intro w hSw; (try dsimp only at hSw); go_simp; try with_reducible rfl)
          try simp only [Act.put, List.setIfInBounds_toArray, List.set_cons_zero, List.set_cons_succ]
          refine wpAnyH_ready (rs := [9]) (by as_aux_lemma => kernel_rfl) (by simp) ?_
          refine AllReadyH.cons (o := ({ dst := some 4, op := .alloc 32, type := 0, pos := "law.go:21", after := aaw8_a9, guard := none } : Oper)) rfl (fun KK hK => ?_) AllReadyH.nil
          rw [if_pos (by rfl)]
          go_simp
          have hb := below1 w24 (.cells #[.int .i64 0, .int .i64 0] 32)
          have HS := HB.more [.int .i64 0, .int .i64 0] 32
          first | (have hne := Sp.lt2 HA) | skip
          obtain ⟨gs, hG⟩ : ∃ g, g = w24.heap.size := ⟨_, rfl⟩
          rw [← hG] at HS ⊢
          try rw [← hG] at hne
          clear hG
          obtain ⟨w25, hX⟩ : ∃ x, x = w24.alloc (.cells #[.int .i64 0, .int .i64 0] 32) := ⟨_, rfl⟩
          replace HS : Sp w [(w.heap.size, (rc R).map some), (gs, [some (.int .i64 0), some (.int .i64 0)])] w25 := hX ▸ HS
          rw [← hX] at hb ⊢
          clear hX
          refine hK.out _ _ ?_ (fun hHeld => ?_)
          · exact kS _ _ HB hb
          replace HB := hHeld; clear hHeld hK KK
          replace CM := CM.keep hb
          replace HA := HA.keep hb
          clear hb
          try simp only [Act.put, List.setIfInBounds_toArray, List.set_cons_zero, List.set_cons_succ]
          refine wpAnyH_ready (rs := [10]) (by as_aux_lemma => kernel_rfl) (by simp) ?_
          refine AllReadyH.cons (o := ({ dst := none, op := .store 32 (.tmp 3) (.tmp 24), type := 0, pos := "law.go:21", after := aaw8_a10, guard := none } : Oper)) rfl (fun KK hK => ?_) AllReadyH.nil
          rw [if_pos (by rfl)]
          have hne2 : ga ≠ gs := by (have h1 := hne; clear hne; (try dsimp only at h1); omega)
          have HC := Sp.join HA HS hne2
          clear HA HS hne hne2
          refine put_span (g := ga) (u := aL) (v := aH) rfl rfl rfl (HC.free_row 1 rfl (n := 2) rfl) ?_
          have N1 := (HC.put 1 rfl 0 (.int .i64 aL)).put 1 rfl 1 (.int .i64 aH)
          obtain ⟨w26, hX⟩ := setCell2_named w25 ga aL aH
          rw [← hX] at N1 ⊢
          have HN : Sp w [(w.heap.size, (rc R).map some)] w26 := N1.take 1
          clear hX HC
          refine hK.out _ _ ?_ (fun hHeld => ?_)
          · exact HN
          replace HB := hHeld; clear hHeld hK KK HN
          try simp only [Act.put]
          refine wpAnyH_ready (rs := [11]) (by as_aux_lemma => kernel_rfl) (by simp) ?_
          refine AllReadyH.cons (o := ({ dst := none, op := .store 32 (.tmp 4) (.tmp 25), type := 0, pos := "law.go:21", after := aaw8_a11, guard := none } : Oper)) rfl (fun KK hK => ?_) AllReadyH.nil
          rw [if_pos (by rfl)]
          refine put_span (g := gs) (u := sL) (v := sH) rfl rfl rfl (N1.free_row 2 rfl (n := 2) rfl) ?_
          have N2 := (N1.put 2 rfl 0 (.int .i64 sL)).put 2 rfl 1 (.int .i64 sH)
          obtain ⟨w27, hX⟩ := setCell2_named w26 gs sL sH
          rw [← hX] at N2 ⊢
          have HN : Sp w [(w.heap.size, (rc R).map some)] w27 := N2.take 1
          clear hX N1
          refine hK.out _ _ ?_ (fun hHeld => ?_)
          · exact HN
          replace HB := hHeld; clear hHeld hK KK HN
          try simp only [Act.put]
          refine wpAnyH_done (by as_aux_lemma => kernel_rfl) ?_ _
          refine NoPanic.normal ?_
          exact hQ _ _ _ _ _ _ _ _ _ _ _ N2
        · skip
          rw [if_pos (by rfl)]
          go_simp
          have hb := below1 w23 (.cells #[.int .i64 0, .int .i64 0] 32)
          have HS := HB.more [.int .i64 0, .int .i64 0] 32
          first | (have hne := Sp.lt2 HA) | skip
          obtain ⟨gs, hG⟩ : ∃ g, g = w23.heap.size := ⟨_, rfl⟩
          rw [← hG] at HS ⊢
          try rw [← hG] at hne
          clear hG
          obtain ⟨w24, hX⟩ : ∃ x, x = w23.alloc (.cells #[.int .i64 0, .int .i64 0] 32) := ⟨_, rfl⟩
          replace HS : Sp w [(w.heap.size, (rc R).map some), (gs, [some (.int .i64 0), some (.int .i64 0)])] w24 := hX ▸ HS
          rw [← hX] at hb ⊢
          clear hX
          refine hK.out _ _ ?_ (fun hHeld => ?_)
          · exact kS _ _ HB hb
          replace HB := hHeld; clear hHeld hK KK
          replace CM := CM.keep hb
          replace HA := HA.keep hb
          clear hb
          try simp only [Act.put, List.setIfInBounds_toArray, List.set_cons_zero, List.set_cons_succ]
          refine wpAnyH_ready (rs := [4]) (by as_aux_lemma => kernel_rfl) (by simp) ?_
          refine AllReadyH.cons (o := ({ dst := some 23, op := .call { callee := .value (.func 16), args := #[.tmp 19, .tmp 22], argTypes := #[61, 63] }, type := 56, pos := "law.go:21", after := aaw8_a4, guard := none } : Oper)) rfl (fun KK hK => ?_) AllReadyH.nil
          rw [if_pos (by rfl)]
          go_simp
          go_at_call 16; refine (BO.out _ _ HB.below CM).mono ?_; rintro e w25 ⟨rfl, hb⟩
          go_wp2_with fail
          refine hK.out _ _ ?_ (fun hHeld => ?_)
          · exact kS _ _ HB hb
          replace HB := hHeld; clear hHeld hK KK
          replace CM := CM.keep hb
          replace HA := HA.keep hb
          replace HS := HS.keep hb
          clear hb
          try simp only [Act.put, List.setIfInBounds_toArray, List.set_cons_zero, List.set_cons_succ]
          refine wpAnyH_take (i := 5) (oi := ({ dst := some 18, op := .move (.tmp 23), type := 56, pos := "law.go:21", after := aaw8_a5, guard := none } : Oper)) (v := ?vt1_42_) rfl aaw8_plain (by as_aux_lemma => kernel_rfl) (by as_aux_lemma => kernel_rfl) (fun _ _ _ h => h) (Or.inl ⟨by rfl, ?yt1_42_⟩) HB ?rt1_42_
          case yt1_42_ => (intro w hSw; (try dsimp only at hSw); go_simp; try with_reducible rfl)
          try simp only [Act.put, List.setIfInBounds_toArray, List.set_cons_zero, List.set_cons_succ]
          refine wpAnyH_take (i := 6) (oi := ({ dst := some 24, op := .extract (.tmp 18) 0, type := 32, pos := "law.go:21", after := aaw8_a6, guard := none } : Oper)) (v := ?vt1_43_) rfl aaw8_plain (by as_aux_lemma => kernel_rfl) (by as_aux_lemma => kernel_rfl) (fun _ _ _ h => h) (Or.inl ⟨by rfl, ?yt1_43_⟩) HB ?rt1_43_
          case yt1_43_ => (intro w hSw; (try dsimp only at hSw); go_simp; try with_reducible rfl)
          try simp only [Act.put, List.setIfInBounds_toArray, List.set_cons_zero, List.set_cons_succ]
          refine wpAnyH_take (i := 7) (oi := ({ dst := some 25, op := .extract (.tmp 18) 1, type := 32, pos := "law.go:21", after := aaw8_a7, guard := none } : Oper)) (v := ?vt1_44_) rfl aaw8_plain (by as_aux_lemma => kernel_rfl) (by as_aux_lemma => kernel_rfl) (fun _ _ _ h => h) (Or.inl ⟨by rfl, ?yt1_44_⟩) HB ?rt1_44_
          case yt1_44_ => (intro w hSw; (try dsimp only at hSw); go_simp; try with_reducible rfl)
          try simp only [Act.put, List.setIfInBounds_toArray, List.set_cons_zero, List.set_cons_succ]
          refine wpAnyH_ready (rs := [10]) (by as_aux_lemma => kernel_rfl) (by simp) ?_
          refine AllReadyH.cons (o := ({ dst := none, op := .store 32 (.tmp 3) (.tmp 24), type := 0, pos := "law.go:21", after := aaw8_a10, guard := none } : Oper)) rfl (fun KK hK => ?_) AllReadyH.nil
          rw [if_pos (by rfl)]
          have hne2 : ga ≠ gs := by (have h1 := hne; clear hne; (try dsimp only at h1); omega)
          have HC := Sp.join HA HS hne2
          clear HA HS hne hne2
          refine put_span (g := ga) (u := aL) (v := aH) rfl rfl rfl (HC.free_row 1 rfl (n := 2) rfl) ?_
          have N1 := (HC.put 1 rfl 0 (.int .i64 aL)).put 1 rfl 1 (.int .i64 aH)
          obtain ⟨w26, hX⟩ := setCell2_named w25 ga aL aH
          rw [← hX] at N1 ⊢
          have HN : Sp w [(w.heap.size, (rc R).map some)] w26 := N1.take 1
          clear hX HC
          refine hK.out _ _ ?_ (fun hHeld => ?_)
          · exact HN
          replace HB := hHeld; clear hHeld hK KK HN
          try simp only [Act.put]
          refine wpAnyH_ready (rs := [11]) (by as_aux_lemma => kernel_rfl) (by simp) ?_
          refine AllReadyH.cons (o := ({ dst := none, op := .store 32 (.tmp 4) (.tmp 25), type := 0, pos := "law.go:21", after := aaw8_a11, guard := none } : Oper)) rfl (fun KK hK => ?_) AllReadyH.nil
          rw [if_pos (by rfl)]
          refine put_span (g := gs) (u := sL) (v := sH) rfl rfl rfl (N1.free_row 2 rfl (n := 2) rfl) ?_
          have N2 := (N1.put 2 rfl 0 (.int .i64 sL)).put 2 rfl 1 (.int .i64 sH)
          obtain ⟨w27, hX⟩ := setCell2_named w26 gs sL sH
          rw [← hX] at N2 ⊢
          have HN : Sp w [(w.heap.size, (rc R).map some)] w27 := N2.take 1
          clear hX N1
          refine hK.out _ _ ?_ (fun hHeld => ?_)
          · exact HN
          replace HB := hHeld; clear hHeld hK KK HN
          try simp only [Act.put]
          refine wpAnyH_done (by as_aux_lemma => kernel_rfl) ?_ _
          refine NoPanic.normal ?_
          exact hQ _ _ _ _ _ _ _ _ _ _ _ N2
      · skip
        rw [if_pos (by rfl)]
        go_simp
        have hb := below1 w22 (.cells #[.int .i64 0, .int .i64 0] 32)
        have HS := HB.more [.int .i64 0, .int .i64 0] 32
        first | (have hne := Sp.lt2 HA) | skip
        obtain ⟨gs, hG⟩ : ∃ g, g = w22.heap.size := ⟨_, rfl⟩
        rw [← hG] at HS ⊢
        try rw [← hG] at hne
        clear hG
        obtain ⟨w23, hX⟩ : ∃ x, x = w22.alloc (.cells #[.int .i64 0, .int .i64 0] 32) := ⟨_, rfl⟩
        replace HS : Sp w [(w.heap.size, (rc R).map some), (gs, [some (.int .i64 0), some (.int .i64 0)])] w23 := hX ▸ HS
        rw [← hX] at hb ⊢
        clear hX
        refine hK.out _ _ ?_ (fun hHeld => ?_)
        · exact kS _ _ HB hb
        replace HB := hHeld; clear hHeld hK KK
        replace CM := CM.keep hb
        clear hb
        try simp only [Act.put, List.setIfInBounds_toArray, List.set_cons_zero, List.set_cons_succ]
        refine wpAnyH_ready (rs := [4, 8]) (by as_aux_lemma => kernel_rfl) (by simp) ?_
        refine AllReadyH.cons (o := ({ dst := some 23, op := .call { callee := .value (.func 16), args := #[.tmp 19, .tmp 22], argTypes := #[61, 63] }, type := 56, pos := "law.go:21", after := aaw8_a4, guard := none } : Oper)) rfl (fun KK hK => ?_) (AllReadyH.cons (o := ({ dst := some 3, op := .alloc 32, type := 0, pos := "law.go:21", after := aaw8_a8, guard := none } : Oper)) rfl (fun KK hK => ?_) AllReadyH.nil)
        · skip
          rw [if_pos (by rfl)]
          go_simp
          go_at_call 16; refine (BO.out _ _ HB.below CM).mono ?_; rintro e w24 ⟨rfl, hb⟩
          go_wp2_with fail
          refine hK.out _ _ ?_ (fun hHeld => ?_)
          · exact kS _ _ HB hb
          replace HB := hHeld; clear hHeld hK KK
          replace CM := CM.keep hb
          replace HS := HS.keep hb
          clear hb
          try simp only [Act.put, List.setIfInBounds_toArray, List.set_cons_zero, List.set_cons_succ]
          refine wpAnyH_take (i := 5) (oi := ({ dst := some 18, op := .move (.tmp 23), type := 56, pos := "law.go:21", after := aaw8_a5, guard := none } : Oper)) (v := ?vt1_45_) rfl aaw8_plain (by as_aux_lemma => kernel_rfl) (by as_aux_lemma => kernel_rfl) (fun _ _ _ h => h) (Or.inl ⟨by rfl, ?yt1_45_⟩) HB ?rt1_45_
          case yt1_45_ => (intro w hSw; (try dsimp only at hSw); go_simp; try with_reducible rfl)
          try simp only [Act.put, List.setIfInBounds_toArray, List.set_cons_zero, List.set_cons_succ]
          refine wpAnyH_take (i := 6) (oi := ({ dst := some 24, op := .extract (.tmp 18) 0, type := 32, pos := "law.go:21", after := aaw8_a6, guard := none } : Oper)) (v := ?vt1_46_) rfl aaw8_plain (by as_aux_lemma => kernel_rfl) (by as_aux_lemma => kernel_rfl) (fun _ _ _ h => h) (Or.inl ⟨by rfl, ?yt1_46_⟩) HB ?rt1_46_
          case yt1_46_ => (intro w hSw; (try dsimp only at hSw); go_simp; try with_reducible rfl)
          try simp only [Act.put, List.setIfInBounds_toArray, List.set_cons_zero, List.set_cons_succ]
          refine wpAnyH_take (i := 7) (oi := ({ dst := some 25, op := .extract (.tmp 18) 1, type := 32, pos := "law.go:21", after := aaw8_a7, guard := none } : Oper)) (v := ?vt1_47_) rfl aaw8_plain (by as_aux_lemma => kernel_rfl) (by as_aux_lemma => kernel_rfl) (fun _ _ _ h => h) (Or.inl ⟨by rfl, ?yt1_47_⟩) HB ?rt1_47_
          case yt1_47_ => (intro w hSw; (try dsimp only at hSw); go_simp; try with_reducible rfl)
          try simp only [Act.put, List.setIfInBounds_toArray, List.set_cons_zero, List.set_cons_succ]
          refine wpAnyH_ready (rs := [8]) (by as_aux_lemma => kernel_rfl) (by simp) ?_
          refine AllReadyH.cons (o := ({ dst := some 3, op := .alloc 32, type := 0, pos := "law.go:21", after := aaw8_a8, guard := none } : Oper)) rfl (fun KK hK => ?_) AllReadyH.nil
          rw [if_pos (by rfl)]
          go_simp
          have hb := below1 w24 (.cells #[.int .i64 0, .int .i64 0] 32)
          have HA := HB.more [.int .i64 0, .int .i64 0] 32
          first | (have hne := Sp.lt2 HS) | skip
          obtain ⟨ga, hG⟩ : ∃ g, g = w24.heap.size := ⟨_, rfl⟩
          rw [← hG] at HA ⊢
          try rw [← hG] at hne
          clear hG
          obtain ⟨w25, hX⟩ : ∃ x, x = w24.alloc (.cells #[.int .i64 0, .int .i64 0] 32) := ⟨_, rfl⟩
          replace HA : Sp w [(w.heap.size, (rc R).map some), (ga, [some (.int .i64 0), some (.int .i64 0)])] w25 := hX ▸ HA
          rw [← hX] at hb ⊢
          clear hX
          refine hK.out _ _ ?_ (fun hHeld => ?_)
          · exact kS _ _ HB hb
          replace HB := hHeld; clear hHeld hK KK
          replace CM := CM.keep hb
          replace HS := HS.keep hb
          clear hb
          try simp only [Act.put, List.setIfInBounds_toArray, List.set_cons_zero, List.set_cons_succ]
          refine wpAnyH_ready (rs := [10]) (by as_aux_lemma => kernel_rfl) (by simp) ?_
          refine AllReadyH.cons (o := ({ dst := none, op := .store 32 (.tmp 3) (.tmp 24), type := 0, pos := "law.go:21", after := aaw8_a10, guard := none } : Oper)) rfl (fun KK hK => ?_) AllReadyH.nil
          rw [if_pos (by rfl)]
          have hne2 : ga ≠ gs := by (have h1 := hne; clear hne; (try dsimp only at h1); omega)
          have HC := Sp.join HA HS hne2
          clear HA HS hne hne2
          refine put_span (g := ga) (u := aL) (v := aH) rfl rfl rfl (HC.free_row 1 rfl (n := 2) rfl) ?_
          have N1 := (HC.put 1 rfl 0 (.int .i64 aL)).put 1 rfl 1 (.int .i64 aH)
          obtain ⟨w26, hX⟩ := setCell2_named w25 ga aL aH
          rw [← hX] at N1 ⊢
          have HN : Sp w [(w.heap.size, (rc R).map some)] w26 := N1.take 1
          clear hX HC
          refine hK.out _ _ ?_ (fun hHeld => ?_)
          · exact HN
          replace HB := hHeld; clear hHeld hK KK HN
          try simp only [Act.put]
          refine wpAnyH_ready (rs := [11]) (by as_aux_lemma => kernel_rfl) (by simp) ?_
          refine AllReadyH.cons (o := ({ dst := none, op := .store 32 (.tmp 4) (.tmp 25), type := 0, pos := "law.go:21", after := aaw8_a11, guard := none } : Oper)) rfl (fun KK hK => ?_) AllReadyH.nil
          rw [if_pos (by rfl)]
          refine put_span (g := gs) (u := sL) (v := sH) rfl rfl rfl (N1.free_row 2 rfl (n := 2) rfl) ?_
          have N2 := (N1.put 2 rfl 0 (.int .i64 sL)).put 2 rfl 1 (.int .i64 sH)
          obtain ⟨w27, hX⟩ := setCell2_named w26 gs sL sH
          rw [← hX] at N2 ⊢
          have HN : Sp w [(w.heap.size, (rc R).map some)] w27 := N2.take 1
          clear hX N1
          refine hK.out _ _ ?_ (fun hHeld => ?_)
          · exact HN
          replace HB := hHeld; clear hHeld hK KK HN
          try simp only [Act.put]
          refine wpAnyH_done (by as_aux_lemma => kernel_rfl) ?_ _
          refine NoPanic.normal ?_
          exact hQ _ _ _ _ _ _ _ _ _ _ _ N2
        · skip
          rw [if_pos (by rfl)]
          go_simp
          have hb := below1 w23 (.cells #[.int .i64 0, .int .i64 0] 32)
          have HA := HB.more [.int .i64 0, .int .i64 0] 32
          first | (have hne := Sp.lt2 HS) | skip
          obtain ⟨ga, hG⟩ : ∃ g, g = w23.heap.size := ⟨_, rfl⟩
          rw [← hG] at HA ⊢
          try rw [← hG] at hne
          clear hG
          obtain ⟨w24, hX⟩ : ∃ x, x = w23.alloc (.cells #[.int .i64 0, .int .i64 0] 32) := ⟨_, rfl⟩
          replace HA : Sp w [(w.heap.size, (rc R).map some), (ga, [some (.int .i64 0), some (.int .i64 0)])] w24 := hX ▸ HA
          rw [← hX] at hb ⊢
          clear hX
          refine hK.out _ _ ?_ (fun hHeld => ?_)
          · exact kS _ _ HB hb
          replace HB := hHeld; clear hHeld hK KK
          replace CM := CM.keep hb
          replace HS := HS.keep hb
          clear hb
          try simp only [Act.put, List.setIfInBounds_toArray, List.set_cons_zero, List.set_cons_succ]
          refine wpAnyH_ready (rs := [4]) (by as_aux_lemma => kernel_rfl) (by simp) ?_
          refine AllReadyH.cons (o := ({ dst := some 23, op := .call { callee := .value (.func 16), args := #[.tmp 19, .tmp 22], argTypes := #[61, 63] }, type := 56, pos := "law.go:21", after := aaw8_a4, guard := none } : Oper)) rfl (fun KK hK => ?_) AllReadyH.nil
          rw [if_pos (by rfl)]
          go_simp
          go_at_call 16; refine (BO.out _ _ HB.below CM).mono ?_; rintro e w25 ⟨rfl, hb⟩
          go_wp2_with fail
          refine hK.out _ _ ?_ (fun hHeld => ?_)
          · exact kS _ _ HB hb
          replace HB := hHeld; clear hHeld hK KK
          replace CM := CM.keep hb
          replace HS := HS.keep hb
          replace HA := HA.keep hb
          clear hb
          try simp only [Act.put, List.setIfInBounds_toArray, List.set_cons_zero, List.set_cons_succ]
          refine wpAnyH_take (i := 5) (oi := ({ dst := some 18, op := .move (.tmp 23), type := 56, pos := "law.go:21", after := aaw8_a5, guard := none } : Oper)) (v := ?vt1_48_) rfl aaw8_plain (by as_aux_lemma => kernel_rfl) (by as_aux_lemma => kernel_rfl) (fun _ _ _ h => h) (Or.inl ⟨by rfl, ?yt1_48_⟩) HB ?rt1_48_
          case yt1_48_ => (intro w hSw; (try dsimp only at hSw); go_simp; try with_reducible rfl)
          try simp only [Act.put, List.setIfInBounds_toArray, List.set_cons_zero, List.set_cons_succ]
          refine wpAnyH_take (i := 6) (oi := ({ dst := some 24, op := .extract (.tmp 18) 0, type := 32, pos := "law.go:21", after := aaw8_a6, guard := none } : Oper)) (v := ?vt1_49_) rfl aaw8_plain (by as_aux_lemma => kernel_rfl) (by as_aux_lemma => kernel_rfl) (fun _ _ _ h => h) (Or.inl ⟨by rfl, ?yt1_49_⟩) HB ?rt1_49_
          case yt1_49_ => (intro w hSw; (try dsimp only at hSw); go_simp; try with_reducible rfl)
          try simp only [Act.put, List.setIfInBounds_toArray, List.set_cons_zero, List.set_cons_succ]
          refine wpAnyH_take (i := 7) (oi := ({ dst := some 25, op := .extract (.tmp 18) 1, type := 32, pos := "law.go:21", after := aaw8_a7, guard := none } : Oper)) (v := ?vt1_50_) rfl aaw8_plain (by as_aux_lemma => kernel_rfl) (by as_aux_lemma => kernel_rfl) (fun _ _ _ h => h) (Or.inl ⟨by rfl, ?yt1_50_⟩) HB ?rt1_50_
          case yt1_50_ => (intro w hSw; (try dsimp only at hSw); go_simp; try with_reducible rfl)
          try simp only [Act.put, List.setIfInBounds_toArray, List.set_cons_zero, List.set_cons_succ]
          refine wpAnyH_ready (rs := [10]) (by as_aux_lemma => kernel_rfl) (by simp) ?_
          refine AllReadyH.cons (o := ({ dst := none, op := .store 32 (.tmp 3) (.tmp 24), type := 0, pos := "law.go:21", after := aaw8_a10, guard := none } : Oper)) rfl (fun KK hK => ?_) AllReadyH.nil
          rw [if_pos (by rfl)]
          have hne2 : ga ≠ gs := by (have h1 := hne; clear hne; (try dsimp only at h1); omega)
          have HC := Sp.join HA HS hne2
          clear HA HS hne hne2
          refine put_span (g := ga) (u := aL) (v := aH) rfl rfl rfl (HC.free_row 1 rfl (n := 2) rfl) ?_
          have N1 := (HC.put 1 rfl 0 (.int .i64 aL)).put 1 rfl 1 (.int .i64 aH)
          obtain ⟨w26, hX⟩ := setCell2_named w25 ga aL aH
          rw [← hX] at N1 ⊢
          have HN : Sp w [(w.heap.size, (rc R).map some)] w26 := N1.take 1
          clear hX HC
          refine hK.out _ _ ?_ (fun hHeld => ?_)
          · exact HN
          replace HB := hHeld; clear hHeld hK KK HN
          try simp only [Act.put]
          refine wpAnyH_ready (rs := [11]) (by as_aux_lemma => kernel_rfl) (by simp) ?_
          refine AllReadyH.cons (o := ({ dst := none, op := .store 32 (.tmp 4) (.tmp 25), type := 0, pos := "law.go:21", after := aaw8_a11, guard := none } : Oper)) rfl (fun KK hK => ?_) AllReadyH.nil
          rw [if_pos (by rfl)]
          refine put_span (g := gs) (u := sL) (v := sH) rfl rfl rfl (N1.free_row 2 rfl (n := 2) rfl) ?_
          have N2 := (N1.put 2 rfl 0 (.int .i64 sL)).put 2 rfl 1 (.int .i64 sH)
          obtain ⟨w27, hX⟩ := setCell2_named w26 gs sL sH
          rw [← hX] at N2 ⊢
          have HN : Sp w [(w.heap.size, (rc R).map some)] w27 := N2.take 1
          clear hX N1
          refine hK.out _ _ ?_ (fun hHeld => ?_)
          · exact HN
          replace HB := hHeld; clear hHeld hK KK HN
          try simp only [Act.put]
          refine wpAnyH_done (by as_aux_lemma => kernel_rfl) ?_ _
          refine NoPanic.normal ?_
          exact hQ _ _ _ _ _ _ _ _ _ _ _ N2
    · skip
      rw [if_pos (by rfl)]
      go_simp
      have hb := below1 w21 (.cells #[.int .i64 0, .int .i64 0] 32)
      have HA := HB.more [.int .i64 0, .int .i64 0] 32
      first | (have hne := Sp.lt2 HS) | skip
      obtain ⟨ga, hG⟩ : ∃ g, g = w21.heap.size := ⟨_, rfl⟩
      rw [← hG] at HA ⊢
      try rw [← hG] at hne
      clear hG
      obtain ⟨w22, hX⟩ : ∃ x, x = w21.alloc (.cells #[.int .i64 0, .int .i64 0] 32) := ⟨_, rfl⟩
      replace HA : Sp w [(w.heap.size, (rc R).map some), (ga, [some (.int .i64 0), some (.int .i64 0)])] w22 := hX ▸ HA
      rw [← hX] at hb ⊢
      clear hX
      refine hK.out _ _ ?_ (fun hHeld => ?_)
      · exact kS _ _ HB hb
      replace HB := hHeld; clear hHeld hK KK
      replace CM := CM.keep hb
      clear hb
      try simp only [Act.put, List.setIfInBounds_toArray, List.set_cons_zero, List.set_cons_succ]
      refine wpAnyH_ready (rs := [0, 9]) (by as_aux_lemma => kernel_rfl) (by simp) ?_
      refine AllReadyH.cons (o := ({ dst := some 19, op := .call { callee := .value (.func 17), args := #[], argTypes := #[] }, type := 61, pos := "law.go:21", after := aaw8_a0, guard := none } : Oper)) rfl (fun KK hK => ?_) (AllReadyH.cons (o := ({ dst := some 4, op := .alloc 32, type := 0, pos := "law.go:21", after := aaw8_a9, guard := none } : Oper)) rfl (fun KK hK => ?_) AllReadyH.nil)
      · skip
        rw [if_pos (by rfl)]
        go_simp
        go_at_call 17; refine (US.out _ HB.below).mono ?_; rintro e w23 ⟨rfl, hb⟩
        go_wp2_with fail
        refine hK.out _ _ ?_ (fun hHeld => ?_)
        · exact kS _ _ HB hb
        replace HB := hHeld; clear hHeld hK KK
        replace CM := CM.keep hb
        replace HA := HA.keep hb
        clear hb
        try simp only [Act.put, List.setIfInBounds_toArray, List.set_cons_zero, List.set_cons_succ]
        refine wpAnyH_ready (rs := [4, 9]) (by as_aux_lemma => kernel_rfl) (by simp) ?_
        refine AllReadyH.cons (o := ({ dst := some 23, op := .call { callee := .value (.func 16), args := #[.tmp 19, .tmp 22], argTypes := #[61, 63] }, type := 56, pos := "law.go:21", after := aaw8_a4, guard := none } : Oper)) rfl (fun KK hK => ?_) (AllReadyH.cons (o := ({ dst := some 4, op := .alloc 32, type := 0, pos := "law.go:21", after := aaw8_a9, guard := none } : Oper)) rfl (fun KK hK => ?_) AllReadyH.nil)
        · skip
          rw [if_pos (by rfl)]
          go_simp
          go_at_call 16; refine (BO.out _ _ HB.below CM).mono ?_; rintro e w24 ⟨rfl, hb⟩
          go_wp2_with fail
          refine hK.out _ _ ?_ (fun hHeld => ?_)
          · exact kS _ _ HB hb
          replace HB := hHeld; clear hHeld hK KK
          replace CM := CM.keep hb
          replace HA := HA.keep hb
          clear hb
          try simp only [Act.put, List.setIfInBounds_toArray, List.set_cons_zero, List.set_cons_succ]
          refine wpAnyH_take (i := 5) (oi := ({ dst := some 18, op := .move (.tmp 23), type := 56, pos := "law.go:21", after := aaw8_a5, guard := none } : Oper)) (v := ?vt1_51_) rfl aaw8_plain (by as_aux_lemma => kernel_rfl) (by as_aux_lemma => kernel_rfl) (fun _ _ _ h => h) (Or.inl ⟨by rfl, ?yt1_51_⟩) HB ?rt1_51_
          case yt1_51_ => (intro w hSw; (try dsimp only at hSw); go_simp; try with_reducible rfl)
          try simp only [Act.put, List.setIfInBounds_toArray, List.set_cons_zero, List.set_cons_succ]
          refine wpAnyH_take (i := 6) (oi := ({ dst := some 24, op := .extract (.tmp 18) 0, type := 32, pos := "law.go:21", after := aaw8_a6, guard := none } : Oper)) (v := ?vt1_52_) rfl aaw8_plain (by as_aux_lemma => kernel_rfl) (by as_aux_lemma => kernel_rfl) (fun _ _ _ h => h) (Or.inl ⟨by rfl, ?yt1_52_⟩) HB ?rt1_52_
          case yt1_52_ => (intro w hSw; (try dsimp only at hSw); go_simp; try with_reducible rfl)
          try simp only [Act.put, List.setIfInBounds_toArray, List.set_cons_zero, List.set_cons_succ]
          refine wpAnyH_take (i := 7) (oi := ({ dst := some 25, op := .extract (.tmp 18) 1, type := 32, pos := "law.go:21", after := aaw8_a7, guard := none } : Oper)) (v := ?vt1_53_) rfl aaw8_plain (by as_aux_lemma => kernel_rfl) (by as_aux_lemma => kernel_rfl) (fun _ _ _ h => h) (Or.inl ⟨by rfl, ?yt1_53_⟩) HB ?rt1_53_
          case yt1_53_ => (intro w hSw; (try dsimp only at hSw); go_simp; try with_reducible rfl)
          try simp only [Act.put, List.setIfInBounds_toArray, List.set_cons_zero, List.set_cons_succ]
          refine wpAnyH_ready (rs := [9]) (by as_aux_lemma => kernel_rfl) (by simp) ?_
          refine AllReadyH.cons (o := ({ dst := some 4, op := .alloc 32, type := 0, pos := "law.go:21", after := aaw8_a9, guard := none } : Oper)) rfl (fun KK hK => ?_) AllReadyH.nil
          rw [if_pos (by rfl)]
          go_simp
          have hb := below1 w24 (.cells #[.int .i64 0, .int .i64 0] 32)
          have HS := HB.more [.int .i64 0, .int .i64 0] 32
          first | (have hne := Sp.lt2 HA) | skip
          obtain ⟨gs, hG⟩ : ∃ g, g = w24.heap.size := ⟨_, rfl⟩
          rw [← hG] at HS ⊢
          try rw [← hG] at hne
          clear hG
          obtain ⟨w25, hX⟩ : ∃ x, x = w24.alloc (.cells #[.int .i64 0, .int .i64 0] 32) := ⟨_, rfl⟩
          replace HS : Sp w [(w.heap.size, (rc R).map some), (gs, [some (.int .i64 0), some (.int .i64 0)])] w25 := hX ▸ HS
          rw [← hX] at hb ⊢
          clear hX
          refine hK.out _ _ ?_ (fun hHeld => ?_)
          · exact kS _ _ HB hb
          replace HB := hHeld; clear hHeld hK KK
          replace CM := CM.keep hb
          replace HA := HA.keep hb
          clear hb
          try simp only [Act.put, List.setIfInBounds_toArray, List.set_cons_zero, List.set_cons_succ]
          refine wpAnyH_ready (rs := [10]) (by as_aux_lemma => kernel_rfl) (by simp) ?_
          refine AllReadyH.cons (o := ({ dst := none, op := .store 32 (.tmp 3) (.tmp 24), type := 0, pos := "law.go:21", after := aaw8_a10, guard := none } : Oper)) rfl (fun KK hK => ?_) AllReadyH.nil
          rw [if_pos (by rfl)]
          have hne2 : ga ≠ gs := by (have h1 := hne; clear hne; (try dsimp only at h1); omega)
          have HC := Sp.join HA HS hne2
          clear HA HS hne hne2
          refine put_span (g := ga) (u := aL) (v := aH) rfl rfl rfl (HC.free_row 1 rfl (n := 2) rfl) ?_
          have N1 := (HC.put 1 rfl 0 (.int .i64 aL)).put 1 rfl 1 (.int .i64 aH)
          obtain ⟨w26, hX⟩ := setCell2_named w25 ga aL aH
          rw [← hX] at N1 ⊢
          have HN : Sp w [(w.heap.size, (rc R).map some)] w26 := N1.take 1
          clear hX HC
          refine hK.out _ _ ?_ (fun hHeld => ?_)
          · exact HN
          replace HB := hHeld; clear hHeld hK KK HN
          try simp only [Act.put]
          refine wpAnyH_ready (rs := [11]) (by as_aux_lemma => kernel_rfl) (by simp) ?_
          refine AllReadyH.cons (o := ({ dst := none, op := .store 32 (.tmp 4) (.tmp 25), type := 0, pos := "law.go:21", after := aaw8_a11, guard := none } : Oper)) rfl (fun KK hK => ?_) AllReadyH.nil
          rw [if_pos (by rfl)]
          refine put_span (g := gs) (u := sL) (v := sH) rfl rfl rfl (N1.free_row 2 rfl (n := 2) rfl) ?_
          have N2 := (N1.put 2 rfl 0 (.int .i64 sL)).put 2 rfl 1 (.int .i64 sH)
          obtain ⟨w27, hX⟩ := setCell2_named w26 gs sL sH
          rw [← hX] at N2 ⊢
          have HN : Sp w [(w.heap.size, (rc R).map some)] w27 := N2.take 1
          clear hX N1
          refine hK.out _ _ ?_ (fun hHeld => ?_)
          · exact HN
          replace HB := hHeld; clear hHeld hK KK HN
          try simp only [Act.put]
          refine wpAnyH_done (by as_aux_lemma => kernel_rfl) ?_ _
          refine NoPanic.normal ?_
          exact hQ _ _ _ _ _ _ _ _ _ _ _ N2
        · skip
          rw [if_pos (by rfl)]
          go_simp
          have hb := below1 w23 (.cells #[.int .i64 0, .int .i64 0] 32)
          have HS := HB.more [.int .i64 0, .int .i64 0] 32
          first | (have hne := Sp.lt2 HA) | skip
          obtain ⟨gs, hG⟩ : ∃ g, g = w23.heap.size := ⟨_, rfl⟩
          rw [← hG] at HS ⊢
          try rw [← hG] at hne
          clear hG
          obtain ⟨w24, hX⟩ : ∃ x, x = w23.alloc (.cells #[.int .i64 0, .int .i64 0] 32) := ⟨_, rfl⟩
          replace HS : Sp w [(w.heap.size, (rc R).map some), (gs, [some (.int .i64 0), some (.int .i64 0)])] w24 := hX ▸ HS
          rw [← hX] at hb ⊢
          clear hX
          refine hK.out _ _ ?_ (fun hHeld => ?_)
          · exact kS _ _ HB hb
          replace HB := hHeld; clear hHeld hK KK
          replace CM := CM.keep hb
          replace HA := HA.keep hb
          clear hb
          try simp only [Act.put, List.setIfInBounds_toArray, List.set_cons_zero, List.set_cons_succ]
          refine wpAnyH_ready (rs := [4]) (by as_aux_lemma => kernel_rfl) (by simp) ?_
          refine AllReadyH.cons (o := ({ dst := some 23, op := .call { callee := .value (.func 16), args := #[.tmp 19, .tmp 22], argTypes := #[61, 63] }, type := 56, pos := "law.go:21", after := aaw8_a4, guard := none } : Oper)) rfl (fun KK hK => ?_) AllReadyH.nil
          rw [if_pos (by rfl)]
          go_simp
          go_at_call 16; refine (BO.out _ _ HB.below CM).mono ?_; rintro e w25 ⟨rfl, hb⟩
          go_wp2_with fail
          refine hK.out _ _ ?_ (fun hHeld => ?_)
          · exact kS _ _ HB hb
          replace HB := hHeld; clear hHeld hK KK
          replace CM := CM.keep hb
          replace HA := HA.keep hb
          replace HS := HS.keep hb
          clear hb
          try simp only [Act.put, List.setIfInBounds_toArray, List.set_cons_zero, List.set_cons_succ]
          refine wpAnyH_take (i := 5) (oi := ({ dst := some 18, op := .move (.tmp 23), type := 56, pos := "law.go:21", after := aaw8_a5, guard := none } : Oper)) (v := ?vt1_54_) rfl aaw8_plain (by as_aux_lemma => kernel_rfl) (by as_aux_lemma => kernel_rfl) (fun _ _ _ h => h) (Or.inl ⟨by rfl, ?yt1_54_⟩) HB ?rt1_54_
          case yt1_54_ => (intro w hSw; (try dsimp only at hSw); go_simp; try with_reducible rfl)
          try simp only [Act.put, List.setIfInBounds_toArray, List.set_cons_zero, List.set_cons_succ]
          refine wpAnyH_take (i := 6) (oi := ({ dst := some 24, op := .extract (.tmp 18) 0, type := 32, pos := "law.go:21", after := aaw8_a6, guard := none } : Oper)) (v := ?vt1_55_) rfl aaw8_plain (by as_aux_lemma => kernel_rfl) (by as_aux_lemma => kernel_rfl) (fun _ _ _ h => h) (Or.inl ⟨by rfl, ?yt1_55_⟩) HB ?rt1_55_
          case yt1_55_ => (intro w hSw; (try dsimp only at hSw); go_simp; try with_reducible rfl)
          try simp only [Act.put, List.setIfInBounds_toArray, List.set_cons_zero, List.set_cons_succ]
          refine wpAnyH_take (i := 7) (oi := ({ dst := some 25, op := .extract (.tmp 18) 1, type := 32, pos := "law.go:21", after := aaw8_a7, guard := none } : Oper)) (v := ?vt1_56_) rfl aaw8_plain (by as_aux_lemma => kernel_rfl) (by as_aux_lemma => kernel_rfl) (fun _ _ _ h => h) (Or.inl ⟨by rfl, ?yt1_56_⟩) HB ?rt1_56_
          case yt1_56_ => (intro w hSw; (try dsimp only at hSw); go_simp; try with_reducible rfl)
          try simp only [Act.put, List.setIfInBounds_toArray, List.set_cons_zero, List.set_cons_succ]
          refine wpAnyH_ready (rs := [10]) (by as_aux_lemma => kernel_rfl) (by simp) ?_
          refine AllReadyH.cons (o := ({ dst := none, op := .store 32 (.tmp 3) (.tmp 24), type := 0, pos := "law.go:21", after := aaw8_a10, guard := none } : Oper)) rfl (fun KK hK => ?_) AllReadyH.nil
          rw [if_pos (by rfl)]
          have hne2 : ga ≠ gs := by (have h1 := hne; clear hne; (try dsimp only at h1); omega)
          have HC := Sp.join HA HS hne2
          clear HA HS hne hne2
          refine put_span (g := ga) (u := aL) (v := aH) rfl rfl rfl (HC.free_row 1 rfl (n := 2) rfl) ?_
          have N1 := (HC.put 1 rfl 0 (.int .i64 aL)).put 1 rfl 1 (.int .i64 aH)
          obtain ⟨w26, hX⟩ := setCell2_named w25 ga aL aH
          rw [← hX] at N1 ⊢
          have HN : Sp w [(w.heap.size, (rc R).map some)] w26 := N1.take 1
          clear hX HC
          refine hK.out _ _ ?_ (fun hHeld => ?_)
          · exact HN
          replace HB := hHeld; clear hHeld hK KK HN
          try simp only [Act.put]
          refine wpAnyH_ready (rs := [11]) (by as_aux_lemma => kernel_rfl) (by simp) ?_
          refine AllReadyH.cons (o := ({ dst := none, op := .store 32 (.tmp 4) (.tmp 25), type := 0, pos := "law.go:21", after := aaw8_a11, guard := none } : Oper)) rfl (fun KK hK => ?_) AllReadyH.nil
          rw [if_pos (by rfl)]
          refine put_span (g := gs) (u := sL) (v := sH) rfl rfl rfl (N1.free_row 2 rfl (n := 2) rfl) ?_
          have N2 := (N1.put 2 rfl 0 (.int .i64 sL)).put 2 rfl 1 (.int .i64 sH)
          obtain ⟨w27, hX⟩ := setCell2_named w26 gs sL sH
          rw [← hX] at N2 ⊢
          have HN : Sp w [(w.heap.size, (rc R).map some)] w27 := N2.take 1
          clear hX N1
          refine hK.out _ _ ?_ (fun hHeld => ?_)
          · exact HN
          replace HB := hHeld; clear hHeld hK KK HN
          try simp only [Act.put]
          refine wpAnyH_done (by as_aux_lemma => kernel_rfl) ?_ _
          refine NoPanic.normal ?_
          exact hQ _ _ _ _ _ _ _ _ _ _ _ N2
      · skip
        rw [if_pos (by rfl)]
        go_simp
        have hb := below1 w22 (.cells #[.int .i64 0, .int .i64 0] 32)
        have HS := HB.more [.int .i64 0, .int .i64 0] 32
        first | (have hne := Sp.lt2 HA) | skip
        obtain ⟨gs, hG⟩ : ∃ g, g = w22.heap.size := ⟨_, rfl⟩
        rw [← hG] at HS ⊢
        try rw [← hG] at hne
        clear hG
        obtain ⟨w23, hX⟩ : ∃ x, x = w22.alloc (.cells #[.int .i64 0, .int .i64 0] 32) := ⟨_, rfl⟩
        replace HS : Sp w [(w.heap.size, (rc R).map some), (gs, [some (.int .i64 0), some (.int .i64 0)])] w23 := hX ▸ HS
        rw [← hX] at hb ⊢
        clear hX
        refine hK.out _ _ ?_ (fun hHeld => ?_)
        · exact kS _ _ HB hb
        replace HB := hHeld; clear hHeld hK KK
        replace CM := CM.keep hb
        replace HA := HA.keep hb
        clear hb
        try simp only [Act.put, List.setIfInBounds_toArray, List.set_cons_zero, List.set_cons_succ]
        refine wpAnyH_ready (rs := [0]) (by as_aux_lemma => kernel_rfl) (by simp) ?_
        refine AllReadyH.cons (o := ({ dst := some 19, op := .call { callee := .value (.func 17), args := #[], argTypes := #[] }, type := 61, pos := "law.go:21", after := aaw8_a0, guard := none } : Oper)) rfl (fun KK hK => ?_) AllReadyH.nil
        rw [if_pos (by rfl)]
        go_simp
        go_at_call 17; refine (US.out _ HB.below).mono ?_; rintro e w24 ⟨rfl, hb⟩
        go_wp2_with fail
        refine hK.out _ _ ?_ (fun hHeld => ?_)
        · exact kS _ _ HB hb
        replace HB := hHeld; clear hHeld hK KK
        replace CM := CM.keep hb
        replace HA := HA.keep hb
        replace HS := HS.keep hb
        clear hb
        try simp only [Act.put, List.setIfInBounds_toArray, List.set_cons_zero, List.set_cons_succ]
        refine wpAnyH_ready (rs := [4]) (by as_aux_lemma => kernel_rfl) (by simp) ?_
        refine AllReadyH.cons (o := ({ dst := some 23, op := .call { callee := .value (.func 16), args := #[.tmp 19, .tmp 22], argTypes := #[61, 63] }, type := 56, pos := "law.go:21", after := aaw8_a4, guard := none } : Oper)) rfl (fun KK hK => ?_) AllReadyH.nil
        rw [if_pos (by rfl)]
        go_simp
        go_at_call 16; refine (BO.out _ _ HB.below CM).mono ?_; rintro e w25 ⟨rfl, hb⟩
        go_wp2_with fail
        refine hK.out _ _ ?_ (fun hHeld => ?_)
        · exact kS _ _ HB hb
        replace HB := hHeld; clear hHeld hK KK
        replace CM := CM.keep hb
        replace HA := HA.keep hb
        replace HS := HS.keep hb
        clear hb
        try simp only [Act.put, List.setIfInBounds_toArray, List.set_cons_zero, List.set_cons_succ]
        refine wpAnyH_take (i := 5) (oi := ({ dst := some 18, op := .move (.tmp 23), type := 56, pos := "law.go:21", after := aaw8_a5, guard := none } : Oper)) (v := ?vt1_57_) rfl aaw8_plain (by as_aux_lemma => kernel_rfl) (by as_aux_lemma => kernel_rfl) (fun _ _ _ h => h) (Or.inl ⟨by rfl, ?yt1_57_⟩) HB ?rt1_57_
        case yt1_57_ => (intro w hSw; (try dsimp only at hSw); go_simp; try with_reducible rfl)
        try simp only [Act.put, List.setIfInBounds_toArray, List.set_cons_zero, List.set_cons_succ]
        refine wpAnyH_take (i := 6) (oi := ({ dst := some 24, op := .extract (.tmp 18) 0, type := 32, pos := "law.go:21", after := aaw8_a6, guard := none } : Oper)) (v := ?vt1_58_) rfl aaw8_plain (by as_aux_lemma => kernel_rfl) (by as_aux_lemma => kernel_rfl) (fun _ _ _ h => h) (Or.inl ⟨by rfl, ?yt1_58_⟩) HB ?rt1_58_
        case yt1_58_ => (intro w hSw; (try dsimp only at hSw); go_simp; try with_reducible rfl)
        try simp only [Act.put, List.setIfInBounds_toArray, List.set_cons_zero, List.set_cons_succ]
        refine wpAnyH_take (i := 7) (oi := ({ dst := some 25, op := .extract (.tmp 18) 1, type := 32, pos := "law.go:21", after := aaw8_a7, guard := none } : Oper)) (v := ?vt1_59_) rfl aaw8_plain (by as_aux_lemma => kernel_rfl) (by as_aux_lemma => kernel_rfl) (fun _ _ _ h => h) (Or.inl ⟨by rfl, ?yt1_59_⟩) HB ?rt1_59_
        case yt1_59_ => (intro w hSw; (try dsimp only at hSw); go_simp; try with_reducible rfl)
        try simp only [Act.put, List.setIfInBounds_toArray, List.set_cons_zero, List.set_cons_succ]
        refine wpAnyH_ready (rs := [10]) (by as_aux_lemma => kernel_rfl) (by simp) ?_
        refine AllReadyH.cons (o := ({ dst := none, op := .store 32 (.tmp 3) (.tmp 24), type := 0, pos := "law.go:21", after := aaw8_a10, guard := none } : Oper)) rfl (fun KK hK => ?_) AllReadyH.nil
        rw [if_pos (by rfl)]
        have hne2 : ga ≠ gs := by (have h1 := hne; clear hne; (try dsimp only at h1); omega)
        have HC := Sp.join HA HS hne2
        clear HA HS hne hne2
        refine put_span (g := ga) (u := aL) (v := aH) rfl rfl rfl (HC.free_row 1 rfl (n := 2) rfl) ?_
        have N1 := (HC.put 1 rfl 0 (.int .i64 aL)).put 1 rfl 1 (.int .i64 aH)
        obtain ⟨w26, hX⟩ := setCell2_named w25 ga aL aH
        rw [← hX] at N1 ⊢
        have HN : Sp w [(w.heap.size, (rc R).map some)] w26 := N1.take 1
        clear hX HC
        refine hK.out _ _ ?_ (fun hHeld => ?_)
        · exact HN
        replace HB := hHeld; clear hHeld hK KK HN
        try simp only [Act.put]
        refine wpAnyH_ready (rs := [11]) (by as_aux_lemma => kernel_rfl) (by simp) ?_
        refine AllReadyH.cons (o := ({ dst := none, op := .store 32 (.tmp 4) (.tmp 25), type := 0, pos := "law.go:21", after := aaw8_a11, guard := none } : Oper)) rfl (fun KK hK => ?_) AllReadyH.nil
        rw [if_pos (by rfl)]
        refine put_span (g := gs) (u := sL) (v := sH) rfl rfl rfl (N1.free_row 2 rfl (n := 2) rfl) ?_
        have N2 := (N1.put 2 rfl 0 (.int .i64 sL)).put 2 rfl 1 (.int .i64 sH)
        obtain ⟨w27, hX⟩ := setCell2_named w26 gs sL sH
        rw [← hX] at N2 ⊢
        have HN : Sp w [(w.heap.size, (rc R).map some)] w27 := N2.take 1
        clear hX N1
        refine hK.out _ _ ?_ (fun hHeld => ?_)
        · exact HN
        replace HB := hHeld; clear hHeld hK KK HN
        try simp only [Act.put]
        refine wpAnyH_done (by as_aux_lemma => kernel_rfl) ?_ _
        refine NoPanic.normal ?_
        exact hQ _ _ _ _ _ _ _ _ _ _ _ N2
    · skip
      rw [if_pos (by rfl)]
      go_simp
      have hb := below1 w21 (.cells #[.int .i64 0, .int .i64 0] 32)
      have HS := HB.more [.int .i64 0, .int .i64 0] 32
      first | (have hne := Sp.lt2 HA) | skip
      obtain ⟨gs, hG⟩ : ∃ g, g = w21.heap.size := ⟨_, rfl⟩
      rw [← hG] at HS ⊢
      try rw [← hG] at hne
      clear hG
      obtain ⟨w22, hX⟩ : ∃ x, x = w21.alloc (.cells #[.int .i64 0, .int .i64 0] 32) := ⟨_, rfl⟩
      replace HS : Sp w [(w.heap.size, (rc R).map some), (gs, [some (.int .i64 0), some (.int .i64 0)])] w22 := hX ▸ HS
      rw [← hX] at hb ⊢
      clear hX
      refine hK.out _ _ ?_ (fun hHeld => ?_)
      · exact kS _ _ HB hb
      replace HB := hHeld; clear hHeld hK KK
      replace CM := CM.keep hb
      clear hb
      try simp only [Act.put, List.setIfInBounds_toArray, List.set_cons_zero, List.set_cons_succ]
      refine wpAnyH_ready (rs := [0, 8]) (by as_aux_lemma => kernel_rfl) (by simp) ?_
      refine AllReadyH.cons (o := ({ dst := some 19, op := .call { callee := .value (.func 17), args := #[], argTypes := #[] }, type := 61, pos := "law.go:21", after := aaw8_a0, guard := none } : Oper)) rfl (fun KK hK => ?_) (AllReadyH.cons (o := ({ dst := some 3, op := .alloc 32, type := 0, pos := "law.go:21", after := aaw8_a8, guard := none } : Oper)) rfl (fun KK hK => ?_) AllReadyH.nil)
      · skip
        rw [if_pos (by rfl)]
        go_simp
        go_at_call 17; refine (US.out _ HB.below).mono ?_; rintro e w23 ⟨rfl, hb⟩
        go_wp2_with fail
        refine hK.out _ _ ?_ (fun hHeld => ?_)
        · exact kS _ _ HB hb
        replace HB := hHeld; clear hHeld hK KK
        replace CM := CM.keep hb
        replace HS := HS.keep hb
        clear hb
        try simp only [Act.put, List.setIfInBounds_toArray, List.set_cons_zero, List.set_cons_succ]
        refine wpAnyH_ready (rs := [4, 8]) (by as_aux_lemma => kernel_rfl) (by simp) ?_
        refine AllReadyH.cons (o := ({ dst := some 23, op := .call { callee := .value (.func 16), args := #[.tmp 19, .tmp 22], argTypes := #[61, 63] }, type := 56, pos := "law.go:21", after := aaw8_a4, guard := none } : Oper)) rfl (fun KK hK => ?_) (AllReadyH.cons (o := ({ dst := some 3, op := .alloc 32, type := 0, pos := "law.go:21", after := aaw8_a8, guard := none } : Oper)) rfl (fun KK hK => ?_) AllReadyH.nil)
        · skip
          rw [if_pos (by rfl)]
          go_simp
          go_at_call 16; refine (BO.out _ _ HB.below CM).mono ?_; rintro e w24 ⟨rfl, hb⟩
          go_wp2_with fail
          refine hK.out _ _ ?_ (fun hHeld => ?_)
          · exact kS _ _ HB hb
          replace HB := hHeld; clear hHeld hK KK
          replace CM := CM.keep hb
          replace HS := HS.keep hb
          clear hb
          try simp only [Act.put, List.setIfInBounds_toArray, List.set_cons_zero, List.set_cons_succ]
          refine wpAnyH_take (i := 5) (oi := ({ dst := some 18, op := .move (.tmp 23), type := 56, pos := "law.go:21", after := aaw8_a5, guard := none } : Oper)) (v := ?vt1_60_) rfl aaw8_plain (by as_aux_lemma => kernel_rfl) (by as_aux_lemma => kernel_rfl) (fun _ _ _ h => h) (Or.inl ⟨by rfl, ?yt1_60_⟩) HB ?rt1_60_
          case yt1_60_ => (intro w hSw; (try dsimp only at hSw); go_simp; try with_reducible rfl)
          try simp only [Act.put, List.setIfInBounds_toArray, List.set_cons_zero, List.set_cons_succ]
          refine wpAnyH_take (i := 6) (oi := ({ dst := some 24, op := .extract (.tmp 18) 0, type := 32, pos := "law.go:21", after := aaw8_a6, guard := none } : Oper)) (v := ?vt1_61_) rfl aaw8_plain (by as_aux_lemma => kernel_rfl) (by as_aux_lemma => kernel_rfl) (fun _ _ _ h => h) (Or.inl ⟨by rfl, ?yt1_61_⟩) HB ?rt1_61_
          case yt1_61_ => (intro w hSw; (try dsimp only at hSw); go_simp; try with_reducible rfl)
          try simp only [Act.put, List.setIfInBounds_toArray, List.set_cons_zero, List.set_cons_succ]
          refine wpAnyH_take (i := 7) (oi := ({ dst := some 25, op := .extract (.tmp 18) 1, type := 32, pos := "law.go:21", after := aaw8_a7, guard := none } : Oper)) (v := ?vt1_62_) rfl aaw8_plain (by as_aux_lemma => kernel_rfl) (by as_aux_lemma => kernel_rfl) (fun _ _ _ h => h) (Or.inl ⟨by rfl, ?yt1_62_⟩) HB ?rt1_62_
          case yt1_62_ => (intro w hSw; (try dsimp only at hSw); go_simp; try with_reducible rfl)
          try simp only [Act.put, List.setIfInBounds_toArray, List.set_cons_zero, List.set_cons_succ]
          refine wpAnyH_ready (rs := [8]) (by as_aux_lemma => kernel_rfl) (by simp) ?_
          refine AllReadyH.cons (o := ({ dst := some 3, op := .alloc 32, type := 0, pos := "law.go:21", after := aaw8_a8, guard := none } : Oper)) rfl (fun KK hK => ?_) AllReadyH.nil
          rw [if_pos (by rfl)]
          go_simp
          have hb := below1 w24 (.cells #[.int .i64 0, .int .i64 0] 32)
          have HA := HB.more [.int .i64 0, .int .i64 0] 32
          first | (have hne := Sp.lt2 HS) | skip
          obtain ⟨ga, hG⟩ : ∃ g, g = w24.heap.size := ⟨_, rfl⟩
          rw [← hG] at HA ⊢
          try rw [← hG] at hne
          clear hG
          obtain ⟨w25, hX⟩ : ∃ x, x = w24.alloc (.cells #[.int .i64 0, .int .i64 0] 32) := ⟨_, rfl⟩
          replace HA : Sp w [(w.heap.size, (rc R).map some), (ga, [some (.int .i64 0), some (.int .i64 0)])] w25 := hX ▸ HA
          rw [← hX] at hb ⊢
          clear hX
          refine hK.out _ _ ?_ (fun hHeld => ?_)
          · exact kS _ _ HB hb
          replace HB := hHeld; clear hHeld hK KK
          replace CM := CM.keep hb
          replace HS := HS.keep hb
          clear hb
          try simp only [Act.put, List.setIfInBounds_toArray, List.set_cons_zero, List.set_cons_succ]
          refine wpAnyH_ready (rs := [10]) (by as_aux_lemma => kernel_rfl) (by simp) ?_
          refine AllReadyH.cons (o := ({ dst := none, op := .store 32 (.tmp 3) (.tmp 24), type := 0, pos := "law.go:21", after := aaw8_a10, guard := none } : Oper)) rfl (fun KK hK => ?_) AllReadyH.nil
          rw [if_pos (by rfl)]
          have hne2 : ga ≠ gs := by (have h1 := hne; clear hne; (try dsimp only at h1); omega)
          have HC := Sp.join HA HS hne2
          clear HA HS hne hne2
          refine put_span (g := ga) (u := aL) (v := aH) rfl rfl rfl (HC.free_row 1 rfl (n := 2) rfl) ?_
          have N1 := (HC.put 1 rfl 0 (.int .i64 aL)).put 1 rfl 1 (.int .i64 aH)
          obtain ⟨w26, hX⟩ := setCell2_named w25 ga aL aH
          rw [← hX] at N1 ⊢
          have HN : Sp w [(w.heap.size, (rc R).map some)] w26 := N1.take 1
          clear hX HC
          refine hK.out _ _ ?_ (fun hHeld => ?_)
          · exact HN
          replace HB := hHeld; clear hHeld hK KK HN
          try simp only [Act.put]
          refine wpAnyH_ready (rs := [11]) (by as_aux_lemma => kernel_rfl) (by simp) ?_
          refine AllReadyH.cons (o := ({ dst := none, op := .store 32 (.tmp 4) (.tmp 25), type := 0, pos := "law.go:21", after := aaw8_a11, guard := none } : Oper)) rfl (fun KK hK => ?_) AllReadyH.nil
          rw [if_pos (by rfl)]
          refine put_span (g := gs) (u := sL) (v := sH) rfl rfl rfl (N1.free_row 2 rfl (n := 2) rfl) ?_
          have N2 := (N1.put 2 rfl 0 (.int .i64 sL)).put 2 rfl 1 (.int .i64 sH)
          obtain ⟨w27, hX⟩ := setCell2_named w26 gs sL sH
          rw [← hX] at N2 ⊢
          have HN : Sp w [(w.heap.size, (rc R).map some)] w27 := N2.take 1
          clear hX N1
          refine hK.out _ _ ?_ (fun hHeld => ?_)
          · exact HN
          replace HB := hHeld; clear hHeld hK KK HN
          try simp only [Act.put]
          refine wpAnyH_done (by as_aux_lemma => kernel_rfl) ?_ _
          refine NoPanic.normal ?_
          exact hQ _ _ _ _ _ _ _ _ _ _ _ N2
        · skip
          rw [if_pos (by rfl)]
          go_simp
          have hb := below1 w23 (.cells #[.int .i64 0, .int .i64 0] 32)
          have HA := HB.more [.int .i64 0, .int .i64 0] 32
          first | (have hne := Sp.lt2 HS) | skip
          obtain ⟨ga, hG⟩ : ∃ g, g = w23.heap.size := ⟨_, rfl⟩
          rw [← hG] at HA ⊢
          try rw [← hG] at hne
          clear hG
          obtain ⟨w24, hX⟩ : ∃ x, x = w23.alloc (.cells #[.int .i64 0, .int .i64 0] 32) := ⟨_, rfl⟩
          replace HA : Sp w [(w.heap.size, (rc R).map some), (ga, [some (.int .i64 0), some (.int .i64 0)])] w24 := hX ▸ HA
          rw [← hX] at hb ⊢
          clear hX
          refine hK.out _ _ ?_ (fun hHeld => ?_)
          · exact kS _ _ HB hb
          replace HB := hHeld; clear hHeld hK KK
          replace CM := CM.keep hb
          replace HS := HS.keep hb
          clear hb
          try simp only [Act.put, List.setIfInBounds_toArray, List.set_cons_zero, List.set_cons_succ]
          refine wpAnyH_ready (rs := [4]) (by as_aux_lemma => kernel_rfl) (by simp) ?_
          refine AllReadyH.cons (o := ({ dst := some 23, op := .call { callee := .value (.func 16), args := #[.tmp 19, .tmp 22], argTypes := #[61, 63] }, type := 56, pos := "law.go:21", after := aaw8_a4, guard := none } : Oper)) rfl (fun KK hK => ?_) AllReadyH.nil
          rw [if_pos (by rfl)]
          go_simp
          go_at_call 16; refine (BO.out _ _ HB.below CM).mono ?_; rintro e w25 ⟨rfl, hb⟩
          go_wp2_with fail
          refine hK.out _ _ ?_ (fun hHeld => ?_)
          · exact kS _ _ HB hb
          replace HB := hHeld; clear hHeld hK KK
          replace CM := CM.keep hb
          replace HS := HS.keep hb
          replace HA := HA.keep hb
          clear hb
          try simp only [Act.put, List.setIfInBounds_toArray, List.set_cons_zero, List.set_cons_succ]
          refine wpAnyH_take (i := 5) (oi := ({ dst := some 18, op := .move (.tmp 23), type := 56, pos := "law.go:21", after := aaw8_a5, guard := none } : Oper)) (v := ?vt1_63_) rfl aaw8_plain (by as_aux_lemma => kernel_rfl) (by as_aux_lemma => kernel_rfl) (fun _ _ _ h => h) (Or.inl ⟨by rfl, ?yt1_63_⟩) HB ?rt1_63_
          case yt1_63_ => (intro w hSw; (try dsimp only at hSw); go_simp; try with_reducible rfl)
          try simp only [Act.put, List.setIfInBounds_toArray, List.set_cons_zero, List.set_cons_succ]
          refine wpAnyH_take (i := 6) (oi := ({ dst := some 24, op := .extract (.tmp 18) 0, type := 32, pos := "law.go:21", after := aaw8_a6, guard := none } : Oper)) (v := ?vt1_64_) rfl aaw8_plain (by as_aux_lemma => kernel_rfl) (by as_aux_lemma => kernel_rfl) (fun _ _ _ h => h) (Or.inl ⟨by rfl, ?yt1_64_⟩) HB ?rt1_64_
          case yt1_64_ => (intro w hSw; (try dsimp only at hSw); go_simp; try with_reducible rfl)
          try simp only [Act.put, List.setIfInBounds_toArray, List.set_cons_zero, List.set_cons_succ]
          refine wpAnyH_take (i := 7) (oi := ({ dst := some 25, op := .extract (.tmp 18) 1, type := 32, pos := "law.go:21", after := aaw8_a7, guard := none } : Oper)) (v := ?vt1_65_) rfl aaw8_plain (by as_aux_lemma => kernel_rfl) (by as_aux_lemma => kernel_rfl) (fun _ _ _ h => h) (Or.inl ⟨by rfl, ?yt1_65_⟩) HB ?rt1_65_
          case yt1_65_ => (intro w hSw; (try dsimp only at hSw); go_simp; try with_reducible rfl)
          try simp only [Act.put, List.setIfInBounds_toArray, List.set_cons_zero, List.set_cons_succ]
          refine wpAnyH_ready (rs := [10]) (by as_aux_lemma => kernel_rfl) (by simp) ?_
          refine AllReadyH.cons (o := ({ dst := none, op := .store 32 (.tmp 3) (.tmp 24), type := 0, pos := "law.go:21", after := aaw8_a10, guard := none } : Oper)) rfl (fun KK hK => ?_) AllReadyH.nil
          rw [if_pos (by rfl)]
          have hne2 : ga ≠ gs := by (have h1 := hne; clear hne; (try dsimp only at h1); omega)
          have HC := Sp.join HA HS hne2
          clear HA HS hne hne2
          refine put_span (g := ga) (u := aL) (v := aH) rfl rfl rfl (HC.free_row 1 rfl (n := 2) rfl) ?_
          have N1 := (HC.put 1 rfl 0 (.int .i64 aL)).put 1 rfl 1 (.int .i64 aH)
          obtain ⟨w26, hX⟩ := setCell2_named w25 ga aL aH
          rw [← hX] at N1 ⊢
          have HN : Sp w [(w.heap.size, (rc R).map some)] w26 := N1.take 1
          clear hX HC
          refine hK.out _ _ ?_ (fun hHeld => ?_)
          · exact HN
          replace HB := hHeld; clear hHeld hK KK HN
          try simp only [Act.put]
          refine wpAnyH_ready (rs := [11]) (by as_aux_lemma => kernel_rfl) (by simp) ?_
          refine AllReadyH.cons (o := ({ dst := none, op := .store 32 (.tmp 4) (.tmp 25), type := 0, pos := "law.go:21", after := aaw8_a11, guard := none } : Oper)) rfl (fun KK hK => ?_) AllReadyH.nil
          rw [if_pos (by rfl)]
          refine put_span (g := gs) (u := sL) (v := sH) rfl rfl rfl (N1.free_row 2 rfl (n := 2) rfl) ?_
          have N2 := (N1.put 2 rfl 0 (.int .i64 sL)).put 2 rfl 1 (.int .i64 sH)
          obtain ⟨w27, hX⟩ := setCell2_named w26 gs sL sH
          rw [← hX] at N2 ⊢
          have HN : Sp w [(w.heap.size, (rc R).map some)] w27 := N2.take 1
          clear hX N1
          refine hK.out _ _ ?_ (fun hHeld => ?_)
          · exact HN
          replace HB := hHeld; clear hHeld hK KK HN
          try simp only [Act.put]
          refine wpAnyH_done (by as_aux_lemma => kernel_rfl) ?_ _
          refine NoPanic.normal ?_
          exact hQ _ _ _ _ _ _ _ _ _ _ _ N2
      · skip
        rw [if_pos (by rfl)]
        go_simp
        have hb := below1 w22 (.cells #[.int .i64 0, .int .i64 0] 32)
        have HA := HB.more [.int .i64 0, .int .i64 0] 32
        first | (have hne := Sp.lt2 HS) | skip
        obtain ⟨ga, hG⟩ : ∃ g, g = w22.heap.size := ⟨_, rfl⟩
        rw [← hG] at HA ⊢
        try rw [← hG] at hne
        clear hG
        obtain ⟨w23, hX⟩ : ∃ x, x = w22.alloc (.cells #[.int .i64 0, .int .i64 0] 32) := ⟨_, rfl⟩
        replace HA : Sp w [(w.heap.size, (rc R).map some), (ga, [some (.int .i64 0), some (.int .i64 0)])] w23 := hX ▸ HA
        rw [← hX] at hb ⊢
        clear hX
        refine hK.out _ _ ?_ (fun hHeld => ?_)
        · exact kS _ _ HB hb
        replace HB := hHeld; clear hHeld hK KK
        replace CM := CM.keep hb
        replace HS := HS.keep hb
        clear hb
        try simp only [Act.put, List.setIfInBounds_toArray, List.set_cons_zero, List.set_cons_succ]
        refine wpAnyH_ready (rs := [0]) (by as_aux_lemma => kernel_rfl) (by simp) ?_
        refine AllReadyH.cons (o := ({ dst := some 19, op := .call { callee := .value (.func 17), args := #[], argTypes := #[] }, type := 61, pos := "law.go:21", after := aaw8_a0, guard := none } : Oper)) rfl (fun KK hK => ?_) AllReadyH.nil
        rw [if_pos (by rfl)]
        go_simp
        go_at_call 17; refine (US.out _ HB.below).mono ?_; rintro e w24 ⟨rfl, hb⟩
        go_wp2_with fail
        refine hK.out _ _ ?_ (fun hHeld => ?_)
        · exact kS _ _ HB hb
        replace HB := hHeld; clear hHeld hK KK
        replace CM := CM.keep hb
        replace HS := HS.keep hb
        replace HA := HA.keep hb
        clear hb
        try simp only [Act.put, List.setIfInBounds_toArray, List.set_cons_zero, List.set_cons_succ]
        refine wpAnyH_ready (rs := [4]) (by as_aux_lemma => kernel_rfl) (by simp) ?_
        refine AllReadyH.cons (o := ({ dst := some 23, op := .call { callee := .value (.func 16), args := #[.tmp 19, .tmp 22], argTypes := #[61, 63] }, type := 56, pos := "law.go:21", after := aaw8_a4, guard := none } : Oper)) rfl (fun KK hK => ?_) AllReadyH.nil
        rw [if_pos (by rfl)]
        go_simp
        go_at_call 16; refine (BO.out _ _ HB.below CM).mono ?_; rintro e w25 ⟨rfl, hb⟩
        go_wp2_with fail
        refine hK.out _ _ ?_ (fun hHeld => ?_)
        · exact kS _ _ HB hb
        replace HB := hHeld; clear hHeld hK KK
        replace CM := CM.keep hb
        replace HS := HS.keep hb
        replace HA := HA.keep hb
        clear hb
        try simp only [Act.put, List.setIfInBounds_toArray, List.set_cons_zero, List.set_cons_succ]
        refine wpAnyH_take (i := 5) (oi := ({ dst := some 18, op := .move (.tmp 23), type := 56, pos := "law.go:21", after := aaw8_a5, guard := none } : Oper)) (v := ?vt1_66_) rfl aaw8_plain (by as_aux_lemma => kernel_rfl) (by as_aux_lemma => kernel_rfl) (fun _ _ _ h => h) (Or.inl ⟨by rfl, ?yt1_66_⟩) HB ?rt1_66_
        case yt1_66_ => (intro w hSw; (try dsimp only at hSw); go_simp; try with_reducible rfl)
        try simp only [Act.put, List.setIfInBounds_toArray, List.set_cons_zero, List.set_cons_succ]
        refine wpAnyH_take (i := 6) (oi := ({ dst := some 24, op := .extract (.tmp 18) 0, type := 32, pos := "law.go:21", after := aaw8_a6, guard := none } : Oper)) (v := ?vt1_67_) rfl aaw8_plain (by as_aux_lemma => kernel_rfl) (by as_aux_lemma => kernel_rfl) (fun _ _ _ h => h) (Or.inl ⟨by rfl, ?yt1_67_⟩) HB ?rt1_67_
        case yt1_67_ => (intro w hSw; (try dsimp only at hSw); go_simp; try with_reducible rfl)
        try simp only [Act.put, List.setIfInBounds_toArray, List.set_cons_zero, List.set_cons_succ]
        refine wpAnyH_take (i := 7) (oi := ({ dst := some 25, op := .extract (.tmp 18) 1, type := 32, pos := "law.go:21", after := aaw8_a7, guard := none } : Oper)) (v := ?vt1_68_) rfl aaw8_plain (by as_aux_lemma => kernel_rfl) (by as_aux_lemma => kernel_rfl) (fun _ _ _ h => h) (Or.inl ⟨by rfl, ?yt1_68_⟩) HB ?rt1_68_
        case yt1_68_ => (intro w hSw; (try dsimp only at hSw); go_simp; try with_reducible rfl)
        try simp only [Act.put, List.setIfInBounds_toArray, List.set_cons_zero, List.set_cons_succ]
        refine wpAnyH_ready (rs := [10]) (by as_aux_lemma => kernel_rfl) (by simp) ?_
        refine AllReadyH.cons (o := ({ dst := none, op := .store 32 (.tmp 3) (.tmp 24), type := 0, pos := "law.go:21", after := aaw8_a10, guard := none } : Oper)) rfl (fun KK hK => ?_) AllReadyH.nil
        rw [if_pos (by rfl)]
        have hne2 : ga ≠ gs := by (have h1 := hne; clear hne; (try dsimp only at h1); omega)
        have HC := Sp.join HA HS hne2
        clear HA HS hne hne2
        refine put_span (g := ga) (u := aL) (v := aH) rfl rfl rfl (HC.free_row 1 rfl (n := 2) rfl) ?_
        have N1 := (HC.put 1 rfl 0 (.int .i64 aL)).put 1 rfl 1 (.int .i64 aH)
        obtain ⟨w26, hX⟩ := setCell2_named w25 ga aL aH
        rw [← hX] at N1 ⊢
        have HN : Sp w [(w.heap.size, (rc R).map some)] w26 := N1.take 1
        clear hX HC
        refine hK.out _ _ ?_ (fun hHeld => ?_)
        · exact HN
        replace HB := hHeld; clear hHeld hK KK HN
        try simp only [Act.put]
        refine wpAnyH_ready (rs := [11]) (by as_aux_lemma => kernel_rfl) (by simp) ?_
        refine AllReadyH.cons (o := ({ dst := none, op := .store 32 (.tmp 4) (.tmp 25), type := 0, pos := "law.go:21", after := aaw8_a11, guard := none } : Oper)) rfl (fun KK hK => ?_) AllReadyH.nil
        rw [if_pos (by rfl)]
        refine put_span (g := gs) (u := sL) (v := sH) rfl rfl rfl (N1.free_row 2 rfl (n := 2) rfl) ?_
        have N2 := (N1.put 2 rfl 0 (.int .i64 sL)).put 2 rfl 1 (.int .i64 sH)
        obtain ⟨w27, hX⟩ := setCell2_named w26 gs sL sH
        rw [← hX] at N2 ⊢
        have HN : Sp w [(w.heap.size, (rc R).map some)] w27 := N2.take 1
        clear hX N1
        refine hK.out _ _ ?_ (fun hHeld => ?_)
        · exact HN
        replace HB := hHeld; clear hHeld hK KK HN
        try simp only [Act.put]
        refine wpAnyH_done (by as_aux_lemma => kernel_rfl) ?_ _
        refine NoPanic.normal ?_
        exact hQ _ _ _ _ _ _ _ _ _ _ _ N2
  · skip
    rw [if_pos (by rfl)]
    go_simp
    have hb := below1 w20 (.cells #[.int .i64 0, .int .i64 0] 32)
    have HA := HB.more [.int .i64 0, .int .i64 0] 32
    first | (have hne := Sp.lt2 HS) | skip
    obtain ⟨ga, hG⟩ : ∃ g, g = w20.heap.size := ⟨_, rfl⟩
    rw [← hG] at HA ⊢
    try rw [← hG] at hne
    clear hG
    obtain ⟨w21, hX⟩ : ∃ x, x = w20.alloc (.cells #[.int .i64 0, .int .i64 0] 32) := ⟨_, rfl⟩
    replace HA : Sp w [(w.heap.size, (rc R).map some), (ga, [some (.int .i64 0), some (.int .i64 0)])] w21 := hX ▸ HA
    rw [← hX] at hb ⊢
    clear hX
    refine hK.out _ _ ?_ (fun hHeld => ?_)
    · exact kS _ _ HB hb
    replace HB := hHeld; clear hHeld hK KK
    clear hb
    try simp only [Act.put, List.setIfInBounds_toArray, List.set_cons_zero, List.set_cons_succ]
    refine wpAnyH_ready (rs := [0, 3, 9]) (by as_aux_lemma => kernel_rfl) (by simp) ?_
    refine AllReadyH.cons (o := ({ dst := some 19, op := .call { callee := .value (.func 17), args := #[], argTypes := #[] }, type := 61, pos := "law.go:21", after := aaw8_a0, guard := none } : Oper)) rfl (fun KK hK => ?_) (AllReadyH.cons (o := ({ dst := some 22, op := .buildSlice 63 2 #[(0, .tmp 20), (1, .tmp 21)], type := 63, pos := "law.go:21", after := aaw8_a3, guard := none } : Oper)) rfl (fun KK hK => ?_) (AllReadyH.cons (o := ({ dst := some 4, op := .alloc 32, type := 0, pos := "law.go:21", after := aaw8_a9, guard := none } : Oper)) rfl (fun KK hK => ?_) AllReadyH.nil))
    · skip
      rw [if_pos (by rfl)]
      go_simp
      go_at_call 17; refine (US.out _ HB.below).mono ?_; rintro e w22 ⟨rfl, hb⟩
      go_wp2_with fail
      refine hK.out _ _ ?_ (fun hHeld => ?_)
      · exact kS _ _ HB hb
      replace HB := hHeld; clear hHeld hK KK
      replace HA := HA.keep hb
      clear hb
      try simp only [Act.put, List.setIfInBounds_toArray, List.set_cons_zero, List.set_cons_succ]
      refine wpAnyH_ready (rs := [3, 9]) (by as_aux_lemma => kernel_rfl) (by simp) ?_
      refine AllReadyH.cons (o := ({ dst := some 22, op := .buildSlice 63 2 #[(0, .tmp 20), (1, .tmp 21)], type := 63, pos := "law.go:21", after := aaw8_a3, guard := none } : Oper)) rfl (fun KK hK => ?_) (AllReadyH.cons (o := ({ dst := some 4, op := .alloc 32, type := 0, pos := "law.go:21", after := aaw8_a9, guard := none } : Oper)) rfl (fun KK hK => ?_) AllReadyH.nil)
      · skip
        rw [if_pos (by rfl)]
        refine oper_build2 (R := R) rfl rfl rfl ?_
        have CM := came_two w22 R
        have hb := below1 w22 (.cells (rc R ++ rc R).toArray 55)
        obtain ⟨gr, hG⟩ : ∃ g, g = w22.heap.size := ⟨_, rfl⟩
        rw [← hG] at CM ⊢
        clear hG
        obtain ⟨w23, hX⟩ : ∃ x, x = w22.alloc (.cells (rc R ++ rc R).toArray 55) := ⟨_, rfl⟩
        rw [← hX] at CM hb ⊢
        clear hX
        refine hK.out _ _ ?_ (fun hHeld => ?_)
        · exact kS _ _ HB hb
        replace HB := hHeld; clear hHeld hK KK
        replace HA := HA.keep hb
        clear hb
        try simp only [Act.put, List.setIfInBounds_toArray, List.set_cons_zero, List.set_cons_succ]
        refine wpAnyH_ready (rs := [4, 9]) (by as_aux_lemma => kernel_rfl) (by simp) ?_
        refine AllReadyH.cons (o := ({ dst := some 23, op := .call { callee := .value (.func 16), args := #[.tmp 19, .tmp 22], argTypes := #[61, 63] }, type := 56, pos := "law.go:21", after := aaw8_a4, guard := none } : Oper)) rfl (fun KK hK => ?_) (AllReadyH.cons (o := ({ dst := some 4, op := .alloc 32, type := 0, pos := "law.go:21", after := aaw8_a9, guard := none } : Oper)) rfl (fun KK hK => ?_) AllReadyH.nil)
        · skip
          rw [if_pos (by rfl)]
          go_simp
          go_at_call 16; refine (BO.out _ _ HB.below CM).mono ?_; rintro e w24 ⟨rfl, hb⟩
          go_wp2_with fail
          refine hK.out _ _ ?_ (fun hHeld => ?_)
          · exact kS _ _ HB hb
          replace HB := hHeld; clear hHeld hK KK
          replace HA := HA.keep hb
          replace CM := CM.keep hb
          clear hb
          try simp only [Act.put, List.setIfInBounds_toArray, List.set_cons_zero, List.set_cons_succ]
          refine wpAnyH_take (i := 5) (oi := ({ dst := some 18, op := .move (.tmp 23), type := 56, pos := "law.go:21", after := aaw8_a5, guard := none } : Oper)) (v := ?vt1_69_) rfl aaw8_plain (by as_aux_lemma => kernel_rfl) (by as_aux_lemma => kernel_rfl) (fun _ _ _ h => h) (Or.inl ⟨by rfl, ?yt1_69_⟩) HB ?rt1_69_
          case yt1_69_ => (intro w hSw; (try dsimp only at hSw); go_simp; try with_reducible rfl)
          try simp only [Act.put, List.setIfInBounds_toArray, List.set_cons_zero, List.set_cons_succ]
          refine wpAnyH_take (i := 6) (oi := ({ dst := some 24, op := .extract (.tmp 18) 0, type := 32, pos := "law.go:21", after := aaw8_a6, guard := none } : Oper)) (v := ?vt1_70_) rfl aaw8_plain (by as_aux_lemma => kernel_rfl) (by as_aux_lemma => kernel_rfl) (fun _ _ _ h => h) (Or.inl ⟨by rfl, ?yt1_70_⟩) HB ?rt1_70_
          case yt1_70_ => (intro w hSw; (try dsimp only at hSw); go_simp; try with_reducible rfl)
          try simp only [Act.put, List.setIfInBounds_toArray, List.set_cons_zero, List.set_cons_succ]
          refine wpAnyH_take (i := 7) (oi := ({ dst := some 25, op := .extract (.tmp 18) 1, type := 32, pos := "law.go:21", after := aaw8_a7, guard := none } : Oper)) (v := ?vt1_71_) rfl aaw8_plain (by as_aux_lemma => kernel_rfl) (by as_aux_lemma => kernel_rfl) (fun _ _ _ h => h) (Or.inl ⟨by rfl, ?yt1_71_⟩) HB ?rt1_71_
          case yt1_71_ => (intro w hSw; (try dsimp only at hSw); go_simp; try with_reducible rfl)
          try simp only [Act.put, List.setIfInBounds_toArray, List.set_cons_zero, List.set_cons_succ]
          refine wpAnyH_ready (rs := [9]) (by as_aux_lemma => kernel_rfl) (by simp) ?_
          refine AllReadyH.cons (o := ({ dst := some 4, op := .alloc 32, type := 0, pos := "law.go:21", after := aaw8_a9, guard := none } : Oper)) rfl (fun KK hK => ?_) AllReadyH.nil
          rw [if_pos (by rfl)]
          go_simp
          have hb := below1 w24 (.cells #[.int .i64 0, .int .i64 0] 32)
          have HS := HB.more [.int .i64 0, .int .i64 0] 32
          first | (have hne := Sp.lt2 HA) | skip
          obtain ⟨gs, hG⟩ : ∃ g, g = w24.heap.size := ⟨_, rfl⟩
          rw [← hG] at HS ⊢
          try rw [← hG] at hne
          clear hG
          obtain ⟨w25, hX⟩ : ∃ x, x = w24.alloc (.cells #[.int .i64 0, .int .i64 0] 32) := ⟨_, rfl⟩
          replace HS : Sp w [(w.heap.size, (rc R).map some), (gs, [some (.int .i64 0), some (.int .i64 0)])] w25 := hX ▸ HS
          rw [← hX] at hb ⊢
          clear hX
          refine hK.out _ _ ?_ (fun hHeld => ?_)
          · exact kS _ _ HB hb
          replace HB := hHeld; clear hHeld hK KK
          replace HA := HA.keep hb
          replace CM := CM.keep hb
          clear hb
          try simp only [Act.put, List.setIfInBounds_toArray, List.set_cons_zero, List.set_cons_succ]
          refine wpAnyH_ready (rs := [10]) (by as_aux_lemma => kernel_rfl) (by simp) ?_
          refine AllReadyH.cons (o := ({ dst := none, op := .store 32 (.tmp 3) (.tmp 24), type := 0, pos := "law.go:21", after := aaw8_a10, guard := none } : Oper)) rfl (fun KK hK => ?_) AllReadyH.nil
          rw [if_pos (by rfl)]
          have hne2 : ga ≠ gs := by (have h1 := hne; clear hne; (try dsimp only at h1); omega)
          have HC := Sp.join HA HS hne2
          clear HA HS hne hne2
          refine put_span (g := ga) (u := aL) (v := aH) rfl rfl rfl (HC.free_row 1 rfl (n := 2) rfl) ?_
          have N1 := (HC.put 1 rfl 0 (.int .i64 aL)).put 1 rfl 1 (.int .i64 aH)
          obtain ⟨w26, hX⟩ := setCell2_named w25 ga aL aH
          rw [← hX] at N1 ⊢
          have HN : Sp w [(w.heap.size, (rc R).map some)] w26 := N1.take 1
          clear hX HC
          refine hK.out _ _ ?_ (fun hHeld => ?_)
          · exact HN
          replace HB := hHeld; clear hHeld hK KK HN
          try simp only [Act.put]
          refine wpAnyH_ready (rs := [11]) (by as_aux_lemma => kernel_rfl) (by simp) ?_
          refine AllReadyH.cons (o := ({ dst := none, op := .store 32 (.tmp 4) (.tmp 25), type := 0, pos := "law.go:21", after := aaw8_a11, guard := none } : Oper)) rfl (fun KK hK => ?_) AllReadyH.nil
          rw [if_pos (by rfl)]
          refine put_span (g := gs) (u := sL) (v := sH) rfl rfl rfl (N1.free_row 2 rfl (n := 2) rfl) ?_
          have N2 := (N1.put 2 rfl 0 (.int .i64 sL)).put 2 rfl 1 (.int .i64 sH)
          obtain ⟨w27, hX⟩ := setCell2_named w26 gs sL sH
          rw [← hX] at N2 ⊢
          have HN : Sp w [(w.heap.size, (rc R).map some)] w27 := N2.take 1
          clear hX N1
          refine hK.out _ _ ?_ (fun hHeld => ?_)
          · exact HN
          replace HB := hHeld; clear hHeld hK KK HN
          try simp only [Act.put]
          refine wpAnyH_done (by as_aux_lemma => kernel_rfl) ?_ _
          refine NoPanic.normal ?_
          exact hQ _ _ _ _ _ _ _ _ _ _ _ N2
        · skip
          rw [if_pos (by rfl)]
          go_simp
          have hb := below1 w23 (.cells #[.int .i64 0, .int .i64 0] 32)
          have HS := HB.more [.int .i64 0, .int .i64 0] 32
          first | (have hne := Sp.lt2 HA) | skip
          obtain ⟨gs, hG⟩ : ∃ g, g = w23.heap.size := ⟨_, rfl⟩
          rw [← hG] at HS ⊢
          try rw [← hG] at hne
          clear hG
          obtain ⟨w24, hX⟩ : ∃ x, x = w23.alloc (.cells #[.int .i64 0, .int .i64 0] 32) := ⟨_, rfl⟩
          replace HS : Sp w [(w.heap.size, (rc R).map some), (gs, [some (.int .i64 0), some (.int .i64 0)])] w24 := hX ▸ HS
          rw [← hX] at hb ⊢
          clear hX
          refine hK.out _ _ ?_ (fun hHeld => ?_)
          · exact kS _ _ HB hb
          replace HB := hHeld; clear hHeld hK KK
          replace HA := HA.keep hb
          replace CM := CM.keep hb
          clear hb
          try simp only [Act.put, List.setIfInBounds_toArray, List.set_cons_zero, List.set_cons_succ]
          refine wpAnyH_ready (rs := [4]) (by as_aux_lemma => kernel_rfl) (by simp) ?_
          refine AllReadyH.cons (o := ({ dst := some 23, op := .call { callee := .value (.func 16), args := #[.tmp 19, .tmp 22], argTypes := #[61, 63] }, type := 56, pos := "law.go:21", after := aaw8_a4, guard := none } : Oper)) rfl (fun KK hK => ?_) AllReadyH.nil
          rw [if_pos (by rfl)]
          go_simp
          go_at_call 16; refine (BO.out _ _ HB.below CM).mono ?_; rintro e w25 ⟨rfl, hb⟩
          go_wp2_with fail
          refine hK.out _ _ ?_ (fun hHeld => ?_)
          · exact kS _ _ HB hb
          replace HB := hHeld; clear hHeld hK KK
          replace HA := HA.keep hb
          replace CM := CM.keep hb
          replace HS := HS.keep hb
          clear hb
          try simp only [Act.put, List.setIfInBounds_toArray, List.set_cons_zero, List.set_cons_succ]
          refine wpAnyH_take (i := 5) (oi := ({ dst := some 18, op := .move (.tmp 23), type := 56, pos := "law.go:21", after := aaw8_a5, guard := none } : Oper)) (v := ?vt1_72_) rfl aaw8_plain (by as_aux_lemma => kernel_rfl) (by as_aux_lemma => kernel_rfl) (fun _ _ _ h => h) (Or.inl ⟨by rfl, ?yt1_72_⟩) HB ?rt1_72_
          case yt1_72_ => (intro w hSw; (try dsimp only at hSw); go_simp; try with_reducible rfl)
          try simp only [Act.put, List.setIfInBounds_toArray, List.set_cons_zero, List.set_cons_succ]
          refine wpAnyH_take (i := 6) (oi := ({ dst := some 24, op := .extract (.tmp 18) 0, type := 32, pos := "law.go:21", after := aaw8_a6, guard := none } : Oper)) (v := ?vt1_73_) rfl aaw8_plain (by as_aux_lemma => kernel_rfl) (by as_aux_lemma => kernel_rfl) (fun _ _ _ h => h) (Or.inl ⟨by rfl, ?yt1_73_⟩) HB ?rt1_73_
          case yt1_73_ => (intro w hSw; (try dsimp only at hSw); go_simp; try with_reducible rfl)
          try simp only [Act.put, List.setIfInBounds_toArray, List.set_cons_zero, List.set_cons_succ]
          refine wpAnyH_take (i := 7) (oi := ({ dst := some 25, op := .extract (.tmp 18) 1, type := 32, pos := "law.go:21", after := aaw8_a7, guard := none } : Oper)) (v := ?vt1_74_) rfl aaw8_plain (by as_aux_lemma => kernel_rfl) (by as_aux_lemma => kernel_rfl) (fun _ _ _ h => h) (Or.inl ⟨by rfl, ?yt1_74_⟩) HB ?rt1_74_
          case yt1_74_ => (intro w hSw; (try dsimp only at hSw); go_simp; try with_reducible rfl)
          try simp only [Act.put, List.setIfInBounds_toArray, List.set_cons_zero, List.set_cons_succ]
          refine wpAnyH_ready (rs := [10]) (by as_aux_lemma => kernel_rfl) (by simp) ?_
          refine AllReadyH.cons (o := ({ dst := none, op := .store 32 (.tmp 3) (.tmp 24), type := 0, pos := "law.go:21", after := aaw8_a10, guard := none } : Oper)) rfl (fun KK hK => ?_) AllReadyH.nil
          rw [if_pos (by rfl)]
          have hne2 : ga ≠ gs := by (have h1 := hne; clear hne; (try dsimp only at h1); omega)
          have HC := Sp.join HA HS hne2
          clear HA HS hne hne2
          refine put_span (g := ga) (u := aL) (v := aH) rfl rfl rfl (HC.free_row 1 rfl (n := 2) rfl) ?_
          have N1 := (HC.put 1 rfl 0 (.int .i64 aL)).put 1 rfl 1 (.int .i64 aH)
          obtain ⟨w26, hX⟩ := setCell2_named w25 ga aL aH
          rw [← hX] at N1 ⊢
          have HN : Sp w [(w.heap.size, (rc R).map some)] w26 := N1.take 1
          clear hX HC
          refine hK.out _ _ ?_ (fun hHeld => ?_)
          · exact HN
          replace HB := hHeld; clear hHeld hK KK HN
          try simp only [Act.put]
          refine wpAnyH_ready (rs := [11]) (by as_aux_lemma => kernel_rfl) (by simp) ?_
          refine AllReadyH.cons (o := ({ dst := none, op := .store 32 (.tmp 4) (.tmp 25), type := 0, pos := "law.go:21", after := aaw8_a11, guard := none } : Oper)) rfl (fun KK hK => ?_) AllReadyH.nil
          rw [if_pos (by rfl)]
          refine put_span (g := gs) (u := sL) (v := sH) rfl rfl rfl (N1.free_row 2 rfl (n := 2) rfl) ?_
          have N2 := (N1.put 2 rfl 0 (.int .i64 sL)).put 2 rfl 1 (.int .i64 sH)
          obtain ⟨w27, hX⟩ := setCell2_named w26 gs sL sH
          rw [← hX] at N2 ⊢
          have HN : Sp w [(w.heap.size, (rc R).map some)] w27 := N2.take 1
          clear hX N1
          refine hK.out _ _ ?_ (fun hHeld => ?_)
          · exact HN
          replace HB := hHeld; clear hHeld hK KK HN
          try simp only [Act.put]
          refine wpAnyH_done (by as_aux_lemma => kernel_rfl) ?_ _
          refine NoPanic.normal ?_
          exact hQ _ _ _ _ _ _ _ _ _ _ _ N2
      · skip
        rw [if_pos (by rfl)]
        go_simp
        have hb := below1 w22 (.cells #[.int .i64 0, .int .i64 0] 32)
        have HS := HB.more [.int .i64 0, .int .i64 0] 32
        first | (have hne := Sp.lt2 HA) | skip
        obtain ⟨gs, hG⟩ : ∃ g, g = w22.heap.size := ⟨_, rfl⟩
        rw [← hG] at HS ⊢
        try rw [← hG] at hne
        clear hG
        obtain ⟨w23, hX⟩ : ∃ x, x = w22.alloc (.cells #[.int .i64 0, .int .i64 0] 32) := ⟨_, rfl⟩
        replace HS : Sp w [(w.heap.size, (rc R).map some), (gs, [some (.int .i64 0), some (.int .i64 0)])] w23 := hX ▸ HS
        rw [← hX] at hb ⊢
        clear hX
        refine hK.out _ _ ?_ (fun hHeld => ?_)
        · exact kS _ _ HB hb
        replace HB := hHeld; clear hHeld hK KK
        replace HA := HA.keep hb
        clear hb
        try simp only [Act.put, List.setIfInBounds_toArray, List.set_cons_zero, List.set_cons_succ]
        refine wpAnyH_ready (rs := [3]) (by as_aux_lemma => kernel_rfl) (by simp) ?_
        refine AllReadyH.cons (o := ({ dst := some 22, op := .buildSlice 63 2 #[(0, .tmp 20), (1, .tmp 21)], type := 63, pos := "law.go:21", after := aaw8_a3, guard := none } : Oper)) rfl (fun KK hK => ?_) AllReadyH.nil
        rw [if_pos (by rfl)]
        refine oper_build2 (R := R) rfl rfl rfl ?_
        have CM := came_two w23 R
        have hb := below1 w23 (.cells (rc R ++ rc R).toArray 55)
        obtain ⟨gr, hG⟩ : ∃ g, g = w23.heap.size := ⟨_, rfl⟩
        rw [← hG] at CM ⊢
        clear hG
        obtain ⟨w24, hX⟩ : ∃ x, x = w23.alloc (.cells (rc R ++ rc R).toArray 55) := ⟨_, rfl⟩
        rw [← hX] at CM hb ⊢
        clear hX
        refine hK.out _ _ ?_ (fun hHeld => ?_)
        · exact kS _ _ HB hb
        replace HB := hHeld; clear hHeld hK KK
        replace HA := HA.keep hb
        replace HS := HS.keep hb
        clear hb
        try simp only [Act.put, List.setIfInBounds_toArray, List.set_cons_zero, List.set_cons_succ]
        refine wpAnyH_ready (rs := [4]) (by as_aux_lemma => kernel_rfl) (by simp) ?_
        refine AllReadyH.cons (o := ({ dst := some 23, op := .call { callee := .value (.func 16), args := #[.tmp 19, .tmp 22], argTypes := #[61, 63] }, type := 56, pos := "law.go:21", after := aaw8_a4, guard := none } : Oper)) rfl (fun KK hK => ?_) AllReadyH.nil
        rw [if_pos (by rfl)]
        go_simp
        go_at_call 16; refine (BO.out _ _ HB.below CM).mono ?_; rintro e w25 ⟨rfl, hb⟩
        go_wp2_with fail
        refine hK.out _ _ ?_ (fun hHeld => ?_)
        · exact kS _ _ HB hb
        replace HB := hHeld; clear hHeld hK KK
        replace HA := HA.keep hb
        replace HS := HS.keep hb
        replace CM := CM.keep hb
        clear hb
        try simp only [Act.put, List.setIfInBounds_toArray, List.set_cons_zero, List.set_cons_succ]
        refine wpAnyH_take (i := 5) (oi := ({ dst := some 18, op := .move (.tmp 23), type := 56, pos := "law.go:21", after := aaw8_a5, guard := none } : Oper)) (v := ?vt1_75_) rfl aaw8_plain (by as_aux_lemma => kernel_rfl) (by as_aux_lemma => kernel_rfl) (fun _ _ _ h => h) (Or.inl ⟨by rfl, ?yt1_75_⟩) HB ?rt1_75_
        case yt1_75_ => (intro w hSw; (try dsimp only at hSw); go_simp; try with_reducible rfl)
        try simp only [Act.put, List.setIfInBounds_toArray, List.set_cons_zero, List.set_cons_succ]
        refine wpAnyH_take (i := 6) (oi := ({ dst := some 24, op := .extract (.tmp 18) 0, type := 32, pos := "law.go:21", after := aaw8_a6, guard := none } : Oper)) (v := ?vt1_76_) rfl aaw8_plain (by as_aux_lemma => kernel_rfl) (by as_aux_lemma => kernel_rfl) (fun _ _ _ h => h) (Or.inl ⟨by rfl, ?yt1_76_⟩) HB ?rt1_76_
        case yt1_76_ => (intro w hSw; (try dsimp only at hSw); go_simp; try with_reducible rfl)
        try simp only [Act.put, List.setIfInBounds_toArray, List.set_cons_zero, List.set_cons_succ]
        refine wpAnyH_take (i := 7) (oi := ({ dst := some 25, op := .extract (.tmp 18) 1, type := 32, pos := "law.go:21", after := aaw8_a7, guard := none } : Oper)) (v := ?vt1_77_) rfl aaw8_plain (by as_aux_lemma => kernel_rfl) (by as_aux_lemma => kernel_rfl) (fun _ _ _ h => h) (Or.inl ⟨by rfl, ?yt1_77_⟩) HB ?rt1_77_
        case yt1_77_ => (intro w hSw; (try dsimp only at hSw); go_simp; try with_reducible rfl)
        try simp only [Act.put, List.setIfInBounds_toArray, List.set_cons_zero, List.set_cons_succ]
        refine wpAnyH_ready (rs := [10]) (by as_aux_lemma => kernel_rfl) (by simp) ?_
        refine AllReadyH.cons (o := ({ dst := none, op := .store 32 (.tmp 3) (.tmp 24), type := 0, pos := "law.go:21", after := aaw8_a10, guard := none } : Oper)) rfl (fun KK hK => ?_) AllReadyH.nil
        rw [if_pos (by rfl)]
        have hne2 : ga ≠ gs := by (have h1 := hne; clear hne; (try dsimp only at h1); omega)
        have HC := Sp.join HA HS hne2
        clear HA HS hne hne2
        refine put_span (g := ga) (u := aL) (v := aH) rfl rfl rfl (HC.free_row 1 rfl (n := 2) rfl) ?_
        have N1 := (HC.put 1 rfl 0 (.int .i64 aL)).put 1 rfl 1 (.int .i64 aH)
        obtain ⟨w26, hX⟩ := setCell2_named w25 ga aL aH
        rw [← hX] at N1 ⊢
        have HN : Sp w [(w.heap.size, (rc R).map some)] w26 := N1.take 1
        clear hX HC
        refine hK.out _ _ ?_ (fun hHeld => ?_)
        · exact HN
        replace HB := hHeld; clear hHeld hK KK HN
        try simp only [Act.put]
        refine wpAnyH_ready (rs := [11]) (by as_aux_lemma => kernel_rfl) (by simp) ?_
        refine AllReadyH.cons (o := ({ dst := none, op := .store 32 (.tmp 4) (.tmp 25), type := 0, pos := "law.go:21", after := aaw8_a11, guard := none } : Oper)) rfl (fun KK hK => ?_) AllReadyH.nil
        rw [if_pos (by rfl)]
        refine put_span (g := gs) (u := sL) (v := sH) rfl rfl rfl (N1.free_row 2 rfl (n := 2) rfl) ?_
        have N2 := (N1.put 2 rfl 0 (.int .i64 sL)).put 2 rfl 1 (.int .i64 sH)
        obtain ⟨w27, hX⟩ := setCell2_named w26 gs sL sH
        rw [← hX] at N2 ⊢
        have HN : Sp w [(w.heap.size, (rc R).map some)] w27 := N2.take 1
        clear hX N1
        refine hK.out _ _ ?_ (fun hHeld => ?_)
        · exact HN
        replace HB := hHeld; clear hHeld hK KK HN
        try simp only [Act.put]
        refine wpAnyH_done (by as_aux_lemma => kernel_rfl) ?_ _
        refine NoPanic.normal ?_
        exact hQ _ _ _ _ _ _ _ _ _ _ _ N2
    · skip
      rw [if_pos (by rfl)]
      refine oper_build2 (R := R) rfl rfl rfl ?_
      have CM := came_two w21 R
      have hb := below1 w21 (.cells (rc R ++ rc R).toArray 55)
      obtain ⟨gr, hG⟩ : ∃ g, g = w21.heap.size := ⟨_, rfl⟩
      rw [← hG] at CM ⊢
      clear hG
      obtain ⟨w22, hX⟩ : ∃ x, x = w21.alloc (.cells (rc R ++ rc R).toArray 55) := ⟨_, rfl⟩
      rw [← hX] at CM hb ⊢
      clear hX
      refine hK.out _ _ ?_ (fun hHeld => ?_)
      · exact kS _ _ HB hb
      replace HB := hHeld; clear hHeld hK KK
      replace HA := HA.keep hb
      clear hb
      try simp only [Act.put, List.setIfInBounds_toArray, List.set_cons_zero, List.set_cons_succ]
      refine wpAnyH_ready (rs := [0, 9]) (by as_aux_lemma => kernel_rfl) (by simp) ?_
      refine AllReadyH.cons (o := ({ dst := some 19, op := .call { callee := .value (.func 17), args := #[], argTypes := #[] }, type := 61, pos := "law.go:21", after := aaw8_a0, guard := none } : Oper)) rfl (fun KK hK => ?_) (AllReadyH.cons (o := ({ dst := some 4, op := .alloc 32, type := 0, pos := "law.go:21", after := aaw8_a9, guard := none } : Oper)) rfl (fun KK hK => ?_) AllReadyH.nil)
      · skip
        rw [if_pos (by rfl)]
        go_simp
        go_at_call 17; refine (US.out _ HB.below).mono ?_; rintro e w23 ⟨rfl, hb⟩
        go_wp2_with fail
        refine hK.out _ _ ?_ (fun hHeld => ?_)
        · exact kS _ _ HB hb
        replace HB := hHeld; clear hHeld hK KK
        replace HA := HA.keep hb
        replace CM := CM.keep hb
        clear hb
        try simp only [Act.put, List.setIfInBounds_toArray, List.set_cons_zero, List.set_cons_succ]
        refine wpAnyH_ready (rs := [4, 9]) (by as_aux_lemma => kernel_rfl) (by simp) ?_
        refine AllReadyH.cons (o := ({ dst := some 23, op := .call { callee := .value (.func 16), args := #[.tmp 19, .tmp 22], argTypes := #[61, 63] }, type := 56, pos := "law.go:21", after := aaw8_a4, guard := none } : Oper)) rfl (fun KK hK => ?_) (AllReadyH.cons (o := ({ dst := some 4, op := .alloc 32, type := 0, pos := "law.go:21", after := aaw8_a9, guard := none } : Oper)) rfl (fun KK hK => ?_) AllReadyH.nil)
        · skip
          rw [if_pos (by rfl)]
          go_simp
          go_at_call 16; refine (BO.out _ _ HB.below CM).mono ?_; rintro e w24 ⟨rfl, hb⟩
          go_wp2_with fail
          refine hK.out _ _ ?_ (fun hHeld => ?_)
          · exact kS _ _ HB hb
          replace HB := hHeld; clear hHeld hK KK
          replace HA := HA.keep hb
          replace CM := CM.keep hb
          clear hb
          try simp only [Act.put, List.setIfInBounds_toArray, List.set_cons_zero, List.set_cons_succ]
          refine wpAnyH_take (i := 5) (oi := ({ dst := some 18, op := .move (.tmp 23), type := 56, pos := "law.go:21", after := aaw8_a5, guard := none } : Oper)) (v := ?vt1_78_) rfl aaw8_plain (by as_aux_lemma => kernel_rfl) (by as_aux_lemma => kernel_rfl) (fun _ _ _ h => h) (Or.inl ⟨by rfl, ?yt1_78_⟩) HB ?rt1_78_
          case yt1_78_ => (intro w hSw; (try dsimp only at hSw); go_simp; try with_reducible rfl)
          try simp only [Act.put, List.setIfInBounds_toArray, List.set_cons_zero, List.set_cons_succ]
          refine wpAnyH_take (i := 6) (oi := ({ dst := some 24, op := .extract (.tmp 18) 0, type := 32, pos := "law.go:21", after := aaw8_a6, guard := none } : Oper)) (v := ?vt1_79_) rfl aaw8_plain (by as_aux_lemma => kernel_rfl) (by as_aux_lemma => kernel_rfl) (fun _ _ _ h => h) (Or.inl ⟨by rfl, ?yt1_79_⟩) HB ?rt1_79_
          case yt1_79_ => (intro w hSw; (try dsimp only at hSw); go_simp; try with_reducible rfl)
          try simp only [Act.put, List.setIfInBounds_toArray, List.set_cons_zero, List.set_cons_succ]
          refine wpAnyH_take (i := 7) (oi := ({ dst := some 25, op := .extract (.tmp 18) 1, type := 32, pos := "law.go:21", after := aaw8_a7, guard := none } : Oper)) (v := ?vt1_80_) rfl aaw8_plain (by as_aux_lemma => kernel_rfl) (by as_aux_lemma => kernel_rfl) (fun _ _ _ h => h) (Or.inl ⟨by rfl, ?yt1_80_⟩) HB ?rt1_80_
          case yt1_80_ => (intro w hSw; (try dsimp only at hSw); go_simp; try with_reducible rfl)
          try simp only [Act.put, List.setIfInBounds_toArray, List.set_cons_zero, List.set_cons_succ]
          refine wpAnyH_ready (rs := [9]) (by as_aux_lemma => kernel_rfl) (by simp) ?_
          refine AllReadyH.cons (o := ({ dst := some 4, op := .alloc 32, type := 0, pos := "law.go:21", after := aaw8_a9, guard := none } : Oper)) rfl (fun KK hK => ?_) AllReadyH.nil
          rw [if_pos (by rfl)]
          go_simp
          have hb := below1 w24 (.cells #[.int .i64 0, .int .i64 0] 32)
          have HS := HB.more [.int .i64 0, .int .i64 0] 32
          first | (have hne := Sp.lt2 HA) | skip
          obtain ⟨gs, hG⟩ : ∃ g, g = w24.heap.size := ⟨_, rfl⟩
          rw [← hG] at HS ⊢
          try rw [← hG] at hne
          clear hG
          obtain ⟨w25, hX⟩ : ∃ x, x = w24.alloc (.cells #[.int .i64 0, .int .i64 0] 32) := ⟨_, rfl⟩
          replace HS : Sp w [(w.heap.size, (rc R).map some), (gs, [some (.int .i64 0), some (.int .i64 0)])] w25 := hX ▸ HS
          rw [← hX] at hb ⊢
          clear hX
          refine hK.out _ _ ?_ (fun hHeld => ?_)
          · exact kS _ _ HB hb
          replace HB := hHeld; clear hHeld hK KK
          replace HA := HA.keep hb
          replace CM := CM.keep hb
          clear hb
          try simp only [Act.put, List.setIfInBounds_toArray, List.set_cons_zero, List.set_cons_succ]
          refine wpAnyH_ready (rs := [10]) (by as_aux_lemma => kernel_rfl) (by simp) ?_
          refine AllReadyH.cons (o := ({ dst := none, op := .store 32 (.tmp 3) (.tmp 24), type := 0, pos := "law.go:21", after := aaw8_a10, guard := none } : Oper)) rfl (fun KK hK => ?_) AllReadyH.nil
          rw [if_pos (by rfl)]
          have hne2 : ga ≠ gs := by (have h1 := hne; clear hne; (try dsimp only at h1); omega)
          have HC := Sp.join HA HS hne2
          clear HA HS hne hne2
          refine put_span (g := ga) (u := aL) (v := aH) rfl rfl rfl (HC.free_row 1 rfl (n := 2) rfl) ?_
          have N1 := (HC.put 1 rfl 0 (.int .i64 aL)).put 1 rfl 1 (.int .i64 aH)
          obtain ⟨w26, hX⟩ := setCell2_named w25 ga aL aH
          rw [← hX] at N1 ⊢
          have HN : Sp w [(w.heap.size, (rc R).map some)] w26 := N1.take 1
          clear hX HC
          refine hK.out _ _ ?_ (fun hHeld => ?_)
          · exact HN
          replace HB := hHeld; clear hHeld hK KK HN
          try simp only [Act.put]
          refine wpAnyH_ready (rs := [11]) (by as_aux_lemma => kernel_rfl) (by simp) ?_
          refine AllReadyH.cons (o := ({ dst := none, op := .store 32 (.tmp 4) (.tmp 25), type := 0, pos := "law.go:21", after := aaw8_a11, guard := none } : Oper)) rfl (fun KK hK => ?_) AllReadyH.nil
          rw [if_pos (by rfl)]
          refine put_span (g := gs) (u := sL) (v := sH) rfl rfl rfl (N1.free_row 2 rfl (n := 2) rfl) ?_
          have N2 := (N1.put 2 rfl 0 (.int .i64 sL)).put 2 rfl 1 (.int .i64 sH)
          obtain ⟨w27, hX⟩ := setCell2_named w26 gs sL sH
          rw [← hX] at N2 ⊢
          have HN : Sp w [(w.heap.size, (rc R).map some)] w27 := N2.take 1
          clear hX N1
          refine hK.out _ _ ?_ (fun hHeld => ?_)
          · exact HN
          replace HB := hHeld; clear hHeld hK KK HN
          try simp only [Act.put]
          refine wpAnyH_done (by as_aux_lemma => kernel_rfl) ?_ _
          refine NoPanic.normal ?_
          exact hQ _ _ _ _ _ _ _ _ _ _ _ N2
        · skip
          rw [if_pos (by rfl)]
          go_simp
          have hb := below1 w23 (.cells #[.int .i64 0, .int .i64 0] 32)
          have HS := HB.more [.int .i64 0, .int .i64 0] 32
          first | (have hne := Sp.lt2 HA) | skip
          obtain ⟨gs, hG⟩ : ∃ g, g = w23.heap.size := ⟨_, rfl⟩
          rw [← hG] at HS ⊢
          try rw [← hG] at hne
          clear hG
          obtain ⟨w24, hX⟩ : ∃ x, x = w23.alloc (.cells #[.int .i64 0, .int .i64 0] 32) := ⟨_, rfl⟩
          replace HS : Sp w [(w.heap.size, (rc R).map some), (gs, [some (.int .i64 0), some (.int .i64 0)])] w24 := hX ▸ HS
          rw [← hX] at hb ⊢
          clear hX
          refine hK.out _ _ ?_ (fun hHeld => ?_)
          · exact kS _ _ HB hb
          replace HB := hHeld; clear hHeld hK KK
          replace HA := HA.keep hb
          replace CM := CM.keep hb
          clear hb
          try simp only [Act.put, List.setIfInBounds_toArray, List.set_cons_zero, List.set_cons_succ]
          refine wpAnyH_ready (rs := [4]) (by as_aux_lemma => kernel_rfl) (by simp) ?_
          refine AllReadyH.cons (o := ({ dst := some 23, op := .call { callee := .value (.func 16), args := #[.tmp 19, .tmp 22], argTypes := #[61, 63] }, type := 56, pos := "law.go:21", after := aaw8_a4, guard := none } : Oper)) rfl (fun KK hK => ?_) AllReadyH.nil
          rw [if_pos (by rfl)]
          go_simp
          go_at_call 16; refine (BO.out _ _ HB.below CM).mono ?_; rintro e w25 ⟨rfl, hb⟩
          go_wp2_with fail
          refine hK.out _ _ ?_ (fun hHeld => ?_)
          · exact kS _ _ HB hb
          replace HB := hHeld; clear hHeld hK KK
          replace HA := HA.keep hb
          replace CM := CM.keep hb
          replace HS := HS.keep hb
          clear hb
          try simp only [Act.put, List.setIfInBounds_toArray, List.set_cons_zero, List.set_cons_succ]
          refine wpAnyH_take (i := 5) (oi := ({ dst := some 18, op := .move (.tmp 23), type := 56, pos := "law.go:21", after := aaw8_a5, guard := none } : Oper)) (v := ?vt1_81_) rfl aaw8_plain (by as_aux_lemma => kernel_rfl) (by as_aux_lemma => kernel_rfl) (fun _ _ _ h => h) (Or.inl ⟨by rfl, ?yt1_81_⟩) HB ?rt1_81_
          case yt1_81_ => (intro w hSw; (try dsimp only at hSw); go_simp; try with_reducible rfl)
          try simp only [Act.put, List.setIfInBounds_toArray, List.set_cons_zero, List.set_cons_succ]
          refine wpAnyH_take (i := 6) (oi := ({ dst := some 24, op := .extract (.tmp 18) 0, type := 32, pos := "law.go:21", after := aaw8_a6, guard := none } : Oper)) (v := ?vt1_82_) rfl aaw8_plain (by as_aux_lemma => kernel_rfl) (by as_aux_lemma => kernel_rfl) (fun _ _ _ h => h) (Or.inl ⟨by rfl, ?yt1_82_⟩) HB ?rt1_82_
          case yt1_82_ => (intro w hSw; (try dsimp only at hSw); go_simp; try with_reducible rfl)
          try simp only [Act.put, List.setIfInBounds_toArray, List.set_cons_zero, List.set_cons_succ]
          refine wpAnyH_take (i := 7) (oi := ({ dst := some 25, op := .extract (.tmp 18) 1, type := 32, pos := "law.go:21", after := aaw8_a7, guard := none } : Oper)) (v := ?vt1_83_) rfl aaw8_plain (by as_aux_lemma => kernel_rfl) (by as_aux_lemma => kernel_rfl) (fun _ _ _ h => h) (Or.inl ⟨by rfl, ?yt1_83_⟩) HB ?rt1_83_
          case yt1_83_ => (intro w hSw; (try dsimp only at hSw); go_simp; try with_reducible rfl)
          try simp only [Act.put, List.setIfInBounds_toArray, List.set_cons_zero, List.set_cons_succ]
          refine wpAnyH_ready (rs := [10]) (by as_aux_lemma => kernel_rfl) (by simp) ?_
          refine AllReadyH.cons (o := ({ dst := none, op := .store 32 (.tmp 3) (.tmp 24), type := 0, pos := "law.go:21", after := aaw8_a10, guard := none } : Oper)) rfl (fun KK hK => ?_) AllReadyH.nil
          rw [if_pos (by rfl)]
          have hne2 : ga ≠ gs := by (have h1 := hne; clear hne; (try dsimp only at h1); omega)
          have HC := Sp.join HA HS hne2
          clear HA HS hne hne2
          refine put_span (g := ga) (u := aL) (v := aH) rfl rfl rfl (HC.free_row 1 rfl (n := 2) rfl) ?_
          have N1 := (HC.put 1 rfl 0 (.int .i64 aL)).put 1 rfl 1 (.int .i64 aH)
          obtain ⟨w26, hX⟩ := setCell2_named w25 ga aL aH
          rw [← hX] at N1 ⊢
          have HN : Sp w [(w.heap.size, (rc R).map some)] w26 := N1.take 1
          clear hX HC
          refine hK.out _ _ ?_ (fun hHeld => ?_)
          · exact HN
          replace HB := hHeld; clear hHeld hK KK HN
          try simp only [Act.put]
          refine wpAnyH_ready (rs := [11]) (by as_aux_lemma => kernel_rfl) (by simp) ?_
          refine AllReadyH.cons (o := ({ dst := none, op := .store 32 (.tmp 4) (.tmp 25), type := 0, pos := "law.go:21", after := aaw8_a11, guard := none } : Oper)) rfl (fun KK hK => ?_) AllReadyH.nil
          rw [if_pos (by rfl)]
          refine put_span (g := gs) (u := sL) (v := sH) rfl rfl rfl (N1.free_row 2 rfl (n := 2) rfl) ?_
          have N2 := (N1.put 2 rfl 0 (.int .i64 sL)).put 2 rfl 1 (.int .i64 sH)
          obtain ⟨w27, hX⟩ := setCell2_named w26 gs sL sH
          rw [← hX] at N2 ⊢
          have HN : Sp w [(w.heap.size, (rc R).map some)] w27 := N2.take 1
          clear hX N1
          refine hK.out _ _ ?_ (fun hHeld => ?_)
          · exact HN
          replace HB := hHeld; clear hHeld hK KK HN
          try simp only [Act.put]
          refine wpAnyH_done (by as_aux_lemma => kernel_rfl) ?_ _
          refine NoPanic.normal ?_
          exact hQ _ _ _ _ _ _ _ _ _ _ _ N2
      · skip
        rw [if_pos (by rfl)]
        go_simp
        have hb := below1 w22 (.cells #[.int .i64 0, .int .i64 0] 32)
        have HS := HB.more [.int .i64 0, .int .i64 0] 32
        first | (have hne := Sp.lt2 HA) | skip
        obtain ⟨gs, hG⟩ : ∃ g, g = w22.heap.size := ⟨_, rfl⟩
        rw [← hG] at HS ⊢
        try rw [← hG] at hne
        clear hG
        obtain ⟨w23, hX⟩ : ∃ x, x = w22.alloc (.cells #[.int .i64 0, .int .i64 0] 32) := ⟨_, rfl⟩
        replace HS : Sp w [(w.heap.size, (rc R).map some), (gs, [some (.int .i64 0), some (.int .i64 0)])] w23 := hX ▸ HS
        rw [← hX] at hb ⊢
        clear hX
        refine hK.out _ _ ?_ (fun hHeld => ?_)
        · exact kS _ _ HB hb
        replace HB := hHeld; clear hHeld hK KK
        replace HA := HA.keep hb
        replace CM := CM.keep hb
        clear hb
        try simp only [Act.put, List.setIfInBounds_toArray, List.set_cons_zero, List.set_cons_succ]
        refine wpAnyH_ready (rs := [0]) (by as_aux_lemma => kernel_rfl) (by simp) ?_
        refine AllReadyH.cons (o := ({ dst := some 19, op := .call { callee := .value (.func 17), args := #[], argTypes := #[] }, type := 61, pos := "law.go:21", after := aaw8_a0, guard := none } : Oper)) rfl (fun KK hK => ?_) AllReadyH.nil
        rw [if_pos (by rfl)]
        go_simp
        go_at_call 17; refine (US.out _ HB.below).mono ?_; rintro e w24 ⟨rfl, hb⟩
        go_wp2_with fail
        refine hK.out _ _ ?_ (fun hHeld => ?_)
        · exact kS _ _ HB hb
        replace HB := hHeld; clear hHeld hK KK
        replace HA := HA.keep hb
        replace CM := CM.keep hb
        replace HS := HS.keep hb
        clear hb
        try simp only [Act.put, List.setIfInBounds_toArray, List.set_cons_zero, List.set_cons_succ]
        refine wpAnyH_ready (rs := [4]) (by as_aux_lemma => kernel_rfl) (by simp) ?_
        refine AllReadyH.cons (o := ({ dst := some 23, op := .call { callee := .value (.func 16), args := #[.tmp 19, .tmp 22], argTypes := #[61, 63] }, type := 56, pos := "law.go:21", after := aaw8_a4, guard := none } : Oper)) rfl (fun KK hK => ?_) AllReadyH.nil
        rw [if_pos (by rfl)]
        go_simp
        go_at_call 16; refine (BO.out _ _ HB.below CM).mono ?_; rintro e w25 ⟨rfl, hb⟩
        go_wp2_with fail
        refine hK.out _ _ ?_ (fun hHeld => ?_)
        · exact kS _ _ HB hb
        replace HB := hHeld; clear hHeld hK KK
        replace HA := HA.keep hb
        replace CM := CM.keep hb
        replace HS := HS.keep hb
        clear hb
        try simp only [Act.put, List.setIfInBounds_toArray, List.set_cons_zero, List.set_cons_succ]
        refine wpAnyH_take (i := 5) (oi := ({ dst := some 18, op := .move (.tmp 23), type := 56, pos := "law.go:21", after := aaw8_a5, guard := none } : Oper)) (v := ?vt1_84_) rfl aaw8_plain (by as_aux_lemma => kernel_rfl) (by as_aux_lemma => kernel_rfl) (fun _ _ _ h => h) (Or.inl ⟨by rfl, ?yt1_84_⟩) HB ?rt1_84_
        case yt1_84_ => (intro w hSw; (try dsimp only at hSw); go_simp; try with_reducible rfl)
        try simp only [Act.put, List.setIfInBounds_toArray, List.set_cons_zero, List.set_cons_succ]
        refine wpAnyH_take (i := 6) (oi := ({ dst := some 24, op := .extract (.tmp 18) 0, type := 32, pos := "law.go:21", after := aaw8_a6, guard := none } : Oper)) (v := ?vt1_85_) rfl aaw8_plain (by as_aux_lemma => kernel_rfl) (by as_aux_lemma => kernel_rfl) (fun _ _ _ h => h) (Or.inl ⟨by rfl, ?yt1_85_⟩) HB ?rt1_85_
        case yt1_85_ => (intro w hSw; (try dsimp only at hSw); go_simp; try with_reducible rfl)
        try simp only [Act.put, List.setIfInBounds_toArray, List.set_cons_zero, List.set_cons_succ]
        refine wpAnyH_take (i := 7) (oi := ({ dst := some 25, op := .extract (.tmp 18) 1, type := 32, pos := "law.go:21", after := aaw8_a7, guard := none } : Oper)) (v := ?vt1_86_) rfl aaw8_plain (by as_aux_lemma => kernel_rfl) (by as_aux_lemma => kernel_rfl) (fun _ _ _ h => h) (Or.inl ⟨by rfl, ?yt1_86_⟩) HB ?rt1_86_
        case yt1_86_ => (intro w hSw; (try dsimp only at hSw); go_simp; try with_reducible rfl)
        try simp only [Act.put, List.setIfInBounds_toArray, List.set_cons_zero, List.set_cons_succ]
        refine wpAnyH_ready (rs := [10]) (by as_aux_lemma => kernel_rfl) (by simp) ?_
        refine AllReadyH.cons (o := ({ dst := none, op := .store 32 (.tmp 3) (.tmp 24), type := 0, pos := "law.go:21", after := aaw8_a10, guard := none } : Oper)) rfl (fun KK hK => ?_) AllReadyH.nil
        rw [if_pos (by rfl)]
        have hne2 : ga ≠ gs := by (have h1 := hne; clear hne; (try dsimp only at h1); omega)
        have HC := Sp.join HA HS hne2
        clear HA HS hne hne2
        refine put_span (g := ga) (u := aL) (v := aH) rfl rfl rfl (HC.free_row 1 rfl (n := 2) rfl) ?_
        have N1 := (HC.put 1 rfl 0 (.int .i64 aL)).put 1 rfl 1 (.int .i64 aH)
        obtain ⟨w26, hX⟩ := setCell2_named w25 ga aL aH
        rw [← hX] at N1 ⊢
        have HN : Sp w [(w.heap.size, (rc R).map some)] w26 := N1.take 1
        clear hX HC
        refine hK.out _ _ ?_ (fun hHeld => ?_)
        · exact HN
        replace HB := hHeld; clear hHeld hK KK HN
        try simp only [Act.put]
        refine wpAnyH_ready (rs := [11]) (by as_aux_lemma => kernel_rfl) (by simp) ?_
        refine AllReadyH.cons (o := ({ dst := none, op := .store 32 (.tmp 4) (.tmp 25), type := 0, pos := "law.go:21", after := aaw8_a11, guard := none } : Oper)) rfl (fun KK hK => ?_) AllReadyH.nil
        rw [if_pos (by rfl)]
        refine put_span (g := gs) (u := sL) (v := sH) rfl rfl rfl (N1.free_row 2 rfl (n := 2) rfl) ?_
        have N2 := (N1.put 2 rfl 0 (.int .i64 sL)).put 2 rfl 1 (.int .i64 sH)
        obtain ⟨w27, hX⟩ := setCell2_named w26 gs sL sH
        rw [← hX] at N2 ⊢
        have HN : Sp w [(w.heap.size, (rc R).map some)] w27 := N2.take 1
        clear hX N1
        refine hK.out _ _ ?_ (fun hHeld => ?_)
        · exact HN
        replace HB := hHeld; clear hHeld hK KK HN
        try simp only [Act.put]
        refine wpAnyH_done (by as_aux_lemma => kernel_rfl) ?_ _
        refine NoPanic.normal ?_
        exact hQ _ _ _ _ _ _ _ _ _ _ _ N2
    · skip
      rw [if_pos (by rfl)]
      go_simp
      have hb := below1 w21 (.cells #[.int .i64 0, .int .i64 0] 32)
      have HS := HB.more [.int .i64 0, .int .i64 0] 32
      first | (have hne := Sp.lt2 HA) | skip
      obtain ⟨gs, hG⟩ : ∃ g, g = w21.heap.size := ⟨_, rfl⟩
      rw [← hG] at HS ⊢
      try rw [← hG] at hne
      clear hG
      obtain ⟨w22, hX⟩ : ∃ x, x = w21.alloc (.cells #[.int .i64 0, .int .i64 0] 32) := ⟨_, rfl⟩
      replace HS : Sp w [(w.heap.size, (rc R).map some), (gs, [some (.int .i64 0), some (.int .i64 0)])] w22 := hX ▸ HS
      rw [← hX] at hb ⊢
      clear hX
      refine hK.out _ _ ?_ (fun hHeld => ?_)
      · exact kS _ _ HB hb
      replace HB := hHeld; clear hHeld hK KK
      replace HA := HA.keep hb
      clear hb
      try simp only [Act.put, List.setIfInBounds_toArray, List.set_cons_zero, List.set_cons_succ]
      refine wpAnyH_ready (rs := [0, 3]) (by as_aux_lemma => kernel_rfl) (by simp) ?_
      refine AllReadyH.cons (o := ({ dst := some 19, op := .call { callee := .value (.func 17), args := #[], argTypes := #[] }, type := 61, pos := "law.go:21", after := aaw8_a0, guard := none } : Oper)) rfl (fun KK hK => ?_) (AllReadyH.cons (o := ({ dst := some 22, op := .buildSlice 63 2 #[(0, .tmp 20), (1, .tmp 21)], type := 63, pos := "law.go:21", after := aaw8_a3, guard := none } : Oper)) rfl (fun KK hK => ?_) AllReadyH.nil)
      · skip
        rw [if_pos (by rfl)]
        go_simp
        go_at_call 17; refine (US.out _ HB.below).mono ?_; rintro e w23 ⟨rfl, hb⟩
        go_wp2_with fail
        refine hK.out _ _ ?_ (fun hHeld => ?_)
        · exact kS _ _ HB hb
        replace HB := hHeld; clear hHeld hK KK
        replace HA := HA.keep hb
        replace HS := HS.keep hb
        clear hb
        try simp only [Act.put, List.setIfInBounds_toArray, List.set_cons_zero, List.set_cons_succ]
        refine wpAnyH_ready (rs := [3]) (by as_aux_lemma => kernel_rfl) (by simp) ?_
        refine AllReadyH.cons (o := ({ dst := some 22, op := .buildSlice 63 2 #[(0, .tmp 20), (1, .tmp 21)], type := 63, pos := "law.go:21", after := aaw8_a3, guard := none } : Oper)) rfl (fun KK hK => ?_) AllReadyH.nil
        rw [if_pos (by rfl)]
        refine oper_build2 (R := R) rfl rfl rfl ?_
        have CM := came_two w23 R
        have hb := below1 w23 (.cells (rc R ++ rc R).toArray 55)
        obtain ⟨gr, hG⟩ : ∃ g, g = w23.heap.size := ⟨_, rfl⟩
        rw [← hG] at CM ⊢
        clear hG
        obtain ⟨w24, hX⟩ : ∃ x, x = w23.alloc (.cells (rc R ++ rc R).toArray 55) := ⟨_, rfl⟩
        rw [← hX] at CM hb ⊢
        clear hX
        refine hK.out _ _ ?_ (fun hHeld => ?_)
        · exact kS _ _ HB hb
        replace HB := hHeld; clear hHeld hK KK
        replace HA := HA.keep hb
        replace HS := HS.keep hb
        clear hb
        try simp only [Act.put, List.setIfInBounds_toArray, List.set_cons_zero, List.set_cons_succ]
        refine wpAnyH_ready (rs := [4]) (by as_aux_lemma => kernel_rfl) (by simp) ?_
        refine AllReadyH.cons (o := ({ dst := some 23, op := .call { callee := .value (.func 16), args := #[.tmp 19, .tmp 22], argTypes := #[61, 63] }, type := 56, pos := "law.go:21", after := aaw8_a4, guard := none } : Oper)) rfl (fun KK hK => ?_) AllReadyH.nil
        rw [if_pos (by rfl)]
        go_simp
        go_at_call 16; refine (BO.out _ _ HB.below CM).mono ?_; rintro e w25 ⟨rfl, hb⟩
        go_wp2_with fail
        refine hK.out _ _ ?_ (fun hHeld => ?_)
        · exact kS _ _ HB hb
        replace HB := hHeld; clear hHeld hK KK
        replace HA := HA.keep hb
        replace HS := HS.keep hb
        replace CM := CM.keep hb
        clear hb
        try simp only [Act.put, List.setIfInBounds_toArray, List.set_cons_zero, List.set_cons_succ]
        refine wpAnyH_take (i := 5) (oi := ({ dst := some 18, op := .move (.tmp 23), type := 56, pos := "law.go:21", after := aaw8_a5, guard := none } : Oper)) (v := ?vt1_87_) rfl aaw8_plain (by as_aux_lemma => kernel_rfl) (by as_aux_lemma => kernel_rfl) (fun _ _ _ h => h) (Or.inl ⟨by rfl, ?yt1_87_⟩) HB ?rt1_87_
        case yt1_87_ => (intro w hSw; (try dsimp only at hSw); go_simp; try with_reducible rfl)
        try simp only [Act.put, List.setIfInBounds_toArray, List.set_cons_zero, List.set_cons_succ]
        refine wpAnyH_take (i := 6) (oi := ({ dst := some 24, op := .extract (.tmp 18) 0, type := 32, pos := "law.go:21", after := aaw8_a6, guard := none } : Oper)) (v := ?vt1_88_) rfl aaw8_plain (by as_aux_lemma => kernel_rfl) (by as_aux_lemma => kernel_rfl) (fun _ _ _ h => h) (Or.inl ⟨by rfl, ?yt1_88_⟩) HB ?rt1_88_
        case yt1_88_ => (intro w hSw; (try dsimp only at hSw); go_simp; try with_reducible rfl)
        try simp only [Act.put, List.setIfInBounds_toArray, List.set_cons_zero, List.set_cons_succ]
        refine wpAnyH_take (i := 7) (oi := ({ dst := some 25, op := .extract (.tmp 18) 1, type := 32, pos := "law.go:21", after := aaw8_a7, guard := none } : Oper)) (v := ?vt1_89_) rfl aaw8_plain (by as_aux_lemma => kernel_rfl) (by as_aux_lemma => kernel_rfl) (fun _ _ _ h => h) (Or.inl ⟨by rfl, ?yt1_89_⟩) HB ?rt1_89_
        case yt1_89_ => (intro w hSw; (try dsimp only at hSw); go_simp; try with_reducible rfl)
        try simp only [Act.put, List.setIfInBounds_toArray, List.set_cons_zero, List.set_cons_succ]
        refine wpAnyH_ready (rs := [10]) (by as_aux_lemma => kernel_rfl) (by simp) ?_
        refine AllReadyH.cons (o := ({ dst := none, op := .store 32 (.tmp 3) (.tmp 24), type := 0, pos := "law.go:21", after := aaw8_a10, guard := none } : Oper)) rfl (fun KK hK => ?_) AllReadyH.nil
        rw [if_pos (by rfl)]
        have hne2 : ga ≠ gs := by (have h1 := hne; clear hne; (try dsimp only at h1); omega)
        have HC := Sp.join HA HS hne2
        clear HA HS hne hne2
        refine put_span (g := ga) (u := aL) (v := aH) rfl rfl rfl (HC.free_row 1 rfl (n := 2) rfl) ?_
        have N1 := (HC.put 1 rfl 0 (.int .i64 aL)).put 1 rfl 1 (.int .i64 aH)
        obtain ⟨w26, hX⟩ := setCell2_named w25 ga aL aH
        rw [← hX] at N1 ⊢
        have HN : Sp w [(w.heap.size, (rc R).map some)] w26 := N1.take 1
        clear hX HC
        refine hK.out _ _ ?_ (fun hHeld => ?_)
        · exact HN
        replace HB := hHeld; clear hHeld hK KK HN
        try simp only [Act.put]
        refine wpAnyH_ready (rs := [11]) (by as_aux_lemma => kernel_rfl) (by simp) ?_
        refine AllReadyH.cons (o := ({ dst := none, op := .store 32 (.tmp 4) (.tmp 25), type := 0, pos := "law.go:21", after := aaw8_a11, guard := none } : Oper)) rfl (fun KK hK => ?_) AllReadyH.nil
        rw [if_pos (by rfl)]
        refine put_span (g := gs) (u := sL) (v := sH) rfl rfl rfl (N1.free_row 2 rfl (n := 2) rfl) ?_
        have N2 := (N1.put 2 rfl 0 (.int .i64 sL)).put 2 rfl 1 (.int .i64 sH)
        obtain ⟨w27, hX⟩ := setCell2_named w26 gs sL sH
        rw [← hX] at N2 ⊢
        have HN : Sp w [(w.heap.size, (rc R).map some)] w27 := N2.take 1
        clear hX N1
        refine hK.out _ _ ?_ (fun hHeld => ?_)
        · exact HN
        replace HB := hHeld; clear hHeld hK KK HN
        try simp only [Act.put]
        refine wpAnyH_done (by as_aux_lemma => kernel_rfl) ?_ _
        refine NoPanic.normal ?_
        exact hQ _ _ _ _ _ _ _ _ _ _ _ N2
      · skip
        rw [if_pos (by rfl)]
        refine oper_build2 (R := R) rfl rfl rfl ?_
        have CM := came_two w22 R
        have hb := below1 w22 (.cells (rc R ++ rc R).toArray 55)
        obtain ⟨gr, hG⟩ : ∃ g, g = w22.heap.size := ⟨_, rfl⟩
        rw [← hG] at CM ⊢
        clear hG
        obtain ⟨w23, hX⟩ : ∃ x, x = w22.alloc (.cells (rc R ++ rc R).toArray 55) := ⟨_, rfl⟩
        rw [← hX] at CM hb ⊢
        clear hX
        refine hK.out _ _ ?_ (fun hHeld => ?_)
        · exact kS _ _ HB hb
        replace HB := hHeld; clear hHeld hK KK
        replace HA := HA.keep hb
        replace HS := HS.keep hb
        clear hb
        try simp only [Act.put, List.setIfInBounds_toArray, List.set_cons_zero, List.set_cons_succ]
        refine wpAnyH_ready (rs := [0]) (by as_aux_lemma => kernel_rfl) (by simp) ?_
        refine AllReadyH.cons (o := ({ dst := some 19, op := .call { callee := .value (.func 17), args := #[], argTypes := #[] }, type := 61, pos := "law.go:21", after := aaw8_a0, guard := none } : Oper)) rfl (fun KK hK => ?_) AllReadyH.nil
        rw [if_pos (by rfl)]
        go_simp
        go_at_call 17; refine (US.out _ HB.below).mono ?_; rintro e w24 ⟨rfl, hb⟩
        go_wp2_with fail
        refine hK.out _ _ ?_ (fun hHeld => ?_)
        · exact kS _ _ HB hb
        replace HB := hHeld; clear hHeld hK KK
        replace HA := HA.keep hb
        replace HS := HS.keep hb
        replace CM := CM.keep hb
        clear hb
        try simp only [Act.put, List.setIfInBounds_toArray, List.set_cons_zero, List.set_cons_succ]
        refine wpAnyH_ready (rs := [4]) (by as_aux_lemma => kernel_rfl) (by simp) ?_
        refine AllReadyH.cons (o := ({ dst := some 23, op := .call { callee := .value (.func 16), args := #[.tmp 19, .tmp 22], argTypes := #[61, 63] }, type := 56, pos := "law.go:21", after := aaw8_a4, guard := none } : Oper)) rfl (fun KK hK => ?_) AllReadyH.nil
        rw [if_pos (by rfl)]
        go_simp
        go_at_call 16; refine (BO.out _ _ HB.below CM).mono ?_; rintro e w25 ⟨rfl, hb⟩
        go_wp2_with fail
        refine hK.out _ _ ?_ (fun hHeld => ?_)
        · exact kS _ _ HB hb
        replace HB := hHeld; clear hHeld hK KK
        replace HA := HA.keep hb
        replace HS := HS.keep hb
        replace CM := CM.keep hb
        clear hb
        try simp only [Act.put, List.setIfInBounds_toArray, List.set_cons_zero, List.set_cons_succ]
        refine wpAnyH_take (i := 5) (oi := ({ dst := some 18, op := .move (.tmp 23), type := 56, pos := "law.go:21", after := aaw8_a5, guard := none } : Oper)) (v := ?vt1_90_) rfl aaw8_plain (by as_aux_lemma => kernel_rfl) (by as_aux_lemma => kernel_rfl) (fun _ _ _ h => h) (Or.inl ⟨by rfl, ?yt1_90_⟩) HB ?rt1_90_
        case yt1_90_ => (intro w hSw; (try dsimp only at hSw); go_simp; try with_reducible rfl)
        try simp only [Act.put, List.setIfInBounds_toArray, List.set_cons_zero, List.set_cons_succ]
        refine wpAnyH_take (i := 6) (oi := ({ dst := some 24, op := .extract (.tmp 18) 0, type := 32, pos := "law.go:21", after := aaw8_a6, guard := none } : Oper)) (v := ?vt1_91_) rfl aaw8_plain (by as_aux_lemma => kernel_rfl) (by as_aux_lemma => kernel_rfl) (fun _ _ _ h => h) (Or.inl ⟨by rfl, ?yt1_91_⟩) HB ?rt1_91_
        case yt1_91_ => (intro w hSw; (try dsimp only at hSw); go_simp; try with_reducible rfl)
        try simp only [Act.put, List.setIfInBounds_toArray, List.set_cons_zero, List.set_cons_succ]
        refine wpAnyH_take (i := 7) (oi := ({ dst := some 25, op := .extract (.tmp 18) 1, type := 32, pos := "law.go:21", after := aaw8_a7, guard := none } : Oper)) (v := ?vt1_92_) rfl aaw8_plain (by as_aux_lemma => kernel_rfl) (by as_aux_lemma => kernel_rfl) (fun _ _ _ h => h) (Or.inl ⟨by rfl, ?yt1_92_⟩) HB ?rt1_92_
        case yt1_92_ => (intro w hSw; (try dsimp only at hSw); go_simp; try with_reducible rfl)
        try simp only [Act.put, List.setIfInBounds_toArray, List.set_cons_zero, List.set_cons_succ]
        refine wpAnyH_ready (rs := [10]) (by as_aux_lemma => kernel_rfl) (by simp) ?_
        refine AllReadyH.cons (o := ({ dst := none, op := .store 32 (.tmp 3) (.tmp 24), type := 0, pos := "law.go:21", after := aaw8_a10, guard := none } : Oper)) rfl (fun KK hK => ?_) AllReadyH.nil
        rw [if_pos (by rfl)]
        have hne2 : ga ≠ gs := by (have h1 := hne; clear hne; (try dsimp only at h1); omega)
        have HC := Sp.join HA HS hne2
        clear HA HS hne hne2
        refine put_span (g := ga) (u := aL) (v := aH) rfl rfl rfl (HC.free_row 1 rfl (n := 2) rfl) ?_
        have N1 := (HC.put 1 rfl 0 (.int .i64 aL)).put 1 rfl 1 (.int .i64 aH)
        obtain ⟨w26, hX⟩ := setCell2_named w25 ga aL aH
        rw [← hX] at N1 ⊢
        have HN : Sp w [(w.heap.size, (rc R).map some)] w26 := N1.take 1
        clear hX HC
        refine hK.out _ _ ?_ (fun hHeld => ?_)
        · exact HN
        replace HB := hHeld; clear hHeld hK KK HN
        try simp only [Act.put]
        refine wpAnyH_ready (rs := [11]) (by as_aux_lemma => kernel_rfl) (by simp) ?_
        refine AllReadyH.cons (o := ({ dst := none, op := .store 32 (.tmp 4) (.tmp 25), type := 0, pos := "law.go:21", after := aaw8_a11, guard := none } : Oper)) rfl (fun KK hK => ?_) AllReadyH.nil
        rw [if_pos (by rfl)]
        refine put_span (g := gs) (u := sL) (v := sH) rfl rfl rfl (N1.free_row 2 rfl (n := 2) rfl) ?_
        have N2 := (N1.put 2 rfl 0 (.int .i64 sL)).put 2 rfl 1 (.int .i64 sH)
        obtain ⟨w27, hX⟩ := setCell2_named w26 gs sL sH
        rw [← hX] at N2 ⊢
        have HN : Sp w [(w.heap.size, (rc R).map some)] w27 := N2.take 1
        clear hX N1
        refine hK.out _ _ ?_ (fun hHeld => ?_)
        · exact HN
        replace HB := hHeld; clear hHeld hK KK HN
        try simp only [Act.put]
        refine wpAnyH_done (by as_aux_lemma => kernel_rfl) ?_ _
        refine NoPanic.normal ?_
        exact hQ _ _ _ _ _ _ _ _ _ _ _ N2
  · skip
    rw [if_pos (by rfl)]
    go_simp
    have hb := below1 w20 (.cells #[.int .i64 0, .int .i64 0] 32)
    have HS := HB.more [.int .i64 0, .int .i64 0] 32
    first | (have hne := Sp.lt2 HA) | skip
    obtain ⟨gs, hG⟩ : ∃ g, g = w20.heap.size := ⟨_, rfl⟩
    rw [← hG] at HS ⊢
    try rw [← hG] at hne
    clear hG
    obtain ⟨w21, hX⟩ : ∃ x, x = w20.alloc (.cells #[.int .i64 0, .int .i64 0] 32) := ⟨_, rfl⟩
    replace HS : Sp w [(w.heap.size, (rc R).map some), (gs, [some (.int .i64 0), some (.int .i64 0)])] w21 := hX ▸ HS
    rw [← hX] at hb ⊢
    clear hX
    refine hK.out _ _ ?_ (fun hHeld => ?_)
    · exact kS _ _ HB hb
    replace HB := hHeld; clear hHeld hK KK
    clear hb
    try simp only [Act.put, List.setIfInBounds_toArray, List.set_cons_zero, List.set_cons_succ]
    refine wpAnyH_ready (rs := [0, 3, 8]) (by as_aux_lemma => kernel_rfl) (by simp) ?_
    refine AllReadyH.cons (o := ({ dst := some 19, op := .call { callee := .value (.func 17), args := #[], argTypes := #[] }, type := 61, pos := "law.go:21", after := aaw8_a0, guard := none } : Oper)) rfl (fun KK hK => ?_) (AllReadyH.cons (o := ({ dst := some 22, op := .buildSlice 63 2 #[(0, .tmp 20), (1, .tmp 21)], type := 63, pos := "law.go:21", after := aaw8_a3, guard := none } : Oper)) rfl (fun KK hK => ?_) (AllReadyH.cons (o := ({ dst := some 3, op := .alloc 32, type := 0, pos := "law.go:21", after := aaw8_a8, guard := none } : Oper)) rfl (fun KK hK => ?_) AllReadyH.nil))
    · skip
      rw [if_pos (by rfl)]
      go_simp
      go_at_call 17; refine (US.out _ HB.below).mono ?_; rintro e w22 ⟨rfl, hb⟩
      go_wp2_with fail
      refine hK.out _ _ ?_ (fun hHeld => ?_)
      · exact kS _ _ HB hb
      replace HB := hHeld; clear hHeld hK KK
      replace HS := HS.keep hb
      clear hb
      try simp only [Act.put, List.setIfInBounds_toArray, List.set_cons_zero, List.set_cons_succ]
      refine wpAnyH_ready (rs := [3, 8]) (by as_aux_lemma => kernel_rfl) (by simp) ?_
      refine AllReadyH.cons (o := ({ dst := some 22, op := .buildSlice 63 2 #[(0, .tmp 20), (1, .tmp 21)], type := 63, pos := "law.go:21", after := aaw8_a3, guard := none } : Oper)) rfl (fun KK hK => ?_) (AllReadyH.cons (o := ({ dst := some 3, op := .alloc 32, type := 0, pos := "law.go:21", after := aaw8_a8, guard := none } : Oper)) rfl (fun KK hK => ?_) AllReadyH.nil)
      · skip
        rw [if_pos (by rfl)]
        refine oper_build2 (R := R) rfl rfl rfl ?_
        have CM := came_two w22 R
        have hb := below1 w22 (.cells (rc R ++ rc R).toArray 55)
        obtain ⟨gr, hG⟩ : ∃ g, g = w22.heap.size := ⟨_, rfl⟩
        rw [← hG] at CM ⊢
        clear hG
        obtain ⟨w23, hX⟩ : ∃ x, x = w22.alloc (.cells (rc R ++ rc R).toArray 55) := ⟨_, rfl⟩
        rw [← hX] at CM hb ⊢
        clear hX
        refine hK.out _ _ ?_ (fun hHeld => ?_)
        · exact kS _ _ HB hb
        replace HB := hHeld; clear hHeld hK KK
        replace HS := HS.keep hb
        clear hb
        try simp only [Act.put, List.setIfInBounds_toArray, List.set_cons_zero, List.set_cons_succ]
        refine wpAnyH_ready (rs := [4, 8]) (by as_aux_lemma => kernel_rfl) (by simp) ?_
        refine AllReadyH.cons (o := ({ dst := some 23, op := .call { callee := .value (.func 16), args := #[.tmp 19, .tmp 22], argTypes := #[61, 63] }, type := 56, pos := "law.go:21", after := aaw8_a4, guard := none } : Oper)) rfl (fun KK hK => ?_) (AllReadyH.cons (o := ({ dst := some 3, op := .alloc 32, type := 0, pos := "law.go:21", after := aaw8_a8, guard := none } : Oper)) rfl (fun KK hK => ?_) AllReadyH.nil)
        · skip
          rw [if_pos (by rfl)]
          go_simp
          go_at_call 16; refine (BO.out _ _ HB.below CM).mono ?_; rintro e w24 ⟨rfl, hb⟩
          go_wp2_with fail
          refine hK.out _ _ ?_ (fun hHeld => ?_)
          · exact kS _ _ HB hb
          replace HB := hHeld; clear hHeld hK KK
          replace HS := HS.keep hb
          replace CM := CM.keep hb
          clear hb
          try simp only [Act.put, List.setIfInBounds_toArray, List.set_cons_zero, List.set_cons_succ]
          refine wpAnyH_take (i := 5) (oi := ({ dst := some 18, op := .move (.tmp 23), type := 56, pos := "law.go:21", after := aaw8_a5, guard := none } : Oper)) (v := ?vt1_93_) rfl aaw8_plain (by as_aux_lemma => kernel_rfl) (by as_aux_lemma => kernel_rfl) (fun _ _ _ h => h) (Or.inl ⟨by rfl, ?yt1_93_⟩) HB ?rt1_93_
          case yt1_93_ => (intro w hSw; (try dsimp only at hSw); go_simp; try with_reducible rfl)
          try simp only [Act.put, List.setIfInBounds_toArray, List.set_cons_zero, List.set_cons_succ]
          refine wpAnyH_take (i := 6) (oi := ({ dst := some 24, op := .extract (.tmp 18) 0, type := 32, pos := "law.go:21", after := aaw8_a6, guard := none } : Oper)) (v := ?vt1_94_) rfl aaw8_plain (by as_aux_lemma => kernel_rfl) (by as_aux_lemma => kernel_rfl) (fun _ _ _ h => h) (Or.inl ⟨by rfl, ?yt1_94_⟩) HB ?rt1_94_
          case yt1_94_ => (intro w hSw; (try dsimp only at hSw); go_simp; try with_reducible rfl)
          try simp only [Act.put, List.setIfInBounds_toArray, List.set_cons_zero, List.set_cons_succ]
          refine wpAnyH_take (i := 7) (oi := ({ dst := some 25, op := .extract (.tmp 18) 1, type := 32, pos := "law.go:21", after := aaw8_a7, guard := none } : Oper)) (v := ?vt1_95_) rfl aaw8_plain (by as_aux_lemma => kernel_rfl) (by as_aux_lemma => kernel_rfl) (fun _ _ _ h => h) (Or.inl ⟨by rfl, ?yt1_95_⟩) HB ?rt1_95_
          case yt1_95_ => (intro w hSw; (try dsimp only at hSw); go_simp; try with_reducible rfl)
          try simp only [Act.put, List.setIfInBounds_toArray, List.set_cons_zero, List.set_cons_succ]
          refine wpAnyH_ready (rs := [8]) (by as_aux_lemma => kernel_rfl) (by simp) ?_
          refine AllReadyH.cons (o := ({ dst := some 3, op := .alloc 32, type := 0, pos := "law.go:21", after := aaw8_a8, guard := none } : Oper)) rfl (fun KK hK => ?_) AllReadyH.nil
          rw [if_pos (by rfl)]
          go_simp
          have hb := below1 w24 (.cells #[.int .i64 0, .int .i64 0] 32)
          have HA := HB.more [.int .i64 0, .int .i64 0] 32
          first | (have hne := Sp.lt2 HS) | skip
          obtain ⟨ga, hG⟩ : ∃ g, g = w24.heap.size := ⟨_, rfl⟩
          rw [← hG] at HA ⊢
          try rw [← hG] at hne
          clear hG
          obtain ⟨w25, hX⟩ : ∃ x, x = w24.alloc (.cells #[.int .i64 0, .int .i64 0] 32) := ⟨_, rfl⟩
          replace HA : Sp w [(w.heap.size, (rc R).map some), (ga, [some (.int .i64 0), some (.int .i64 0)])] w25 := hX ▸ HA
          rw [← hX] at hb ⊢
          clear hX
          refine hK.out _ _ ?_ (fun hHeld => ?_)
          · exact kS _ _ HB hb
          replace HB := hHeld; clear hHeld hK KK
          replace HS := HS.keep hb
          replace CM := CM.keep hb
          clear hb
          try simp only [Act.put, List.setIfInBounds_toArray, List.set_cons_zero, List.set_cons_succ]
          refine wpAnyH_ready (rs := [10]) (by as_aux_lemma => kernel_rfl) (by simp) ?_
          refine AllReadyH.cons (o := ({ dst := none, op := .store 32 (.tmp 3) (.tmp 24), type := 0, pos := "law.go:21", after := aaw8_a10, guard := none } : Oper)) rfl (fun KK hK => ?_) AllReadyH.nil
          rw [if_pos (by rfl)]
          have hne2 : ga ≠ gs := by (have h1 := hne; clear hne; (try dsimp only at h1); omega)
          have HC := Sp.join HA HS hne2
          clear HA HS hne hne2
          refine put_span (g := ga) (u := aL) (v := aH) rfl rfl rfl (HC.free_row 1 rfl (n := 2) rfl) ?_
          have N1 := (HC.put 1 rfl 0 (.int .i64 aL)).put 1 rfl 1 (.int .i64 aH)
          obtain ⟨w26, hX⟩ := setCell2_named w25 ga aL aH
          rw [← hX] at N1 ⊢
          have HN : Sp w [(w.heap.size, (rc R).map some)] w26 := N1.take 1
          clear hX HC
          refine hK.out _ _ ?_ (fun hHeld => ?_)
          · exact HN
          replace HB := hHeld; clear hHeld hK KK HN
          try simp only [Act.put]
          refine wpAnyH_ready (rs := [11]) (by as_aux_lemma => kernel_rfl) (by simp) ?_
          refine AllReadyH.cons (o := ({ dst := none, op := .store 32 (.tmp 4) (.tmp 25), type := 0, pos := "law.go:21", after := aaw8_a11, guard := none } : Oper)) rfl (fun KK hK => ?_) AllReadyH.nil
          rw [if_pos (by rfl)]
          refine put_span (g := gs) (u := sL) (v := sH) rfl rfl rfl (N1.free_row 2 rfl (n := 2) rfl) ?_
          have N2 := (N1.put 2 rfl 0 (.int .i64 sL)).put 2 rfl 1 (.int .i64 sH)
          obtain ⟨w27, hX⟩ := setCell2_named w26 gs sL sH
          rw [← hX] at N2 ⊢
          have HN : Sp w [(w.heap.size, (rc R).map some)] w27 := N2.take 1
          clear hX N1
          refine hK.out _ _ ?_ (fun hHeld => ?_)
          · exact HN
          replace HB := hHeld; clear hHeld hK KK HN
          try simp only [Act.put]
          refine wpAnyH_done (by as_aux_lemma => kernel_rfl) ?_ _
          refine NoPanic.normal ?_
          exact hQ _ _ _ _ _ _ _ _ _ _ _ N2
        · skip
          rw [if_pos (by rfl)]
          go_simp
          have hb := below1 w23 (.cells #[.int .i64 0, .int .i64 0] 32)
          have HA := HB.more [.int .i64 0, .int .i64 0] 32
          first | (have hne := Sp.lt2 HS) | skip
          obtain ⟨ga, hG⟩ : ∃ g, g = w23.heap.size := ⟨_, rfl⟩
          rw [← hG] at HA ⊢
          try rw [← hG] at hne
          clear hG
          obtain ⟨w24, hX⟩ : ∃ x, x = w23.alloc (.cells #[.int .i64 0, .int .i64 0] 32) := ⟨_, rfl⟩
          replace HA : Sp w [(w.heap.size, (rc R).map some), (ga, [some (.int .i64 0), some (.int .i64 0)])] w24 := hX ▸ HA
          rw [← hX] at hb ⊢
          clear hX
          refine hK.out _ _ ?_ (fun hHeld => ?_)
          · exact kS _ _ HB hb
          replace HB := hHeld; clear hHeld hK KK
          replace HS := HS.keep hb
          replace CM := CM.keep hb
          clear hb
          try simp only [Act.put, List.setIfInBounds_toArray, List.set_cons_zero, List.set_cons_succ]
          refine wpAnyH_ready (rs := [4]) (by as_aux_lemma => kernel_rfl) (by simp) ?_
          refine AllReadyH.cons (o := ({ dst := some 23, op := .call { callee := .value (.func 16), args := #[.tmp 19, .tmp 22], argTypes := #[61, 63] }, type := 56, pos := "law.go:21", after := aaw8_a4, guard := none } : Oper)) rfl (fun KK hK => ?_) AllReadyH.nil
          rw [if_pos (by rfl)]
          go_simp
          go_at_call 16; refine (BO.out _ _ HB.below CM).mono ?_; rintro e w25 ⟨rfl, hb⟩
          go_wp2_with fail
          refine hK.out _ _ ?_ (fun hHeld => ?_)
          · exact kS _ _ HB hb
          replace HB := hHeld; clear hHeld hK KK
          replace HS := HS.keep hb
          replace CM := CM.keep hb
          replace HA := HA.keep hb
          clear hb
          try simp only [Act.put, List.setIfInBounds_toArray, List.set_cons_zero, List.set_cons_succ]
          refine wpAnyH_take (i := 5) (oi := ({ dst := some 18, op := .move (.tmp 23), type := 56, pos := "law.go:21", after := aaw8_a5, guard := none } : Oper)) (v := ?vt1_96_) rfl aaw8_plain (by as_aux_lemma => kernel_rfl) (by as_aux_lemma => kernel_rfl) (fun _ _ _ h => h) (Or.inl ⟨by rfl, ?yt1_96_⟩) HB ?rt1_96_
          case yt1_96_ => (intro w hSw; (try dsimp only at hSw); go_simp; try with_reducible rfl)
          try simp only [Act.put, List.setIfInBounds_toArray, List.set_cons_zero, List.set_cons_succ]
          refine wpAnyH_take (i := 6) (oi := ({ dst := some 24, op := .extract (.tmp 18) 0, type := 32, pos := "law.go:21", after := aaw8_a6, guard := none } : Oper)) (v := ?vt1_97_) rfl aaw8_plain (by as_aux_lemma => kernel_rfl) (by as_aux_lemma => kernel_rfl) (fun _ _ _ h => h) (Or.inl ⟨by rfl, ?yt1_97_⟩) HB ?rt1_97_
          case yt1_97_ => (intro w hSw; (try dsimp only at hSw); go_simp; try with_reducible rfl)
          try simp only [Act.put, List.setIfInBounds_toArray, List.set_cons_zero, List.set_cons_succ]
          refine wpAnyH_take (i := 7) (oi := ({ dst := some 25, op := .extract (.tmp 18) 1, type := 32, pos := "law.go:21", after := aaw8_a7, guard := none } : Oper)) (v := ?vt1_98_) rfl aaw8_plain (by as_aux_lemma => kernel_rfl) (by as_aux_lemma => kernel_rfl) (fun _ _ _ h => h) (Or.inl ⟨by rfl, ?yt1_98_⟩) HB ?rt1_98_
          case yt1_98_ => (intro w hSw; (try dsimp only at hSw); go_simp; try with_reducible rfl)
          try simp only [Act.put, List.setIfInBounds_toArray, List.set_cons_zero, List.set_cons_succ]
          refine wpAnyH_ready (rs := [10]) (by as_aux_lemma => kernel_rfl) (by simp) ?_
          refine AllReadyH.cons (o := ({ dst := none, op := .store 32 (.tmp 3) (.tmp 24), type := 0, pos := "law.go:21", after := aaw8_a10, guard := none } : Oper)) rfl (fun KK hK => ?_) AllReadyH.nil
          rw [if_pos (by rfl)]
          have hne2 : ga ≠ gs := by (have h1 := hne; clear hne; (try dsimp only at h1); omega)
          have HC := Sp.join HA HS hne2
          clear HA HS hne hne2
          refine put_span (g := ga) (u := aL) (v := aH) rfl rfl rfl (HC.free_row 1 rfl (n := 2) rfl) ?_
          have N1 := (HC.put 1 rfl 0 (.int .i64 aL)).put 1 rfl 1 (.int .i64 aH)
          obtain ⟨w26, hX⟩ := setCell2_named w25 ga aL aH
          rw [← hX] at N1 ⊢
          have HN : Sp w [(w.heap.size, (rc R).map some)] w26 := N1.take 1
          clear hX HC
          refine hK.out _ _ ?_ (fun hHeld => ?_)
          · exact HN
          replace HB := hHeld; clear hHeld hK KK HN
          try simp only [Act.put]
          refine wpAnyH_ready (rs := [11]) (by as_aux_lemma => kernel_rfl) (by simp) ?_
          refine AllReadyH.cons (o := ({ dst := none, op := .store 32 (.tmp 4) (.tmp 25), type := 0, pos := "law.go:21", after := aaw8_a11, guard := none } : Oper)) rfl (fun KK hK => ?_) AllReadyH.nil
          rw [if_pos (by rfl)]
          refine put_span (g := gs) (u := sL) (v := sH) rfl rfl rfl (N1.free_row 2 rfl (n := 2) rfl) ?_
          have N2 := (N1.put 2 rfl 0 (.int .i64 sL)).put 2 rfl 1 (.int .i64 sH)
          obtain ⟨w27, hX⟩ := setCell2_named w26 gs sL sH
          rw [← hX] at N2 ⊢
          have HN : Sp w [(w.heap.size, (rc R).map some)] w27 := N2.take 1
          clear hX N1
          refine hK.out _ _ ?_ (fun hHeld => ?_)
          · exact HN
          replace HB := hHeld; clear hHeld hK KK HN
          try simp only [Act.put]
          refine wpAnyH_done (by as_aux_lemma => kernel_rfl) ?_ _
          refine NoPanic.normal ?_
          exact hQ _ _ _ _ _ _ _ _ _ _ _ N2
      · skip
        rw [if_pos (by rfl)]
        go_simp
        have hb := below1 w22 (.cells #[.int .i64 0, .int .i64 0] 32)
        have HA := HB.more [.int .i64 0, .int .i64 0] 32
        first | (have hne := Sp.lt2 HS) | skip
        obtain ⟨ga, hG⟩ : ∃ g, g = w22.heap.size := ⟨_, rfl⟩
        rw [← hG] at HA ⊢
        try rw [← hG] at hne
        clear hG
        obtain ⟨w23, hX⟩ : ∃ x, x = w22.alloc (.cells #[.int .i64 0, .int .i64 0] 32) := ⟨_, rfl⟩
        replace HA : Sp w [(w.heap.size, (rc R).map some), (ga, [some (.int .i64 0), some (.int .i64 0)])] w23 := hX ▸ HA
        rw [← hX] at hb ⊢
        clear hX
        refine hK.out _ _ ?_ (fun hHeld => ?_)
        · exact kS _ _ HB hb
        replace HB := hHeld; clear hHeld hK KK
        replace HS := HS.keep hb
        clear hb
        try simp only [Act.put, List.setIfInBounds_toArray, List.set_cons_zero, List.set_cons_succ]
        refine wpAnyH_ready (rs := [3]) (by as_aux_lemma => kernel_rfl) (by simp) ?_
        refine AllReadyH.cons (o := ({ dst := some 22, op := .buildSlice 63 2 #[(0, .tmp 20), (1, .tmp 21)], type := 63, pos := "law.go:21", after := aaw8_a3, guard := none } : Oper)) rfl (fun KK hK => ?_) AllReadyH.nil
        rw [if_pos (by rfl)]
        refine oper_build2 (R := R) rfl rfl rfl ?_
        have CM := came_two w23 R
        have hb := below1 w23 (.cells (rc R ++ rc R).toArray 55)
        obtain ⟨gr, hG⟩ : ∃ g, g = w23.heap.size := ⟨_, rfl⟩
        rw [← hG] at CM ⊢
        clear hG
        obtain ⟨w24, hX⟩ : ∃ x, x = w23.alloc (.cells (rc R ++ rc R).toArray 55) := ⟨_, rfl⟩
        rw [← hX] at CM hb ⊢
        clear hX
        refine hK.out _ _ ?_ (fun hHeld => ?_)
        · exact kS _ _ HB hb
        replace HB := hHeld; clear hHeld hK KK
        replace HS := HS.keep hb
        replace HA := HA.keep hb
        clear hb
        try simp only [Act.put, List.setIfInBounds_toArray, List.set_cons_zero, List.set_cons_succ]
        refine wpAnyH_ready (rs := [4]) (by as_aux_lemma => kernel_rfl) (by simp) ?_
        refine AllReadyH.cons (o := ({ dst := some 23, op := .call { callee := .value (.func 16), args := #[.tmp 19, .tmp 22], argTypes := #[61, 63] }, type := 56, pos := "law.go:21", after := aaw8_a4, guard := none } : Oper)) rfl (fun KK hK => ?_) AllReadyH.nil
        rw [if_pos (by rfl)]
        go_simp
        go_at_call 16; refine (BO.out _ _ HB.below CM).mono ?_; rintro e w25 ⟨rfl, hb⟩
        go_wp2_with fail
        refine hK.out _ _ ?_ (fun hHeld => ?_)
        · exact kS _ _ HB hb
        replace HB := hHeld; clear hHeld hK KK
        replace HS := HS.keep hb
        replace HA := HA.keep hb
        replace CM := CM.keep hb
        clear hb
        try simp only [Act.put, List.setIfInBounds_toArray, List.set_cons_zero, List.set_cons_succ]
        refine wpAnyH_take (i := 5) (oi := ({ dst := some 18, op := .move (.tmp 23), type := 56, pos := "law.go:21", after := aaw8_a5, guard := none } : Oper)) (v := ?vt1_99_) rfl aaw8_plain (by as_aux_lemma => kernel_rfl) (by as_aux_lemma => kernel_rfl) (fun _ _ _ h => h) (Or.inl ⟨by rfl, ?yt1_99_⟩) HB ?rt1_99_
        case yt1_99_ => (intro w hSw; (try dsimp only at hSw); go_simp; try with_reducible rfl)
        try simp only [Act.put, List.setIfInBounds_toArray, List.set_cons_zero, List.set_cons_succ]
        refine wpAnyH_take (i := 6) (oi := ({ dst := some 24, op := .extract (.tmp 18) 0, type := 32, pos := "law.go:21", after := aaw8_a6, guard := none } : Oper)) (v := ?vt1_100_) rfl aaw8_plain (by as_aux_lemma => kernel_rfl) (by as_aux_lemma => kernel_rfl) (fun _ _ _ h => h) (Or.inl ⟨by rfl, ?yt1_100_⟩) HB ?rt1_100_
        case yt1_100_ => (intro w hSw; (try dsimp only at hSw); go_simp; try with_reducible rfl)
        try simp only [Act.put, List.setIfInBounds_toArray, List.set_cons_zero, List.set_cons_succ]
        refine wpAnyH_take (i := 7) (oi := ({ dst := some 25, op := .extract (.tmp 18) 1, type := 32, pos := "law.go:21", after := aaw8_a7, guard := none } : Oper)) (v := ?vt1_101_) rfl aaw8_plain (by as_aux_lemma => kernel_rfl) (by as_aux_lemma => kernel_rfl) (fun _ _ _ h => h) (Or.inl ⟨by rfl, ?yt1_101_⟩) HB ?rt1_101_
        case yt1_101_ => (intro w hSw; (try dsimp only at hSw); go_simp; try with_reducible rfl)
        try simp only [Act.put, List.setIfInBounds_toArray, List.set_cons_zero, List.set_cons_succ]
        refine wpAnyH_ready (rs := [10]) (by as_aux_lemma => kernel_rfl) (by simp) ?_
        refine AllReadyH.cons (o := ({ dst := none, op := .store 32 (.tmp 3) (.tmp 24), type := 0, pos := "law.go:21", after := aaw8_a10, guard := none } : Oper)) rfl (fun KK hK => ?_) AllReadyH.nil
        rw [if_pos (by rfl)]
        have hne2 : ga ≠ gs := by (have h1 := hne; clear hne; (try dsimp only at h1); omega)
        have HC := Sp.join HA HS hne2
        clear HA HS hne hne2
        refine put_span (g := ga) (u := aL) (v := aH) rfl rfl rfl (HC.free_row 1 rfl (n := 2) rfl) ?_
        have N1 := (HC.put 1 rfl 0 (.int .i64 aL)).put 1 rfl 1 (.int .i64 aH)
        obtain ⟨w26, hX⟩ := setCell2_named w25 ga aL aH
        rw [← hX] at N1 ⊢
        have HN : Sp w [(w.heap.size, (rc R).map some)] w26 := N1.take 1
        clear hX HC
        refine hK.out _ _ ?_ (fun hHeld => ?_)
        · exact HN
        replace HB := hHeld; clear hHeld hK KK HN
        try simp only [Act.put]
        refine wpAnyH_ready (rs := [11]) (by as_aux_lemma => kernel_rfl) (by simp) ?_
        refine AllReadyH.cons (o := ({ dst := none, op := .store 32 (.tmp 4) (.tmp 25), type := 0, pos := "law.go:21", after := aaw8_a11, guard := none } : Oper)) rfl (fun KK hK => ?_) AllReadyH.nil
        rw [if_pos (by rfl)]
        refine put_span (g := gs) (u := sL) (v := sH) rfl rfl rfl (N1.free_row 2 rfl (n := 2) rfl) ?_
        have N2 := (N1.put 2 rfl 0 (.int .i64 sL)).put 2 rfl 1 (.int .i64 sH)
        obtain ⟨w27, hX⟩ := setCell2_named w26 gs sL sH
        rw [← hX] at N2 ⊢
        have HN : Sp w [(w.heap.size, (rc R).map some)] w27 := N2.take 1
        clear hX N1
        refine hK.out _ _ ?_ (fun hHeld => ?_)
        · exact HN
        replace HB := hHeld; clear hHeld hK KK HN
        try simp only [Act.put]
        refine wpAnyH_done (by as_aux_lemma => kernel_rfl) ?_ _
        refine NoPanic.normal ?_
        exact hQ _ _ _ _ _ _ _ _ _ _ _ N2
    · skip
      rw [if_pos (by rfl)]
      refine oper_build2 (R := R) rfl rfl rfl ?_
      have CM := came_two w21 R
      have hb := below1 w21 (.cells (rc R ++ rc R).toArray 55)
      obtain ⟨gr, hG⟩ : ∃ g, g = w21.heap.size := ⟨_, rfl⟩
      rw [← hG] at CM ⊢
      clear hG
      obtain ⟨w22, hX⟩ : ∃ x, x = w21.alloc (.cells (rc R ++ rc R).toArray 55) := ⟨_, rfl⟩
      rw [← hX] at CM hb ⊢
      clear hX
      refine hK.out _ _ ?_ (fun hHeld => ?_)
      · exact kS _ _ HB hb
      replace HB := hHeld; clear hHeld hK KK
      replace HS := HS.keep hb
      clear hb
      try simp only [Act.put, List.setIfInBounds_toArray, List.set_cons_zero, List.set_cons_succ]
      refine wpAnyH_ready (rs := [0, 8]) (by as_aux_lemma => kernel_rfl) (by simp) ?_
      refine AllReadyH.cons (o := ({ dst := some 19, op := .call { callee := .value (.func 17), args := #[], argTypes := #[] }, type := 61, pos := "law.go:21", after := aaw8_a0, guard := none } : Oper)) rfl (fun KK hK => ?_) (AllReadyH.cons (o := ({ dst := some 3, op := .alloc 32, type := 0, pos := "law.go:21", after := aaw8_a8, guard := none } : Oper)) rfl (fun KK hK => ?_) AllReadyH.nil)
      · skip
        rw [if_pos (by rfl)]
        go_simp
        go_at_call 17; refine (US.out _ HB.below).mono ?_; rintro e w23 ⟨rfl, hb⟩
        go_wp2_with fail
        refine hK.out _ _ ?_ (fun hHeld => ?_)
        · exact kS _ _ HB hb
        replace HB := hHeld; clear hHeld hK KK
        replace HS := HS.keep hb
        replace CM := CM.keep hb
        clear hb
        try simp only [Act.put, List.setIfInBounds_toArray, List.set_cons_zero, List.set_cons_succ]
        refine wpAnyH_ready (rs := [4, 8]) (by as_aux_lemma => kernel_rfl) (by simp) ?_
        refine AllReadyH.cons (o := ({ dst := some 23, op := .call { callee := .value (.func 16), args := #[.tmp 19, .tmp 22], argTypes := #[61, 63] }, type := 56, pos := "law.go:21", after := aaw8_a4, guard := none } : Oper)) rfl (fun KK hK => ?_) (AllReadyH.cons (o := ({ dst := some 3, op := .alloc 32, type := 0, pos := "law.go:21", after := aaw8_a8, guard := none } : Oper)) rfl (fun KK hK => ?_) AllReadyH.nil)
        · skip
          rw [if_pos (by rfl)]
          go_simp
          go_at_call 16; refine (BO.out _ _ HB.below CM).mono ?_; rintro e w24 ⟨rfl, hb⟩
          go_wp2_with fail
          refine hK.out _ _ ?_ (fun hHeld => ?_)
          · exact kS _ _ HB hb
          replace HB := hHeld; clear hHeld hK KK
          replace HS := HS.keep hb
          replace CM := CM.keep hb
          clear hb
          try simp only [Act.put, List.setIfInBounds_toArray, List.set_cons_zero, List.set_cons_succ]
          refine wpAnyH_take (i := 5) (oi := ({ dst := some 18, op := .move (.tmp 23), type := 56, pos := "law.go:21", after := aaw8_a5, guard := none } : Oper)) (v := ?vt1_102_) rfl aaw8_plain (by as_aux_lemma => kernel_rfl) (by as_aux_lemma => kernel_rfl) (fun _ _ _ h => h) (Or.inl ⟨by rfl, ?yt1_102_⟩) HB ?rt1_102_
          case yt1_102_ => (intro w hSw; (try dsimp only at hSw); go_simp; try with_reducible rfl)
          try simp only [Act.put, List.setIfInBounds_toArray, List.set_cons_zero, List.set_cons_succ]
          refine wpAnyH_take (i := 6) (oi := ({ dst := some 24, op := .extract (.tmp 18) 0, type := 32, pos := "law.go:21", after := aaw8_a6, guard := none } : Oper)) (v := ?vt1_103_) rfl aaw8_plain (by as_aux_lemma => kernel_rfl) (by as_aux_lemma => kernel_rfl) (fun _ _ _ h => h) (Or.inl ⟨by rfl, ?yt1_103_⟩) HB ?rt1_103_
          case yt1_103_ => (intro w hSw; (try dsimp only at hSw); go_simp; try with_reducible rfl)
          try simp only [Act.put, List.setIfInBounds_toArray, List.set_cons_zero, List.set_cons_succ]
          refine wpAnyH_take (i := 7) (oi := ({ dst := some 25, op := .extract (.tmp 18) 1, type := 32, pos := "law.go:21", after := aaw8_a7, guard := none } : Oper)) (v := ?vt1_104_) rfl aaw8_plain (by as_aux_lemma => kernel_rfl) (by as_aux_lemma => kernel_rfl) (fun _ _ _ h => h) (Or.inl ⟨by rfl, ?yt1_104_⟩) HB ?rt1_104_
          case yt1_104_ => (intro w hSw; (try dsimp only at hSw); go_simp; try with_reducible rfl)
          try simp only [Act.put, List.setIfInBounds_toArray, List.set_cons_zero, List.set_cons_succ]
          refine wpAnyH_ready (rs := [8]) (by as_aux_lemma => kernel_rfl) (by simp) ?_
          refine AllReadyH.cons (o := ({ dst := some 3, op := .alloc 32, type := 0, pos := "law.go:21", after := aaw8_a8, guard := none } : Oper)) rfl (fun KK hK => ?_) AllReadyH.nil
          rw [if_pos (by rfl)]
          go_simp
          have hb := below1 w24 (.cells #[.int .i64 0, .int .i64 0] 32)
          have HA := HB.more [.int .i64 0, .int .i64 0] 32
          first | (have hne := Sp.lt2 HS) | skip
          obtain ⟨ga, hG⟩ : ∃ g, g = w24.heap.size := ⟨_, rfl⟩
          rw [← hG] at HA ⊢
          try rw [← hG] at hne
          clear hG
          obtain ⟨w25, hX⟩ : ∃ x, x = w24.alloc (.cells #[.int .i64 0, .int .i64 0] 32) := ⟨_, rfl⟩
          replace HA : Sp w [(w.heap.size, (rc R).map some), (ga, [some (.int .i64 0), some (.int .i64 0)])] w25 := hX ▸ HA
          rw [← hX] at hb ⊢
          clear hX
          refine hK.out _ _ ?_ (fun hHeld => ?_)
          · exact kS _ _ HB hb
          replace HB := hHeld; clear hHeld hK KK
          replace HS := HS.keep hb
          replace CM := CM.keep hb
          clear hb
          try simp only [Act.put, List.setIfInBounds_toArray, List.set_cons_zero, List.set_cons_succ]
          refine wpAnyH_ready (rs := [10]) (by as_aux_lemma => kernel_rfl) (by simp) ?_
          refine AllReadyH.cons (o := ({ dst := none, op := .store 32 (.tmp 3) (.tmp 24), type := 0, pos := "law.go:21", after := aaw8_a10, guard := none } : Oper)) rfl (fun KK hK => ?_) AllReadyH.nil
          rw [if_pos (by rfl)]
          have hne2 : ga ≠ gs := by (have h1 := hne; clear hne; (try dsimp only at h1); omega)
          have HC := Sp.join HA HS hne2
          clear HA HS hne hne2
          refine put_span (g := ga) (u := aL) (v := aH) rfl rfl rfl (HC.free_row 1 rfl (n := 2) rfl) ?_
          have N1 := (HC.put 1 rfl 0 (.int .i64 aL)).put 1 rfl 1 (.int .i64 aH)
          obtain ⟨w26, hX⟩ := setCell2_named w25 ga aL aH
          rw [← hX] at N1 ⊢
          have HN : Sp w [(w.heap.size, (rc R).map some)] w26 := N1.take 1
          clear hX HC
          refine hK.out _ _ ?_ (fun hHeld => ?_)
          · exact HN
          replace HB := hHeld; clear hHeld hK KK HN
          try simp only [Act.put]
          refine wpAnyH_ready (rs := [11]) (by as_aux_lemma => kernel_rfl) (by simp) ?_
          refine AllReadyH.cons (o := ({ dst := none, op := .store 32 (.tmp 4) (.tmp 25), type := 0, pos := "law.go:21", after := aaw8_a11, guard := none } : Oper)) rfl (fun KK hK => ?_) AllReadyH.nil
          rw [if_pos (by rfl)]
          refine put_span (g := gs) (u := sL) (v := sH) rfl rfl rfl (N1.free_row 2 rfl (n := 2) rfl) ?_
          have N2 := (N1.put 2 rfl 0 (.int .i64 sL)).put 2 rfl 1 (.int .i64 sH)
          obtain ⟨w27, hX⟩ := setCell2_named w26 gs sL sH
          rw [← hX] at N2 ⊢
          have HN : Sp w [(w.heap.size, (rc R).map some)] w27 := N2.take 1
          clear hX N1
          refine hK.out _ _ ?_ (fun hHeld => ?_)
          · exact HN
          replace HB := hHeld; clear hHeld hK KK HN
          try simp only [Act.put]
          refine wpAnyH_done (by as_aux_lemma => kernel_rfl) ?_ _
          refine NoPanic.normal ?_
          exact hQ _ _ _ _ _ _ _ _ _ _ _ N2
        · skip
          rw [if_pos (by rfl)]
          go_simp
          have hb := below1 w23 (.cells #[.int .i64 0, .int .i64 0] 32)
          have HA := HB.more [.int .i64 0, .int .i64 0] 32
          first | (have hne := Sp.lt2 HS) | skip
          obtain ⟨ga, hG⟩ : ∃ g, g = w23.heap.size := ⟨_, rfl⟩
          rw [← hG] at HA ⊢
          try rw [← hG] at hne
          clear hG
          obtain ⟨w24, hX⟩ : ∃ x, x = w23.alloc (.cells #[.int .i64 0, .int .i64 0] 32) := ⟨_, rfl⟩
          replace HA : Sp w [(w.heap.size, (rc R).map some), (ga, [some (.int .i64 0), some (.int .i64 0)])] w24 := hX ▸ HA
          rw [← hX] at hb ⊢
          clear hX
          refine hK.out _ _ ?_ (fun hHeld => ?_)
          · exact kS _ _ HB hb
          replace HB := hHeld; clear hHeld hK KK
          replace HS := HS.keep hb
          replace CM := CM.keep hb
          clear hb
          try simp only [Act.put, List.setIfInBounds_toArray, List.set_cons_zero, List.set_cons_succ]
          refine wpAnyH_ready (rs := [4]) (by as_aux_lemma => kernel_rfl) (by simp) ?_
          refine AllReadyH.cons (o := ({ dst := some 23, op := .call { callee := .value (.func 16), args := #[.tmp 19, .tmp 22], argTypes := #[61, 63] }, type := 56, pos := "law.go:21", after := aaw8_a4, guard := none } : Oper)) rfl (fun KK hK => ?_) AllReadyH.nil
          rw [if_pos (by rfl)]
          go_simp
          go_at_call 16; refine (BO.out _ _ HB.below CM).mono ?_; rintro e w25 ⟨rfl, hb⟩
          go_wp2_with fail
          refine hK.out _ _ ?_ (fun hHeld => ?_)
          · exact kS _ _ HB hb
          replace HB := hHeld; clear hHeld hK KK
          replace HS := HS.keep hb
          replace CM := CM.keep hb
          replace HA := HA.keep hb
          clear hb
          try simp only [Act.put, List.setIfInBounds_toArray, List.set_cons_zero, List.set_cons_succ]
          refine wpAnyH_take (i := 5) (oi := ({ dst := some 18, op := .move (.tmp 23), type := 56, pos := "law.go:21", after := aaw8_a5, guard := none } : Oper)) (v := ?vt1_105_) rfl aaw8_plain (by as_aux_lemma => kernel_rfl) (by as_aux_lemma => kernel_rfl) (fun _ _ _ h => h) (Or.inl ⟨by rfl, ?yt1_105_⟩) HB ?rt1_105_
          case yt1_105_ => (intro w hSw; (try dsimp only at hSw); go_simp; try with_reducible rfl)
          try simp only [Act.put, List.setIfInBounds_toArray, List.set_cons_zero, List.set_cons_succ]
          refine wpAnyH_take (i := 6) (oi := ({ dst := some 24, op := .extract (.tmp 18) 0, type := 32, pos := "law.go:21", after := aaw8_a6, guard := none } : Oper)) (v := ?vt1_106_) rfl aaw8_plain (by as_aux_lemma => kernel_rfl) (by as_aux_lemma => kernel_rfl) (fun _ _ _ h => h) (Or.inl ⟨by rfl, ?yt1_106_⟩) HB ?rt1_106_
          case yt1_106_ => (intro w hSw; (try dsimp only at hSw); go_simp; try with_reducible rfl)
          try simp only [Act.put, List.setIfInBounds_toArray, List.set_cons_zero, List.set_cons_succ]
          refine wpAnyH_take (i := 7) (oi := ({ dst := some 25, op := .extract (.tmp 18) 1, type := 32, pos := "law.go:21", after := aaw8_a7, guard := none } : Oper)) (v := ?vt1_107_) rfl aaw8_plain (by as_aux_lemma => kernel_rfl) (by as_aux_lemma => kernel_rfl) (fun _ _ _ h => h) (Or.inl ⟨by rfl, ?yt1_107_⟩) HB ?rt1_107_
          case yt1_107_ => (intro w hSw; (try dsimp only at hSw); go_simp; try with_reducible rfl)
          try simp only [Act.put, List.setIfInBounds_toArray, List.set_cons_zero, List.set_cons_succ]
          refine wpAnyH_ready (rs := [10]) (by as_aux_lemma => kernel_rfl) (by simp) ?_
          refine AllReadyH.cons (o := ({ dst := none, op := .store 32 (.tmp 3) (.tmp 24), type := 0, pos := "law.go:21", after := aaw8_a10, guard := none } : Oper)) rfl (fun KK hK => ?_) AllReadyH.nil
          rw [if_pos (by rfl)]
          have hne2 : ga ≠ gs := by (have h1 := hne; clear hne; (try dsimp only at h1); omega)
          have HC := Sp.join HA HS hne2
          clear HA HS hne hne2
          refine put_span (g := ga) (u := aL) (v := aH) rfl rfl rfl (HC.free_row 1 rfl (n := 2) rfl) ?_
          have N1 := (HC.put 1 rfl 0 (.int .i64 aL)).put 1 rfl 1 (.int .i64 aH)
          obtain ⟨w26, hX⟩ := setCell2_named w25 ga aL aH
          rw [← hX] at N1 ⊢
          have HN : Sp w [(w.heap.size, (rc R).map some)] w26 := N1.take 1
          clear hX HC
          refine hK.out _ _ ?_ (fun hHeld => ?_)
          · exact HN
          replace HB := hHeld; clear hHeld hK KK HN
          try simp only [Act.put]
          refine wpAnyH_ready (rs := [11]) (by as_aux_lemma => kernel_rfl) (by simp) ?_
          refine AllReadyH.cons (o := ({ dst := none, op := .store 32 (.tmp 4) (.tmp 25), type := 0, pos := "law.go:21", after := aaw8_a11, guard := none } : Oper)) rfl (fun KK hK => ?_) AllReadyH.nil
          rw [if_pos (by rfl)]
          refine put_span (g := gs) (u := sL) (v := sH) rfl rfl rfl (N1.free_row 2 rfl (n := 2) rfl) ?_
          have N2 := (N1.put 2 rfl 0 (.int .i64 sL)).put 2 rfl 1 (.int .i64 sH)
          obtain ⟨w27, hX⟩ := setCell2_named w26 gs sL sH
          rw [← hX] at N2 ⊢
          have HN : Sp w [(w.heap.size, (rc R).map some)] w27 := N2.take 1
          clear hX N1
          refine hK.out _ _ ?_ (fun hHeld => ?_)
          · exact HN
          replace HB := hHeld; clear hHeld hK KK HN
          try simp only [Act.put]
          refine wpAnyH_done (by as_aux_lemma => kernel_rfl) ?_ _
          refine NoPanic.normal ?_
          exact hQ _ _ _ _ _ _ _ _ _ _ _ N2
      · skip
        rw [if_pos (by rfl)]
        go_simp
        have hb := below1 w22 (.cells #[.int .i64 0, .int .i64 0] 32)
        have HA := HB.more [.int .i64 0, .int .i64 0] 32
        first | (have hne := Sp.lt2 HS) | skip
        obtain ⟨ga, hG⟩ : ∃ g, g = w22.heap.size := ⟨_, rfl⟩
        rw [← hG] at HA ⊢
        try rw [← hG] at hne
        clear hG
        obtain ⟨w23, hX⟩ : ∃ x, x = w22.alloc (.cells #[.int .i64 0, .int .i64 0] 32) := ⟨_, rfl⟩
        replace HA : Sp w [(w.heap.size, (rc R).map some), (ga, [some (.int .i64 0), some (.int .i64 0)])] w23 := hX ▸ HA
        rw [← hX] at hb ⊢
        clear hX
        refine hK.out _ _ ?_ (fun hHeld => ?_)
        · exact kS _ _ HB hb
        replace HB := hHeld; clear hHeld hK KK
        replace HS := HS.keep hb
        replace CM := CM.keep hb
        clear hb
        try simp only [Act.put, List.setIfInBounds_toArray, List.set_cons_zero, List.set_cons_succ]
        refine wpAnyH_ready (rs := [0]) (by as_aux_lemma => kernel_rfl) (by simp) ?_
        refine AllReadyH.cons (o := ({ dst := some 19, op := .call { callee := .value (.func 17), args := #[], argTypes := #[] }, type := 61, pos := "law.go:21", after := aaw8_a0, guard := none } : Oper)) rfl (fun KK hK => ?_) AllReadyH.nil
        rw [if_pos (by rfl)]
        go_simp
        go_at_call 17; refine (US.out _ HB.below).mono ?_; rintro e w24 ⟨rfl, hb⟩
        go_wp2_with fail
        refine hK.out _ _ ?_ (fun hHeld => ?_)
        · exact kS _ _ HB hb
        replace HB := hHeld; clear hHeld hK KK
        replace HS := HS.keep hb
        replace CM := CM.keep hb
        replace HA := HA.keep hb
        clear hb
        try simp only [Act.put, List.setIfInBounds_toArray, List.set_cons_zero, List.set_cons_succ]
        refine wpAnyH_ready (rs := [4]) (by as_aux_lemma => kernel_rfl) (by simp) ?_
        refine AllReadyH.cons (o := ({ dst := some 23, op := .call { callee := .value (.func 16), args := #[.tmp 19, .tmp 22], argTypes := #[61, 63] }, type := 56, pos := "law.go:21", after := aaw8_a4, guard := none } : Oper)) rfl (fun KK hK => ?_) AllReadyH.nil
        rw [if_pos (by rfl)]
        go_simp
        go_at_call 16; refine (BO.out _ _ HB.below CM).mono ?_; rintro e w25 ⟨rfl, hb⟩
        go_wp2_with fail
        refine hK.out _ _ ?_ (fun hHeld => ?_)
        · exact kS _ _ HB hb
        replace HB := hHeld; clear hHeld hK KK
        replace HS := HS.keep hb
        replace CM := CM.keep hb
        replace HA := HA.keep hb
        clear hb
        try simp only [Act.put, List.setIfInBounds_toArray, List.set_cons_zero, List.set_cons_succ]
        refine wpAnyH_take (i := 5) (oi := ({ dst := some 18, op := .move (.tmp 23), type := 56, pos := "law.go:21", after := aaw8_a5, guard := none } : Oper)) (v := ?vt1_108_) rfl aaw8_plain (by as_aux_lemma => kernel_rfl) (by as_aux_lemma => kernel_rfl) (fun _ _ _ h => h) (Or.inl ⟨by rfl, ?yt1_108_⟩) HB ?rt1_108_
        case yt1_108_ => (intro w hSw; (try dsimp only at hSw); go_simp; try with_reducible rfl)
        try simp only [Act.put, List.setIfInBounds_toArray, List.set_cons_zero, List.set_cons_succ]
        refine wpAnyH_take (i := 6) (oi := ({ dst := some 24, op := .extract (.tmp 18) 0, type := 32, pos := "law.go:21", after := aaw8_a6, guard := none } : Oper)) (v := ?vt1_109_) rfl aaw8_plain (by as_aux_lemma => kernel_rfl) (by as_aux_lemma => kernel_rfl) (fun _ _ _ h => h) (Or.inl ⟨by rfl, ?yt1_109_⟩) HB ?rt1_109_
        case yt1_109_ => (intro w hSw; (try dsimp only at hSw); go_simp; try with_reducible rfl)
        try simp only [Act.put, List.setIfInBounds_toArray, List.set_cons_zero, List.set_cons_succ]
        refine wpAnyH_take (i := 7) (oi := ({ dst := some 25, op := .extract (.tmp 18) 1, type := 32, pos := "law.go:21", after := aaw8_a7, guard := none } : Oper)) (v := ?vt1_110_) rfl aaw8_plain (by as_aux_lemma => kernel_rfl) (by as_aux_lemma => kernel_rfl) (fun _ _ _ h => h) (Or.inl ⟨by rfl, ?yt1_110_⟩) HB ?rt1_110_
        case yt1_110_ => (intro w hSw; (try dsimp only at hSw); go_simp; try with_reducible rfl)
        try simp only [Act.put, List.setIfInBounds_toArray, List.set_cons_zero, List.set_cons_succ]
        refine wpAnyH_ready (rs := [10]) (by as_aux_lemma => kernel_rfl) (by simp) ?_
        refine AllReadyH.cons (o := ({ dst := none, op := .store 32 (.tmp 3) (.tmp 24), type := 0, pos := "law.go:21", after := aaw8_a10, guard := none } : Oper)) rfl (fun KK hK => ?_) AllReadyH.nil
        rw [if_pos (by rfl)]
        have hne2 : ga ≠ gs := by (have h1 := hne; clear hne; (try dsimp only at h1); omega)
        have HC := Sp.join HA HS hne2
        clear HA HS hne hne2
        refine put_span (g := ga) (u := aL) (v := aH) rfl rfl rfl (HC.free_row 1 rfl (n := 2) rfl) ?_
        have N1 := (HC.put 1 rfl 0 (.int .i64 aL)).put 1 rfl 1 (.int .i64 aH)
        obtain ⟨w26, hX⟩ := setCell2_named w25 ga aL aH
        rw [← hX] at N1 ⊢
        have HN : Sp w [(w.heap.size, (rc R).map some)] w26 := N1.take 1
        clear hX HC
        refine hK.out _ _ ?_ (fun hHeld => ?_)
        · exact HN
        replace HB := hHeld; clear hHeld hK KK HN
        try simp only [Act.put]
        refine wpAnyH_ready (rs := [11]) (by as_aux_lemma => kernel_rfl) (by simp) ?_
        refine AllReadyH.cons (o := ({ dst := none, op := .store 32 (.tmp 4) (.tmp 25), type := 0, pos := "law.go:21", after := aaw8_a11, guard := none } : Oper)) rfl (fun KK hK => ?_) AllReadyH.nil
        rw [if_pos (by rfl)]
        refine put_span (g := gs) (u := sL) (v := sH) rfl rfl rfl (N1.free_row 2 rfl (n := 2) rfl) ?_
        have N2 := (N1.put 2 rfl 0 (.int .i64 sL)).put 2 rfl 1 (.int .i64 sH)
        obtain ⟨w27, hX⟩ := setCell2_named w26 gs sL sH
        rw [← hX] at N2 ⊢
        have HN : Sp w [(w.heap.size, (rc R).map some)] w27 := N2.take 1
        clear hX N1
        refine hK.out _ _ ?_ (fun hHeld => ?_)
        · exact HN
        replace HB := hHeld; clear hHeld hK KK HN
        try simp only [Act.put]
        refine wpAnyH_done (by as_aux_lemma => kernel_rfl) ?_ _
        refine NoPanic.normal ?_
        exact hQ _ _ _ _ _ _ _ _ _ _ _ N2
    · skip
      rw [if_pos (by rfl)]
      go_simp
      have hb := below1 w21 (.cells #[.int .i64 0, .int .i64 0] 32)
      have HA := HB.more [.int .i64 0, .int .i64 0] 32
      first | (have hne := Sp.lt2 HS) | skip
      obtain ⟨ga, hG⟩ : ∃ g, g = w21.heap.size := ⟨_, rfl⟩
      rw [← hG] at HA ⊢
      try rw [← hG] at hne
      clear hG
      obtain ⟨w22, hX⟩ : ∃ x, x = w21.alloc (.cells #[.int .i64 0, .int .i64 0] 32) := ⟨_, rfl⟩
      replace HA : Sp w [(w.heap.size, (rc R).map some), (ga, [some (.int .i64 0), some (.int .i64 0)])] w22 := hX ▸ HA
      rw [← hX] at hb ⊢
      clear hX
      refine hK.out _ _ ?_ (fun hHeld => ?_)
      · exact kS _ _ HB hb
      replace HB := hHeld; clear hHeld hK KK
      replace HS := HS.keep hb
      clear hb
      try simp only [Act.put, List.setIfInBounds_toArray, List.set_cons_zero, List.set_cons_succ]
      refine wpAnyH_ready (rs := [0, 3]) (by as_aux_lemma => kernel_rfl) (by simp) ?_
      refine AllReadyH.cons (o := ({ dst := some 19, op := .call { callee := .value (.func 17), args := #[], argTypes := #[] }, type := 61, pos := "law.go:21", after := aaw8_a0, guard := none } : Oper)) rfl (fun KK hK => ?_) (AllReadyH.cons (o := ({ dst := some 22, op := .buildSlice 63 2 #[(0, .tmp 20), (1, .tmp 21)], type := 63, pos := "law.go:21", after := aaw8_a3, guard := none } : Oper)) rfl (fun KK hK => ?_) AllReadyH.nil)
      · skip
        rw [if_pos (by rfl)]
        go_simp
        go_at_call 17; refine (US.out _ HB.below).mono ?_; rintro e w23 ⟨rfl, hb⟩
        go_wp2_with fail
        refine hK.out _ _ ?_ (fun hHeld => ?_)
        · exact kS _ _ HB hb
        replace HB := hHeld; clear hHeld hK KK
        replace HS := HS.keep hb
        replace HA := HA.keep hb
        clear hb
        try simp only [Act.put, List.setIfInBounds_toArray, List.set_cons_zero, List.set_cons_succ]
        refine wpAnyH_ready (rs := [3]) (by as_aux_lemma => kernel_rfl) (by simp) ?_
        refine AllReadyH.cons (o := ({ dst := some 22, op := .buildSlice 63 2 #[(0, .tmp 20), (1, .tmp 21)], type := 63, pos := "law.go:21", after := aaw8_a3, guard := none } : Oper)) rfl (fun KK hK => ?_) AllReadyH.nil
        rw [if_pos (by rfl)]
        refine oper_build2 (R := R) rfl rfl rfl ?_
        have CM := came_two w23 R
        have hb := below1 w23 (.cells (rc R ++ rc R).toArray 55)
        obtain ⟨gr, hG⟩ : ∃ g, g = w23.heap.size := ⟨_, rfl⟩
        rw [← hG] at CM ⊢
        clear hG
        obtain ⟨w24, hX⟩ : ∃ x, x = w23.alloc (.cells (rc R ++ rc R).toArray 55) := ⟨_, rfl⟩
        rw [← hX] at CM hb ⊢
        clear hX
        refine hK.out _ _ ?_ (fun hHeld => ?_)
        · exact kS _ _ HB hb
        replace HB := hHeld; clear hHeld hK KK
        replace HS := HS.keep hb
        replace HA := HA.keep hb
        clear hb
        try simp only [Act.put, List.setIfInBounds_toArray, List.set_cons_zero, List.set_cons_succ]
        refine wpAnyH_ready (rs := [4]) (by as_aux_lemma => kernel_rfl) (by simp) ?_
        refine AllReadyH.cons (o := ({ dst := some 23, op := .call { callee := .value (.func 16), args := #[.tmp 19, .tmp 22], argTypes := #[61, 63] }, type := 56, pos := "law.go:21", after := aaw8_a4, guard := none } : Oper)) rfl (fun KK hK => ?_) AllReadyH.nil
        rw [if_pos (by rfl)]
        go_simp
        go_at_call 16; refine (BO.out _ _ HB.below CM).mono ?_; rintro e w25 ⟨rfl, hb⟩
        go_wp2_with fail
        refine hK.out _ _ ?_ (fun hHeld => ?_)
        · exact kS _ _ HB hb
        replace HB := hHeld; clear hHeld hK KK
        replace HS := HS.keep hb
        replace HA := HA.keep hb
        replace CM := CM.keep hb
        clear hb
        try simp only [Act.put, List.setIfInBounds_toArray, List.set_cons_zero, List.set_cons_succ]
        refine wpAnyH_take (i := 5) (oi := ({ dst := some 18, op := .move (.tmp 23), type := 56, pos := "law.go:21", after := aaw8_a5, guard := none } : Oper)) (v := ?vt1_111_) rfl aaw8_plain (by as_aux_lemma => kernel_rfl) (by as_aux_lemma => kernel_rfl) (fun _ _ _ h => h) (Or.inl ⟨by rfl, ?yt1_111_⟩) HB ?rt1_111_
        case yt1_111_ => (intro w hSw; (try dsimp only at hSw); go_simp; try with_reducible rfl)
        try simp only [Act.put, List.setIfInBounds_toArray, List.set_cons_zero, List.set_cons_succ]
        refine wpAnyH_take (i := 6) (oi := ({ dst := some 24, op := .extract (.tmp 18) 0, type := 32, pos := "law.go:21", after := aaw8_a6, guard := none } : Oper)) (v := ?vt1_112_) rfl aaw8_plain (by as_aux_lemma => kernel_rfl) (by as_aux_lemma => kernel_rfl) (fun _ _ _ h => h) (Or.inl ⟨by rfl, ?yt1_112_⟩) HB ?rt1_112_
        case yt1_112_ => (intro w hSw; (try dsimp only at hSw); go_simp; try with_reducible rfl)
        try simp only [Act.put, List.setIfInBounds_toArray, List.set_cons_zero, List.set_cons_succ]
        refine wpAnyH_take (i := 7) (oi := ({ dst := some 25, op := .extract (.tmp 18) 1, type := 32, pos := "law.go:21", after := aaw8_a7, guard := none } : Oper)) (v := ?vt1_113_) rfl aaw8_plain (by as_aux_lemma => kernel_rfl) (by as_aux_lemma => kernel_rfl) (fun _ _ _ h => h) (Or.inl ⟨by rfl, ?yt1_113_⟩) HB ?rt1_113_
        case yt1_113_ => (intro w hSw; (try dsimp only at hSw); go_simp; try with_reducible rfl)
        try simp only [Act.put, List.setIfInBounds_toArray, List.set_cons_zero, List.set_cons_succ]
        refine wpAnyH_ready (rs := [10]) (by as_aux_lemma => kernel_rfl) (by simp) ?_
        refine AllReadyH.cons (o := ({ dst := none, op := .store 32 (.tmp 3) (.tmp 24), type := 0, pos := "law.go:21", after := aaw8_a10, guard := none } : Oper)) rfl (fun KK hK => ?_) AllReadyH.nil
        rw [if_pos (by rfl)]
        have hne2 : ga ≠ gs := by (have h1 := hne; clear hne; (try dsimp only at h1); omega)
        have HC := Sp.join HA HS hne2
        clear HA HS hne hne2
        refine put_span (g := ga) (u := aL) (v := aH) rfl rfl rfl (HC.free_row 1 rfl (n := 2) rfl) ?_
        have N1 := (HC.put 1 rfl 0 (.int .i64 aL)).put 1 rfl 1 (.int .i64 aH)
        obtain ⟨w26, hX⟩ := setCell2_named w25 ga aL aH
        rw [← hX] at N1 ⊢
        have HN : Sp w [(w.heap.size, (rc R).map some)] w26 := N1.take 1
        clear hX HC
        refine hK.out _ _ ?_ (fun hHeld => ?_)
        · exact HN
        replace HB := hHeld; clear hHeld hK KK HN
        try simp only [Act.put]
        refine wpAnyH_ready (rs := [11]) (by as_aux_lemma => kernel_rfl) (by simp) ?_
        refine AllReadyH.cons (o := ({ dst := none, op := .store 32 (.tmp 4) (.tmp 25), type := 0, pos := "law.go:21", after := aaw8_a11, guard := none } : Oper)) rfl (fun KK hK => ?_) AllReadyH.nil
        rw [if_pos (by rfl)]
        refine put_span (g := gs) (u := sL) (v := sH) rfl rfl rfl (N1.free_row 2 rfl (n := 2) rfl) ?_
        have N2 := (N1.put 2 rfl 0 (.int .i64 sL)).put 2 rfl 1 (.int .i64 sH)
        obtain ⟨w27, hX⟩ := setCell2_named w26 gs sL sH
        rw [← hX] at N2 ⊢
        have HN : Sp w [(w.heap.size, (rc R).map some)] w27 := N2.take 1
        clear hX N1
        refine hK.out _ _ ?_ (fun hHeld => ?_)
        · exact HN
        replace HB := hHeld; clear hHeld hK KK HN
        try simp only [Act.put]
        refine wpAnyH_done (by as_aux_lemma => kernel_rfl) ?_ _
        refine NoPanic.normal ?_
        exact hQ _ _ _ _ _ _ _ _ _ _ _ N2
      · skip
        rw [if_pos (by rfl)]
        refine oper_build2 (R := R) rfl rfl rfl ?_
        have CM := came_two w22 R
        have hb := below1 w22 (.cells (rc R ++ rc R).toArray 55)
        obtain ⟨gr, hG⟩ : ∃ g, g = w22.heap.size := ⟨_, rfl⟩
        rw [← hG] at CM ⊢
        clear hG
        obtain ⟨w23, hX⟩ : ∃ x, x = w22.alloc (.cells (rc R ++ rc R).toArray 55) := ⟨_, rfl⟩
        rw [← hX] at CM hb ⊢
        clear hX
        refine hK.out _ _ ?_ (fun hHeld => ?_)
        · exact kS _ _ HB hb
        replace HB := hHeld; clear hHeld hK KK
        replace HS := HS.keep hb
        replace HA := HA.keep hb
        clear hb
        try simp only [Act.put, List.setIfInBounds_toArray, List.set_cons_zero, List.set_cons_succ]
        refine wpAnyH_ready (rs := [0]) (by as_aux_lemma => kernel_rfl) (by simp) ?_
        refine AllReadyH.cons (o := ({ dst := some 19, op := .call { callee := .value (.func 17), args := #[], argTypes := #[] }, type := 61, pos := "law.go:21", after := aaw8_a0, guard := none } : Oper)) rfl (fun KK hK => ?_) AllReadyH.nil
        rw [if_pos (by rfl)]
        go_simp
        go_at_call 17; refine (US.out _ HB.below).mono ?_; rintro e w24 ⟨rfl, hb⟩
        go_wp2_with fail
        refine hK.out _ _ ?_ (fun hHeld => ?_)
        · exact kS _ _ HB hb
        replace HB := hHeld; clear hHeld hK KK
        replace HS := HS.keep hb
        replace HA := HA.keep hb
        replace CM := CM.keep hb
        clear hb
        try simp only [Act.put, List.setIfInBounds_toArray, List.set_cons_zero, List.set_cons_succ]
        refine wpAnyH_ready (rs := [4]) (by as_aux_lemma => kernel_rfl) (by simp) ?_
        refine AllReadyH.cons (o := ({ dst := some 23, op := .call { callee := .value (.func 16), args := #[.tmp 19, .tmp 22], argTypes := #[61, 63] }, type := 56, pos := "law.go:21", after := aaw8_a4, guard := none } : Oper)) rfl (fun KK hK => ?_) AllReadyH.nil
        rw [if_pos (by rfl)]
        go_simp
        go_at_call 16; refine (BO.out _ _ HB.below CM).mono ?_; rintro e w25 ⟨rfl, hb⟩
        go_wp2_with fail
        refine hK.out _ _ ?_ (fun hHeld => ?_)
        · exact kS _ _ HB hb
        replace HB := hHeld; clear hHeld hK KK
        replace HS := HS.keep hb
        replace HA := HA.keep hb
        replace CM := CM.keep hb
        clear hb
        try simp only [Act.put, List.setIfInBounds_toArray, List.set_cons_zero, List.set_cons_succ]
        refine wpAnyH_take (i := 5) (oi := ({ dst := some 18, op := .move (.tmp 23), type := 56, pos := "law.go:21", after := aaw8_a5, guard := none } : Oper)) (v := ?vt1_114_) rfl aaw8_plain (by as_aux_lemma => kernel_rfl) (by as_aux_lemma => kernel_rfl) (fun _ _ _ h => h) (Or.inl ⟨by rfl, ?yt1_114_⟩) HB ?rt1_114_
        case yt1_114_ => (intro w hSw; (try dsimp only at hSw); go_simp; try with_reducible rfl)
        try simp only [Act.put, List.setIfInBounds_toArray, List.set_cons_zero, List.set_cons_succ]
        refine wpAnyH_take (i := 6) (oi := ({ dst := some 24, op := .extract (.tmp 18) 0, type := 32, pos := "law.go:21", after := aaw8_a6, guard := none } : Oper)) (v := ?vt1_115_) rfl aaw8_plain (by as_aux_lemma => kernel_rfl) (by as_aux_lemma => kernel_rfl) (fun _ _ _ h => h) (Or.inl ⟨by rfl, ?yt1_115_⟩) HB ?rt1_115_
        case yt1_115_ => (intro w hSw; (try dsimp only at hSw); go_simp; try with_reducible rfl)
        try simp only [Act.put, List.setIfInBounds_toArray, List.set_cons_zero, List.set_cons_succ]
        refine wpAnyH_take (i := 7) (oi := ({ dst := some 25, op := .extract (.tmp 18) 1, type := 32, pos := "law.go:21", after := aaw8_a7, guard := none } : Oper)) (v := ?vt1_116_) rfl aaw8_plain (by as_aux_lemma => kernel_rfl) (by as_aux_lemma => kernel_rfl) (fun _ _ _ h => h) (Or.inl ⟨by rfl, ?yt1_116_⟩) HB ?rt1_116_
        case yt1_116_ => (intro w hSw; (try dsimp only at hSw); go_simp; try with_reducible rfl)
        try simp only [Act.put, List.setIfInBounds_toArray, List.set_cons_zero, List.set_cons_succ]
        refine wpAnyH_ready (rs := [10]) (by as_aux_lemma => kernel_rfl) (by simp) ?_
        refine AllReadyH.cons (o := ({ dst := none, op := .store 32 (.tmp 3) (.tmp 24), type := 0, pos := "law.go:21", after := aaw8_a10, guard := none } : Oper)) rfl (fun KK hK => ?_) AllReadyH.nil
        rw [if_pos (by rfl)]
        have hne2 : ga ≠ gs := by (have h1 := hne; clear hne; (try dsimp only at h1); omega)
        have HC := Sp.join HA HS hne2
        clear HA HS hne hne2
        refine put_span (g := ga) (u := aL) (v := aH) rfl rfl rfl (HC.free_row 1 rfl (n := 2) rfl) ?_
        have N1 := (HC.put 1 rfl 0 (.int .i64 aL)).put 1 rfl 1 (.int .i64 aH)
        obtain ⟨w26, hX⟩ := setCell2_named w25 ga aL aH
        rw [← hX] at N1 ⊢
        have HN : Sp w [(w.heap.size, (rc R).map some)] w26 := N1.take 1
        clear hX HC
        refine hK.out _ _ ?_ (fun hHeld => ?_)
        · exact HN
        replace HB := hHeld; clear hHeld hK KK HN
        try simp only [Act.put]
        refine wpAnyH_ready (rs := [11]) (by as_aux_lemma => kernel_rfl) (by simp) ?_
        refine AllReadyH.cons (o := ({ dst := none, op := .store 32 (.tmp 4) (.tmp 25), type := 0, pos := "law.go:21", after := aaw8_a11, guard := none } : Oper)) rfl (fun KK hK => ?_) AllReadyH.nil
        rw [if_pos (by rfl)]
        refine put_span (g := gs) (u := sL) (v := sH) rfl rfl rfl (N1.free_row 2 rfl (n := 2) rfl) ?_
        have N2 := (N1.put 2 rfl 0 (.int .i64 sL)).put 2 rfl 1 (.int .i64 sH)
        obtain ⟨w27, hX⟩ := setCell2_named w26 gs sL sH
        rw [← hX] at N2 ⊢
        have HN : Sp w [(w.heap.size, (rc R).map some)] w27 := N2.take 1
        clear hX N1
        refine hK.out _ _ ?_ (fun hHeld => ?_)
        · exact HN
        replace HB := hHeld; clear hHeld hK KK HN
        try simp only [Act.put]
        refine wpAnyH_done (by as_aux_lemma => kernel_rfl) ?_ _
        refine NoPanic.normal ?_
        exact hQ _ _ _ _ _ _ _ _ _ _ _ N2
end Go.Proofs.YtkjkmnclnedfhaaDoor
