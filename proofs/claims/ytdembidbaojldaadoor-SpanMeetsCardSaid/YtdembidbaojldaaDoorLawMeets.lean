/- SpanMeets: the walk. -/
import Derived.Test.YtdembidbaojldaaDoorSpanG
import Derived.Test.YtdembidbaojldaaDoorMemQ
import Derived.Test.YtdembidbaojldaaDoorSpanNumB
import Derived.Deep.CutBlock
import Derived.Deep.CutRange
namespace Go.Proofs.YtdembidbaojldaaDoor
open Go.RowKit

/-- The operations of a drawn region, as the translation has them. -/
def meets1 : Array Oper := #[
  { dst := some 9, op := .load 23 (.tmp 3), type := 23, pos := "law.go:24", after := #[], guard := none },
  { dst := some 10, op := .load 23 (.tmp 4), type := 23, pos := "law.go:24", after := #[], guard := none },
  { dst := some 11, op := .call { callee := .value (.func 7), args := #[.tmp 9, .tmp 10], argTypes := #[23, 23] }, type := 23, pos := "law.go:24", after := #[{ on := 0, ground := .data }, { on := 1, ground := .data }], guard := none },
  { dst := some 12, op := .load 23 (.tmp 3), type := 23, pos := "law.go:24", after := #[], guard := none },
  { dst := some 13, op := .load 23 (.tmp 4), type := 23, pos := "law.go:24", after := #[], guard := none },
  { dst := some 14, op := .call { callee := .value (.func 8), args := #[.tmp 12, .tmp 13], argTypes := #[23, 23] }, type := 23, pos := "law.go:24", after := #[{ on := 3, ground := .data }, { on := 4, ground := .data }, { on := 2, ground := .chain }], guard := none },
  { dst := some 7, op := .alloc 23, type := 0, pos := "law.go:24", after := #[], guard := none },
  { dst := some 8, op := .alloc 23, type := 0, pos := "law.go:24", after := #[], guard := none },
  { dst := none, op := .store 23 (.tmp 7) (.tmp 11), type := 0, pos := "law.go:24", after := #[{ on := 6, ground := .data }, { on := 2, ground := .data }, { on := 5, ground := .chain }, { on := 0, ground := .phase }, { on := 1, ground := .phase }, { on := 2, ground := .phase }, { on := 3, ground := .textOnly Go.Departure.lateStores }, { on := 4, ground := .textOnly Go.Departure.lateStores }, { on := 5, ground := .textOnly Go.Departure.lateStoresUnsure }, { on := 6, ground := .phase }, { on := 7, ground := .phase }], guard := none },
  { dst := none, op := .store 23 (.tmp 8) (.tmp 14), type := 0, pos := "law.go:24", after := #[{ on := 7, ground := .data }, { on := 5, ground := .data }, { on := 8, ground := .chain }, { on := 0, ground := .phase }, { on := 1, ground := .phase }, { on := 2, ground := .phase }, { on := 3, ground := .phase }, { on := 4, ground := .phase }, { on := 5, ground := .phase }, { on := 6, ground := .phase }, { on := 7, ground := .phase }, { on := 8, ground := .phase }], guard := none }]
theorem meets1_plain : Region.noSelect meets1 = true := by kernel_rfl

/-- The operations of a drawn region, as the translation has them. -/
def meets2 : Array Oper := #[
  { dst := some 15, op := .load 23 (.tmp 7), type := 23, pos := "law.go:25", after := #[], guard := none },
  { dst := some 16, op := .move (.tmp 2), type := 2, pos := "law.go:25", after := #[], guard := none },
  { dst := some 17, op := .call { callee := .value (.func 9), args := #[.tmp 15, .tmp 16], argTypes := #[23, 2] }, type := 4, pos := "law.go:25", after := #[{ on := 0, ground := .data }, { on := 1, ground := .data }], guard := none },
  { dst := some 18, op := .load 23 (.tmp 3), type := 23, pos := "law.go:25", after := #[], guard := none },
  { dst := some 19, op := .move (.tmp 2), type := 2, pos := "law.go:25", after := #[], guard := none },
  { dst := some 20, op := .call { callee := .value (.func 9), args := #[.tmp 18, .tmp 19], argTypes := #[23, 2] }, type := 4, pos := "law.go:25", after := #[{ on := 3, ground := .data }, { on := 4, ground := .data }, { on := 2, ground := .chain }], guard := none },
  { dst := some 21, op := .move (.tmp 20), type := 4, pos := "law.go:25", after := #[{ on := 5, ground := .data }, { on := 5, ground := .chain }], guard := none },
  { dst := some 22, op := .load 23 (.tmp 4), type := 23, pos := "law.go:25", after := #[{ on := 6, ground := .guard }], guard := some (6, true) },
  { dst := some 23, op := .move (.tmp 2), type := 2, pos := "law.go:25", after := #[{ on := 6, ground := .guard }], guard := some (6, true) },
  { dst := some 24, op := .call { callee := .value (.func 9), args := #[.tmp 22, .tmp 23], argTypes := #[23, 2] }, type := 4, pos := "law.go:25", after := #[{ on := 7, ground := .data }, { on := 8, ground := .data }, { on := 6, ground := .chain }, { on := 6, ground := .guard }], guard := some (6, true) },
  { dst := some 25, op := .pick (.tmp 21) (.tmp 24) (.const (.bool false)), type := 4, pos := "law.go:25", after := #[{ on := 6, ground := .data }, { on := 9, ground := .data }], guard := none },
  { dst := some 26, op := .binOp .neq 4 (.tmp 17) (.tmp 25) 4, type := 4, pos := "law.go:25", after := #[{ on := 2, ground := .data }, { on := 10, ground := .data }], guard := none },
  { dst := some 27, op := .move (.tmp 26), type := 4, pos := "law.go:25", after := #[{ on := 11, ground := .data }, { on := 9, ground := .chain }], guard := none },
  { dst := some 28, op := .load 23 (.tmp 3), type := 23, pos := "law.go:25", after := #[{ on := 12, ground := .guard }], guard := some (12, false) },
  { dst := some 29, op := .move (.tmp 2), type := 2, pos := "law.go:25", after := #[{ on := 12, ground := .guard }], guard := some (12, false) },
  { dst := some 30, op := .call { callee := .value (.func 9), args := #[.tmp 28, .tmp 29], argTypes := #[23, 2] }, type := 4, pos := "law.go:25", after := #[{ on := 13, ground := .data }, { on := 14, ground := .data }, { on := 12, ground := .chain }, { on := 12, ground := .guard }], guard := some (12, false) },
  { dst := some 31, op := .move (.tmp 30), type := 4, pos := "law.go:25", after := #[{ on := 15, ground := .data }, { on := 15, ground := .chain }, { on := 12, ground := .guard }], guard := some (12, false) },
  { dst := some 32, op := .load 23 (.tmp 4), type := 23, pos := "law.go:25", after := #[{ on := 16, ground := .guard }], guard := some (16, false) },
  { dst := some 33, op := .move (.tmp 2), type := 2, pos := "law.go:25", after := #[{ on := 16, ground := .guard }], guard := some (16, false) },
  { dst := some 34, op := .call { callee := .value (.func 9), args := #[.tmp 32, .tmp 33], argTypes := #[23, 2] }, type := 4, pos := "law.go:25", after := #[{ on := 17, ground := .data }, { on := 18, ground := .data }, { on := 16, ground := .chain }, { on := 16, ground := .guard }], guard := some (16, false) },
  { dst := some 35, op := .pick (.tmp 31) (.const (.bool true)) (.tmp 34), type := 4, pos := "law.go:25", after := #[{ on := 16, ground := .data }, { on := 19, ground := .data }, { on := 12, ground := .guard }], guard := some (12, false) },
  { dst := some 36, op := .move (.tmp 35), type := 4, pos := "law.go:25", after := #[{ on := 20, ground := .data }, { on := 19, ground := .chain }, { on := 12, ground := .guard }], guard := some (12, false) },
  { dst := some 37, op := .load 23 (.tmp 8), type := 23, pos := "law.go:25", after := #[{ on := 21, ground := .guard }], guard := some (21, true) },
  { dst := some 38, op := .move (.tmp 2), type := 2, pos := "law.go:25", after := #[{ on := 21, ground := .guard }], guard := some (21, true) },
  { dst := some 39, op := .call { callee := .value (.func 9), args := #[.tmp 37, .tmp 38], argTypes := #[23, 2] }, type := 4, pos := "law.go:25", after := #[{ on := 22, ground := .data }, { on := 23, ground := .data }, { on := 21, ground := .chain }, { on := 21, ground := .guard }], guard := some (21, true) },
  { dst := some 40, op := .unOp .not 4 (.tmp 39), type := 4, pos := "law.go:25", after := #[{ on := 24, ground := .data }, { on := 21, ground := .guard }], guard := some (21, true) },
  { dst := some 41, op := .pick (.tmp 36) (.tmp 40) (.const (.bool false)), type := 4, pos := "law.go:25", after := #[{ on := 21, ground := .data }, { on := 25, ground := .data }, { on := 12, ground := .guard }], guard := some (12, false) },
  { dst := some 42, op := .pick (.tmp 27) (.const (.bool true)) (.tmp 41), type := 4, pos := "law.go:25", after := #[{ on := 12, ground := .data }, { on := 26, ground := .data }], guard := none }]
theorem meets2_plain : Region.noSelect meets2 = true := by kernel_rfl


set_option maxHeartbeats 8000000 in
set_option maxRecDepth 100000 in
theorem meets_core (a b c d x m1 m2 h1 h2 : Int) (ka kb km kh ea eb em eh p1 p2 p3 p4 : Bool) (w : World)
    (MT : Hid (∀ w', Below w.heap.size w w' → Calls Tryd.prog 7 #[.agg #[.int .i64 a, .int .i64 b], .agg #[.int .i64 c, .int .i64 d]] w' fun e w'' => e = .returned (.agg #[.int .i64 m1, .int .i64 m2]) ∧ Below w'.heap.size w' w''))
    (HL : Hid (∀ w', Below w.heap.size w w' → Calls Tryd.prog 8 #[.agg #[.int .i64 a, .int .i64 b], .agg #[.int .i64 c, .int .i64 d]] w' fun e w'' => e = .returned (.agg #[.int .i64 h1, .int .i64 h2]) ∧ Below w'.heap.size w' w''))
    (KA : Hid (∀ w, Calls Tryd.prog 9 #[.agg #[.int .i64 a, .int .i64 b], .int .i64 x] w fun e w' => e = .returned (.bool ka) ∧ Below w.heap.size w w'))
    (KB : Hid (∀ w, Calls Tryd.prog 9 #[.agg #[.int .i64 c, .int .i64 d], .int .i64 x] w fun e w' => e = .returned (.bool kb) ∧ Below w.heap.size w w'))
    (KM : Hid (∀ w, Calls Tryd.prog 9 #[.agg #[.int .i64 m1, .int .i64 m2], .int .i64 x] w fun e w' => e = .returned (.bool km) ∧ Below w.heap.size w w'))
    (KH : Hid (∀ w, Calls Tryd.prog 9 #[.agg #[.int .i64 h1, .int .i64 h2], .int .i64 x] w fun e w' => e = .returned (.bool kh) ∧ Below w.heap.size w w'))
    (EA : Hid (∀ w, Calls Tryd.prog 10 #[.agg #[.int .i64 a, .int .i64 b]] w fun e w' => e = .returned (.bool ea) ∧ Below w.heap.size w w'))
    (EB : Hid (∀ w, Calls Tryd.prog 10 #[.agg #[.int .i64 c, .int .i64 d]] w fun e w' => e = .returned (.bool eb) ∧ Below w.heap.size w w'))
    (EM : Hid (∀ w, Calls Tryd.prog 10 #[.agg #[.int .i64 m1, .int .i64 m2]] w fun e w' => e = .returned (.bool em) ∧ Below w.heap.size w w'))
    (EH : Hid (∀ w, Calls Tryd.prog 10 #[.agg #[.int .i64 h1, .int .i64 h2]] w fun e w' => e = .returned (.bool eh) ∧ Below w.heap.size w w'))
    (P1 : Hid (∀ w, Calls Tryd.prog 9 #[.agg #[.int .i64 a, .int .i64 b], .int .i64 h1] w fun e w' => e = .returned (.bool p1) ∧ Below w.heap.size w w'))
    (P2 : Hid (∀ w, Calls Tryd.prog 9 #[.agg #[.int .i64 c, .int .i64 d], .int .i64 h1] w fun e w' => e = .returned (.bool p2) ∧ Below w.heap.size w w'))
    (P3 : Hid (∀ w, Calls Tryd.prog 9 #[.agg #[.int .i64 a, .int .i64 b], .int .i64 h2] w fun e w' => e = .returned (.bool p3) ∧ Below w.heap.size w w'))
    (P4 : Hid (∀ w, Calls Tryd.prog 9 #[.agg #[.int .i64 c, .int .i64 d], .int .i64 h2] w fun e w' => e = .returned (.bool p4) ∧ Below w.heap.size w w'))
    (AW : Hid (∀ w', Below w.heap.size w w' → Calls Tryd.prog 11 #[] w' fun e w'' => e = .returned (.bool true) ∧ Below w'.heap.size w' w''))
    (hk : ka = true ∧ kb = true ∧ km = true ∧ kh = true ∨ ka = true ∧ kb = false ∧ km = false ∧ kh = true ∨ ka = false ∧ kb = true ∧ km = false ∧ kh = true ∨ ka = false ∧ kb = false ∧ km = false)
    (he : eh = true ∧ ea = true ∧ eb = true ∧ em = true ∨ eh = false ∧ (p1 = true ∨ p1 = false ∧ p2 = true) ∧ (p3 = true ∨ p3 = false ∧ p4 = true)) :
    Calls Tryd.prog 3 #[.agg #[.int .i64 a, .int .i64 b], .agg #[.int .i64 c, .int .i64 d], .int .i64 x] w fun e w' => e = .returned (.bool true) ∧ Below w.heap.size w w' := by
  go_enter Tryd.func3, Tryd.ntmps3
  go_upto_region 1 with fail
  have BW := below2 w (.cells #[.int .i64 a, .int .i64 b] 23) (.cells #[.int .i64 c, .int .i64 d] 23)
  have X := own2b w (.cells #[.int .i64 a, .int .i64 b] 23) (.int .i64 c) (.int .i64 d) 23
  have Y := (own2 w (.int .i64 a) (.int .i64 b) 23).more (.cells #[.int .i64 c, .int .i64 d] 23)
  obtain ⟨W0, hW0⟩ : ∃ W0, W0 = (w.alloc (.cells #[.int .i64 a, .int .i64 b] 23)).alloc (.cells #[.int .i64 c, .int .i64 d] 23) := ⟨_, rfl⟩
  rw [← hW0] at BW X Y ⊢
  clear hW0
  have xr0 : ∀ w', Below W0.heap.size W0 w' → w'.cell? ⟨w.heap.size + 1, 0, none⟩ = some (.int .i64 c) := fun w' hb => keepc hb X.c0
  have xr1 : ∀ w', Below W0.heap.size W0 w' → w'.cell? ⟨w.heap.size + 1, 1, none⟩ = some (.int .i64 d) := fun w' hb => keepc hb X.c1
  have yr0 : ∀ w', Below W0.heap.size W0 w' → w'.cell? ⟨w.heap.size, 0, none⟩ = some (.int .i64 a) := fun w' hb => keepc hb Y.c0
  have yr1 : ∀ w', Below W0.heap.size W0 w' → w'.cell? ⟨w.heap.size, 1, none⟩ = some (.int .i64 b) := fun w' hb => keepc hb Y.c1
  go_cut [7, 8] from 7 to 15 (fun u v wx => ∃ g h, u = .pointer (some ⟨g, 0, none⟩) ∧ v = .pointer (some ⟨h, 0, none⟩) ∧ Own2 wx g (.int .i64 m1) (.int .i64 m2) ∧ Own2 wx h (.int .i64 h1) (.int .i64 h2) ∧ Below W0.heap.size W0 wx)
  case first =>
    change (Code.region 1 meets1 true).wp Tryd.prog _ _ _
    refine wp_region_noPanic ?_
    refine wp_region_held_drew (S := fun w' => Below W0.heap.size W0 w') (by kernel_rfl) ((Below.refl _ _).drew) (fun hHeld => ?_)
    refine wpAnyH_take (i := 0) (oi := ({ dst := some 9, op := .load 23 (.tmp 3), type := 23, pos := "law.go:24", after := #[], guard := none } : Oper)) (v := ?vs5_0) rfl meets1_plain (by as_aux_lemma => kernel_rfl) (by as_aux_lemma => kernel_rfl) (fun _ _ _ h => h) (Or.inl ⟨by rfl, ?ys5_0⟩) (by assumption) ?rs5_0
    case ys5_0 => (intro w hSw; (try dsimp only at hSw); go_simp; try with_reducible rfl)
    try simp only [Act.put, List.setIfInBounds_toArray, List.set_cons_zero, List.set_cons_succ]
    refine wpAnyH_take (i := 1) (oi := ({ dst := some 10, op := .load 23 (.tmp 4), type := 23, pos := "law.go:24", after := #[], guard := none } : Oper)) (v := ?vs5_1) rfl meets1_plain (by as_aux_lemma => kernel_rfl) (by as_aux_lemma => kernel_rfl) (fun _ _ _ h => h) (Or.inl ⟨by rfl, ?ys5_1⟩) (by assumption) ?rs5_1
    case ys5_1 => (intro w hSw; (try dsimp only at hSw); go_simp; try with_reducible rfl)
    try simp only [Act.put, List.setIfInBounds_toArray, List.set_cons_zero, List.set_cons_succ]
    refine wpAnyH_take (i := 3) (oi := ({ dst := some 12, op := .load 23 (.tmp 3), type := 23, pos := "law.go:24", after := #[], guard := none } : Oper)) (v := ?vs5_3) rfl meets1_plain (by as_aux_lemma => kernel_rfl) (by as_aux_lemma => kernel_rfl) (fun _ _ _ h => h) (Or.inl ⟨by rfl, ?ys5_3⟩) (by assumption) ?rs5_3
    case ys5_3 => (intro w hSw; (try dsimp only at hSw); go_simp; try with_reducible rfl)
    try simp only [Act.put, List.setIfInBounds_toArray, List.set_cons_zero, List.set_cons_succ]
    refine wpAnyH_take (i := 4) (oi := ({ dst := some 13, op := .load 23 (.tmp 4), type := 23, pos := "law.go:24", after := #[], guard := none } : Oper)) (v := ?vs5_4) rfl meets1_plain (by as_aux_lemma => kernel_rfl) (by as_aux_lemma => kernel_rfl) (fun _ _ _ h => h) (Or.inl ⟨by rfl, ?ys5_4⟩) (by assumption) ?rs5_4
    case ys5_4 => (intro w hSw; (try dsimp only at hSw); go_simp; try with_reducible rfl)
    try simp only [Act.put, List.setIfInBounds_toArray, List.set_cons_zero, List.set_cons_succ]
    refine wpAnyH_ready (rs := [2, 6, 7]) (by as_aux_lemma => kernel_rfl) (by simp) ?_
    refine AllReadyH.cons (o := ({ dst := some 11, op := .call { callee := .value (.func 7), args := #[.tmp 9, .tmp 10], argTypes := #[23, 23] }, type := 23, pos := "law.go:24", after := #[{ on := 0, ground := .data }, { on := 1, ground := .data }], guard := none } : Oper)) rfl (fun KK hK => ?_) (AllReadyH.cons (o := ({ dst := some 7, op := .alloc 23, type := 0, pos := "law.go:24", after := #[], guard := none } : Oper)) rfl (fun KK hK => ?_) (AllReadyH.cons (o := ({ dst := some 8, op := .alloc 23, type := 0, pos := "law.go:24", after := #[], guard := none } : Oper)) rfl (fun KK hK => ?_) AllReadyH.nil))
    · skip
      rw [if_pos (by rfl)]
      go_simp
      go_at_call 7; refine (MT.out _ (belowT BW (by assumption))).mono ?_; rintro e w1 ⟨rfl, hb1⟩
      go_wp2_with fail
      refine hK.out _ _ ?_ (fun hHeld1 => ?_)
      · exact belowT (by assumption) hb1
      have H1 : Below W0.heap.size W0 w1 := by assumption
      have S1 := H1.size
      clear hK KK
      try simp only [Act.put, List.setIfInBounds_toArray, List.set_cons_zero, List.set_cons_succ]
      refine wpAnyH_ready (rs := [5, 6, 7]) (by as_aux_lemma => kernel_rfl) (by simp) ?_
      refine AllReadyH.cons (o := ({ dst := some 14, op := .call { callee := .value (.func 8), args := #[.tmp 12, .tmp 13], argTypes := #[23, 23] }, type := 23, pos := "law.go:24", after := #[{ on := 3, ground := .data }, { on := 4, ground := .data }, { on := 2, ground := .chain }], guard := none } : Oper)) rfl (fun KK hK => ?_) (AllReadyH.cons (o := ({ dst := some 7, op := .alloc 23, type := 0, pos := "law.go:24", after := #[], guard := none } : Oper)) rfl (fun KK hK => ?_) (AllReadyH.cons (o := ({ dst := some 8, op := .alloc 23, type := 0, pos := "law.go:24", after := #[], guard := none } : Oper)) rfl (fun KK hK => ?_) AllReadyH.nil))
      · skip
        rw [if_pos (by rfl)]
        go_simp
        go_at_call 8; refine (HL.out _ (belowT BW (by assumption))).mono ?_; rintro e w2 ⟨rfl, hb2⟩
        go_wp2_with fail
        refine hK.out _ _ ?_ (fun hHeld2 => ?_)
        · exact belowT (by assumption) hb2
        have H2 : Below W0.heap.size W0 w2 := by assumption
        have S2 := H2.size
        clear hK KK
        try simp only [Act.put, List.setIfInBounds_toArray, List.set_cons_zero, List.set_cons_succ]
        refine wpAnyH_ready (rs := [6, 7]) (by as_aux_lemma => kernel_rfl) (by simp) ?_
        refine AllReadyH.cons (o := ({ dst := some 7, op := .alloc 23, type := 0, pos := "law.go:24", after := #[], guard := none } : Oper)) rfl (fun KK hK => ?_) (AllReadyH.cons (o := ({ dst := some 8, op := .alloc 23, type := 0, pos := "law.go:24", after := #[], guard := none } : Oper)) rfl (fun KK hK => ?_) AllReadyH.nil)
        · skip
          rw [if_pos (by rfl)]
          go_simp
          refine hK.out _ _ ?_ (fun _hHeldA6 => ?_)
          · first | exact belowT (by assumption) (below1 _ _) | exact (belowT (by assumption) (below1 _ _)).drew
          clear hK KK
          try simp only [Act.put, List.setIfInBounds_toArray, List.set_cons_zero, List.set_cons_succ]
          refine wpAnyH_ready (rs := [7]) (by as_aux_lemma => kernel_rfl) (by simp) ?_
          refine AllReadyH.cons (o := ({ dst := some 8, op := .alloc 23, type := 0, pos := "law.go:24", after := #[], guard := none } : Oper)) rfl (fun KK hK => ?_) AllReadyH.nil
          rw [if_pos (by rfl)]
          go_simp
          refine hK.out _ _ ?_ (fun _hHeldA7 => ?_)
          · first | exact belowT (by assumption) (below1 _ _) | exact (belowT (by assumption) (below1 _ _)).drew
          clear hK KK
          try simp only [Act.put, List.setIfInBounds_toArray, List.set_cons_zero, List.set_cons_succ]
          have hne : w2.heap.size ≠ w2.heap.size + 1 := by omega
          refine wpAnyH_ready (rs := [8]) (by as_aux_lemma => kernel_rfl) (by simp) ?_
          refine AllReadyH.cons (o := ({ dst := none, op := .store 23 (.tmp 7) (.tmp 11), type := 0, pos := "law.go:24", after := #[{ on := 6, ground := .data }, { on := 2, ground := .data }, { on := 5, ground := .chain }, { on := 0, ground := .phase }, { on := 1, ground := .phase }, { on := 2, ground := .phase }, { on := 3, ground := .textOnly Go.Departure.lateStores }, { on := 4, ground := .textOnly Go.Departure.lateStores }, { on := 5, ground := .textOnly Go.Departure.lateStoresUnsure }, { on := 6, ground := .phase }, { on := 7, ground := .phase }], guard := none } : Oper)) rfl (fun KK hK => ?_) AllReadyH.nil
          rw [if_pos (by rfl)]
          have p0 := ((own2 w2 (.int .i64 0) (.int .i64 0) 23).more (.cells #[.int .i64 0, .int .i64 0] 23)).c0
          have p1 := ((own2 w2 (.int .i64 0) (.int .i64 0) 23).more (.cells #[.int .i64 0, .int .i64 0] 23)).c1
          have p2 := ((own2 w2 (.int .i64 0) (.int .i64 0) 23).more (.cells #[.int .i64 0, .int .i64 0] 23)).f0
          have p3 := ((own2 w2 (.int .i64 0) (.int .i64 0) 23).more (.cells #[.int .i64 0, .int .i64 0] 23)).f1
          go_simp
          refine hK.out _ _ ?_ (fun _hHeldS8 => ?_)
          · exact belowT H2 (below2 _ _ _)
          clear hK KK
          try simp only [Act.put, List.setIfInBounds_toArray, List.set_cons_zero, List.set_cons_succ]
          refine wpAnyH_ready (rs := [9]) (by as_aux_lemma => kernel_rfl) (by simp) ?_
          refine AllReadyH.cons (o := ({ dst := none, op := .store 23 (.tmp 8) (.tmp 14), type := 0, pos := "law.go:24", after := #[{ on := 7, ground := .data }, { on := 5, ground := .data }, { on := 8, ground := .chain }, { on := 0, ground := .phase }, { on := 1, ground := .phase }, { on := 2, ground := .phase }, { on := 3, ground := .phase }, { on := 4, ground := .phase }, { on := 5, ground := .phase }, { on := 6, ground := .phase }, { on := 7, ground := .phase }, { on := 8, ground := .phase }], guard := none } : Oper)) rfl (fun KK hK => ?_) AllReadyH.nil
          rw [if_pos (by rfl)]
          have q0 := (own2b w2 (.cells #[.int .i64 m1, .int .i64 m2] 23) ((.int .i64 0)) ((.int .i64 0)) 23).c0
          have q1 := (own2b w2 (.cells #[.int .i64 m1, .int .i64 m2] 23) ((.int .i64 0)) ((.int .i64 0)) 23).c1
          have q2 := (own2b w2 (.cells #[.int .i64 m1, .int .i64 m2] 23) ((.int .i64 0)) ((.int .i64 0)) 23).f0
          have q3 := (own2b w2 (.cells #[.int .i64 m1, .int .i64 m2] 23) ((.int .i64 0)) ((.int .i64 0)) 23).f1
          go_simp
          refine hK.out _ _ ?_ (fun _hHeldS9 => ?_)
          · exact belowT H2 (below2 _ _ _)
          clear hK KK
          try simp only [Act.put, List.setIfInBounds_toArray, List.set_cons_zero, List.set_cons_succ]
          refine wpAnyH_done (by as_aux_lemma => kernel_rfl) ?_ _
          refine NoPanic.normal ?_
          go_wp2_with fail
          go_meet
          exact ⟨_, _, rfl, rfl, (own2 w2 (.int .i64 m1) (.int .i64 m2) 23).more (.cells #[.int .i64 h1, .int .i64 h2] 23), own2b w2 (.cells #[.int .i64 m1, .int .i64 m2] 23) (.int .i64 h1) (.int .i64 h2) 23, belowT H2 (below2 _ _ _)⟩
        · skip
          rw [if_pos (by rfl)]
          go_simp
          refine hK.out _ _ ?_ (fun _hHeldA7 => ?_)
          · first | exact belowT (by assumption) (below1 _ _) | exact (belowT (by assumption) (below1 _ _)).drew
          clear hK KK
          try simp only [Act.put, List.setIfInBounds_toArray, List.set_cons_zero, List.set_cons_succ]
          refine wpAnyH_ready (rs := [6]) (by as_aux_lemma => kernel_rfl) (by simp) ?_
          refine AllReadyH.cons (o := ({ dst := some 7, op := .alloc 23, type := 0, pos := "law.go:24", after := #[], guard := none } : Oper)) rfl (fun KK hK => ?_) AllReadyH.nil
          rw [if_pos (by rfl)]
          go_simp
          refine hK.out _ _ ?_ (fun _hHeldA6 => ?_)
          · first | exact belowT (by assumption) (below1 _ _) | exact (belowT (by assumption) (below1 _ _)).drew
          clear hK KK
          try simp only [Act.put, List.setIfInBounds_toArray, List.set_cons_zero, List.set_cons_succ]
          have hne : w2.heap.size ≠ w2.heap.size + 1 := by omega
          refine wpAnyH_ready (rs := [8]) (by as_aux_lemma => kernel_rfl) (by simp) ?_
          refine AllReadyH.cons (o := ({ dst := none, op := .store 23 (.tmp 7) (.tmp 11), type := 0, pos := "law.go:24", after := #[{ on := 6, ground := .data }, { on := 2, ground := .data }, { on := 5, ground := .chain }, { on := 0, ground := .phase }, { on := 1, ground := .phase }, { on := 2, ground := .phase }, { on := 3, ground := .textOnly Go.Departure.lateStores }, { on := 4, ground := .textOnly Go.Departure.lateStores }, { on := 5, ground := .textOnly Go.Departure.lateStoresUnsure }, { on := 6, ground := .phase }, { on := 7, ground := .phase }], guard := none } : Oper)) rfl (fun KK hK => ?_) AllReadyH.nil
          rw [if_pos (by rfl)]
          have p0 := (own2b w2 (.cells #[.int .i64 0, .int .i64 0] 23) (.int .i64 0) (.int .i64 0) 23).c0
          have p1 := (own2b w2 (.cells #[.int .i64 0, .int .i64 0] 23) (.int .i64 0) (.int .i64 0) 23).c1
          have p2 := (own2b w2 (.cells #[.int .i64 0, .int .i64 0] 23) (.int .i64 0) (.int .i64 0) 23).f0
          have p3 := (own2b w2 (.cells #[.int .i64 0, .int .i64 0] 23) (.int .i64 0) (.int .i64 0) 23).f1
          go_simp
          refine hK.out _ _ ?_ (fun _hHeldS8 => ?_)
          · exact belowT H2 (below2 _ _ _)
          clear hK KK
          try simp only [Act.put, List.setIfInBounds_toArray, List.set_cons_zero, List.set_cons_succ]
          refine wpAnyH_ready (rs := [9]) (by as_aux_lemma => kernel_rfl) (by simp) ?_
          refine AllReadyH.cons (o := ({ dst := none, op := .store 23 (.tmp 8) (.tmp 14), type := 0, pos := "law.go:24", after := #[{ on := 7, ground := .data }, { on := 5, ground := .data }, { on := 8, ground := .chain }, { on := 0, ground := .phase }, { on := 1, ground := .phase }, { on := 2, ground := .phase }, { on := 3, ground := .phase }, { on := 4, ground := .phase }, { on := 5, ground := .phase }, { on := 6, ground := .phase }, { on := 7, ground := .phase }, { on := 8, ground := .phase }], guard := none } : Oper)) rfl (fun KK hK => ?_) AllReadyH.nil
          rw [if_pos (by rfl)]
          have q0 := ((own2 w2 ((.int .i64 0)) ((.int .i64 0)) 23).more (.cells #[.int .i64 m1, .int .i64 m2] 23)).c0
          have q1 := ((own2 w2 ((.int .i64 0)) ((.int .i64 0)) 23).more (.cells #[.int .i64 m1, .int .i64 m2] 23)).c1
          have q2 := ((own2 w2 ((.int .i64 0)) ((.int .i64 0)) 23).more (.cells #[.int .i64 m1, .int .i64 m2] 23)).f0
          have q3 := ((own2 w2 ((.int .i64 0)) ((.int .i64 0)) 23).more (.cells #[.int .i64 m1, .int .i64 m2] 23)).f1
          go_simp
          refine hK.out _ _ ?_ (fun _hHeldS9 => ?_)
          · exact belowT H2 (below2 _ _ _)
          clear hK KK
          try simp only [Act.put, List.setIfInBounds_toArray, List.set_cons_zero, List.set_cons_succ]
          refine wpAnyH_done (by as_aux_lemma => kernel_rfl) ?_ _
          refine NoPanic.normal ?_
          go_wp2_with fail
          go_meet
          exact ⟨_, _, rfl, rfl, own2b w2 (.cells #[.int .i64 h1, .int .i64 h2] 23) (.int .i64 m1) (.int .i64 m2) 23, (own2 w2 (.int .i64 h1) (.int .i64 h2) 23).more (.cells #[.int .i64 m1, .int .i64 m2] 23), belowT H2 (below2 _ _ _)⟩
      · skip
        rw [if_pos (by rfl)]
        go_simp
        refine hK.out _ _ ?_ (fun _hHeldA6 => ?_)
        · first | exact belowT (by assumption) (below1 _ _) | exact (belowT (by assumption) (below1 _ _)).drew
        clear hK KK
        try simp only [Act.put, List.setIfInBounds_toArray, List.set_cons_zero, List.set_cons_succ]
        refine wpAnyH_ready (rs := [5, 7]) (by as_aux_lemma => kernel_rfl) (by simp) ?_
        refine AllReadyH.cons (o := ({ dst := some 14, op := .call { callee := .value (.func 8), args := #[.tmp 12, .tmp 13], argTypes := #[23, 23] }, type := 23, pos := "law.go:24", after := #[{ on := 3, ground := .data }, { on := 4, ground := .data }, { on := 2, ground := .chain }], guard := none } : Oper)) rfl (fun KK hK => ?_) (AllReadyH.cons (o := ({ dst := some 8, op := .alloc 23, type := 0, pos := "law.go:24", after := #[], guard := none } : Oper)) rfl (fun KK hK => ?_) AllReadyH.nil)
        · skip
          rw [if_pos (by rfl)]
          go_simp
          go_at_call 8; refine (HL.out _ (belowT BW (by assumption))).mono ?_; rintro e w2 ⟨rfl, hb2⟩
          go_wp2_with fail
          refine hK.out _ _ ?_ (fun hHeld2 => ?_)
          · exact belowT (by assumption) hb2
          have O6 := (own2 w1 (.int .i64 0) (.int .i64 0) 23).keep hb2
          have H2 : Below W0.heap.size W0 w2 := by assumption
          have S2 := H2.size
          clear hK KK
          try simp only [Act.put, List.setIfInBounds_toArray, List.set_cons_zero, List.set_cons_succ]
          refine wpAnyH_ready (rs := [7]) (by as_aux_lemma => kernel_rfl) (by simp) ?_
          refine AllReadyH.cons (o := ({ dst := some 8, op := .alloc 23, type := 0, pos := "law.go:24", after := #[], guard := none } : Oper)) rfl (fun KK hK => ?_) AllReadyH.nil
          rw [if_pos (by rfl)]
          go_simp
          refine hK.out _ _ ?_ (fun _hHeldA7 => ?_)
          · first | exact belowT (by assumption) (below1 _ _) | exact (belowT (by assumption) (below1 _ _)).drew
          clear hK KK
          try simp only [Act.put, List.setIfInBounds_toArray, List.set_cons_zero, List.set_cons_succ]
          have hne : w1.heap.size ≠ w2.heap.size := by have := O6.lt; omega
          refine wpAnyH_ready (rs := [8]) (by as_aux_lemma => kernel_rfl) (by simp) ?_
          refine AllReadyH.cons (o := ({ dst := none, op := .store 23 (.tmp 7) (.tmp 11), type := 0, pos := "law.go:24", after := #[{ on := 6, ground := .data }, { on := 2, ground := .data }, { on := 5, ground := .chain }, { on := 0, ground := .phase }, { on := 1, ground := .phase }, { on := 2, ground := .phase }, { on := 3, ground := .textOnly Go.Departure.lateStores }, { on := 4, ground := .textOnly Go.Departure.lateStores }, { on := 5, ground := .textOnly Go.Departure.lateStoresUnsure }, { on := 6, ground := .phase }, { on := 7, ground := .phase }], guard := none } : Oper)) rfl (fun KK hK => ?_) AllReadyH.nil
          rw [if_pos (by rfl)]
          have p0 := ((O6).more (.cells #[.int .i64 0, .int .i64 0] 23)).c0
          have p1 := ((O6).more (.cells #[.int .i64 0, .int .i64 0] 23)).c1
          have p2 := ((O6).more (.cells #[.int .i64 0, .int .i64 0] 23)).f0
          have p3 := ((O6).more (.cells #[.int .i64 0, .int .i64 0] 23)).f1
          go_simp
          refine hK.out _ _ ?_ (fun _hHeldS8 => ?_)
          · exact ((belowT H2 (below1 _ _)).setCell (p := ⟨w1.heap.size, 0, none⟩) (show W0.heap.size ≤ w1.heap.size by omega) _).setCell (p := ⟨w1.heap.size, 1, none⟩) (show W0.heap.size ≤ w1.heap.size by omega) _
          clear hK KK
          try simp only [Act.put, List.setIfInBounds_toArray, List.set_cons_zero, List.set_cons_succ]
          refine wpAnyH_ready (rs := [9]) (by as_aux_lemma => kernel_rfl) (by simp) ?_
          refine AllReadyH.cons (o := ({ dst := none, op := .store 23 (.tmp 8) (.tmp 14), type := 0, pos := "law.go:24", after := #[{ on := 7, ground := .data }, { on := 5, ground := .data }, { on := 8, ground := .chain }, { on := 0, ground := .phase }, { on := 1, ground := .phase }, { on := 2, ground := .phase }, { on := 3, ground := .phase }, { on := 4, ground := .phase }, { on := 5, ground := .phase }, { on := 6, ground := .phase }, { on := 7, ground := .phase }, { on := 8, ground := .phase }], guard := none } : Oper)) rfl (fun KK hK => ?_) AllReadyH.nil
          rw [if_pos (by rfl)]
          have q0 := (((own2 w2 (.int .i64 0) (.int .i64 0) 23).other hne 0 (.int .i64 m1)).other hne 1 (.int .i64 m2)).c0
          have q1 := (((own2 w2 (.int .i64 0) (.int .i64 0) 23).other hne 0 (.int .i64 m1)).other hne 1 (.int .i64 m2)).c1
          have q2 := (((own2 w2 (.int .i64 0) (.int .i64 0) 23).other hne 0 (.int .i64 m1)).other hne 1 (.int .i64 m2)).f0
          have q3 := (((own2 w2 (.int .i64 0) (.int .i64 0) 23).other hne 0 (.int .i64 m1)).other hne 1 (.int .i64 m2)).f1
          go_simp
          refine hK.out _ _ ?_ (fun _hHeldS9 => ?_)
          · exact ((((belowT H2 (below1 _ _)).setCell (p := ⟨w1.heap.size, 0, none⟩) (show W0.heap.size ≤ w1.heap.size by omega) _).setCell (p := ⟨w1.heap.size, 1, none⟩) (show W0.heap.size ≤ w1.heap.size by omega) _).setCell (p := ⟨w2.heap.size, 0, none⟩) (show W0.heap.size ≤ w2.heap.size by omega) _).setCell (p := ⟨w2.heap.size, 1, none⟩) (show W0.heap.size ≤ w2.heap.size by omega) _
          clear hK KK
          try simp only [Act.put, List.setIfInBounds_toArray, List.set_cons_zero, List.set_cons_succ]
          refine wpAnyH_done (by as_aux_lemma => kernel_rfl) ?_ _
          refine NoPanic.normal ?_
          go_wp2_with fail
          go_meet
          exact ⟨_, _, rfl, rfl, ((((O6).more (.cells #[.int .i64 0, .int .i64 0] 23)).set (.int .i64 m1) (.int .i64 m2)).other hne.symm 0 (.int .i64 h1)).other hne.symm 1 (.int .i64 h2), (((own2 w2 (.int .i64 0) (.int .i64 0) 23).other hne 0 (.int .i64 m1)).other hne 1 (.int .i64 m2)).set (.int .i64 h1) (.int .i64 h2), ((((belowT H2 (below1 _ _)).setCell (p := ⟨w1.heap.size, 0, none⟩) (show W0.heap.size ≤ w1.heap.size by omega) _).setCell (p := ⟨w1.heap.size, 1, none⟩) (show W0.heap.size ≤ w1.heap.size by omega) _).setCell (p := ⟨w2.heap.size, 0, none⟩) (show W0.heap.size ≤ w2.heap.size by omega) _).setCell (p := ⟨w2.heap.size, 1, none⟩) (show W0.heap.size ≤ w2.heap.size by omega) _⟩
        · skip
          rw [if_pos (by rfl)]
          go_simp
          refine hK.out _ _ ?_ (fun _hHeldA7 => ?_)
          · first | exact belowT (by assumption) (below1 _ _) | exact (belowT (by assumption) (below1 _ _)).drew
          clear hK KK
          try simp only [Act.put, List.setIfInBounds_toArray, List.set_cons_zero, List.set_cons_succ]
          have hne : w1.heap.size ≠ w1.heap.size + 1 := by omega
          refine wpAnyH_ready (rs := [5]) (by as_aux_lemma => kernel_rfl) (by simp) ?_
          refine AllReadyH.cons (o := ({ dst := some 14, op := .call { callee := .value (.func 8), args := #[.tmp 12, .tmp 13], argTypes := #[23, 23] }, type := 23, pos := "law.go:24", after := #[{ on := 3, ground := .data }, { on := 4, ground := .data }, { on := 2, ground := .chain }], guard := none } : Oper)) rfl (fun KK hK => ?_) AllReadyH.nil
          rw [if_pos (by rfl)]
          go_simp
          go_at_call 8; refine (HL.out _ (belowT BW (by assumption))).mono ?_; rintro e w2 ⟨rfl, hb2⟩
          go_wp2_with fail
          refine hK.out _ _ ?_ (fun hHeld2 => ?_)
          · exact belowT (by assumption) hb2
          have O6 := ((own2 w1 (.int .i64 0) (.int .i64 0) 23).more (.cells #[.int .i64 0, .int .i64 0] 23)).keep hb2
          have O7 := (own2b w1 (.cells #[.int .i64 0, .int .i64 0] 23) (.int .i64 0) (.int .i64 0) 23).keep hb2
          have H2 : Below W0.heap.size W0 w2 := by assumption
          have S2 := H2.size
          clear hK KK
          try simp only [Act.put, List.setIfInBounds_toArray, List.set_cons_zero, List.set_cons_succ]
          refine wpAnyH_ready (rs := [8]) (by as_aux_lemma => kernel_rfl) (by simp) ?_
          refine AllReadyH.cons (o := ({ dst := none, op := .store 23 (.tmp 7) (.tmp 11), type := 0, pos := "law.go:24", after := #[{ on := 6, ground := .data }, { on := 2, ground := .data }, { on := 5, ground := .chain }, { on := 0, ground := .phase }, { on := 1, ground := .phase }, { on := 2, ground := .phase }, { on := 3, ground := .textOnly Go.Departure.lateStores }, { on := 4, ground := .textOnly Go.Departure.lateStores }, { on := 5, ground := .textOnly Go.Departure.lateStoresUnsure }, { on := 6, ground := .phase }, { on := 7, ground := .phase }], guard := none } : Oper)) rfl (fun KK hK => ?_) AllReadyH.nil
          rw [if_pos (by rfl)]
          have p0 := (O6).c0
          have p1 := (O6).c1
          have p2 := (O6).f0
          have p3 := (O6).f1
          go_simp
          refine hK.out _ _ ?_ (fun _hHeldS8 => ?_)
          · exact ((H2).setCell (p := ⟨w1.heap.size, 0, none⟩) (show W0.heap.size ≤ w1.heap.size by omega) _).setCell (p := ⟨w1.heap.size, 1, none⟩) (show W0.heap.size ≤ w1.heap.size by omega) _
          clear hK KK
          try simp only [Act.put, List.setIfInBounds_toArray, List.set_cons_zero, List.set_cons_succ]
          refine wpAnyH_ready (rs := [9]) (by as_aux_lemma => kernel_rfl) (by simp) ?_
          refine AllReadyH.cons (o := ({ dst := none, op := .store 23 (.tmp 8) (.tmp 14), type := 0, pos := "law.go:24", after := #[{ on := 7, ground := .data }, { on := 5, ground := .data }, { on := 8, ground := .chain }, { on := 0, ground := .phase }, { on := 1, ground := .phase }, { on := 2, ground := .phase }, { on := 3, ground := .phase }, { on := 4, ground := .phase }, { on := 5, ground := .phase }, { on := 6, ground := .phase }, { on := 7, ground := .phase }, { on := 8, ground := .phase }], guard := none } : Oper)) rfl (fun KK hK => ?_) AllReadyH.nil
          rw [if_pos (by rfl)]
          have q0 := (((O7).other hne 0 (.int .i64 m1)).other hne 1 (.int .i64 m2)).c0
          have q1 := (((O7).other hne 0 (.int .i64 m1)).other hne 1 (.int .i64 m2)).c1
          have q2 := (((O7).other hne 0 (.int .i64 m1)).other hne 1 (.int .i64 m2)).f0
          have q3 := (((O7).other hne 0 (.int .i64 m1)).other hne 1 (.int .i64 m2)).f1
          go_simp
          refine hK.out _ _ ?_ (fun _hHeldS9 => ?_)
          · exact ((((H2).setCell (p := ⟨w1.heap.size, 0, none⟩) (show W0.heap.size ≤ w1.heap.size by omega) _).setCell (p := ⟨w1.heap.size, 1, none⟩) (show W0.heap.size ≤ w1.heap.size by omega) _).setCell (p := ⟨w1.heap.size + 1, 0, none⟩) (show W0.heap.size ≤ w1.heap.size + 1 by omega) _).setCell (p := ⟨w1.heap.size + 1, 1, none⟩) (show W0.heap.size ≤ w1.heap.size + 1 by omega) _
          clear hK KK
          try simp only [Act.put, List.setIfInBounds_toArray, List.set_cons_zero, List.set_cons_succ]
          refine wpAnyH_done (by as_aux_lemma => kernel_rfl) ?_ _
          refine NoPanic.normal ?_
          go_wp2_with fail
          go_meet
          exact ⟨_, _, rfl, rfl, (((O6).set (.int .i64 m1) (.int .i64 m2)).other hne.symm 0 (.int .i64 h1)).other hne.symm 1 (.int .i64 h2), (((O7).other hne 0 (.int .i64 m1)).other hne 1 (.int .i64 m2)).set (.int .i64 h1) (.int .i64 h2), ((((H2).setCell (p := ⟨w1.heap.size, 0, none⟩) (show W0.heap.size ≤ w1.heap.size by omega) _).setCell (p := ⟨w1.heap.size, 1, none⟩) (show W0.heap.size ≤ w1.heap.size by omega) _).setCell (p := ⟨w1.heap.size + 1, 0, none⟩) (show W0.heap.size ≤ w1.heap.size + 1 by omega) _).setCell (p := ⟨w1.heap.size + 1, 1, none⟩) (show W0.heap.size ≤ w1.heap.size + 1 by omega) _⟩
      · skip
        rw [if_pos (by rfl)]
        go_simp
        refine hK.out _ _ ?_ (fun _hHeldA7 => ?_)
        · first | exact belowT (by assumption) (below1 _ _) | exact (belowT (by assumption) (below1 _ _)).drew
        clear hK KK
        try simp only [Act.put, List.setIfInBounds_toArray, List.set_cons_zero, List.set_cons_succ]
        refine wpAnyH_ready (rs := [5, 6]) (by as_aux_lemma => kernel_rfl) (by simp) ?_
        refine AllReadyH.cons (o := ({ dst := some 14, op := .call { callee := .value (.func 8), args := #[.tmp 12, .tmp 13], argTypes := #[23, 23] }, type := 23, pos := "law.go:24", after := #[{ on := 3, ground := .data }, { on := 4, ground := .data }, { on := 2, ground := .chain }], guard := none } : Oper)) rfl (fun KK hK => ?_) (AllReadyH.cons (o := ({ dst := some 7, op := .alloc 23, type := 0, pos := "law.go:24", after := #[], guard := none } : Oper)) rfl (fun KK hK => ?_) AllReadyH.nil)
        · skip
          rw [if_pos (by rfl)]
          go_simp
          go_at_call 8; refine (HL.out _ (belowT BW (by assumption))).mono ?_; rintro e w2 ⟨rfl, hb2⟩
          go_wp2_with fail
          refine hK.out _ _ ?_ (fun hHeld2 => ?_)
          · exact belowT (by assumption) hb2
          have O7 := (own2 w1 (.int .i64 0) (.int .i64 0) 23).keep hb2
          have H2 : Below W0.heap.size W0 w2 := by assumption
          have S2 := H2.size
          clear hK KK
          try simp only [Act.put, List.setIfInBounds_toArray, List.set_cons_zero, List.set_cons_succ]
          refine wpAnyH_ready (rs := [6]) (by as_aux_lemma => kernel_rfl) (by simp) ?_
          refine AllReadyH.cons (o := ({ dst := some 7, op := .alloc 23, type := 0, pos := "law.go:24", after := #[], guard := none } : Oper)) rfl (fun KK hK => ?_) AllReadyH.nil
          rw [if_pos (by rfl)]
          go_simp
          refine hK.out _ _ ?_ (fun _hHeldA6 => ?_)
          · first | exact belowT (by assumption) (below1 _ _) | exact (belowT (by assumption) (below1 _ _)).drew
          clear hK KK
          try simp only [Act.put, List.setIfInBounds_toArray, List.set_cons_zero, List.set_cons_succ]
          have hne : w1.heap.size ≠ w2.heap.size := by have := O7.lt; omega
          refine wpAnyH_ready (rs := [8]) (by as_aux_lemma => kernel_rfl) (by simp) ?_
          refine AllReadyH.cons (o := ({ dst := none, op := .store 23 (.tmp 7) (.tmp 11), type := 0, pos := "law.go:24", after := #[{ on := 6, ground := .data }, { on := 2, ground := .data }, { on := 5, ground := .chain }, { on := 0, ground := .phase }, { on := 1, ground := .phase }, { on := 2, ground := .phase }, { on := 3, ground := .textOnly Go.Departure.lateStores }, { on := 4, ground := .textOnly Go.Departure.lateStores }, { on := 5, ground := .textOnly Go.Departure.lateStoresUnsure }, { on := 6, ground := .phase }, { on := 7, ground := .phase }], guard := none } : Oper)) rfl (fun KK hK => ?_) AllReadyH.nil
          rw [if_pos (by rfl)]
          have p0 := (own2 w2 (.int .i64 0) (.int .i64 0) 23).c0
          have p1 := (own2 w2 (.int .i64 0) (.int .i64 0) 23).c1
          have p2 := (own2 w2 (.int .i64 0) (.int .i64 0) 23).f0
          have p3 := (own2 w2 (.int .i64 0) (.int .i64 0) 23).f1
          go_simp
          refine hK.out _ _ ?_ (fun _hHeldS8 => ?_)
          · exact belowT H2 (below1 _ _)
          clear hK KK
          try simp only [Act.put, List.setIfInBounds_toArray, List.set_cons_zero, List.set_cons_succ]
          refine wpAnyH_ready (rs := [9]) (by as_aux_lemma => kernel_rfl) (by simp) ?_
          refine AllReadyH.cons (o := ({ dst := none, op := .store 23 (.tmp 8) (.tmp 14), type := 0, pos := "law.go:24", after := #[{ on := 7, ground := .data }, { on := 5, ground := .data }, { on := 8, ground := .chain }, { on := 0, ground := .phase }, { on := 1, ground := .phase }, { on := 2, ground := .phase }, { on := 3, ground := .phase }, { on := 4, ground := .phase }, { on := 5, ground := .phase }, { on := 6, ground := .phase }, { on := 7, ground := .phase }, { on := 8, ground := .phase }], guard := none } : Oper)) rfl (fun KK hK => ?_) AllReadyH.nil
          rw [if_pos (by rfl)]
          have q0 := ((O7).more (.cells #[.int .i64 m1, .int .i64 m2] 23)).c0
          have q1 := ((O7).more (.cells #[.int .i64 m1, .int .i64 m2] 23)).c1
          have q2 := ((O7).more (.cells #[.int .i64 m1, .int .i64 m2] 23)).f0
          have q3 := ((O7).more (.cells #[.int .i64 m1, .int .i64 m2] 23)).f1
          go_simp
          refine hK.out _ _ ?_ (fun _hHeldS9 => ?_)
          · exact ((belowT H2 (below1 _ _)).setCell (p := ⟨w1.heap.size, 0, none⟩) (show W0.heap.size ≤ w1.heap.size by omega) _).setCell (p := ⟨w1.heap.size, 1, none⟩) (show W0.heap.size ≤ w1.heap.size by omega) _
          clear hK KK
          try simp only [Act.put, List.setIfInBounds_toArray, List.set_cons_zero, List.set_cons_succ]
          refine wpAnyH_done (by as_aux_lemma => kernel_rfl) ?_ _
          refine NoPanic.normal ?_
          go_wp2_with fail
          go_meet
          exact ⟨_, _, rfl, rfl, ((own2 w2 (.int .i64 m1) (.int .i64 m2) 23).other hne 0 (.int .i64 h1)).other hne 1 (.int .i64 h2), ((O7).more (.cells #[.int .i64 m1, .int .i64 m2] 23)).set (.int .i64 h1) (.int .i64 h2), ((belowT H2 (below1 _ _)).setCell (p := ⟨w1.heap.size, 0, none⟩) (show W0.heap.size ≤ w1.heap.size by omega) _).setCell (p := ⟨w1.heap.size, 1, none⟩) (show W0.heap.size ≤ w1.heap.size by omega) _⟩
        · skip
          rw [if_pos (by rfl)]
          go_simp
          refine hK.out _ _ ?_ (fun _hHeldA6 => ?_)
          · first | exact belowT (by assumption) (below1 _ _) | exact (belowT (by assumption) (below1 _ _)).drew
          clear hK KK
          try simp only [Act.put, List.setIfInBounds_toArray, List.set_cons_zero, List.set_cons_succ]
          have hne : w1.heap.size ≠ w1.heap.size + 1 := by omega
          refine wpAnyH_ready (rs := [5]) (by as_aux_lemma => kernel_rfl) (by simp) ?_
          refine AllReadyH.cons (o := ({ dst := some 14, op := .call { callee := .value (.func 8), args := #[.tmp 12, .tmp 13], argTypes := #[23, 23] }, type := 23, pos := "law.go:24", after := #[{ on := 3, ground := .data }, { on := 4, ground := .data }, { on := 2, ground := .chain }], guard := none } : Oper)) rfl (fun KK hK => ?_) AllReadyH.nil
          rw [if_pos (by rfl)]
          go_simp
          go_at_call 8; refine (HL.out _ (belowT BW (by assumption))).mono ?_; rintro e w2 ⟨rfl, hb2⟩
          go_wp2_with fail
          refine hK.out _ _ ?_ (fun hHeld2 => ?_)
          · exact belowT (by assumption) hb2
          have O6 := (own2b w1 (.cells #[.int .i64 0, .int .i64 0] 23) (.int .i64 0) (.int .i64 0) 23).keep hb2
          have O7 := ((own2 w1 (.int .i64 0) (.int .i64 0) 23).more (.cells #[.int .i64 0, .int .i64 0] 23)).keep hb2
          have H2 : Below W0.heap.size W0 w2 := by assumption
          have S2 := H2.size
          clear hK KK
          try simp only [Act.put, List.setIfInBounds_toArray, List.set_cons_zero, List.set_cons_succ]
          refine wpAnyH_ready (rs := [8]) (by as_aux_lemma => kernel_rfl) (by simp) ?_
          refine AllReadyH.cons (o := ({ dst := none, op := .store 23 (.tmp 7) (.tmp 11), type := 0, pos := "law.go:24", after := #[{ on := 6, ground := .data }, { on := 2, ground := .data }, { on := 5, ground := .chain }, { on := 0, ground := .phase }, { on := 1, ground := .phase }, { on := 2, ground := .phase }, { on := 3, ground := .textOnly Go.Departure.lateStores }, { on := 4, ground := .textOnly Go.Departure.lateStores }, { on := 5, ground := .textOnly Go.Departure.lateStoresUnsure }, { on := 6, ground := .phase }, { on := 7, ground := .phase }], guard := none } : Oper)) rfl (fun KK hK => ?_) AllReadyH.nil
          rw [if_pos (by rfl)]
          have p0 := (O6).c0
          have p1 := (O6).c1
          have p2 := (O6).f0
          have p3 := (O6).f1
          go_simp
          refine hK.out _ _ ?_ (fun _hHeldS8 => ?_)
          · exact ((H2).setCell (p := ⟨w1.heap.size + 1, 0, none⟩) (show W0.heap.size ≤ w1.heap.size + 1 by omega) _).setCell (p := ⟨w1.heap.size + 1, 1, none⟩) (show W0.heap.size ≤ w1.heap.size + 1 by omega) _
          clear hK KK
          try simp only [Act.put, List.setIfInBounds_toArray, List.set_cons_zero, List.set_cons_succ]
          refine wpAnyH_ready (rs := [9]) (by as_aux_lemma => kernel_rfl) (by simp) ?_
          refine AllReadyH.cons (o := ({ dst := none, op := .store 23 (.tmp 8) (.tmp 14), type := 0, pos := "law.go:24", after := #[{ on := 7, ground := .data }, { on := 5, ground := .data }, { on := 8, ground := .chain }, { on := 0, ground := .phase }, { on := 1, ground := .phase }, { on := 2, ground := .phase }, { on := 3, ground := .phase }, { on := 4, ground := .phase }, { on := 5, ground := .phase }, { on := 6, ground := .phase }, { on := 7, ground := .phase }, { on := 8, ground := .phase }], guard := none } : Oper)) rfl (fun KK hK => ?_) AllReadyH.nil
          rw [if_pos (by rfl)]
          have q0 := (((O7).other hne.symm 0 (.int .i64 m1)).other hne.symm 1 (.int .i64 m2)).c0
          have q1 := (((O7).other hne.symm 0 (.int .i64 m1)).other hne.symm 1 (.int .i64 m2)).c1
          have q2 := (((O7).other hne.symm 0 (.int .i64 m1)).other hne.symm 1 (.int .i64 m2)).f0
          have q3 := (((O7).other hne.symm 0 (.int .i64 m1)).other hne.symm 1 (.int .i64 m2)).f1
          go_simp
          refine hK.out _ _ ?_ (fun _hHeldS9 => ?_)
          · exact ((((H2).setCell (p := ⟨w1.heap.size + 1, 0, none⟩) (show W0.heap.size ≤ w1.heap.size + 1 by omega) _).setCell (p := ⟨w1.heap.size + 1, 1, none⟩) (show W0.heap.size ≤ w1.heap.size + 1 by omega) _).setCell (p := ⟨w1.heap.size, 0, none⟩) (show W0.heap.size ≤ w1.heap.size by omega) _).setCell (p := ⟨w1.heap.size, 1, none⟩) (show W0.heap.size ≤ w1.heap.size by omega) _
          clear hK KK
          try simp only [Act.put, List.setIfInBounds_toArray, List.set_cons_zero, List.set_cons_succ]
          refine wpAnyH_done (by as_aux_lemma => kernel_rfl) ?_ _
          refine NoPanic.normal ?_
          go_wp2_with fail
          go_meet
          exact ⟨_, _, rfl, rfl, (((O6).set (.int .i64 m1) (.int .i64 m2)).other hne 0 (.int .i64 h1)).other hne 1 (.int .i64 h2), (((O7).other hne.symm 0 (.int .i64 m1)).other hne.symm 1 (.int .i64 m2)).set (.int .i64 h1) (.int .i64 h2), ((((H2).setCell (p := ⟨w1.heap.size + 1, 0, none⟩) (show W0.heap.size ≤ w1.heap.size + 1 by omega) _).setCell (p := ⟨w1.heap.size + 1, 1, none⟩) (show W0.heap.size ≤ w1.heap.size + 1 by omega) _).setCell (p := ⟨w1.heap.size, 0, none⟩) (show W0.heap.size ≤ w1.heap.size by omega) _).setCell (p := ⟨w1.heap.size, 1, none⟩) (show W0.heap.size ≤ w1.heap.size by omega) _⟩
    · skip
      rw [if_pos (by rfl)]
      go_simp
      refine hK.out _ _ ?_ (fun _hHeldA6 => ?_)
      · first | exact below1 W0 (.cells #[.int .i64 0, .int .i64 0] 23) | exact (below1 W0 (.cells #[.int .i64 0, .int .i64 0] 23)).drew
      clear hK KK
      try simp only [Act.put, List.setIfInBounds_toArray, List.set_cons_zero, List.set_cons_succ]
      refine wpAnyH_ready (rs := [2, 7]) (by as_aux_lemma => kernel_rfl) (by simp) ?_
      refine AllReadyH.cons (o := ({ dst := some 11, op := .call { callee := .value (.func 7), args := #[.tmp 9, .tmp 10], argTypes := #[23, 23] }, type := 23, pos := "law.go:24", after := #[{ on := 0, ground := .data }, { on := 1, ground := .data }], guard := none } : Oper)) rfl (fun KK hK => ?_) (AllReadyH.cons (o := ({ dst := some 8, op := .alloc 23, type := 0, pos := "law.go:24", after := #[], guard := none } : Oper)) rfl (fun KK hK => ?_) AllReadyH.nil)
      · skip
        rw [if_pos (by rfl)]
        go_simp
        go_at_call 7; refine (MT.out _ (belowT BW (by assumption))).mono ?_; rintro e w1 ⟨rfl, hb1⟩
        go_wp2_with fail
        refine hK.out _ _ ?_ (fun hHeld1 => ?_)
        · exact belowT (by assumption) hb1
        have O6 := ((own2 W0 (.int .i64 0) (.int .i64 0) 23).drew).keep hb1
        have H1 : Below W0.heap.size W0 w1 := by assumption
        have S1 := H1.size
        clear hK KK
        try simp only [Act.put, List.setIfInBounds_toArray, List.set_cons_zero, List.set_cons_succ]
        refine wpAnyH_ready (rs := [5, 7]) (by as_aux_lemma => kernel_rfl) (by simp) ?_
        refine AllReadyH.cons (o := ({ dst := some 14, op := .call { callee := .value (.func 8), args := #[.tmp 12, .tmp 13], argTypes := #[23, 23] }, type := 23, pos := "law.go:24", after := #[{ on := 3, ground := .data }, { on := 4, ground := .data }, { on := 2, ground := .chain }], guard := none } : Oper)) rfl (fun KK hK => ?_) (AllReadyH.cons (o := ({ dst := some 8, op := .alloc 23, type := 0, pos := "law.go:24", after := #[], guard := none } : Oper)) rfl (fun KK hK => ?_) AllReadyH.nil)
        · skip
          rw [if_pos (by rfl)]
          go_simp
          go_at_call 8; refine (HL.out _ (belowT BW (by assumption))).mono ?_; rintro e w2 ⟨rfl, hb2⟩
          go_wp2_with fail
          refine hK.out _ _ ?_ (fun hHeld2 => ?_)
          · exact belowT (by assumption) hb2
          have O6 := (O6).keep hb2
          have H2 : Below W0.heap.size W0 w2 := by assumption
          have S2 := H2.size
          clear hK KK
          try simp only [Act.put, List.setIfInBounds_toArray, List.set_cons_zero, List.set_cons_succ]
          refine wpAnyH_ready (rs := [7]) (by as_aux_lemma => kernel_rfl) (by simp) ?_
          refine AllReadyH.cons (o := ({ dst := some 8, op := .alloc 23, type := 0, pos := "law.go:24", after := #[], guard := none } : Oper)) rfl (fun KK hK => ?_) AllReadyH.nil
          rw [if_pos (by rfl)]
          go_simp
          refine hK.out _ _ ?_ (fun _hHeldA7 => ?_)
          · first | exact belowT (by assumption) (below1 _ _) | exact (belowT (by assumption) (below1 _ _)).drew
          clear hK KK
          try simp only [Act.put, List.setIfInBounds_toArray, List.set_cons_zero, List.set_cons_succ]
          have hne : W0.heap.size ≠ w2.heap.size := by have := O6.lt; omega
          refine wpAnyH_ready (rs := [8]) (by as_aux_lemma => kernel_rfl) (by simp) ?_
          refine AllReadyH.cons (o := ({ dst := none, op := .store 23 (.tmp 7) (.tmp 11), type := 0, pos := "law.go:24", after := #[{ on := 6, ground := .data }, { on := 2, ground := .data }, { on := 5, ground := .chain }, { on := 0, ground := .phase }, { on := 1, ground := .phase }, { on := 2, ground := .phase }, { on := 3, ground := .textOnly Go.Departure.lateStores }, { on := 4, ground := .textOnly Go.Departure.lateStores }, { on := 5, ground := .textOnly Go.Departure.lateStoresUnsure }, { on := 6, ground := .phase }, { on := 7, ground := .phase }], guard := none } : Oper)) rfl (fun KK hK => ?_) AllReadyH.nil
          rw [if_pos (by rfl)]
          have p0 := ((O6).more (.cells #[.int .i64 0, .int .i64 0] 23)).c0
          have p1 := ((O6).more (.cells #[.int .i64 0, .int .i64 0] 23)).c1
          have p2 := ((O6).more (.cells #[.int .i64 0, .int .i64 0] 23)).f0
          have p3 := ((O6).more (.cells #[.int .i64 0, .int .i64 0] 23)).f1
          go_simp
          refine hK.out _ _ ?_ (fun _hHeldS8 => ?_)
          · exact ((belowT H2 (below1 _ _)).setCell (p := ⟨W0.heap.size, 0, none⟩) (show W0.heap.size ≤ W0.heap.size by omega) _).setCell (p := ⟨W0.heap.size, 1, none⟩) (show W0.heap.size ≤ W0.heap.size by omega) _
          clear hK KK
          try simp only [Act.put, List.setIfInBounds_toArray, List.set_cons_zero, List.set_cons_succ]
          refine wpAnyH_ready (rs := [9]) (by as_aux_lemma => kernel_rfl) (by simp) ?_
          refine AllReadyH.cons (o := ({ dst := none, op := .store 23 (.tmp 8) (.tmp 14), type := 0, pos := "law.go:24", after := #[{ on := 7, ground := .data }, { on := 5, ground := .data }, { on := 8, ground := .chain }, { on := 0, ground := .phase }, { on := 1, ground := .phase }, { on := 2, ground := .phase }, { on := 3, ground := .phase }, { on := 4, ground := .phase }, { on := 5, ground := .phase }, { on := 6, ground := .phase }, { on := 7, ground := .phase }, { on := 8, ground := .phase }], guard := none } : Oper)) rfl (fun KK hK => ?_) AllReadyH.nil
          rw [if_pos (by rfl)]
          have q0 := (((own2 w2 (.int .i64 0) (.int .i64 0) 23).other hne 0 (.int .i64 m1)).other hne 1 (.int .i64 m2)).c0
          have q1 := (((own2 w2 (.int .i64 0) (.int .i64 0) 23).other hne 0 (.int .i64 m1)).other hne 1 (.int .i64 m2)).c1
          have q2 := (((own2 w2 (.int .i64 0) (.int .i64 0) 23).other hne 0 (.int .i64 m1)).other hne 1 (.int .i64 m2)).f0
          have q3 := (((own2 w2 (.int .i64 0) (.int .i64 0) 23).other hne 0 (.int .i64 m1)).other hne 1 (.int .i64 m2)).f1
          go_simp
          refine hK.out _ _ ?_ (fun _hHeldS9 => ?_)
          · exact ((((belowT H2 (below1 _ _)).setCell (p := ⟨W0.heap.size, 0, none⟩) (show W0.heap.size ≤ W0.heap.size by omega) _).setCell (p := ⟨W0.heap.size, 1, none⟩) (show W0.heap.size ≤ W0.heap.size by omega) _).setCell (p := ⟨w2.heap.size, 0, none⟩) (show W0.heap.size ≤ w2.heap.size by omega) _).setCell (p := ⟨w2.heap.size, 1, none⟩) (show W0.heap.size ≤ w2.heap.size by omega) _
          clear hK KK
          try simp only [Act.put, List.setIfInBounds_toArray, List.set_cons_zero, List.set_cons_succ]
          refine wpAnyH_done (by as_aux_lemma => kernel_rfl) ?_ _
          refine NoPanic.normal ?_
          go_wp2_with fail
          go_meet
          exact ⟨_, _, rfl, rfl, ((((O6).more (.cells #[.int .i64 0, .int .i64 0] 23)).set (.int .i64 m1) (.int .i64 m2)).other hne.symm 0 (.int .i64 h1)).other hne.symm 1 (.int .i64 h2), (((own2 w2 (.int .i64 0) (.int .i64 0) 23).other hne 0 (.int .i64 m1)).other hne 1 (.int .i64 m2)).set (.int .i64 h1) (.int .i64 h2), ((((belowT H2 (below1 _ _)).setCell (p := ⟨W0.heap.size, 0, none⟩) (show W0.heap.size ≤ W0.heap.size by omega) _).setCell (p := ⟨W0.heap.size, 1, none⟩) (show W0.heap.size ≤ W0.heap.size by omega) _).setCell (p := ⟨w2.heap.size, 0, none⟩) (show W0.heap.size ≤ w2.heap.size by omega) _).setCell (p := ⟨w2.heap.size, 1, none⟩) (show W0.heap.size ≤ w2.heap.size by omega) _⟩
        · skip
          rw [if_pos (by rfl)]
          go_simp
          refine hK.out _ _ ?_ (fun _hHeldA7 => ?_)
          · first | exact belowT (by assumption) (below1 _ _) | exact (belowT (by assumption) (below1 _ _)).drew
          clear hK KK
          try simp only [Act.put, List.setIfInBounds_toArray, List.set_cons_zero, List.set_cons_succ]
          have hne : W0.heap.size ≠ w1.heap.size := by have := O6.lt; omega
          refine wpAnyH_ready (rs := [5]) (by as_aux_lemma => kernel_rfl) (by simp) ?_
          refine AllReadyH.cons (o := ({ dst := some 14, op := .call { callee := .value (.func 8), args := #[.tmp 12, .tmp 13], argTypes := #[23, 23] }, type := 23, pos := "law.go:24", after := #[{ on := 3, ground := .data }, { on := 4, ground := .data }, { on := 2, ground := .chain }], guard := none } : Oper)) rfl (fun KK hK => ?_) AllReadyH.nil
          rw [if_pos (by rfl)]
          go_simp
          go_at_call 8; refine (HL.out _ (belowT BW (by assumption))).mono ?_; rintro e w2 ⟨rfl, hb2⟩
          go_wp2_with fail
          refine hK.out _ _ ?_ (fun hHeld2 => ?_)
          · exact belowT (by assumption) hb2
          have O6 := ((O6).more (.cells #[.int .i64 0, .int .i64 0] 23)).keep hb2
          have O7 := (own2 w1 (.int .i64 0) (.int .i64 0) 23).keep hb2
          have H2 : Below W0.heap.size W0 w2 := by assumption
          have S2 := H2.size
          clear hK KK
          try simp only [Act.put, List.setIfInBounds_toArray, List.set_cons_zero, List.set_cons_succ]
          refine wpAnyH_ready (rs := [8]) (by as_aux_lemma => kernel_rfl) (by simp) ?_
          refine AllReadyH.cons (o := ({ dst := none, op := .store 23 (.tmp 7) (.tmp 11), type := 0, pos := "law.go:24", after := #[{ on := 6, ground := .data }, { on := 2, ground := .data }, { on := 5, ground := .chain }, { on := 0, ground := .phase }, { on := 1, ground := .phase }, { on := 2, ground := .phase }, { on := 3, ground := .textOnly Go.Departure.lateStores }, { on := 4, ground := .textOnly Go.Departure.lateStores }, { on := 5, ground := .textOnly Go.Departure.lateStoresUnsure }, { on := 6, ground := .phase }, { on := 7, ground := .phase }], guard := none } : Oper)) rfl (fun KK hK => ?_) AllReadyH.nil
          rw [if_pos (by rfl)]
          have p0 := (O6).c0
          have p1 := (O6).c1
          have p2 := (O6).f0
          have p3 := (O6).f1
          go_simp
          refine hK.out _ _ ?_ (fun _hHeldS8 => ?_)
          · exact ((H2).setCell (p := ⟨W0.heap.size, 0, none⟩) (show W0.heap.size ≤ W0.heap.size by omega) _).setCell (p := ⟨W0.heap.size, 1, none⟩) (show W0.heap.size ≤ W0.heap.size by omega) _
          clear hK KK
          try simp only [Act.put, List.setIfInBounds_toArray, List.set_cons_zero, List.set_cons_succ]
          refine wpAnyH_ready (rs := [9]) (by as_aux_lemma => kernel_rfl) (by simp) ?_
          refine AllReadyH.cons (o := ({ dst := none, op := .store 23 (.tmp 8) (.tmp 14), type := 0, pos := "law.go:24", after := #[{ on := 7, ground := .data }, { on := 5, ground := .data }, { on := 8, ground := .chain }, { on := 0, ground := .phase }, { on := 1, ground := .phase }, { on := 2, ground := .phase }, { on := 3, ground := .phase }, { on := 4, ground := .phase }, { on := 5, ground := .phase }, { on := 6, ground := .phase }, { on := 7, ground := .phase }, { on := 8, ground := .phase }], guard := none } : Oper)) rfl (fun KK hK => ?_) AllReadyH.nil
          rw [if_pos (by rfl)]
          have q0 := (((O7).other hne 0 (.int .i64 m1)).other hne 1 (.int .i64 m2)).c0
          have q1 := (((O7).other hne 0 (.int .i64 m1)).other hne 1 (.int .i64 m2)).c1
          have q2 := (((O7).other hne 0 (.int .i64 m1)).other hne 1 (.int .i64 m2)).f0
          have q3 := (((O7).other hne 0 (.int .i64 m1)).other hne 1 (.int .i64 m2)).f1
          go_simp
          refine hK.out _ _ ?_ (fun _hHeldS9 => ?_)
          · exact ((((H2).setCell (p := ⟨W0.heap.size, 0, none⟩) (show W0.heap.size ≤ W0.heap.size by omega) _).setCell (p := ⟨W0.heap.size, 1, none⟩) (show W0.heap.size ≤ W0.heap.size by omega) _).setCell (p := ⟨w1.heap.size, 0, none⟩) (show W0.heap.size ≤ w1.heap.size by omega) _).setCell (p := ⟨w1.heap.size, 1, none⟩) (show W0.heap.size ≤ w1.heap.size by omega) _
          clear hK KK
          try simp only [Act.put, List.setIfInBounds_toArray, List.set_cons_zero, List.set_cons_succ]
          refine wpAnyH_done (by as_aux_lemma => kernel_rfl) ?_ _
          refine NoPanic.normal ?_
          go_wp2_with fail
          go_meet
          exact ⟨_, _, rfl, rfl, (((O6).set (.int .i64 m1) (.int .i64 m2)).other hne.symm 0 (.int .i64 h1)).other hne.symm 1 (.int .i64 h2), (((O7).other hne 0 (.int .i64 m1)).other hne 1 (.int .i64 m2)).set (.int .i64 h1) (.int .i64 h2), ((((H2).setCell (p := ⟨W0.heap.size, 0, none⟩) (show W0.heap.size ≤ W0.heap.size by omega) _).setCell (p := ⟨W0.heap.size, 1, none⟩) (show W0.heap.size ≤ W0.heap.size by omega) _).setCell (p := ⟨w1.heap.size, 0, none⟩) (show W0.heap.size ≤ w1.heap.size by omega) _).setCell (p := ⟨w1.heap.size, 1, none⟩) (show W0.heap.size ≤ w1.heap.size by omega) _⟩
      · skip
        rw [if_pos (by rfl)]
        go_simp
        refine hK.out _ _ ?_ (fun _hHeldA7 => ?_)
        · first | exact below2 W0 (.cells #[.int .i64 0, .int .i64 0] 23) (.cells #[.int .i64 0, .int .i64 0] 23) | exact (below2 W0 (.cells #[.int .i64 0, .int .i64 0] 23) (.cells #[.int .i64 0, .int .i64 0] 23)).drew
        clear hK KK
        try simp only [Act.put, List.setIfInBounds_toArray, List.set_cons_zero, List.set_cons_succ]
        have hne : W0.heap.size ≠ W0.heap.size + 1 := by omega
        refine wpAnyH_ready (rs := [2]) (by as_aux_lemma => kernel_rfl) (by simp) ?_
        refine AllReadyH.cons (o := ({ dst := some 11, op := .call { callee := .value (.func 7), args := #[.tmp 9, .tmp 10], argTypes := #[23, 23] }, type := 23, pos := "law.go:24", after := #[{ on := 0, ground := .data }, { on := 1, ground := .data }], guard := none } : Oper)) rfl (fun KK hK => ?_) AllReadyH.nil
        rw [if_pos (by rfl)]
        go_simp
        go_at_call 7; refine (MT.out _ (belowT BW (by assumption))).mono ?_; rintro e w1 ⟨rfl, hb1⟩
        go_wp2_with fail
        refine hK.out _ _ ?_ (fun hHeld1 => ?_)
        · exact belowT (by assumption) hb1
        have O6 := (((own2 W0 (.int .i64 0) (.int .i64 0) 23).more (.cells #[.int .i64 0, .int .i64 0] 23)).drew).keep hb1
        have O7 := ((own2b W0 (.cells #[.int .i64 0, .int .i64 0] 23) (.int .i64 0) (.int .i64 0) 23).drew).keep hb1
        have H1 : Below W0.heap.size W0 w1 := by assumption
        have S1 := H1.size
        clear hK KK
        try simp only [Act.put, List.setIfInBounds_toArray, List.set_cons_zero, List.set_cons_succ]
        refine wpAnyH_ready (rs := [5]) (by as_aux_lemma => kernel_rfl) (by simp) ?_
        refine AllReadyH.cons (o := ({ dst := some 14, op := .call { callee := .value (.func 8), args := #[.tmp 12, .tmp 13], argTypes := #[23, 23] }, type := 23, pos := "law.go:24", after := #[{ on := 3, ground := .data }, { on := 4, ground := .data }, { on := 2, ground := .chain }], guard := none } : Oper)) rfl (fun KK hK => ?_) AllReadyH.nil
        rw [if_pos (by rfl)]
        go_simp
        go_at_call 8; refine (HL.out _ (belowT BW (by assumption))).mono ?_; rintro e w2 ⟨rfl, hb2⟩
        go_wp2_with fail
        refine hK.out _ _ ?_ (fun hHeld2 => ?_)
        · exact belowT (by assumption) hb2
        have O6 := (O6).keep hb2
        have O7 := (O7).keep hb2
        have H2 : Below W0.heap.size W0 w2 := by assumption
        have S2 := H2.size
        clear hK KK
        try simp only [Act.put, List.setIfInBounds_toArray, List.set_cons_zero, List.set_cons_succ]
        refine wpAnyH_ready (rs := [8]) (by as_aux_lemma => kernel_rfl) (by simp) ?_
        refine AllReadyH.cons (o := ({ dst := none, op := .store 23 (.tmp 7) (.tmp 11), type := 0, pos := "law.go:24", after := #[{ on := 6, ground := .data }, { on := 2, ground := .data }, { on := 5, ground := .chain }, { on := 0, ground := .phase }, { on := 1, ground := .phase }, { on := 2, ground := .phase }, { on := 3, ground := .textOnly Go.Departure.lateStores }, { on := 4, ground := .textOnly Go.Departure.lateStores }, { on := 5, ground := .textOnly Go.Departure.lateStoresUnsure }, { on := 6, ground := .phase }, { on := 7, ground := .phase }], guard := none } : Oper)) rfl (fun KK hK => ?_) AllReadyH.nil
        rw [if_pos (by rfl)]
        have p0 := (O6).c0
        have p1 := (O6).c1
        have p2 := (O6).f0
        have p3 := (O6).f1
        go_simp
        refine hK.out _ _ ?_ (fun _hHeldS8 => ?_)
        · exact ((H2).setCell (p := ⟨W0.heap.size, 0, none⟩) (show W0.heap.size ≤ W0.heap.size by omega) _).setCell (p := ⟨W0.heap.size, 1, none⟩) (show W0.heap.size ≤ W0.heap.size by omega) _
        clear hK KK
        try simp only [Act.put, List.setIfInBounds_toArray, List.set_cons_zero, List.set_cons_succ]
        refine wpAnyH_ready (rs := [9]) (by as_aux_lemma => kernel_rfl) (by simp) ?_
        refine AllReadyH.cons (o := ({ dst := none, op := .store 23 (.tmp 8) (.tmp 14), type := 0, pos := "law.go:24", after := #[{ on := 7, ground := .data }, { on := 5, ground := .data }, { on := 8, ground := .chain }, { on := 0, ground := .phase }, { on := 1, ground := .phase }, { on := 2, ground := .phase }, { on := 3, ground := .phase }, { on := 4, ground := .phase }, { on := 5, ground := .phase }, { on := 6, ground := .phase }, { on := 7, ground := .phase }, { on := 8, ground := .phase }], guard := none } : Oper)) rfl (fun KK hK => ?_) AllReadyH.nil
        rw [if_pos (by rfl)]
        have q0 := (((O7).other hne 0 (.int .i64 m1)).other hne 1 (.int .i64 m2)).c0
        have q1 := (((O7).other hne 0 (.int .i64 m1)).other hne 1 (.int .i64 m2)).c1
        have q2 := (((O7).other hne 0 (.int .i64 m1)).other hne 1 (.int .i64 m2)).f0
        have q3 := (((O7).other hne 0 (.int .i64 m1)).other hne 1 (.int .i64 m2)).f1
        go_simp
        refine hK.out _ _ ?_ (fun _hHeldS9 => ?_)
        · exact ((((H2).setCell (p := ⟨W0.heap.size, 0, none⟩) (show W0.heap.size ≤ W0.heap.size by omega) _).setCell (p := ⟨W0.heap.size, 1, none⟩) (show W0.heap.size ≤ W0.heap.size by omega) _).setCell (p := ⟨W0.heap.size + 1, 0, none⟩) (show W0.heap.size ≤ W0.heap.size + 1 by omega) _).setCell (p := ⟨W0.heap.size + 1, 1, none⟩) (show W0.heap.size ≤ W0.heap.size + 1 by omega) _
        clear hK KK
        try simp only [Act.put, List.setIfInBounds_toArray, List.set_cons_zero, List.set_cons_succ]
        refine wpAnyH_done (by as_aux_lemma => kernel_rfl) ?_ _
        refine NoPanic.normal ?_
        go_wp2_with fail
        go_meet
        exact ⟨_, _, rfl, rfl, (((O6).set (.int .i64 m1) (.int .i64 m2)).other hne.symm 0 (.int .i64 h1)).other hne.symm 1 (.int .i64 h2), (((O7).other hne 0 (.int .i64 m1)).other hne 1 (.int .i64 m2)).set (.int .i64 h1) (.int .i64 h2), ((((H2).setCell (p := ⟨W0.heap.size, 0, none⟩) (show W0.heap.size ≤ W0.heap.size by omega) _).setCell (p := ⟨W0.heap.size, 1, none⟩) (show W0.heap.size ≤ W0.heap.size by omega) _).setCell (p := ⟨W0.heap.size + 1, 0, none⟩) (show W0.heap.size ≤ W0.heap.size + 1 by omega) _).setCell (p := ⟨W0.heap.size + 1, 1, none⟩) (show W0.heap.size ≤ W0.heap.size + 1 by omega) _⟩
    · skip
      rw [if_pos (by rfl)]
      go_simp
      refine hK.out _ _ ?_ (fun _hHeldA7 => ?_)
      · first | exact below1 W0 (.cells #[.int .i64 0, .int .i64 0] 23) | exact (below1 W0 (.cells #[.int .i64 0, .int .i64 0] 23)).drew
      clear hK KK
      try simp only [Act.put, List.setIfInBounds_toArray, List.set_cons_zero, List.set_cons_succ]
      refine wpAnyH_ready (rs := [2, 6]) (by as_aux_lemma => kernel_rfl) (by simp) ?_
      refine AllReadyH.cons (o := ({ dst := some 11, op := .call { callee := .value (.func 7), args := #[.tmp 9, .tmp 10], argTypes := #[23, 23] }, type := 23, pos := "law.go:24", after := #[{ on := 0, ground := .data }, { on := 1, ground := .data }], guard := none } : Oper)) rfl (fun KK hK => ?_) (AllReadyH.cons (o := ({ dst := some 7, op := .alloc 23, type := 0, pos := "law.go:24", after := #[], guard := none } : Oper)) rfl (fun KK hK => ?_) AllReadyH.nil)
      · skip
        rw [if_pos (by rfl)]
        go_simp
        go_at_call 7; refine (MT.out _ (belowT BW (by assumption))).mono ?_; rintro e w1 ⟨rfl, hb1⟩
        go_wp2_with fail
        refine hK.out _ _ ?_ (fun hHeld1 => ?_)
        · exact belowT (by assumption) hb1
        have O7 := ((own2 W0 (.int .i64 0) (.int .i64 0) 23).drew).keep hb1
        have H1 : Below W0.heap.size W0 w1 := by assumption
        have S1 := H1.size
        clear hK KK
        try simp only [Act.put, List.setIfInBounds_toArray, List.set_cons_zero, List.set_cons_succ]
        refine wpAnyH_ready (rs := [5, 6]) (by as_aux_lemma => kernel_rfl) (by simp) ?_
        refine AllReadyH.cons (o := ({ dst := some 14, op := .call { callee := .value (.func 8), args := #[.tmp 12, .tmp 13], argTypes := #[23, 23] }, type := 23, pos := "law.go:24", after := #[{ on := 3, ground := .data }, { on := 4, ground := .data }, { on := 2, ground := .chain }], guard := none } : Oper)) rfl (fun KK hK => ?_) (AllReadyH.cons (o := ({ dst := some 7, op := .alloc 23, type := 0, pos := "law.go:24", after := #[], guard := none } : Oper)) rfl (fun KK hK => ?_) AllReadyH.nil)
        · skip
          rw [if_pos (by rfl)]
          go_simp
          go_at_call 8; refine (HL.out _ (belowT BW (by assumption))).mono ?_; rintro e w2 ⟨rfl, hb2⟩
          go_wp2_with fail
          refine hK.out _ _ ?_ (fun hHeld2 => ?_)
          · exact belowT (by assumption) hb2
          have O7 := (O7).keep hb2
          have H2 : Below W0.heap.size W0 w2 := by assumption
          have S2 := H2.size
          clear hK KK
          try simp only [Act.put, List.setIfInBounds_toArray, List.set_cons_zero, List.set_cons_succ]
          refine wpAnyH_ready (rs := [6]) (by as_aux_lemma => kernel_rfl) (by simp) ?_
          refine AllReadyH.cons (o := ({ dst := some 7, op := .alloc 23, type := 0, pos := "law.go:24", after := #[], guard := none } : Oper)) rfl (fun KK hK => ?_) AllReadyH.nil
          rw [if_pos (by rfl)]
          go_simp
          refine hK.out _ _ ?_ (fun _hHeldA6 => ?_)
          · first | exact belowT (by assumption) (below1 _ _) | exact (belowT (by assumption) (below1 _ _)).drew
          clear hK KK
          try simp only [Act.put, List.setIfInBounds_toArray, List.set_cons_zero, List.set_cons_succ]
          have hne : W0.heap.size ≠ w2.heap.size := by have := O7.lt; omega
          refine wpAnyH_ready (rs := [8]) (by as_aux_lemma => kernel_rfl) (by simp) ?_
          refine AllReadyH.cons (o := ({ dst := none, op := .store 23 (.tmp 7) (.tmp 11), type := 0, pos := "law.go:24", after := #[{ on := 6, ground := .data }, { on := 2, ground := .data }, { on := 5, ground := .chain }, { on := 0, ground := .phase }, { on := 1, ground := .phase }, { on := 2, ground := .phase }, { on := 3, ground := .textOnly Go.Departure.lateStores }, { on := 4, ground := .textOnly Go.Departure.lateStores }, { on := 5, ground := .textOnly Go.Departure.lateStoresUnsure }, { on := 6, ground := .phase }, { on := 7, ground := .phase }], guard := none } : Oper)) rfl (fun KK hK => ?_) AllReadyH.nil
          rw [if_pos (by rfl)]
          have p0 := (own2 w2 (.int .i64 0) (.int .i64 0) 23).c0
          have p1 := (own2 w2 (.int .i64 0) (.int .i64 0) 23).c1
          have p2 := (own2 w2 (.int .i64 0) (.int .i64 0) 23).f0
          have p3 := (own2 w2 (.int .i64 0) (.int .i64 0) 23).f1
          go_simp
          refine hK.out _ _ ?_ (fun _hHeldS8 => ?_)
          · exact belowT H2 (below1 _ _)
          clear hK KK
          try simp only [Act.put, List.setIfInBounds_toArray, List.set_cons_zero, List.set_cons_succ]
          refine wpAnyH_ready (rs := [9]) (by as_aux_lemma => kernel_rfl) (by simp) ?_
          refine AllReadyH.cons (o := ({ dst := none, op := .store 23 (.tmp 8) (.tmp 14), type := 0, pos := "law.go:24", after := #[{ on := 7, ground := .data }, { on := 5, ground := .data }, { on := 8, ground := .chain }, { on := 0, ground := .phase }, { on := 1, ground := .phase }, { on := 2, ground := .phase }, { on := 3, ground := .phase }, { on := 4, ground := .phase }, { on := 5, ground := .phase }, { on := 6, ground := .phase }, { on := 7, ground := .phase }, { on := 8, ground := .phase }], guard := none } : Oper)) rfl (fun KK hK => ?_) AllReadyH.nil
          rw [if_pos (by rfl)]
          have q0 := ((O7).more (.cells #[.int .i64 m1, .int .i64 m2] 23)).c0
          have q1 := ((O7).more (.cells #[.int .i64 m1, .int .i64 m2] 23)).c1
          have q2 := ((O7).more (.cells #[.int .i64 m1, .int .i64 m2] 23)).f0
          have q3 := ((O7).more (.cells #[.int .i64 m1, .int .i64 m2] 23)).f1
          go_simp
          refine hK.out _ _ ?_ (fun _hHeldS9 => ?_)
          · exact ((belowT H2 (below1 _ _)).setCell (p := ⟨W0.heap.size, 0, none⟩) (show W0.heap.size ≤ W0.heap.size by omega) _).setCell (p := ⟨W0.heap.size, 1, none⟩) (show W0.heap.size ≤ W0.heap.size by omega) _
          clear hK KK
          try simp only [Act.put, List.setIfInBounds_toArray, List.set_cons_zero, List.set_cons_succ]
          refine wpAnyH_done (by as_aux_lemma => kernel_rfl) ?_ _
          refine NoPanic.normal ?_
          go_wp2_with fail
          go_meet
          exact ⟨_, _, rfl, rfl, ((own2 w2 (.int .i64 m1) (.int .i64 m2) 23).other hne 0 (.int .i64 h1)).other hne 1 (.int .i64 h2), ((O7).more (.cells #[.int .i64 m1, .int .i64 m2] 23)).set (.int .i64 h1) (.int .i64 h2), ((belowT H2 (below1 _ _)).setCell (p := ⟨W0.heap.size, 0, none⟩) (show W0.heap.size ≤ W0.heap.size by omega) _).setCell (p := ⟨W0.heap.size, 1, none⟩) (show W0.heap.size ≤ W0.heap.size by omega) _⟩
        · skip
          rw [if_pos (by rfl)]
          go_simp
          refine hK.out _ _ ?_ (fun _hHeldA6 => ?_)
          · first | exact belowT (by assumption) (below1 _ _) | exact (belowT (by assumption) (below1 _ _)).drew
          clear hK KK
          try simp only [Act.put, List.setIfInBounds_toArray, List.set_cons_zero, List.set_cons_succ]
          have hne : W0.heap.size ≠ w1.heap.size := by have := O7.lt; omega
          refine wpAnyH_ready (rs := [5]) (by as_aux_lemma => kernel_rfl) (by simp) ?_
          refine AllReadyH.cons (o := ({ dst := some 14, op := .call { callee := .value (.func 8), args := #[.tmp 12, .tmp 13], argTypes := #[23, 23] }, type := 23, pos := "law.go:24", after := #[{ on := 3, ground := .data }, { on := 4, ground := .data }, { on := 2, ground := .chain }], guard := none } : Oper)) rfl (fun KK hK => ?_) AllReadyH.nil
          rw [if_pos (by rfl)]
          go_simp
          go_at_call 8; refine (HL.out _ (belowT BW (by assumption))).mono ?_; rintro e w2 ⟨rfl, hb2⟩
          go_wp2_with fail
          refine hK.out _ _ ?_ (fun hHeld2 => ?_)
          · exact belowT (by assumption) hb2
          have O6 := (own2 w1 (.int .i64 0) (.int .i64 0) 23).keep hb2
          have O7 := ((O7).more (.cells #[.int .i64 0, .int .i64 0] 23)).keep hb2
          have H2 : Below W0.heap.size W0 w2 := by assumption
          have S2 := H2.size
          clear hK KK
          try simp only [Act.put, List.setIfInBounds_toArray, List.set_cons_zero, List.set_cons_succ]
          refine wpAnyH_ready (rs := [8]) (by as_aux_lemma => kernel_rfl) (by simp) ?_
          refine AllReadyH.cons (o := ({ dst := none, op := .store 23 (.tmp 7) (.tmp 11), type := 0, pos := "law.go:24", after := #[{ on := 6, ground := .data }, { on := 2, ground := .data }, { on := 5, ground := .chain }, { on := 0, ground := .phase }, { on := 1, ground := .phase }, { on := 2, ground := .phase }, { on := 3, ground := .textOnly Go.Departure.lateStores }, { on := 4, ground := .textOnly Go.Departure.lateStores }, { on := 5, ground := .textOnly Go.Departure.lateStoresUnsure }, { on := 6, ground := .phase }, { on := 7, ground := .phase }], guard := none } : Oper)) rfl (fun KK hK => ?_) AllReadyH.nil
          rw [if_pos (by rfl)]
          have p0 := (O6).c0
          have p1 := (O6).c1
          have p2 := (O6).f0
          have p3 := (O6).f1
          go_simp
          refine hK.out _ _ ?_ (fun _hHeldS8 => ?_)
          · exact ((H2).setCell (p := ⟨w1.heap.size, 0, none⟩) (show W0.heap.size ≤ w1.heap.size by omega) _).setCell (p := ⟨w1.heap.size, 1, none⟩) (show W0.heap.size ≤ w1.heap.size by omega) _
          clear hK KK
          try simp only [Act.put, List.setIfInBounds_toArray, List.set_cons_zero, List.set_cons_succ]
          refine wpAnyH_ready (rs := [9]) (by as_aux_lemma => kernel_rfl) (by simp) ?_
          refine AllReadyH.cons (o := ({ dst := none, op := .store 23 (.tmp 8) (.tmp 14), type := 0, pos := "law.go:24", after := #[{ on := 7, ground := .data }, { on := 5, ground := .data }, { on := 8, ground := .chain }, { on := 0, ground := .phase }, { on := 1, ground := .phase }, { on := 2, ground := .phase }, { on := 3, ground := .phase }, { on := 4, ground := .phase }, { on := 5, ground := .phase }, { on := 6, ground := .phase }, { on := 7, ground := .phase }, { on := 8, ground := .phase }], guard := none } : Oper)) rfl (fun KK hK => ?_) AllReadyH.nil
          rw [if_pos (by rfl)]
          have q0 := (((O7).other hne.symm 0 (.int .i64 m1)).other hne.symm 1 (.int .i64 m2)).c0
          have q1 := (((O7).other hne.symm 0 (.int .i64 m1)).other hne.symm 1 (.int .i64 m2)).c1
          have q2 := (((O7).other hne.symm 0 (.int .i64 m1)).other hne.symm 1 (.int .i64 m2)).f0
          have q3 := (((O7).other hne.symm 0 (.int .i64 m1)).other hne.symm 1 (.int .i64 m2)).f1
          go_simp
          refine hK.out _ _ ?_ (fun _hHeldS9 => ?_)
          · exact ((((H2).setCell (p := ⟨w1.heap.size, 0, none⟩) (show W0.heap.size ≤ w1.heap.size by omega) _).setCell (p := ⟨w1.heap.size, 1, none⟩) (show W0.heap.size ≤ w1.heap.size by omega) _).setCell (p := ⟨W0.heap.size, 0, none⟩) (show W0.heap.size ≤ W0.heap.size by omega) _).setCell (p := ⟨W0.heap.size, 1, none⟩) (show W0.heap.size ≤ W0.heap.size by omega) _
          clear hK KK
          try simp only [Act.put, List.setIfInBounds_toArray, List.set_cons_zero, List.set_cons_succ]
          refine wpAnyH_done (by as_aux_lemma => kernel_rfl) ?_ _
          refine NoPanic.normal ?_
          go_wp2_with fail
          go_meet
          exact ⟨_, _, rfl, rfl, (((O6).set (.int .i64 m1) (.int .i64 m2)).other hne 0 (.int .i64 h1)).other hne 1 (.int .i64 h2), (((O7).other hne.symm 0 (.int .i64 m1)).other hne.symm 1 (.int .i64 m2)).set (.int .i64 h1) (.int .i64 h2), ((((H2).setCell (p := ⟨w1.heap.size, 0, none⟩) (show W0.heap.size ≤ w1.heap.size by omega) _).setCell (p := ⟨w1.heap.size, 1, none⟩) (show W0.heap.size ≤ w1.heap.size by omega) _).setCell (p := ⟨W0.heap.size, 0, none⟩) (show W0.heap.size ≤ W0.heap.size by omega) _).setCell (p := ⟨W0.heap.size, 1, none⟩) (show W0.heap.size ≤ W0.heap.size by omega) _⟩
      · skip
        rw [if_pos (by rfl)]
        go_simp
        refine hK.out _ _ ?_ (fun _hHeldA6 => ?_)
        · first | exact below2 W0 (.cells #[.int .i64 0, .int .i64 0] 23) (.cells #[.int .i64 0, .int .i64 0] 23) | exact (below2 W0 (.cells #[.int .i64 0, .int .i64 0] 23) (.cells #[.int .i64 0, .int .i64 0] 23)).drew
        clear hK KK
        try simp only [Act.put, List.setIfInBounds_toArray, List.set_cons_zero, List.set_cons_succ]
        have hne : W0.heap.size ≠ W0.heap.size + 1 := by omega
        refine wpAnyH_ready (rs := [2]) (by as_aux_lemma => kernel_rfl) (by simp) ?_
        refine AllReadyH.cons (o := ({ dst := some 11, op := .call { callee := .value (.func 7), args := #[.tmp 9, .tmp 10], argTypes := #[23, 23] }, type := 23, pos := "law.go:24", after := #[{ on := 0, ground := .data }, { on := 1, ground := .data }], guard := none } : Oper)) rfl (fun KK hK => ?_) AllReadyH.nil
        rw [if_pos (by rfl)]
        go_simp
        go_at_call 7; refine (MT.out _ (belowT BW (by assumption))).mono ?_; rintro e w1 ⟨rfl, hb1⟩
        go_wp2_with fail
        refine hK.out _ _ ?_ (fun hHeld1 => ?_)
        · exact belowT (by assumption) hb1
        have O6 := ((own2b W0 (.cells #[.int .i64 0, .int .i64 0] 23) (.int .i64 0) (.int .i64 0) 23).drew).keep hb1
        have O7 := (((own2 W0 (.int .i64 0) (.int .i64 0) 23).more (.cells #[.int .i64 0, .int .i64 0] 23)).drew).keep hb1
        have H1 : Below W0.heap.size W0 w1 := by assumption
        have S1 := H1.size
        clear hK KK
        try simp only [Act.put, List.setIfInBounds_toArray, List.set_cons_zero, List.set_cons_succ]
        refine wpAnyH_ready (rs := [5]) (by as_aux_lemma => kernel_rfl) (by simp) ?_
        refine AllReadyH.cons (o := ({ dst := some 14, op := .call { callee := .value (.func 8), args := #[.tmp 12, .tmp 13], argTypes := #[23, 23] }, type := 23, pos := "law.go:24", after := #[{ on := 3, ground := .data }, { on := 4, ground := .data }, { on := 2, ground := .chain }], guard := none } : Oper)) rfl (fun KK hK => ?_) AllReadyH.nil
        rw [if_pos (by rfl)]
        go_simp
        go_at_call 8; refine (HL.out _ (belowT BW (by assumption))).mono ?_; rintro e w2 ⟨rfl, hb2⟩
        go_wp2_with fail
        refine hK.out _ _ ?_ (fun hHeld2 => ?_)
        · exact belowT (by assumption) hb2
        have O6 := (O6).keep hb2
        have O7 := (O7).keep hb2
        have H2 : Below W0.heap.size W0 w2 := by assumption
        have S2 := H2.size
        clear hK KK
        try simp only [Act.put, List.setIfInBounds_toArray, List.set_cons_zero, List.set_cons_succ]
        refine wpAnyH_ready (rs := [8]) (by as_aux_lemma => kernel_rfl) (by simp) ?_
        refine AllReadyH.cons (o := ({ dst := none, op := .store 23 (.tmp 7) (.tmp 11), type := 0, pos := "law.go:24", after := #[{ on := 6, ground := .data }, { on := 2, ground := .data }, { on := 5, ground := .chain }, { on := 0, ground := .phase }, { on := 1, ground := .phase }, { on := 2, ground := .phase }, { on := 3, ground := .textOnly Go.Departure.lateStores }, { on := 4, ground := .textOnly Go.Departure.lateStores }, { on := 5, ground := .textOnly Go.Departure.lateStoresUnsure }, { on := 6, ground := .phase }, { on := 7, ground := .phase }], guard := none } : Oper)) rfl (fun KK hK => ?_) AllReadyH.nil
        rw [if_pos (by rfl)]
        have p0 := (O6).c0
        have p1 := (O6).c1
        have p2 := (O6).f0
        have p3 := (O6).f1
        go_simp
        refine hK.out _ _ ?_ (fun _hHeldS8 => ?_)
        · exact ((H2).setCell (p := ⟨W0.heap.size + 1, 0, none⟩) (show W0.heap.size ≤ W0.heap.size + 1 by omega) _).setCell (p := ⟨W0.heap.size + 1, 1, none⟩) (show W0.heap.size ≤ W0.heap.size + 1 by omega) _
        clear hK KK
        try simp only [Act.put, List.setIfInBounds_toArray, List.set_cons_zero, List.set_cons_succ]
        refine wpAnyH_ready (rs := [9]) (by as_aux_lemma => kernel_rfl) (by simp) ?_
        refine AllReadyH.cons (o := ({ dst := none, op := .store 23 (.tmp 8) (.tmp 14), type := 0, pos := "law.go:24", after := #[{ on := 7, ground := .data }, { on := 5, ground := .data }, { on := 8, ground := .chain }, { on := 0, ground := .phase }, { on := 1, ground := .phase }, { on := 2, ground := .phase }, { on := 3, ground := .phase }, { on := 4, ground := .phase }, { on := 5, ground := .phase }, { on := 6, ground := .phase }, { on := 7, ground := .phase }, { on := 8, ground := .phase }], guard := none } : Oper)) rfl (fun KK hK => ?_) AllReadyH.nil
        rw [if_pos (by rfl)]
        have q0 := (((O7).other hne.symm 0 (.int .i64 m1)).other hne.symm 1 (.int .i64 m2)).c0
        have q1 := (((O7).other hne.symm 0 (.int .i64 m1)).other hne.symm 1 (.int .i64 m2)).c1
        have q2 := (((O7).other hne.symm 0 (.int .i64 m1)).other hne.symm 1 (.int .i64 m2)).f0
        have q3 := (((O7).other hne.symm 0 (.int .i64 m1)).other hne.symm 1 (.int .i64 m2)).f1
        go_simp
        refine hK.out _ _ ?_ (fun _hHeldS9 => ?_)
        · exact ((((H2).setCell (p := ⟨W0.heap.size + 1, 0, none⟩) (show W0.heap.size ≤ W0.heap.size + 1 by omega) _).setCell (p := ⟨W0.heap.size + 1, 1, none⟩) (show W0.heap.size ≤ W0.heap.size + 1 by omega) _).setCell (p := ⟨W0.heap.size, 0, none⟩) (show W0.heap.size ≤ W0.heap.size by omega) _).setCell (p := ⟨W0.heap.size, 1, none⟩) (show W0.heap.size ≤ W0.heap.size by omega) _
        clear hK KK
        try simp only [Act.put, List.setIfInBounds_toArray, List.set_cons_zero, List.set_cons_succ]
        refine wpAnyH_done (by as_aux_lemma => kernel_rfl) ?_ _
        refine NoPanic.normal ?_
        go_wp2_with fail
        go_meet
        exact ⟨_, _, rfl, rfl, (((O6).set (.int .i64 m1) (.int .i64 m2)).other hne 0 (.int .i64 h1)).other hne 1 (.int .i64 h2), (((O7).other hne.symm 0 (.int .i64 m1)).other hne.symm 1 (.int .i64 m2)).set (.int .i64 h1) (.int .i64 h2), ((((H2).setCell (p := ⟨W0.heap.size + 1, 0, none⟩) (show W0.heap.size ≤ W0.heap.size + 1 by omega) _).setCell (p := ⟨W0.heap.size + 1, 1, none⟩) (show W0.heap.size ≤ W0.heap.size + 1 by omega) _).setCell (p := ⟨W0.heap.size, 0, none⟩) (show W0.heap.size ≤ W0.heap.size by omega) _).setCell (p := ⟨W0.heap.size, 1, none⟩) (show W0.heap.size ≤ W0.heap.size by omega) _⟩
  case rest =>
    rename World => wx
    obtain ⟨g, h, rfl, rfl, OG, OH, hbx⟩ := hcut
    have B1 := belowT BW hbx
    have X1 := X.keep hbx
    have Y1 := Y.keep hbx
    clear xr0 xr1 yr0 yr1
    have xr0 : ∀ w', Below wx.heap.size wx w' → w'.cell? ⟨w.heap.size + 1, 0, none⟩ = some (.int .i64 c) := fun w' hb => keepc hb X1.c0
    have xr1 : ∀ w', Below wx.heap.size wx w' → w'.cell? ⟨w.heap.size + 1, 1, none⟩ = some (.int .i64 d) := fun w' hb => keepc hb X1.c1
    have yr0 : ∀ w', Below wx.heap.size wx w' → w'.cell? ⟨w.heap.size, 0, none⟩ = some (.int .i64 a) := fun w' hb => keepc hb Y1.c0
    have yr1 : ∀ w', Below wx.heap.size wx w' → w'.cell? ⟨w.heap.size, 1, none⟩ = some (.int .i64 b) := fun w' hb => keepc hb Y1.c1
    have gr0 : ∀ w', Below wx.heap.size wx w' → w'.cell? ⟨g, 0, none⟩ = some (.int .i64 m1) := fun w' hb => keepc hb OG.c0
    have gr1 : ∀ w', Below wx.heap.size wx w' → w'.cell? ⟨g, 1, none⟩ = some (.int .i64 m2) := fun w' hb => keepc hb OG.c1
    have hr0 : ∀ w', Below wx.heap.size wx w' → w'.cell? ⟨h, 0, none⟩ = some (.int .i64 h1) := fun w' hb => keepc hb OH.c0
    have hr1 : ∀ w', Below wx.heap.size wx w' → w'.cell? ⟨h, 1, none⟩ = some (.int .i64 h2) := fun w' hb => keepc hb OH.c1
    go_upto_region 2 with fail
    go_cut [42] from 15 to 43 (fun v wy => v = .bool false ∧ Below wx.heap.size wx wy)
    case first =>
      rcases hk with ⟨rfl, rfl, rfl, rfl⟩ | ⟨rfl, rfl, rfl, rfl⟩ | ⟨rfl, rfl, rfl, rfl⟩ | ⟨rfl, rfl, rfl⟩
      · skip
        change (Code.region 2 meets2 true).wp Tryd.prog _ _ _
        refine wp_region_noPanic ?_
        refine wp_region_held_drew (S := fun w' => Below wx.heap.size wx w') (by kernel_rfl) ((Below.refl _ _).drew) (fun hHeld => ?_)
        refine wpAnyH_take (i := 0) (oi := ({ dst := some 15, op := .load 23 (.tmp 7), type := 23, pos := "law.go:25", after := #[], guard := none } : Oper)) (v := ?vs1_0) rfl meets2_plain (by as_aux_lemma => kernel_rfl) (by as_aux_lemma => kernel_rfl) (fun _ _ _ h => h) (Or.inl ⟨by rfl, ?ys1_0⟩) (by assumption) ?rs1_0
        case ys1_0 => (intro w hSw; (try dsimp only at hSw); go_simp; try with_reducible rfl)
        try simp only [Act.put, List.setIfInBounds_toArray, List.set_cons_zero, List.set_cons_succ]
        refine wpAnyH_take (i := 1) (oi := ({ dst := some 16, op := .move (.tmp 2), type := 2, pos := "law.go:25", after := #[], guard := none } : Oper)) (v := ?vs1_1) rfl meets2_plain (by as_aux_lemma => kernel_rfl) (by as_aux_lemma => kernel_rfl) (fun _ _ _ h => h) (Or.inl ⟨by rfl, ?ys1_1⟩) (by assumption) ?rs1_1
        case ys1_1 => (intro w hSw; (try dsimp only at hSw); go_simp; try with_reducible rfl)
        try simp only [Act.put, List.setIfInBounds_toArray, List.set_cons_zero, List.set_cons_succ]
        refine wpAnyH_take (i := 3) (oi := ({ dst := some 18, op := .load 23 (.tmp 3), type := 23, pos := "law.go:25", after := #[], guard := none } : Oper)) (v := ?vs1_3) rfl meets2_plain (by as_aux_lemma => kernel_rfl) (by as_aux_lemma => kernel_rfl) (fun _ _ _ h => h) (Or.inl ⟨by rfl, ?ys1_3⟩) (by assumption) ?rs1_3
        case ys1_3 => (intro w hSw; (try dsimp only at hSw); go_simp; try with_reducible rfl)
        try simp only [Act.put, List.setIfInBounds_toArray, List.set_cons_zero, List.set_cons_succ]
        refine wpAnyH_take (i := 4) (oi := ({ dst := some 19, op := .move (.tmp 2), type := 2, pos := "law.go:25", after := #[], guard := none } : Oper)) (v := ?vs1_4) rfl meets2_plain (by as_aux_lemma => kernel_rfl) (by as_aux_lemma => kernel_rfl) (fun _ _ _ h => h) (Or.inl ⟨by rfl, ?ys1_4⟩) (by assumption) ?rs1_4
        case ys1_4 => (intro w hSw; (try dsimp only at hSw); go_simp; try with_reducible rfl)
        try simp only [Act.put, List.setIfInBounds_toArray, List.set_cons_zero, List.set_cons_succ]
        refine wpAnyH_ready (rs := [2]) (by as_aux_lemma => kernel_rfl) (by simp) ?_
        refine AllReadyH.cons (o := ({ dst := some 17, op := .call { callee := .value (.func 9), args := #[.tmp 15, .tmp 16], argTypes := #[23, 2] }, type := 4, pos := "law.go:25", after := #[{ on := 0, ground := .data }, { on := 1, ground := .data }], guard := none } : Oper)) rfl (fun KK hK => ?_) AllReadyH.nil
        rw [if_pos (by rfl)]
        go_simp
        go_at_call 9; refine (KM.out _).mono ?_; rintro e w5 ⟨rfl, hb5⟩
        go_wp2_with fail
        refine hK.out _ _ ?_ (fun hHeld5 => ?_)
        · exact belowT (by assumption) hb5
        clear hK KK hb5
        try simp only [Act.put, List.setIfInBounds_toArray, List.set_cons_zero, List.set_cons_succ]
        refine wpAnyH_ready (rs := [5]) (by as_aux_lemma => kernel_rfl) (by simp) ?_
        refine AllReadyH.cons (o := ({ dst := some 20, op := .call { callee := .value (.func 9), args := #[.tmp 18, .tmp 19], argTypes := #[23, 2] }, type := 4, pos := "law.go:25", after := #[{ on := 3, ground := .data }, { on := 4, ground := .data }, { on := 2, ground := .chain }], guard := none } : Oper)) rfl (fun KK hK => ?_) AllReadyH.nil
        rw [if_pos (by rfl)]
        go_simp
        go_at_call 9; refine (KA.out _).mono ?_; rintro e w6 ⟨rfl, hb6⟩
        go_wp2_with fail
        refine hK.out _ _ ?_ (fun hHeld6 => ?_)
        · exact belowT (by assumption) hb6
        clear hK KK hb6 hHeld5
        try simp only [Act.put, List.setIfInBounds_toArray, List.set_cons_zero, List.set_cons_succ]
        refine wpAnyH_take (i := 6) (oi := ({ dst := some 21, op := .move (.tmp 20), type := 4, pos := "law.go:25", after := #[{ on := 5, ground := .data }, { on := 5, ground := .chain }], guard := none } : Oper)) (v := ?vs1_6) rfl meets2_plain (by as_aux_lemma => kernel_rfl) (by as_aux_lemma => kernel_rfl) (fun _ _ _ h => h) (Or.inl ⟨by rfl, ?ys1_6⟩) (by assumption) ?rs1_6
        case ys1_6 => (intro w hSw; (try dsimp only at hSw); go_simp; try with_reducible rfl)
        try simp only [Act.put, List.setIfInBounds_toArray, List.set_cons_zero, List.set_cons_succ]
        refine wpAnyH_take (i := 7) (oi := ({ dst := some 22, op := .load 23 (.tmp 4), type := 23, pos := "law.go:25", after := #[{ on := 6, ground := .guard }], guard := some (6, true) } : Oper)) (v := ?vs1_7) rfl meets2_plain (by as_aux_lemma => kernel_rfl) (by as_aux_lemma => kernel_rfl) (fun _ _ _ h => h) (Or.inl ⟨by rfl, ?ys1_7⟩) (by assumption) ?rs1_7
        case ys1_7 => (intro w hSw; (try dsimp only at hSw); go_simp; try with_reducible rfl)
        try simp only [Act.put, List.setIfInBounds_toArray, List.set_cons_zero, List.set_cons_succ]
        refine wpAnyH_take (i := 8) (oi := ({ dst := some 23, op := .move (.tmp 2), type := 2, pos := "law.go:25", after := #[{ on := 6, ground := .guard }], guard := some (6, true) } : Oper)) (v := ?vs1_8) rfl meets2_plain (by as_aux_lemma => kernel_rfl) (by as_aux_lemma => kernel_rfl) (fun _ _ _ h => h) (Or.inl ⟨by rfl, ?ys1_8⟩) (by assumption) ?rs1_8
        case ys1_8 => (intro w hSw; (try dsimp only at hSw); go_simp; try with_reducible rfl)
        try simp only [Act.put, List.setIfInBounds_toArray, List.set_cons_zero, List.set_cons_succ]
        refine wpAnyH_ready (rs := [9]) (by as_aux_lemma => kernel_rfl) (by simp) ?_
        refine AllReadyH.cons (o := ({ dst := some 24, op := .call { callee := .value (.func 9), args := #[.tmp 22, .tmp 23], argTypes := #[23, 2] }, type := 4, pos := "law.go:25", after := #[{ on := 7, ground := .data }, { on := 8, ground := .data }, { on := 6, ground := .chain }, { on := 6, ground := .guard }], guard := some (6, true) } : Oper)) rfl (fun KK hK => ?_) AllReadyH.nil
        rw [if_pos (by rfl)]
        go_simp
        go_at_call 9; refine (KB.out _).mono ?_; rintro e w7 ⟨rfl, hb7⟩
        go_wp2_with fail
        refine hK.out _ _ ?_ (fun hHeld7 => ?_)
        · exact belowT (by assumption) hb7
        clear hK KK hb7 hHeld6
        try simp only [Act.put, List.setIfInBounds_toArray, List.set_cons_zero, List.set_cons_succ]
        refine wpAnyH_take (i := 10) (oi := ({ dst := some 25, op := .pick (.tmp 21) (.tmp 24) (.const (.bool false)), type := 4, pos := "law.go:25", after := #[{ on := 6, ground := .data }, { on := 9, ground := .data }], guard := none } : Oper)) (v := ?vs1_10) rfl meets2_plain (by as_aux_lemma => kernel_rfl) (by as_aux_lemma => kernel_rfl) (fun _ _ _ h => h) (Or.inl ⟨by rfl, ?ys1_10⟩) (by assumption) ?rs1_10
        case ys1_10 => (intro w hSw; (try dsimp only at hSw); go_simp; try with_reducible rfl)
        try simp only [Act.put, List.setIfInBounds_toArray, List.set_cons_zero, List.set_cons_succ]
        refine wpAnyH_take (i := 11) (oi := ({ dst := some 26, op := .binOp .neq 4 (.tmp 17) (.tmp 25) 4, type := 4, pos := "law.go:25", after := #[{ on := 2, ground := .data }, { on := 10, ground := .data }], guard := none } : Oper)) (v := ?vs1_11) rfl meets2_plain (by as_aux_lemma => kernel_rfl) (by as_aux_lemma => kernel_rfl) (fun _ _ _ h => h) (Or.inl ⟨by rfl, ?ys1_11⟩) (by assumption) ?rs1_11
        case ys1_11 => (intro w hSw; (try dsimp only at hSw); go_simp; try with_reducible rfl)
        try simp only [Act.put, List.setIfInBounds_toArray, List.set_cons_zero, List.set_cons_succ]
        refine wpAnyH_take (i := 12) (oi := ({ dst := some 27, op := .move (.tmp 26), type := 4, pos := "law.go:25", after := #[{ on := 11, ground := .data }, { on := 9, ground := .chain }], guard := none } : Oper)) (v := ?vs1_12) rfl meets2_plain (by as_aux_lemma => kernel_rfl) (by as_aux_lemma => kernel_rfl) (fun _ _ _ h => h) (Or.inl ⟨by rfl, ?ys1_12⟩) (by assumption) ?rs1_12
        case ys1_12 => (intro w hSw; (try dsimp only at hSw); go_simp; try with_reducible rfl)
        try simp only [Act.put, List.setIfInBounds_toArray, List.set_cons_zero, List.set_cons_succ]
        refine wpAnyH_take (i := 13) (oi := ({ dst := some 28, op := .load 23 (.tmp 3), type := 23, pos := "law.go:25", after := #[{ on := 12, ground := .guard }], guard := some (12, false) } : Oper)) (v := ?vs1_13) rfl meets2_plain (by as_aux_lemma => kernel_rfl) (by as_aux_lemma => kernel_rfl) (fun _ _ _ h => h) (Or.inl ⟨by rfl, ?ys1_13⟩) (by assumption) ?rs1_13
        case ys1_13 => (intro w hSw; (try dsimp only at hSw); go_simp; try with_reducible rfl)
        try simp only [Act.put, List.setIfInBounds_toArray, List.set_cons_zero, List.set_cons_succ]
        refine wpAnyH_take (i := 14) (oi := ({ dst := some 29, op := .move (.tmp 2), type := 2, pos := "law.go:25", after := #[{ on := 12, ground := .guard }], guard := some (12, false) } : Oper)) (v := ?vs1_14) rfl meets2_plain (by as_aux_lemma => kernel_rfl) (by as_aux_lemma => kernel_rfl) (fun _ _ _ h => h) (Or.inl ⟨by rfl, ?ys1_14⟩) (by assumption) ?rs1_14
        case ys1_14 => (intro w hSw; (try dsimp only at hSw); go_simp; try with_reducible rfl)
        try simp only [Act.put, List.setIfInBounds_toArray, List.set_cons_zero, List.set_cons_succ]
        refine wpAnyH_ready (rs := [15]) (by as_aux_lemma => kernel_rfl) (by simp) ?_
        refine AllReadyH.cons (o := ({ dst := some 30, op := .call { callee := .value (.func 9), args := #[.tmp 28, .tmp 29], argTypes := #[23, 2] }, type := 4, pos := "law.go:25", after := #[{ on := 13, ground := .data }, { on := 14, ground := .data }, { on := 12, ground := .chain }, { on := 12, ground := .guard }], guard := some (12, false) } : Oper)) rfl (fun KK hK => ?_) AllReadyH.nil
        rw [if_pos (by rfl)]
        go_simp
        go_at_call 9; refine (KA.out _).mono ?_; rintro e w8 ⟨rfl, hb8⟩
        go_wp2_with fail
        refine hK.out _ _ ?_ (fun hHeld8 => ?_)
        · exact belowT (by assumption) hb8
        clear hK KK hb8 hHeld7
        try simp only [Act.put, List.setIfInBounds_toArray, List.set_cons_zero, List.set_cons_succ]
        refine wpAnyH_take (i := 16) (oi := ({ dst := some 31, op := .move (.tmp 30), type := 4, pos := "law.go:25", after := #[{ on := 15, ground := .data }, { on := 15, ground := .chain }, { on := 12, ground := .guard }], guard := some (12, false) } : Oper)) (v := ?vs1_16) rfl meets2_plain (by as_aux_lemma => kernel_rfl) (by as_aux_lemma => kernel_rfl) (fun _ _ _ h => h) (Or.inl ⟨by rfl, ?ys1_16⟩) (by assumption) ?rs1_16
        case ys1_16 => (intro w hSw; (try dsimp only at hSw); go_simp; try with_reducible rfl)
        try simp only [Act.put, List.setIfInBounds_toArray, List.set_cons_zero, List.set_cons_succ]
        refine wpAnyH_take (i := 17) (oi := ({ dst := some 32, op := .load 23 (.tmp 4), type := 23, pos := "law.go:25", after := #[{ on := 16, ground := .guard }], guard := some (16, false) } : Oper)) (v := undef) rfl meets2_plain (by as_aux_lemma => kernel_rfl) (by as_aux_lemma => kernel_rfl) (fun _ _ _ h => h) (Or.inr ⟨by rfl, rfl⟩) (by assumption) ?_
        try simp only [Act.put, List.setIfInBounds_toArray, List.set_cons_zero, List.set_cons_succ]
        refine wpAnyH_take (i := 18) (oi := ({ dst := some 33, op := .move (.tmp 2), type := 2, pos := "law.go:25", after := #[{ on := 16, ground := .guard }], guard := some (16, false) } : Oper)) (v := undef) rfl meets2_plain (by as_aux_lemma => kernel_rfl) (by as_aux_lemma => kernel_rfl) (fun _ _ _ h => h) (Or.inr ⟨by rfl, rfl⟩) (by assumption) ?_
        try simp only [Act.put, List.setIfInBounds_toArray, List.set_cons_zero, List.set_cons_succ]
        refine wpAnyH_take (i := 19) (oi := ({ dst := some 34, op := .call { callee := .value (.func 9), args := #[.tmp 32, .tmp 33], argTypes := #[23, 2] }, type := 4, pos := "law.go:25", after := #[{ on := 17, ground := .data }, { on := 18, ground := .data }, { on := 16, ground := .chain }, { on := 16, ground := .guard }], guard := some (16, false) } : Oper)) (v := undef) rfl meets2_plain (by as_aux_lemma => kernel_rfl) (by as_aux_lemma => kernel_rfl) (fun _ _ _ h => h) (Or.inr ⟨by rfl, rfl⟩) (by assumption) ?_
        try simp only [Act.put, List.setIfInBounds_toArray, List.set_cons_zero, List.set_cons_succ]
        refine wpAnyH_take (i := 20) (oi := ({ dst := some 35, op := .pick (.tmp 31) (.const (.bool true)) (.tmp 34), type := 4, pos := "law.go:25", after := #[{ on := 16, ground := .data }, { on := 19, ground := .data }, { on := 12, ground := .guard }], guard := some (12, false) } : Oper)) (v := ?vs1_20) rfl meets2_plain (by as_aux_lemma => kernel_rfl) (by as_aux_lemma => kernel_rfl) (fun _ _ _ h => h) (Or.inl ⟨by rfl, ?ys1_20⟩) (by assumption) ?rs1_20
        case ys1_20 => (intro w hSw; (try dsimp only at hSw); go_simp; try with_reducible rfl)
        try simp only [Act.put, List.setIfInBounds_toArray, List.set_cons_zero, List.set_cons_succ]
        refine wpAnyH_take (i := 21) (oi := ({ dst := some 36, op := .move (.tmp 35), type := 4, pos := "law.go:25", after := #[{ on := 20, ground := .data }, { on := 19, ground := .chain }, { on := 12, ground := .guard }], guard := some (12, false) } : Oper)) (v := ?vs1_21) rfl meets2_plain (by as_aux_lemma => kernel_rfl) (by as_aux_lemma => kernel_rfl) (fun _ _ _ h => h) (Or.inl ⟨by rfl, ?ys1_21⟩) (by assumption) ?rs1_21
        case ys1_21 => (intro w hSw; (try dsimp only at hSw); go_simp; try with_reducible rfl)
        try simp only [Act.put, List.setIfInBounds_toArray, List.set_cons_zero, List.set_cons_succ]
        refine wpAnyH_take (i := 22) (oi := ({ dst := some 37, op := .load 23 (.tmp 8), type := 23, pos := "law.go:25", after := #[{ on := 21, ground := .guard }], guard := some (21, true) } : Oper)) (v := ?vs1_22) rfl meets2_plain (by as_aux_lemma => kernel_rfl) (by as_aux_lemma => kernel_rfl) (fun _ _ _ h => h) (Or.inl ⟨by rfl, ?ys1_22⟩) (by assumption) ?rs1_22
        case ys1_22 => (intro w hSw; (try dsimp only at hSw); go_simp; try with_reducible rfl)
        try simp only [Act.put, List.setIfInBounds_toArray, List.set_cons_zero, List.set_cons_succ]
        refine wpAnyH_take (i := 23) (oi := ({ dst := some 38, op := .move (.tmp 2), type := 2, pos := "law.go:25", after := #[{ on := 21, ground := .guard }], guard := some (21, true) } : Oper)) (v := ?vs1_23) rfl meets2_plain (by as_aux_lemma => kernel_rfl) (by as_aux_lemma => kernel_rfl) (fun _ _ _ h => h) (Or.inl ⟨by rfl, ?ys1_23⟩) (by assumption) ?rs1_23
        case ys1_23 => (intro w hSw; (try dsimp only at hSw); go_simp; try with_reducible rfl)
        try simp only [Act.put, List.setIfInBounds_toArray, List.set_cons_zero, List.set_cons_succ]
        refine wpAnyH_ready (rs := [24]) (by as_aux_lemma => kernel_rfl) (by simp) ?_
        refine AllReadyH.cons (o := ({ dst := some 39, op := .call { callee := .value (.func 9), args := #[.tmp 37, .tmp 38], argTypes := #[23, 2] }, type := 4, pos := "law.go:25", after := #[{ on := 22, ground := .data }, { on := 23, ground := .data }, { on := 21, ground := .chain }, { on := 21, ground := .guard }], guard := some (21, true) } : Oper)) rfl (fun KK hK => ?_) AllReadyH.nil
        rw [if_pos (by rfl)]
        go_simp
        go_at_call 9; refine (KH.out _).mono ?_; rintro e w9 ⟨rfl, hb9⟩
        go_wp2_with fail
        refine hK.out _ _ ?_ (fun hHeld9 => ?_)
        · exact belowT (by assumption) hb9
        clear hK KK hb9 hHeld8
        try simp only [Act.put, List.setIfInBounds_toArray, List.set_cons_zero, List.set_cons_succ]
        refine wpAnyH_take (i := 25) (oi := ({ dst := some 40, op := .unOp .not 4 (.tmp 39), type := 4, pos := "law.go:25", after := #[{ on := 24, ground := .data }, { on := 21, ground := .guard }], guard := some (21, true) } : Oper)) (v := ?vs1_25) rfl meets2_plain (by as_aux_lemma => kernel_rfl) (by as_aux_lemma => kernel_rfl) (fun _ _ _ h => h) (Or.inl ⟨by rfl, ?ys1_25⟩) (by assumption) ?rs1_25
        case ys1_25 => (intro w hSw; (try dsimp only at hSw); go_simp; try with_reducible rfl)
        try simp only [Act.put, List.setIfInBounds_toArray, List.set_cons_zero, List.set_cons_succ]
        refine wpAnyH_take (i := 26) (oi := ({ dst := some 41, op := .pick (.tmp 36) (.tmp 40) (.const (.bool false)), type := 4, pos := "law.go:25", after := #[{ on := 21, ground := .data }, { on := 25, ground := .data }, { on := 12, ground := .guard }], guard := some (12, false) } : Oper)) (v := ?vs1_26) rfl meets2_plain (by as_aux_lemma => kernel_rfl) (by as_aux_lemma => kernel_rfl) (fun _ _ _ h => h) (Or.inl ⟨by rfl, ?ys1_26⟩) (by assumption) ?rs1_26
        case ys1_26 => (intro w hSw; (try dsimp only at hSw); go_simp; try with_reducible rfl)
        try simp only [Act.put, List.setIfInBounds_toArray, List.set_cons_zero, List.set_cons_succ]
        refine wpAnyH_take (i := 27) (oi := ({ dst := some 42, op := .pick (.tmp 27) (.const (.bool true)) (.tmp 41), type := 4, pos := "law.go:25", after := #[{ on := 12, ground := .data }, { on := 26, ground := .data }], guard := none } : Oper)) (v := ?vs1_27) rfl meets2_plain (by as_aux_lemma => kernel_rfl) (by as_aux_lemma => kernel_rfl) (fun _ _ _ h => h) (Or.inl ⟨by rfl, ?ys1_27⟩) (by assumption) ?rs1_27
        case ys1_27 => (intro w hSw; (try dsimp only at hSw); go_simp; try with_reducible rfl)
        try simp only [Act.put, List.setIfInBounds_toArray, List.set_cons_zero, List.set_cons_succ]
        refine wpAnyH_done (by as_aux_lemma => kernel_rfl) ?_ _
        refine NoPanic.normal ?_
        go_wp2_with fail
        go_meet
        exact ⟨rfl, by assumption⟩
      · skip
        change (Code.region 2 meets2 true).wp Tryd.prog _ _ _
        refine wp_region_noPanic ?_
        refine wp_region_held_drew (S := fun w' => Below wx.heap.size wx w') (by kernel_rfl) ((Below.refl _ _).drew) (fun hHeld => ?_)
        refine wpAnyH_take (i := 0) (oi := ({ dst := some 15, op := .load 23 (.tmp 7), type := 23, pos := "law.go:25", after := #[], guard := none } : Oper)) (v := ?vs2_0) rfl meets2_plain (by as_aux_lemma => kernel_rfl) (by as_aux_lemma => kernel_rfl) (fun _ _ _ h => h) (Or.inl ⟨by rfl, ?ys2_0⟩) (by assumption) ?rs2_0
        case ys2_0 => (intro w hSw; (try dsimp only at hSw); go_simp; try with_reducible rfl)
        try simp only [Act.put, List.setIfInBounds_toArray, List.set_cons_zero, List.set_cons_succ]
        refine wpAnyH_take (i := 1) (oi := ({ dst := some 16, op := .move (.tmp 2), type := 2, pos := "law.go:25", after := #[], guard := none } : Oper)) (v := ?vs2_1) rfl meets2_plain (by as_aux_lemma => kernel_rfl) (by as_aux_lemma => kernel_rfl) (fun _ _ _ h => h) (Or.inl ⟨by rfl, ?ys2_1⟩) (by assumption) ?rs2_1
        case ys2_1 => (intro w hSw; (try dsimp only at hSw); go_simp; try with_reducible rfl)
        try simp only [Act.put, List.setIfInBounds_toArray, List.set_cons_zero, List.set_cons_succ]
        refine wpAnyH_take (i := 3) (oi := ({ dst := some 18, op := .load 23 (.tmp 3), type := 23, pos := "law.go:25", after := #[], guard := none } : Oper)) (v := ?vs2_3) rfl meets2_plain (by as_aux_lemma => kernel_rfl) (by as_aux_lemma => kernel_rfl) (fun _ _ _ h => h) (Or.inl ⟨by rfl, ?ys2_3⟩) (by assumption) ?rs2_3
        case ys2_3 => (intro w hSw; (try dsimp only at hSw); go_simp; try with_reducible rfl)
        try simp only [Act.put, List.setIfInBounds_toArray, List.set_cons_zero, List.set_cons_succ]
        refine wpAnyH_take (i := 4) (oi := ({ dst := some 19, op := .move (.tmp 2), type := 2, pos := "law.go:25", after := #[], guard := none } : Oper)) (v := ?vs2_4) rfl meets2_plain (by as_aux_lemma => kernel_rfl) (by as_aux_lemma => kernel_rfl) (fun _ _ _ h => h) (Or.inl ⟨by rfl, ?ys2_4⟩) (by assumption) ?rs2_4
        case ys2_4 => (intro w hSw; (try dsimp only at hSw); go_simp; try with_reducible rfl)
        try simp only [Act.put, List.setIfInBounds_toArray, List.set_cons_zero, List.set_cons_succ]
        refine wpAnyH_ready (rs := [2]) (by as_aux_lemma => kernel_rfl) (by simp) ?_
        refine AllReadyH.cons (o := ({ dst := some 17, op := .call { callee := .value (.func 9), args := #[.tmp 15, .tmp 16], argTypes := #[23, 2] }, type := 4, pos := "law.go:25", after := #[{ on := 0, ground := .data }, { on := 1, ground := .data }], guard := none } : Oper)) rfl (fun KK hK => ?_) AllReadyH.nil
        rw [if_pos (by rfl)]
        go_simp
        go_at_call 9; refine (KM.out _).mono ?_; rintro e w5 ⟨rfl, hb5⟩
        go_wp2_with fail
        refine hK.out _ _ ?_ (fun hHeld5 => ?_)
        · exact belowT (by assumption) hb5
        clear hK KK hb5
        try simp only [Act.put, List.setIfInBounds_toArray, List.set_cons_zero, List.set_cons_succ]
        refine wpAnyH_ready (rs := [5]) (by as_aux_lemma => kernel_rfl) (by simp) ?_
        refine AllReadyH.cons (o := ({ dst := some 20, op := .call { callee := .value (.func 9), args := #[.tmp 18, .tmp 19], argTypes := #[23, 2] }, type := 4, pos := "law.go:25", after := #[{ on := 3, ground := .data }, { on := 4, ground := .data }, { on := 2, ground := .chain }], guard := none } : Oper)) rfl (fun KK hK => ?_) AllReadyH.nil
        rw [if_pos (by rfl)]
        go_simp
        go_at_call 9; refine (KA.out _).mono ?_; rintro e w6 ⟨rfl, hb6⟩
        go_wp2_with fail
        refine hK.out _ _ ?_ (fun hHeld6 => ?_)
        · exact belowT (by assumption) hb6
        clear hK KK hb6 hHeld5
        try simp only [Act.put, List.setIfInBounds_toArray, List.set_cons_zero, List.set_cons_succ]
        refine wpAnyH_take (i := 6) (oi := ({ dst := some 21, op := .move (.tmp 20), type := 4, pos := "law.go:25", after := #[{ on := 5, ground := .data }, { on := 5, ground := .chain }], guard := none } : Oper)) (v := ?vs2_6) rfl meets2_plain (by as_aux_lemma => kernel_rfl) (by as_aux_lemma => kernel_rfl) (fun _ _ _ h => h) (Or.inl ⟨by rfl, ?ys2_6⟩) (by assumption) ?rs2_6
        case ys2_6 => (intro w hSw; (try dsimp only at hSw); go_simp; try with_reducible rfl)
        try simp only [Act.put, List.setIfInBounds_toArray, List.set_cons_zero, List.set_cons_succ]
        refine wpAnyH_take (i := 7) (oi := ({ dst := some 22, op := .load 23 (.tmp 4), type := 23, pos := "law.go:25", after := #[{ on := 6, ground := .guard }], guard := some (6, true) } : Oper)) (v := ?vs2_7) rfl meets2_plain (by as_aux_lemma => kernel_rfl) (by as_aux_lemma => kernel_rfl) (fun _ _ _ h => h) (Or.inl ⟨by rfl, ?ys2_7⟩) (by assumption) ?rs2_7
        case ys2_7 => (intro w hSw; (try dsimp only at hSw); go_simp; try with_reducible rfl)
        try simp only [Act.put, List.setIfInBounds_toArray, List.set_cons_zero, List.set_cons_succ]
        refine wpAnyH_take (i := 8) (oi := ({ dst := some 23, op := .move (.tmp 2), type := 2, pos := "law.go:25", after := #[{ on := 6, ground := .guard }], guard := some (6, true) } : Oper)) (v := ?vs2_8) rfl meets2_plain (by as_aux_lemma => kernel_rfl) (by as_aux_lemma => kernel_rfl) (fun _ _ _ h => h) (Or.inl ⟨by rfl, ?ys2_8⟩) (by assumption) ?rs2_8
        case ys2_8 => (intro w hSw; (try dsimp only at hSw); go_simp; try with_reducible rfl)
        try simp only [Act.put, List.setIfInBounds_toArray, List.set_cons_zero, List.set_cons_succ]
        refine wpAnyH_ready (rs := [9]) (by as_aux_lemma => kernel_rfl) (by simp) ?_
        refine AllReadyH.cons (o := ({ dst := some 24, op := .call { callee := .value (.func 9), args := #[.tmp 22, .tmp 23], argTypes := #[23, 2] }, type := 4, pos := "law.go:25", after := #[{ on := 7, ground := .data }, { on := 8, ground := .data }, { on := 6, ground := .chain }, { on := 6, ground := .guard }], guard := some (6, true) } : Oper)) rfl (fun KK hK => ?_) AllReadyH.nil
        rw [if_pos (by rfl)]
        go_simp
        go_at_call 9; refine (KB.out _).mono ?_; rintro e w7 ⟨rfl, hb7⟩
        go_wp2_with fail
        refine hK.out _ _ ?_ (fun hHeld7 => ?_)
        · exact belowT (by assumption) hb7
        clear hK KK hb7 hHeld6
        try simp only [Act.put, List.setIfInBounds_toArray, List.set_cons_zero, List.set_cons_succ]
        refine wpAnyH_take (i := 10) (oi := ({ dst := some 25, op := .pick (.tmp 21) (.tmp 24) (.const (.bool false)), type := 4, pos := "law.go:25", after := #[{ on := 6, ground := .data }, { on := 9, ground := .data }], guard := none } : Oper)) (v := ?vs2_10) rfl meets2_plain (by as_aux_lemma => kernel_rfl) (by as_aux_lemma => kernel_rfl) (fun _ _ _ h => h) (Or.inl ⟨by rfl, ?ys2_10⟩) (by assumption) ?rs2_10
        case ys2_10 => (intro w hSw; (try dsimp only at hSw); go_simp; try with_reducible rfl)
        try simp only [Act.put, List.setIfInBounds_toArray, List.set_cons_zero, List.set_cons_succ]
        refine wpAnyH_take (i := 11) (oi := ({ dst := some 26, op := .binOp .neq 4 (.tmp 17) (.tmp 25) 4, type := 4, pos := "law.go:25", after := #[{ on := 2, ground := .data }, { on := 10, ground := .data }], guard := none } : Oper)) (v := ?vs2_11) rfl meets2_plain (by as_aux_lemma => kernel_rfl) (by as_aux_lemma => kernel_rfl) (fun _ _ _ h => h) (Or.inl ⟨by rfl, ?ys2_11⟩) (by assumption) ?rs2_11
        case ys2_11 => (intro w hSw; (try dsimp only at hSw); go_simp; try with_reducible rfl)
        try simp only [Act.put, List.setIfInBounds_toArray, List.set_cons_zero, List.set_cons_succ]
        refine wpAnyH_take (i := 12) (oi := ({ dst := some 27, op := .move (.tmp 26), type := 4, pos := "law.go:25", after := #[{ on := 11, ground := .data }, { on := 9, ground := .chain }], guard := none } : Oper)) (v := ?vs2_12) rfl meets2_plain (by as_aux_lemma => kernel_rfl) (by as_aux_lemma => kernel_rfl) (fun _ _ _ h => h) (Or.inl ⟨by rfl, ?ys2_12⟩) (by assumption) ?rs2_12
        case ys2_12 => (intro w hSw; (try dsimp only at hSw); go_simp; try with_reducible rfl)
        try simp only [Act.put, List.setIfInBounds_toArray, List.set_cons_zero, List.set_cons_succ]
        refine wpAnyH_take (i := 13) (oi := ({ dst := some 28, op := .load 23 (.tmp 3), type := 23, pos := "law.go:25", after := #[{ on := 12, ground := .guard }], guard := some (12, false) } : Oper)) (v := ?vs2_13) rfl meets2_plain (by as_aux_lemma => kernel_rfl) (by as_aux_lemma => kernel_rfl) (fun _ _ _ h => h) (Or.inl ⟨by rfl, ?ys2_13⟩) (by assumption) ?rs2_13
        case ys2_13 => (intro w hSw; (try dsimp only at hSw); go_simp; try with_reducible rfl)
        try simp only [Act.put, List.setIfInBounds_toArray, List.set_cons_zero, List.set_cons_succ]
        refine wpAnyH_take (i := 14) (oi := ({ dst := some 29, op := .move (.tmp 2), type := 2, pos := "law.go:25", after := #[{ on := 12, ground := .guard }], guard := some (12, false) } : Oper)) (v := ?vs2_14) rfl meets2_plain (by as_aux_lemma => kernel_rfl) (by as_aux_lemma => kernel_rfl) (fun _ _ _ h => h) (Or.inl ⟨by rfl, ?ys2_14⟩) (by assumption) ?rs2_14
        case ys2_14 => (intro w hSw; (try dsimp only at hSw); go_simp; try with_reducible rfl)
        try simp only [Act.put, List.setIfInBounds_toArray, List.set_cons_zero, List.set_cons_succ]
        refine wpAnyH_ready (rs := [15]) (by as_aux_lemma => kernel_rfl) (by simp) ?_
        refine AllReadyH.cons (o := ({ dst := some 30, op := .call { callee := .value (.func 9), args := #[.tmp 28, .tmp 29], argTypes := #[23, 2] }, type := 4, pos := "law.go:25", after := #[{ on := 13, ground := .data }, { on := 14, ground := .data }, { on := 12, ground := .chain }, { on := 12, ground := .guard }], guard := some (12, false) } : Oper)) rfl (fun KK hK => ?_) AllReadyH.nil
        rw [if_pos (by rfl)]
        go_simp
        go_at_call 9; refine (KA.out _).mono ?_; rintro e w8 ⟨rfl, hb8⟩
        go_wp2_with fail
        refine hK.out _ _ ?_ (fun hHeld8 => ?_)
        · exact belowT (by assumption) hb8
        clear hK KK hb8 hHeld7
        try simp only [Act.put, List.setIfInBounds_toArray, List.set_cons_zero, List.set_cons_succ]
        refine wpAnyH_take (i := 16) (oi := ({ dst := some 31, op := .move (.tmp 30), type := 4, pos := "law.go:25", after := #[{ on := 15, ground := .data }, { on := 15, ground := .chain }, { on := 12, ground := .guard }], guard := some (12, false) } : Oper)) (v := ?vs2_16) rfl meets2_plain (by as_aux_lemma => kernel_rfl) (by as_aux_lemma => kernel_rfl) (fun _ _ _ h => h) (Or.inl ⟨by rfl, ?ys2_16⟩) (by assumption) ?rs2_16
        case ys2_16 => (intro w hSw; (try dsimp only at hSw); go_simp; try with_reducible rfl)
        try simp only [Act.put, List.setIfInBounds_toArray, List.set_cons_zero, List.set_cons_succ]
        refine wpAnyH_take (i := 17) (oi := ({ dst := some 32, op := .load 23 (.tmp 4), type := 23, pos := "law.go:25", after := #[{ on := 16, ground := .guard }], guard := some (16, false) } : Oper)) (v := undef) rfl meets2_plain (by as_aux_lemma => kernel_rfl) (by as_aux_lemma => kernel_rfl) (fun _ _ _ h => h) (Or.inr ⟨by rfl, rfl⟩) (by assumption) ?_
        try simp only [Act.put, List.setIfInBounds_toArray, List.set_cons_zero, List.set_cons_succ]
        refine wpAnyH_take (i := 18) (oi := ({ dst := some 33, op := .move (.tmp 2), type := 2, pos := "law.go:25", after := #[{ on := 16, ground := .guard }], guard := some (16, false) } : Oper)) (v := undef) rfl meets2_plain (by as_aux_lemma => kernel_rfl) (by as_aux_lemma => kernel_rfl) (fun _ _ _ h => h) (Or.inr ⟨by rfl, rfl⟩) (by assumption) ?_
        try simp only [Act.put, List.setIfInBounds_toArray, List.set_cons_zero, List.set_cons_succ]
        refine wpAnyH_take (i := 19) (oi := ({ dst := some 34, op := .call { callee := .value (.func 9), args := #[.tmp 32, .tmp 33], argTypes := #[23, 2] }, type := 4, pos := "law.go:25", after := #[{ on := 17, ground := .data }, { on := 18, ground := .data }, { on := 16, ground := .chain }, { on := 16, ground := .guard }], guard := some (16, false) } : Oper)) (v := undef) rfl meets2_plain (by as_aux_lemma => kernel_rfl) (by as_aux_lemma => kernel_rfl) (fun _ _ _ h => h) (Or.inr ⟨by rfl, rfl⟩) (by assumption) ?_
        try simp only [Act.put, List.setIfInBounds_toArray, List.set_cons_zero, List.set_cons_succ]
        refine wpAnyH_take (i := 20) (oi := ({ dst := some 35, op := .pick (.tmp 31) (.const (.bool true)) (.tmp 34), type := 4, pos := "law.go:25", after := #[{ on := 16, ground := .data }, { on := 19, ground := .data }, { on := 12, ground := .guard }], guard := some (12, false) } : Oper)) (v := ?vs2_20) rfl meets2_plain (by as_aux_lemma => kernel_rfl) (by as_aux_lemma => kernel_rfl) (fun _ _ _ h => h) (Or.inl ⟨by rfl, ?ys2_20⟩) (by assumption) ?rs2_20
        case ys2_20 => (intro w hSw; (try dsimp only at hSw); go_simp; try with_reducible rfl)
        try simp only [Act.put, List.setIfInBounds_toArray, List.set_cons_zero, List.set_cons_succ]
        refine wpAnyH_take (i := 21) (oi := ({ dst := some 36, op := .move (.tmp 35), type := 4, pos := "law.go:25", after := #[{ on := 20, ground := .data }, { on := 19, ground := .chain }, { on := 12, ground := .guard }], guard := some (12, false) } : Oper)) (v := ?vs2_21) rfl meets2_plain (by as_aux_lemma => kernel_rfl) (by as_aux_lemma => kernel_rfl) (fun _ _ _ h => h) (Or.inl ⟨by rfl, ?ys2_21⟩) (by assumption) ?rs2_21
        case ys2_21 => (intro w hSw; (try dsimp only at hSw); go_simp; try with_reducible rfl)
        try simp only [Act.put, List.setIfInBounds_toArray, List.set_cons_zero, List.set_cons_succ]
        refine wpAnyH_take (i := 22) (oi := ({ dst := some 37, op := .load 23 (.tmp 8), type := 23, pos := "law.go:25", after := #[{ on := 21, ground := .guard }], guard := some (21, true) } : Oper)) (v := ?vs2_22) rfl meets2_plain (by as_aux_lemma => kernel_rfl) (by as_aux_lemma => kernel_rfl) (fun _ _ _ h => h) (Or.inl ⟨by rfl, ?ys2_22⟩) (by assumption) ?rs2_22
        case ys2_22 => (intro w hSw; (try dsimp only at hSw); go_simp; try with_reducible rfl)
        try simp only [Act.put, List.setIfInBounds_toArray, List.set_cons_zero, List.set_cons_succ]
        refine wpAnyH_take (i := 23) (oi := ({ dst := some 38, op := .move (.tmp 2), type := 2, pos := "law.go:25", after := #[{ on := 21, ground := .guard }], guard := some (21, true) } : Oper)) (v := ?vs2_23) rfl meets2_plain (by as_aux_lemma => kernel_rfl) (by as_aux_lemma => kernel_rfl) (fun _ _ _ h => h) (Or.inl ⟨by rfl, ?ys2_23⟩) (by assumption) ?rs2_23
        case ys2_23 => (intro w hSw; (try dsimp only at hSw); go_simp; try with_reducible rfl)
        try simp only [Act.put, List.setIfInBounds_toArray, List.set_cons_zero, List.set_cons_succ]
        refine wpAnyH_ready (rs := [24]) (by as_aux_lemma => kernel_rfl) (by simp) ?_
        refine AllReadyH.cons (o := ({ dst := some 39, op := .call { callee := .value (.func 9), args := #[.tmp 37, .tmp 38], argTypes := #[23, 2] }, type := 4, pos := "law.go:25", after := #[{ on := 22, ground := .data }, { on := 23, ground := .data }, { on := 21, ground := .chain }, { on := 21, ground := .guard }], guard := some (21, true) } : Oper)) rfl (fun KK hK => ?_) AllReadyH.nil
        rw [if_pos (by rfl)]
        go_simp
        go_at_call 9; refine (KH.out _).mono ?_; rintro e w9 ⟨rfl, hb9⟩
        go_wp2_with fail
        refine hK.out _ _ ?_ (fun hHeld9 => ?_)
        · exact belowT (by assumption) hb9
        clear hK KK hb9 hHeld8
        try simp only [Act.put, List.setIfInBounds_toArray, List.set_cons_zero, List.set_cons_succ]
        refine wpAnyH_take (i := 25) (oi := ({ dst := some 40, op := .unOp .not 4 (.tmp 39), type := 4, pos := "law.go:25", after := #[{ on := 24, ground := .data }, { on := 21, ground := .guard }], guard := some (21, true) } : Oper)) (v := ?vs2_25) rfl meets2_plain (by as_aux_lemma => kernel_rfl) (by as_aux_lemma => kernel_rfl) (fun _ _ _ h => h) (Or.inl ⟨by rfl, ?ys2_25⟩) (by assumption) ?rs2_25
        case ys2_25 => (intro w hSw; (try dsimp only at hSw); go_simp; try with_reducible rfl)
        try simp only [Act.put, List.setIfInBounds_toArray, List.set_cons_zero, List.set_cons_succ]
        refine wpAnyH_take (i := 26) (oi := ({ dst := some 41, op := .pick (.tmp 36) (.tmp 40) (.const (.bool false)), type := 4, pos := "law.go:25", after := #[{ on := 21, ground := .data }, { on := 25, ground := .data }, { on := 12, ground := .guard }], guard := some (12, false) } : Oper)) (v := ?vs2_26) rfl meets2_plain (by as_aux_lemma => kernel_rfl) (by as_aux_lemma => kernel_rfl) (fun _ _ _ h => h) (Or.inl ⟨by rfl, ?ys2_26⟩) (by assumption) ?rs2_26
        case ys2_26 => (intro w hSw; (try dsimp only at hSw); go_simp; try with_reducible rfl)
        try simp only [Act.put, List.setIfInBounds_toArray, List.set_cons_zero, List.set_cons_succ]
        refine wpAnyH_take (i := 27) (oi := ({ dst := some 42, op := .pick (.tmp 27) (.const (.bool true)) (.tmp 41), type := 4, pos := "law.go:25", after := #[{ on := 12, ground := .data }, { on := 26, ground := .data }], guard := none } : Oper)) (v := ?vs2_27) rfl meets2_plain (by as_aux_lemma => kernel_rfl) (by as_aux_lemma => kernel_rfl) (fun _ _ _ h => h) (Or.inl ⟨by rfl, ?ys2_27⟩) (by assumption) ?rs2_27
        case ys2_27 => (intro w hSw; (try dsimp only at hSw); go_simp; try with_reducible rfl)
        try simp only [Act.put, List.setIfInBounds_toArray, List.set_cons_zero, List.set_cons_succ]
        refine wpAnyH_done (by as_aux_lemma => kernel_rfl) ?_ _
        refine NoPanic.normal ?_
        go_wp2_with fail
        go_meet
        exact ⟨rfl, by assumption⟩
      · skip
        change (Code.region 2 meets2 true).wp Tryd.prog _ _ _
        refine wp_region_noPanic ?_
        refine wp_region_held_drew (S := fun w' => Below wx.heap.size wx w') (by kernel_rfl) ((Below.refl _ _).drew) (fun hHeld => ?_)
        refine wpAnyH_take (i := 0) (oi := ({ dst := some 15, op := .load 23 (.tmp 7), type := 23, pos := "law.go:25", after := #[], guard := none } : Oper)) (v := ?vs3_0) rfl meets2_plain (by as_aux_lemma => kernel_rfl) (by as_aux_lemma => kernel_rfl) (fun _ _ _ h => h) (Or.inl ⟨by rfl, ?ys3_0⟩) (by assumption) ?rs3_0
        case ys3_0 => (intro w hSw; (try dsimp only at hSw); go_simp; try with_reducible rfl)
        try simp only [Act.put, List.setIfInBounds_toArray, List.set_cons_zero, List.set_cons_succ]
        refine wpAnyH_take (i := 1) (oi := ({ dst := some 16, op := .move (.tmp 2), type := 2, pos := "law.go:25", after := #[], guard := none } : Oper)) (v := ?vs3_1) rfl meets2_plain (by as_aux_lemma => kernel_rfl) (by as_aux_lemma => kernel_rfl) (fun _ _ _ h => h) (Or.inl ⟨by rfl, ?ys3_1⟩) (by assumption) ?rs3_1
        case ys3_1 => (intro w hSw; (try dsimp only at hSw); go_simp; try with_reducible rfl)
        try simp only [Act.put, List.setIfInBounds_toArray, List.set_cons_zero, List.set_cons_succ]
        refine wpAnyH_take (i := 3) (oi := ({ dst := some 18, op := .load 23 (.tmp 3), type := 23, pos := "law.go:25", after := #[], guard := none } : Oper)) (v := ?vs3_3) rfl meets2_plain (by as_aux_lemma => kernel_rfl) (by as_aux_lemma => kernel_rfl) (fun _ _ _ h => h) (Or.inl ⟨by rfl, ?ys3_3⟩) (by assumption) ?rs3_3
        case ys3_3 => (intro w hSw; (try dsimp only at hSw); go_simp; try with_reducible rfl)
        try simp only [Act.put, List.setIfInBounds_toArray, List.set_cons_zero, List.set_cons_succ]
        refine wpAnyH_take (i := 4) (oi := ({ dst := some 19, op := .move (.tmp 2), type := 2, pos := "law.go:25", after := #[], guard := none } : Oper)) (v := ?vs3_4) rfl meets2_plain (by as_aux_lemma => kernel_rfl) (by as_aux_lemma => kernel_rfl) (fun _ _ _ h => h) (Or.inl ⟨by rfl, ?ys3_4⟩) (by assumption) ?rs3_4
        case ys3_4 => (intro w hSw; (try dsimp only at hSw); go_simp; try with_reducible rfl)
        try simp only [Act.put, List.setIfInBounds_toArray, List.set_cons_zero, List.set_cons_succ]
        refine wpAnyH_ready (rs := [2]) (by as_aux_lemma => kernel_rfl) (by simp) ?_
        refine AllReadyH.cons (o := ({ dst := some 17, op := .call { callee := .value (.func 9), args := #[.tmp 15, .tmp 16], argTypes := #[23, 2] }, type := 4, pos := "law.go:25", after := #[{ on := 0, ground := .data }, { on := 1, ground := .data }], guard := none } : Oper)) rfl (fun KK hK => ?_) AllReadyH.nil
        rw [if_pos (by rfl)]
        go_simp
        go_at_call 9; refine (KM.out _).mono ?_; rintro e w5 ⟨rfl, hb5⟩
        go_wp2_with fail
        refine hK.out _ _ ?_ (fun hHeld5 => ?_)
        · exact belowT (by assumption) hb5
        clear hK KK hb5
        try simp only [Act.put, List.setIfInBounds_toArray, List.set_cons_zero, List.set_cons_succ]
        refine wpAnyH_ready (rs := [5]) (by as_aux_lemma => kernel_rfl) (by simp) ?_
        refine AllReadyH.cons (o := ({ dst := some 20, op := .call { callee := .value (.func 9), args := #[.tmp 18, .tmp 19], argTypes := #[23, 2] }, type := 4, pos := "law.go:25", after := #[{ on := 3, ground := .data }, { on := 4, ground := .data }, { on := 2, ground := .chain }], guard := none } : Oper)) rfl (fun KK hK => ?_) AllReadyH.nil
        rw [if_pos (by rfl)]
        go_simp
        go_at_call 9; refine (KA.out _).mono ?_; rintro e w6 ⟨rfl, hb6⟩
        go_wp2_with fail
        refine hK.out _ _ ?_ (fun hHeld6 => ?_)
        · exact belowT (by assumption) hb6
        clear hK KK hb6 hHeld5
        try simp only [Act.put, List.setIfInBounds_toArray, List.set_cons_zero, List.set_cons_succ]
        refine wpAnyH_take (i := 6) (oi := ({ dst := some 21, op := .move (.tmp 20), type := 4, pos := "law.go:25", after := #[{ on := 5, ground := .data }, { on := 5, ground := .chain }], guard := none } : Oper)) (v := ?vs3_6) rfl meets2_plain (by as_aux_lemma => kernel_rfl) (by as_aux_lemma => kernel_rfl) (fun _ _ _ h => h) (Or.inl ⟨by rfl, ?ys3_6⟩) (by assumption) ?rs3_6
        case ys3_6 => (intro w hSw; (try dsimp only at hSw); go_simp; try with_reducible rfl)
        try simp only [Act.put, List.setIfInBounds_toArray, List.set_cons_zero, List.set_cons_succ]
        refine wpAnyH_take (i := 7) (oi := ({ dst := some 22, op := .load 23 (.tmp 4), type := 23, pos := "law.go:25", after := #[{ on := 6, ground := .guard }], guard := some (6, true) } : Oper)) (v := undef) rfl meets2_plain (by as_aux_lemma => kernel_rfl) (by as_aux_lemma => kernel_rfl) (fun _ _ _ h => h) (Or.inr ⟨by rfl, rfl⟩) (by assumption) ?_
        try simp only [Act.put, List.setIfInBounds_toArray, List.set_cons_zero, List.set_cons_succ]
        refine wpAnyH_take (i := 8) (oi := ({ dst := some 23, op := .move (.tmp 2), type := 2, pos := "law.go:25", after := #[{ on := 6, ground := .guard }], guard := some (6, true) } : Oper)) (v := undef) rfl meets2_plain (by as_aux_lemma => kernel_rfl) (by as_aux_lemma => kernel_rfl) (fun _ _ _ h => h) (Or.inr ⟨by rfl, rfl⟩) (by assumption) ?_
        try simp only [Act.put, List.setIfInBounds_toArray, List.set_cons_zero, List.set_cons_succ]
        refine wpAnyH_take (i := 9) (oi := ({ dst := some 24, op := .call { callee := .value (.func 9), args := #[.tmp 22, .tmp 23], argTypes := #[23, 2] }, type := 4, pos := "law.go:25", after := #[{ on := 7, ground := .data }, { on := 8, ground := .data }, { on := 6, ground := .chain }, { on := 6, ground := .guard }], guard := some (6, true) } : Oper)) (v := undef) rfl meets2_plain (by as_aux_lemma => kernel_rfl) (by as_aux_lemma => kernel_rfl) (fun _ _ _ h => h) (Or.inr ⟨by rfl, rfl⟩) (by assumption) ?_
        try simp only [Act.put, List.setIfInBounds_toArray, List.set_cons_zero, List.set_cons_succ]
        refine wpAnyH_take (i := 10) (oi := ({ dst := some 25, op := .pick (.tmp 21) (.tmp 24) (.const (.bool false)), type := 4, pos := "law.go:25", after := #[{ on := 6, ground := .data }, { on := 9, ground := .data }], guard := none } : Oper)) (v := ?vs3_10) rfl meets2_plain (by as_aux_lemma => kernel_rfl) (by as_aux_lemma => kernel_rfl) (fun _ _ _ h => h) (Or.inl ⟨by rfl, ?ys3_10⟩) (by assumption) ?rs3_10
        case ys3_10 => (intro w hSw; (try dsimp only at hSw); go_simp; try with_reducible rfl)
        try simp only [Act.put, List.setIfInBounds_toArray, List.set_cons_zero, List.set_cons_succ]
        refine wpAnyH_take (i := 11) (oi := ({ dst := some 26, op := .binOp .neq 4 (.tmp 17) (.tmp 25) 4, type := 4, pos := "law.go:25", after := #[{ on := 2, ground := .data }, { on := 10, ground := .data }], guard := none } : Oper)) (v := ?vs3_11) rfl meets2_plain (by as_aux_lemma => kernel_rfl) (by as_aux_lemma => kernel_rfl) (fun _ _ _ h => h) (Or.inl ⟨by rfl, ?ys3_11⟩) (by assumption) ?rs3_11
        case ys3_11 => (intro w hSw; (try dsimp only at hSw); go_simp; try with_reducible rfl)
        try simp only [Act.put, List.setIfInBounds_toArray, List.set_cons_zero, List.set_cons_succ]
        refine wpAnyH_take (i := 12) (oi := ({ dst := some 27, op := .move (.tmp 26), type := 4, pos := "law.go:25", after := #[{ on := 11, ground := .data }, { on := 9, ground := .chain }], guard := none } : Oper)) (v := ?vs3_12) rfl meets2_plain (by as_aux_lemma => kernel_rfl) (by as_aux_lemma => kernel_rfl) (fun _ _ _ h => h) (Or.inl ⟨by rfl, ?ys3_12⟩) (by assumption) ?rs3_12
        case ys3_12 => (intro w hSw; (try dsimp only at hSw); go_simp; try with_reducible rfl)
        try simp only [Act.put, List.setIfInBounds_toArray, List.set_cons_zero, List.set_cons_succ]
        refine wpAnyH_take (i := 13) (oi := ({ dst := some 28, op := .load 23 (.tmp 3), type := 23, pos := "law.go:25", after := #[{ on := 12, ground := .guard }], guard := some (12, false) } : Oper)) (v := ?vs3_13) rfl meets2_plain (by as_aux_lemma => kernel_rfl) (by as_aux_lemma => kernel_rfl) (fun _ _ _ h => h) (Or.inl ⟨by rfl, ?ys3_13⟩) (by assumption) ?rs3_13
        case ys3_13 => (intro w hSw; (try dsimp only at hSw); go_simp; try with_reducible rfl)
        try simp only [Act.put, List.setIfInBounds_toArray, List.set_cons_zero, List.set_cons_succ]
        refine wpAnyH_take (i := 14) (oi := ({ dst := some 29, op := .move (.tmp 2), type := 2, pos := "law.go:25", after := #[{ on := 12, ground := .guard }], guard := some (12, false) } : Oper)) (v := ?vs3_14) rfl meets2_plain (by as_aux_lemma => kernel_rfl) (by as_aux_lemma => kernel_rfl) (fun _ _ _ h => h) (Or.inl ⟨by rfl, ?ys3_14⟩) (by assumption) ?rs3_14
        case ys3_14 => (intro w hSw; (try dsimp only at hSw); go_simp; try with_reducible rfl)
        try simp only [Act.put, List.setIfInBounds_toArray, List.set_cons_zero, List.set_cons_succ]
        refine wpAnyH_ready (rs := [15]) (by as_aux_lemma => kernel_rfl) (by simp) ?_
        refine AllReadyH.cons (o := ({ dst := some 30, op := .call { callee := .value (.func 9), args := #[.tmp 28, .tmp 29], argTypes := #[23, 2] }, type := 4, pos := "law.go:25", after := #[{ on := 13, ground := .data }, { on := 14, ground := .data }, { on := 12, ground := .chain }, { on := 12, ground := .guard }], guard := some (12, false) } : Oper)) rfl (fun KK hK => ?_) AllReadyH.nil
        rw [if_pos (by rfl)]
        go_simp
        go_at_call 9; refine (KA.out _).mono ?_; rintro e w7 ⟨rfl, hb7⟩
        go_wp2_with fail
        refine hK.out _ _ ?_ (fun hHeld7 => ?_)
        · exact belowT (by assumption) hb7
        clear hK KK hb7 hHeld6
        try simp only [Act.put, List.setIfInBounds_toArray, List.set_cons_zero, List.set_cons_succ]
        refine wpAnyH_take (i := 16) (oi := ({ dst := some 31, op := .move (.tmp 30), type := 4, pos := "law.go:25", after := #[{ on := 15, ground := .data }, { on := 15, ground := .chain }, { on := 12, ground := .guard }], guard := some (12, false) } : Oper)) (v := ?vs3_16) rfl meets2_plain (by as_aux_lemma => kernel_rfl) (by as_aux_lemma => kernel_rfl) (fun _ _ _ h => h) (Or.inl ⟨by rfl, ?ys3_16⟩) (by assumption) ?rs3_16
        case ys3_16 => (intro w hSw; (try dsimp only at hSw); go_simp; try with_reducible rfl)
        try simp only [Act.put, List.setIfInBounds_toArray, List.set_cons_zero, List.set_cons_succ]
        refine wpAnyH_take (i := 17) (oi := ({ dst := some 32, op := .load 23 (.tmp 4), type := 23, pos := "law.go:25", after := #[{ on := 16, ground := .guard }], guard := some (16, false) } : Oper)) (v := ?vs3_17) rfl meets2_plain (by as_aux_lemma => kernel_rfl) (by as_aux_lemma => kernel_rfl) (fun _ _ _ h => h) (Or.inl ⟨by rfl, ?ys3_17⟩) (by assumption) ?rs3_17
        case ys3_17 => (intro w hSw; (try dsimp only at hSw); go_simp; try with_reducible rfl)
        try simp only [Act.put, List.setIfInBounds_toArray, List.set_cons_zero, List.set_cons_succ]
        refine wpAnyH_take (i := 18) (oi := ({ dst := some 33, op := .move (.tmp 2), type := 2, pos := "law.go:25", after := #[{ on := 16, ground := .guard }], guard := some (16, false) } : Oper)) (v := ?vs3_18) rfl meets2_plain (by as_aux_lemma => kernel_rfl) (by as_aux_lemma => kernel_rfl) (fun _ _ _ h => h) (Or.inl ⟨by rfl, ?ys3_18⟩) (by assumption) ?rs3_18
        case ys3_18 => (intro w hSw; (try dsimp only at hSw); go_simp; try with_reducible rfl)
        try simp only [Act.put, List.setIfInBounds_toArray, List.set_cons_zero, List.set_cons_succ]
        refine wpAnyH_ready (rs := [19]) (by as_aux_lemma => kernel_rfl) (by simp) ?_
        refine AllReadyH.cons (o := ({ dst := some 34, op := .call { callee := .value (.func 9), args := #[.tmp 32, .tmp 33], argTypes := #[23, 2] }, type := 4, pos := "law.go:25", after := #[{ on := 17, ground := .data }, { on := 18, ground := .data }, { on := 16, ground := .chain }, { on := 16, ground := .guard }], guard := some (16, false) } : Oper)) rfl (fun KK hK => ?_) AllReadyH.nil
        rw [if_pos (by rfl)]
        go_simp
        go_at_call 9; refine (KB.out _).mono ?_; rintro e w8 ⟨rfl, hb8⟩
        go_wp2_with fail
        refine hK.out _ _ ?_ (fun hHeld8 => ?_)
        · exact belowT (by assumption) hb8
        clear hK KK hb8 hHeld7
        try simp only [Act.put, List.setIfInBounds_toArray, List.set_cons_zero, List.set_cons_succ]
        refine wpAnyH_take (i := 20) (oi := ({ dst := some 35, op := .pick (.tmp 31) (.const (.bool true)) (.tmp 34), type := 4, pos := "law.go:25", after := #[{ on := 16, ground := .data }, { on := 19, ground := .data }, { on := 12, ground := .guard }], guard := some (12, false) } : Oper)) (v := ?vs3_20) rfl meets2_plain (by as_aux_lemma => kernel_rfl) (by as_aux_lemma => kernel_rfl) (fun _ _ _ h => h) (Or.inl ⟨by rfl, ?ys3_20⟩) (by assumption) ?rs3_20
        case ys3_20 => (intro w hSw; (try dsimp only at hSw); go_simp; try with_reducible rfl)
        try simp only [Act.put, List.setIfInBounds_toArray, List.set_cons_zero, List.set_cons_succ]
        refine wpAnyH_take (i := 21) (oi := ({ dst := some 36, op := .move (.tmp 35), type := 4, pos := "law.go:25", after := #[{ on := 20, ground := .data }, { on := 19, ground := .chain }, { on := 12, ground := .guard }], guard := some (12, false) } : Oper)) (v := ?vs3_21) rfl meets2_plain (by as_aux_lemma => kernel_rfl) (by as_aux_lemma => kernel_rfl) (fun _ _ _ h => h) (Or.inl ⟨by rfl, ?ys3_21⟩) (by assumption) ?rs3_21
        case ys3_21 => (intro w hSw; (try dsimp only at hSw); go_simp; try with_reducible rfl)
        try simp only [Act.put, List.setIfInBounds_toArray, List.set_cons_zero, List.set_cons_succ]
        refine wpAnyH_take (i := 22) (oi := ({ dst := some 37, op := .load 23 (.tmp 8), type := 23, pos := "law.go:25", after := #[{ on := 21, ground := .guard }], guard := some (21, true) } : Oper)) (v := ?vs3_22) rfl meets2_plain (by as_aux_lemma => kernel_rfl) (by as_aux_lemma => kernel_rfl) (fun _ _ _ h => h) (Or.inl ⟨by rfl, ?ys3_22⟩) (by assumption) ?rs3_22
        case ys3_22 => (intro w hSw; (try dsimp only at hSw); go_simp; try with_reducible rfl)
        try simp only [Act.put, List.setIfInBounds_toArray, List.set_cons_zero, List.set_cons_succ]
        refine wpAnyH_take (i := 23) (oi := ({ dst := some 38, op := .move (.tmp 2), type := 2, pos := "law.go:25", after := #[{ on := 21, ground := .guard }], guard := some (21, true) } : Oper)) (v := ?vs3_23) rfl meets2_plain (by as_aux_lemma => kernel_rfl) (by as_aux_lemma => kernel_rfl) (fun _ _ _ h => h) (Or.inl ⟨by rfl, ?ys3_23⟩) (by assumption) ?rs3_23
        case ys3_23 => (intro w hSw; (try dsimp only at hSw); go_simp; try with_reducible rfl)
        try simp only [Act.put, List.setIfInBounds_toArray, List.set_cons_zero, List.set_cons_succ]
        refine wpAnyH_ready (rs := [24]) (by as_aux_lemma => kernel_rfl) (by simp) ?_
        refine AllReadyH.cons (o := ({ dst := some 39, op := .call { callee := .value (.func 9), args := #[.tmp 37, .tmp 38], argTypes := #[23, 2] }, type := 4, pos := "law.go:25", after := #[{ on := 22, ground := .data }, { on := 23, ground := .data }, { on := 21, ground := .chain }, { on := 21, ground := .guard }], guard := some (21, true) } : Oper)) rfl (fun KK hK => ?_) AllReadyH.nil
        rw [if_pos (by rfl)]
        go_simp
        go_at_call 9; refine (KH.out _).mono ?_; rintro e w9 ⟨rfl, hb9⟩
        go_wp2_with fail
        refine hK.out _ _ ?_ (fun hHeld9 => ?_)
        · exact belowT (by assumption) hb9
        clear hK KK hb9 hHeld8
        try simp only [Act.put, List.setIfInBounds_toArray, List.set_cons_zero, List.set_cons_succ]
        refine wpAnyH_take (i := 25) (oi := ({ dst := some 40, op := .unOp .not 4 (.tmp 39), type := 4, pos := "law.go:25", after := #[{ on := 24, ground := .data }, { on := 21, ground := .guard }], guard := some (21, true) } : Oper)) (v := ?vs3_25) rfl meets2_plain (by as_aux_lemma => kernel_rfl) (by as_aux_lemma => kernel_rfl) (fun _ _ _ h => h) (Or.inl ⟨by rfl, ?ys3_25⟩) (by assumption) ?rs3_25
        case ys3_25 => (intro w hSw; (try dsimp only at hSw); go_simp; try with_reducible rfl)
        try simp only [Act.put, List.setIfInBounds_toArray, List.set_cons_zero, List.set_cons_succ]
        refine wpAnyH_take (i := 26) (oi := ({ dst := some 41, op := .pick (.tmp 36) (.tmp 40) (.const (.bool false)), type := 4, pos := "law.go:25", after := #[{ on := 21, ground := .data }, { on := 25, ground := .data }, { on := 12, ground := .guard }], guard := some (12, false) } : Oper)) (v := ?vs3_26) rfl meets2_plain (by as_aux_lemma => kernel_rfl) (by as_aux_lemma => kernel_rfl) (fun _ _ _ h => h) (Or.inl ⟨by rfl, ?ys3_26⟩) (by assumption) ?rs3_26
        case ys3_26 => (intro w hSw; (try dsimp only at hSw); go_simp; try with_reducible rfl)
        try simp only [Act.put, List.setIfInBounds_toArray, List.set_cons_zero, List.set_cons_succ]
        refine wpAnyH_take (i := 27) (oi := ({ dst := some 42, op := .pick (.tmp 27) (.const (.bool true)) (.tmp 41), type := 4, pos := "law.go:25", after := #[{ on := 12, ground := .data }, { on := 26, ground := .data }], guard := none } : Oper)) (v := ?vs3_27) rfl meets2_plain (by as_aux_lemma => kernel_rfl) (by as_aux_lemma => kernel_rfl) (fun _ _ _ h => h) (Or.inl ⟨by rfl, ?ys3_27⟩) (by assumption) ?rs3_27
        case ys3_27 => (intro w hSw; (try dsimp only at hSw); go_simp; try with_reducible rfl)
        try simp only [Act.put, List.setIfInBounds_toArray, List.set_cons_zero, List.set_cons_succ]
        refine wpAnyH_done (by as_aux_lemma => kernel_rfl) ?_ _
        refine NoPanic.normal ?_
        go_wp2_with fail
        go_meet
        exact ⟨rfl, by assumption⟩
      · skip
        change (Code.region 2 meets2 true).wp Tryd.prog _ _ _
        refine wp_region_noPanic ?_
        refine wp_region_held_drew (S := fun w' => Below wx.heap.size wx w') (by kernel_rfl) ((Below.refl _ _).drew) (fun hHeld => ?_)
        refine wpAnyH_take (i := 0) (oi := ({ dst := some 15, op := .load 23 (.tmp 7), type := 23, pos := "law.go:25", after := #[], guard := none } : Oper)) (v := ?vs4_0) rfl meets2_plain (by as_aux_lemma => kernel_rfl) (by as_aux_lemma => kernel_rfl) (fun _ _ _ h => h) (Or.inl ⟨by rfl, ?ys4_0⟩) (by assumption) ?rs4_0
        case ys4_0 => (intro w hSw; (try dsimp only at hSw); go_simp; try with_reducible rfl)
        try simp only [Act.put, List.setIfInBounds_toArray, List.set_cons_zero, List.set_cons_succ]
        refine wpAnyH_take (i := 1) (oi := ({ dst := some 16, op := .move (.tmp 2), type := 2, pos := "law.go:25", after := #[], guard := none } : Oper)) (v := ?vs4_1) rfl meets2_plain (by as_aux_lemma => kernel_rfl) (by as_aux_lemma => kernel_rfl) (fun _ _ _ h => h) (Or.inl ⟨by rfl, ?ys4_1⟩) (by assumption) ?rs4_1
        case ys4_1 => (intro w hSw; (try dsimp only at hSw); go_simp; try with_reducible rfl)
        try simp only [Act.put, List.setIfInBounds_toArray, List.set_cons_zero, List.set_cons_succ]
        refine wpAnyH_take (i := 3) (oi := ({ dst := some 18, op := .load 23 (.tmp 3), type := 23, pos := "law.go:25", after := #[], guard := none } : Oper)) (v := ?vs4_3) rfl meets2_plain (by as_aux_lemma => kernel_rfl) (by as_aux_lemma => kernel_rfl) (fun _ _ _ h => h) (Or.inl ⟨by rfl, ?ys4_3⟩) (by assumption) ?rs4_3
        case ys4_3 => (intro w hSw; (try dsimp only at hSw); go_simp; try with_reducible rfl)
        try simp only [Act.put, List.setIfInBounds_toArray, List.set_cons_zero, List.set_cons_succ]
        refine wpAnyH_take (i := 4) (oi := ({ dst := some 19, op := .move (.tmp 2), type := 2, pos := "law.go:25", after := #[], guard := none } : Oper)) (v := ?vs4_4) rfl meets2_plain (by as_aux_lemma => kernel_rfl) (by as_aux_lemma => kernel_rfl) (fun _ _ _ h => h) (Or.inl ⟨by rfl, ?ys4_4⟩) (by assumption) ?rs4_4
        case ys4_4 => (intro w hSw; (try dsimp only at hSw); go_simp; try with_reducible rfl)
        try simp only [Act.put, List.setIfInBounds_toArray, List.set_cons_zero, List.set_cons_succ]
        refine wpAnyH_ready (rs := [2]) (by as_aux_lemma => kernel_rfl) (by simp) ?_
        refine AllReadyH.cons (o := ({ dst := some 17, op := .call { callee := .value (.func 9), args := #[.tmp 15, .tmp 16], argTypes := #[23, 2] }, type := 4, pos := "law.go:25", after := #[{ on := 0, ground := .data }, { on := 1, ground := .data }], guard := none } : Oper)) rfl (fun KK hK => ?_) AllReadyH.nil
        rw [if_pos (by rfl)]
        go_simp
        go_at_call 9; refine (KM.out _).mono ?_; rintro e w5 ⟨rfl, hb5⟩
        go_wp2_with fail
        refine hK.out _ _ ?_ (fun hHeld5 => ?_)
        · exact belowT (by assumption) hb5
        clear hK KK hb5
        try simp only [Act.put, List.setIfInBounds_toArray, List.set_cons_zero, List.set_cons_succ]
        refine wpAnyH_ready (rs := [5]) (by as_aux_lemma => kernel_rfl) (by simp) ?_
        refine AllReadyH.cons (o := ({ dst := some 20, op := .call { callee := .value (.func 9), args := #[.tmp 18, .tmp 19], argTypes := #[23, 2] }, type := 4, pos := "law.go:25", after := #[{ on := 3, ground := .data }, { on := 4, ground := .data }, { on := 2, ground := .chain }], guard := none } : Oper)) rfl (fun KK hK => ?_) AllReadyH.nil
        rw [if_pos (by rfl)]
        go_simp
        go_at_call 9; refine (KA.out _).mono ?_; rintro e w6 ⟨rfl, hb6⟩
        go_wp2_with fail
        refine hK.out _ _ ?_ (fun hHeld6 => ?_)
        · exact belowT (by assumption) hb6
        clear hK KK hb6 hHeld5
        try simp only [Act.put, List.setIfInBounds_toArray, List.set_cons_zero, List.set_cons_succ]
        refine wpAnyH_take (i := 6) (oi := ({ dst := some 21, op := .move (.tmp 20), type := 4, pos := "law.go:25", after := #[{ on := 5, ground := .data }, { on := 5, ground := .chain }], guard := none } : Oper)) (v := ?vs4_6) rfl meets2_plain (by as_aux_lemma => kernel_rfl) (by as_aux_lemma => kernel_rfl) (fun _ _ _ h => h) (Or.inl ⟨by rfl, ?ys4_6⟩) (by assumption) ?rs4_6
        case ys4_6 => (intro w hSw; (try dsimp only at hSw); go_simp; try with_reducible rfl)
        try simp only [Act.put, List.setIfInBounds_toArray, List.set_cons_zero, List.set_cons_succ]
        refine wpAnyH_take (i := 7) (oi := ({ dst := some 22, op := .load 23 (.tmp 4), type := 23, pos := "law.go:25", after := #[{ on := 6, ground := .guard }], guard := some (6, true) } : Oper)) (v := undef) rfl meets2_plain (by as_aux_lemma => kernel_rfl) (by as_aux_lemma => kernel_rfl) (fun _ _ _ h => h) (Or.inr ⟨by rfl, rfl⟩) (by assumption) ?_
        try simp only [Act.put, List.setIfInBounds_toArray, List.set_cons_zero, List.set_cons_succ]
        refine wpAnyH_take (i := 8) (oi := ({ dst := some 23, op := .move (.tmp 2), type := 2, pos := "law.go:25", after := #[{ on := 6, ground := .guard }], guard := some (6, true) } : Oper)) (v := undef) rfl meets2_plain (by as_aux_lemma => kernel_rfl) (by as_aux_lemma => kernel_rfl) (fun _ _ _ h => h) (Or.inr ⟨by rfl, rfl⟩) (by assumption) ?_
        try simp only [Act.put, List.setIfInBounds_toArray, List.set_cons_zero, List.set_cons_succ]
        refine wpAnyH_take (i := 9) (oi := ({ dst := some 24, op := .call { callee := .value (.func 9), args := #[.tmp 22, .tmp 23], argTypes := #[23, 2] }, type := 4, pos := "law.go:25", after := #[{ on := 7, ground := .data }, { on := 8, ground := .data }, { on := 6, ground := .chain }, { on := 6, ground := .guard }], guard := some (6, true) } : Oper)) (v := undef) rfl meets2_plain (by as_aux_lemma => kernel_rfl) (by as_aux_lemma => kernel_rfl) (fun _ _ _ h => h) (Or.inr ⟨by rfl, rfl⟩) (by assumption) ?_
        try simp only [Act.put, List.setIfInBounds_toArray, List.set_cons_zero, List.set_cons_succ]
        refine wpAnyH_take (i := 10) (oi := ({ dst := some 25, op := .pick (.tmp 21) (.tmp 24) (.const (.bool false)), type := 4, pos := "law.go:25", after := #[{ on := 6, ground := .data }, { on := 9, ground := .data }], guard := none } : Oper)) (v := ?vs4_10) rfl meets2_plain (by as_aux_lemma => kernel_rfl) (by as_aux_lemma => kernel_rfl) (fun _ _ _ h => h) (Or.inl ⟨by rfl, ?ys4_10⟩) (by assumption) ?rs4_10
        case ys4_10 => (intro w hSw; (try dsimp only at hSw); go_simp; try with_reducible rfl)
        try simp only [Act.put, List.setIfInBounds_toArray, List.set_cons_zero, List.set_cons_succ]
        refine wpAnyH_take (i := 11) (oi := ({ dst := some 26, op := .binOp .neq 4 (.tmp 17) (.tmp 25) 4, type := 4, pos := "law.go:25", after := #[{ on := 2, ground := .data }, { on := 10, ground := .data }], guard := none } : Oper)) (v := ?vs4_11) rfl meets2_plain (by as_aux_lemma => kernel_rfl) (by as_aux_lemma => kernel_rfl) (fun _ _ _ h => h) (Or.inl ⟨by rfl, ?ys4_11⟩) (by assumption) ?rs4_11
        case ys4_11 => (intro w hSw; (try dsimp only at hSw); go_simp; try with_reducible rfl)
        try simp only [Act.put, List.setIfInBounds_toArray, List.set_cons_zero, List.set_cons_succ]
        refine wpAnyH_take (i := 12) (oi := ({ dst := some 27, op := .move (.tmp 26), type := 4, pos := "law.go:25", after := #[{ on := 11, ground := .data }, { on := 9, ground := .chain }], guard := none } : Oper)) (v := ?vs4_12) rfl meets2_plain (by as_aux_lemma => kernel_rfl) (by as_aux_lemma => kernel_rfl) (fun _ _ _ h => h) (Or.inl ⟨by rfl, ?ys4_12⟩) (by assumption) ?rs4_12
        case ys4_12 => (intro w hSw; (try dsimp only at hSw); go_simp; try with_reducible rfl)
        try simp only [Act.put, List.setIfInBounds_toArray, List.set_cons_zero, List.set_cons_succ]
        refine wpAnyH_take (i := 13) (oi := ({ dst := some 28, op := .load 23 (.tmp 3), type := 23, pos := "law.go:25", after := #[{ on := 12, ground := .guard }], guard := some (12, false) } : Oper)) (v := ?vs4_13) rfl meets2_plain (by as_aux_lemma => kernel_rfl) (by as_aux_lemma => kernel_rfl) (fun _ _ _ h => h) (Or.inl ⟨by rfl, ?ys4_13⟩) (by assumption) ?rs4_13
        case ys4_13 => (intro w hSw; (try dsimp only at hSw); go_simp; try with_reducible rfl)
        try simp only [Act.put, List.setIfInBounds_toArray, List.set_cons_zero, List.set_cons_succ]
        refine wpAnyH_take (i := 14) (oi := ({ dst := some 29, op := .move (.tmp 2), type := 2, pos := "law.go:25", after := #[{ on := 12, ground := .guard }], guard := some (12, false) } : Oper)) (v := ?vs4_14) rfl meets2_plain (by as_aux_lemma => kernel_rfl) (by as_aux_lemma => kernel_rfl) (fun _ _ _ h => h) (Or.inl ⟨by rfl, ?ys4_14⟩) (by assumption) ?rs4_14
        case ys4_14 => (intro w hSw; (try dsimp only at hSw); go_simp; try with_reducible rfl)
        try simp only [Act.put, List.setIfInBounds_toArray, List.set_cons_zero, List.set_cons_succ]
        refine wpAnyH_ready (rs := [15]) (by as_aux_lemma => kernel_rfl) (by simp) ?_
        refine AllReadyH.cons (o := ({ dst := some 30, op := .call { callee := .value (.func 9), args := #[.tmp 28, .tmp 29], argTypes := #[23, 2] }, type := 4, pos := "law.go:25", after := #[{ on := 13, ground := .data }, { on := 14, ground := .data }, { on := 12, ground := .chain }, { on := 12, ground := .guard }], guard := some (12, false) } : Oper)) rfl (fun KK hK => ?_) AllReadyH.nil
        rw [if_pos (by rfl)]
        go_simp
        go_at_call 9; refine (KA.out _).mono ?_; rintro e w7 ⟨rfl, hb7⟩
        go_wp2_with fail
        refine hK.out _ _ ?_ (fun hHeld7 => ?_)
        · exact belowT (by assumption) hb7
        clear hK KK hb7 hHeld6
        try simp only [Act.put, List.setIfInBounds_toArray, List.set_cons_zero, List.set_cons_succ]
        refine wpAnyH_take (i := 16) (oi := ({ dst := some 31, op := .move (.tmp 30), type := 4, pos := "law.go:25", after := #[{ on := 15, ground := .data }, { on := 15, ground := .chain }, { on := 12, ground := .guard }], guard := some (12, false) } : Oper)) (v := ?vs4_16) rfl meets2_plain (by as_aux_lemma => kernel_rfl) (by as_aux_lemma => kernel_rfl) (fun _ _ _ h => h) (Or.inl ⟨by rfl, ?ys4_16⟩) (by assumption) ?rs4_16
        case ys4_16 => (intro w hSw; (try dsimp only at hSw); go_simp; try with_reducible rfl)
        try simp only [Act.put, List.setIfInBounds_toArray, List.set_cons_zero, List.set_cons_succ]
        refine wpAnyH_take (i := 17) (oi := ({ dst := some 32, op := .load 23 (.tmp 4), type := 23, pos := "law.go:25", after := #[{ on := 16, ground := .guard }], guard := some (16, false) } : Oper)) (v := ?vs4_17) rfl meets2_plain (by as_aux_lemma => kernel_rfl) (by as_aux_lemma => kernel_rfl) (fun _ _ _ h => h) (Or.inl ⟨by rfl, ?ys4_17⟩) (by assumption) ?rs4_17
        case ys4_17 => (intro w hSw; (try dsimp only at hSw); go_simp; try with_reducible rfl)
        try simp only [Act.put, List.setIfInBounds_toArray, List.set_cons_zero, List.set_cons_succ]
        refine wpAnyH_take (i := 18) (oi := ({ dst := some 33, op := .move (.tmp 2), type := 2, pos := "law.go:25", after := #[{ on := 16, ground := .guard }], guard := some (16, false) } : Oper)) (v := ?vs4_18) rfl meets2_plain (by as_aux_lemma => kernel_rfl) (by as_aux_lemma => kernel_rfl) (fun _ _ _ h => h) (Or.inl ⟨by rfl, ?ys4_18⟩) (by assumption) ?rs4_18
        case ys4_18 => (intro w hSw; (try dsimp only at hSw); go_simp; try with_reducible rfl)
        try simp only [Act.put, List.setIfInBounds_toArray, List.set_cons_zero, List.set_cons_succ]
        refine wpAnyH_ready (rs := [19]) (by as_aux_lemma => kernel_rfl) (by simp) ?_
        refine AllReadyH.cons (o := ({ dst := some 34, op := .call { callee := .value (.func 9), args := #[.tmp 32, .tmp 33], argTypes := #[23, 2] }, type := 4, pos := "law.go:25", after := #[{ on := 17, ground := .data }, { on := 18, ground := .data }, { on := 16, ground := .chain }, { on := 16, ground := .guard }], guard := some (16, false) } : Oper)) rfl (fun KK hK => ?_) AllReadyH.nil
        rw [if_pos (by rfl)]
        go_simp
        go_at_call 9; refine (KB.out _).mono ?_; rintro e w8 ⟨rfl, hb8⟩
        go_wp2_with fail
        refine hK.out _ _ ?_ (fun hHeld8 => ?_)
        · exact belowT (by assumption) hb8
        clear hK KK hb8 hHeld7
        try simp only [Act.put, List.setIfInBounds_toArray, List.set_cons_zero, List.set_cons_succ]
        refine wpAnyH_take (i := 20) (oi := ({ dst := some 35, op := .pick (.tmp 31) (.const (.bool true)) (.tmp 34), type := 4, pos := "law.go:25", after := #[{ on := 16, ground := .data }, { on := 19, ground := .data }, { on := 12, ground := .guard }], guard := some (12, false) } : Oper)) (v := ?vs4_20) rfl meets2_plain (by as_aux_lemma => kernel_rfl) (by as_aux_lemma => kernel_rfl) (fun _ _ _ h => h) (Or.inl ⟨by rfl, ?ys4_20⟩) (by assumption) ?rs4_20
        case ys4_20 => (intro w hSw; (try dsimp only at hSw); go_simp; try with_reducible rfl)
        try simp only [Act.put, List.setIfInBounds_toArray, List.set_cons_zero, List.set_cons_succ]
        refine wpAnyH_take (i := 21) (oi := ({ dst := some 36, op := .move (.tmp 35), type := 4, pos := "law.go:25", after := #[{ on := 20, ground := .data }, { on := 19, ground := .chain }, { on := 12, ground := .guard }], guard := some (12, false) } : Oper)) (v := ?vs4_21) rfl meets2_plain (by as_aux_lemma => kernel_rfl) (by as_aux_lemma => kernel_rfl) (fun _ _ _ h => h) (Or.inl ⟨by rfl, ?ys4_21⟩) (by assumption) ?rs4_21
        case ys4_21 => (intro w hSw; (try dsimp only at hSw); go_simp; try with_reducible rfl)
        try simp only [Act.put, List.setIfInBounds_toArray, List.set_cons_zero, List.set_cons_succ]
        refine wpAnyH_take (i := 22) (oi := ({ dst := some 37, op := .load 23 (.tmp 8), type := 23, pos := "law.go:25", after := #[{ on := 21, ground := .guard }], guard := some (21, true) } : Oper)) (v := undef) rfl meets2_plain (by as_aux_lemma => kernel_rfl) (by as_aux_lemma => kernel_rfl) (fun _ _ _ h => h) (Or.inr ⟨by rfl, rfl⟩) (by assumption) ?_
        try simp only [Act.put, List.setIfInBounds_toArray, List.set_cons_zero, List.set_cons_succ]
        refine wpAnyH_take (i := 23) (oi := ({ dst := some 38, op := .move (.tmp 2), type := 2, pos := "law.go:25", after := #[{ on := 21, ground := .guard }], guard := some (21, true) } : Oper)) (v := undef) rfl meets2_plain (by as_aux_lemma => kernel_rfl) (by as_aux_lemma => kernel_rfl) (fun _ _ _ h => h) (Or.inr ⟨by rfl, rfl⟩) (by assumption) ?_
        try simp only [Act.put, List.setIfInBounds_toArray, List.set_cons_zero, List.set_cons_succ]
        refine wpAnyH_take (i := 24) (oi := ({ dst := some 39, op := .call { callee := .value (.func 9), args := #[.tmp 37, .tmp 38], argTypes := #[23, 2] }, type := 4, pos := "law.go:25", after := #[{ on := 22, ground := .data }, { on := 23, ground := .data }, { on := 21, ground := .chain }, { on := 21, ground := .guard }], guard := some (21, true) } : Oper)) (v := undef) rfl meets2_plain (by as_aux_lemma => kernel_rfl) (by as_aux_lemma => kernel_rfl) (fun _ _ _ h => h) (Or.inr ⟨by rfl, rfl⟩) (by assumption) ?_
        try simp only [Act.put, List.setIfInBounds_toArray, List.set_cons_zero, List.set_cons_succ]
        refine wpAnyH_take (i := 25) (oi := ({ dst := some 40, op := .unOp .not 4 (.tmp 39), type := 4, pos := "law.go:25", after := #[{ on := 24, ground := .data }, { on := 21, ground := .guard }], guard := some (21, true) } : Oper)) (v := undef) rfl meets2_plain (by as_aux_lemma => kernel_rfl) (by as_aux_lemma => kernel_rfl) (fun _ _ _ h => h) (Or.inr ⟨by rfl, rfl⟩) (by assumption) ?_
        try simp only [Act.put, List.setIfInBounds_toArray, List.set_cons_zero, List.set_cons_succ]
        refine wpAnyH_take (i := 26) (oi := ({ dst := some 41, op := .pick (.tmp 36) (.tmp 40) (.const (.bool false)), type := 4, pos := "law.go:25", after := #[{ on := 21, ground := .data }, { on := 25, ground := .data }, { on := 12, ground := .guard }], guard := some (12, false) } : Oper)) (v := ?vs4_26) rfl meets2_plain (by as_aux_lemma => kernel_rfl) (by as_aux_lemma => kernel_rfl) (fun _ _ _ h => h) (Or.inl ⟨by rfl, ?ys4_26⟩) (by assumption) ?rs4_26
        case ys4_26 => (intro w hSw; (try dsimp only at hSw); go_simp; try with_reducible rfl)
        try simp only [Act.put, List.setIfInBounds_toArray, List.set_cons_zero, List.set_cons_succ]
        refine wpAnyH_take (i := 27) (oi := ({ dst := some 42, op := .pick (.tmp 27) (.const (.bool true)) (.tmp 41), type := 4, pos := "law.go:25", after := #[{ on := 12, ground := .data }, { on := 26, ground := .data }], guard := none } : Oper)) (v := ?vs4_27) rfl meets2_plain (by as_aux_lemma => kernel_rfl) (by as_aux_lemma => kernel_rfl) (fun _ _ _ h => h) (Or.inl ⟨by rfl, ?ys4_27⟩) (by assumption) ?rs4_27
        case ys4_27 => (intro w hSw; (try dsimp only at hSw); go_simp; try with_reducible rfl)
        try simp only [Act.put, List.setIfInBounds_toArray, List.set_cons_zero, List.set_cons_succ]
        refine wpAnyH_done (by as_aux_lemma => kernel_rfl) ?_ _
        refine NoPanic.normal ?_
        go_wp2_with fail
        go_meet
        exact ⟨rfl, by assumption⟩
    case rest =>
      rename World => wy
      obtain ⟨rfl, hby⟩ := hcut
      have B2 := belowT B1 hby
      have X2 := X1.keep hby
      have Y2 := Y1.keep hby
      have G2 := OG.keep hby
      have H2 := OH.keep hby
      clear xr0 xr1 yr0 yr1 gr0 gr1 hr0 hr1 hk
      have f0 := X2.c0; have f1 := X2.c1; have f2 := Y2.c0; have f3 := Y2.c1; have f4 := G2.c0; have f5 := G2.c1; have f6 := H2.c0; have f7 := H2.c1
      rcases he with ⟨rfl, rfl, rfl, rfl⟩ | ⟨rfl, hp, hq⟩
      · skip
        go_wp2_with fail
        refine (EH.out _).mono ?_; rintro e w5 ⟨rfl, hb5⟩
        have B5 := belowT (B2) hb5
        have X5 := (X2).keep hb5; have X5a := X5.c0; have X5b := X5.c1; have X5c := X5.f0; have X5d := X5.f1; have X5l := X5.lt
        have Y5 := (Y2).keep hb5; have Y5a := Y5.c0; have Y5b := Y5.c1; have Y5c := Y5.f0; have Y5d := Y5.f1; have Y5l := Y5.lt
        have U5 := (G2).keep hb5; have U5a := U5.c0; have U5b := U5.c1; have U5c := U5.f0; have U5d := U5.f1; have U5l := U5.lt
        have V5 := (H2).keep hb5; have V5a := V5.c0; have V5b := V5.c1; have V5c := V5.f0; have V5d := V5.f1; have V5l := V5.lt
        go_wp2_with fail
        refine (EA.out _).mono ?_; rintro e w6 ⟨rfl, hb6⟩
        have B6 := belowT (B5) hb6
        have X6 := (X5).keep hb6; have X6a := X6.c0; have X6b := X6.c1; have X6c := X6.f0; have X6d := X6.f1; have X6l := X6.lt
        have Y6 := (Y5).keep hb6; have Y6a := Y6.c0; have Y6b := Y6.c1; have Y6c := Y6.f0; have Y6d := Y6.f1; have Y6l := Y6.lt
        have U6 := (U5).keep hb6; have U6a := U6.c0; have U6b := U6.c1; have U6c := U6.f0; have U6d := U6.f1; have U6l := U6.lt
        have V6 := (V5).keep hb6; have V6a := V6.c0; have V6b := V6.c1; have V6c := V6.f0; have V6d := V6.f1; have V6l := V6.lt
        go_wp2_with fail
        refine (EB.out _).mono ?_; rintro e w7 ⟨rfl, hb7⟩
        have B7 := belowT (B6) hb7
        have X7 := (X6).keep hb7; have X7a := X7.c0; have X7b := X7.c1; have X7c := X7.f0; have X7d := X7.f1; have X7l := X7.lt
        have Y7 := (Y6).keep hb7; have Y7a := Y7.c0; have Y7b := Y7.c1; have Y7c := Y7.f0; have Y7d := Y7.f1; have Y7l := Y7.lt
        have U7 := (U6).keep hb7; have U7a := U7.c0; have U7b := U7.c1; have U7c := U7.f0; have U7d := U7.f1; have U7l := U7.lt
        have V7 := (V6).keep hb7; have V7a := V7.c0; have V7b := V7.c1; have V7c := V7.f0; have V7d := V7.f1; have V7l := V7.lt
        go_wp2_with fail
        refine (EM.out _).mono ?_; rintro e w8 ⟨rfl, hb8⟩
        have B8 := belowT (B7) hb8
        have X8 := (X7).keep hb8; have X8a := X8.c0; have X8b := X8.c1; have X8c := X8.f0; have X8d := X8.f1; have X8l := X8.lt
        have Y8 := (Y7).keep hb8; have Y8a := Y8.c0; have Y8b := Y8.c1; have Y8c := Y8.f0; have Y8d := Y8.f1; have Y8l := Y8.lt
        have U8 := (U7).keep hb8; have U8a := U8.c0; have U8b := U8.c1; have U8c := U8.f0; have U8d := U8.f1; have U8l := U8.lt
        have V8 := (V7).keep hb8; have V8a := V8.c0; have V8b := V8.c1; have V8c := V8.f0; have V8d := V8.f1; have V8l := V8.lt
        go_wp2_with fail
        refine (AW.out _ (B8)).mono ?_; rintro e w9 ⟨rfl, hb9⟩
        have B9 := belowT (B8) hb9
        have X9 := (X8).keep hb9; have X9a := X9.c0; have X9b := X9.c1; have X9c := X9.f0; have X9d := X9.f1; have X9l := X9.lt
        have Y9 := (Y8).keep hb9; have Y9a := Y9.c0; have Y9b := Y9.c1; have Y9c := Y9.f0; have Y9d := Y9.f1; have Y9l := Y9.lt
        have U9 := (U8).keep hb9; have U9a := U9.c0; have U9b := U9.c1; have U9c := U9.f0; have U9d := U9.f1; have U9l := U9.lt
        have V9 := (V8).keep hb9; have V9a := V9.c0; have V9b := V9.c1; have V9c := V9.f0; have V9d := V9.f1; have V9l := V9.lt
        go_wp2_with fail
        go_ret
        exact ⟨rfl, B9⟩
      · rcases hp with rfl | ⟨rfl, rfl⟩ <;> rcases hq with rfl | ⟨rfl, rfl⟩
        · skip
          go_wp2_with fail
          refine (EH.out _).mono ?_; rintro e w5 ⟨rfl, hb5⟩
          have B5 := belowT (B2) hb5
          have X5 := (X2).keep hb5; have X5a := X5.c0; have X5b := X5.c1; have X5c := X5.f0; have X5d := X5.f1; have X5l := X5.lt
          have Y5 := (Y2).keep hb5; have Y5a := Y5.c0; have Y5b := Y5.c1; have Y5c := Y5.f0; have Y5d := Y5.f1; have Y5l := Y5.lt
          have U5 := (G2).keep hb5; have U5a := U5.c0; have U5b := U5.c1; have U5c := U5.f0; have U5d := U5.f1; have U5l := U5.lt
          have V5 := (H2).keep hb5; have V5a := V5.c0; have V5b := V5.c1; have V5c := V5.f0; have V5d := V5.f1; have V5l := V5.lt
          go_wp2_with fail
          refine (P1.out _).mono ?_; rintro e w6 ⟨rfl, hb6⟩
          have B6 := belowT (B5) hb6
          have X6 := (X5).keep hb6; have X6a := X6.c0; have X6b := X6.c1; have X6c := X6.f0; have X6d := X6.f1; have X6l := X6.lt
          have Y6 := (Y5).keep hb6; have Y6a := Y6.c0; have Y6b := Y6.c1; have Y6c := Y6.f0; have Y6d := Y6.f1; have Y6l := Y6.lt
          have U6 := (U5).keep hb6; have U6a := U6.c0; have U6b := U6.c1; have U6c := U6.f0; have U6d := U6.f1; have U6l := U6.lt
          have V6 := (V5).keep hb6; have V6a := V6.c0; have V6b := V6.c1; have V6c := V6.f0; have V6d := V6.f1; have V6l := V6.lt
          go_wp2_with fail
          refine (P3.out _).mono ?_; rintro e w7 ⟨rfl, hb7⟩
          have B7 := belowT (B6) hb7
          have X7 := (X6).keep hb7; have X7a := X7.c0; have X7b := X7.c1; have X7c := X7.f0; have X7d := X7.f1; have X7l := X7.lt
          have Y7 := (Y6).keep hb7; have Y7a := Y7.c0; have Y7b := Y7.c1; have Y7c := Y7.f0; have Y7d := Y7.f1; have Y7l := Y7.lt
          have U7 := (U6).keep hb7; have U7a := U7.c0; have U7b := U7.c1; have U7c := U7.f0; have U7d := U7.f1; have U7l := U7.lt
          have V7 := (V6).keep hb7; have V7a := V7.c0; have V7b := V7.c1; have V7c := V7.f0; have V7d := V7.f1; have V7l := V7.lt
          go_wp2_with fail
          refine (AW.out _ (B7)).mono ?_; rintro e w8 ⟨rfl, hb8⟩
          have B8 := belowT (B7) hb8
          have X8 := (X7).keep hb8; have X8a := X8.c0; have X8b := X8.c1; have X8c := X8.f0; have X8d := X8.f1; have X8l := X8.lt
          have Y8 := (Y7).keep hb8; have Y8a := Y8.c0; have Y8b := Y8.c1; have Y8c := Y8.f0; have Y8d := Y8.f1; have Y8l := Y8.lt
          have U8 := (U7).keep hb8; have U8a := U8.c0; have U8b := U8.c1; have U8c := U8.f0; have U8d := U8.f1; have U8l := U8.lt
          have V8 := (V7).keep hb8; have V8a := V8.c0; have V8b := V8.c1; have V8c := V8.f0; have V8d := V8.f1; have V8l := V8.lt
          go_wp2_with fail
          go_ret
          exact ⟨rfl, B8⟩
        · skip
          go_wp2_with fail
          refine (EH.out _).mono ?_; rintro e w5 ⟨rfl, hb5⟩
          have B5 := belowT (B2) hb5
          have X5 := (X2).keep hb5; have X5a := X5.c0; have X5b := X5.c1; have X5c := X5.f0; have X5d := X5.f1; have X5l := X5.lt
          have Y5 := (Y2).keep hb5; have Y5a := Y5.c0; have Y5b := Y5.c1; have Y5c := Y5.f0; have Y5d := Y5.f1; have Y5l := Y5.lt
          have U5 := (G2).keep hb5; have U5a := U5.c0; have U5b := U5.c1; have U5c := U5.f0; have U5d := U5.f1; have U5l := U5.lt
          have V5 := (H2).keep hb5; have V5a := V5.c0; have V5b := V5.c1; have V5c := V5.f0; have V5d := V5.f1; have V5l := V5.lt
          go_wp2_with fail
          refine (P1.out _).mono ?_; rintro e w6 ⟨rfl, hb6⟩
          have B6 := belowT (B5) hb6
          have X6 := (X5).keep hb6; have X6a := X6.c0; have X6b := X6.c1; have X6c := X6.f0; have X6d := X6.f1; have X6l := X6.lt
          have Y6 := (Y5).keep hb6; have Y6a := Y6.c0; have Y6b := Y6.c1; have Y6c := Y6.f0; have Y6d := Y6.f1; have Y6l := Y6.lt
          have U6 := (U5).keep hb6; have U6a := U6.c0; have U6b := U6.c1; have U6c := U6.f0; have U6d := U6.f1; have U6l := U6.lt
          have V6 := (V5).keep hb6; have V6a := V6.c0; have V6b := V6.c1; have V6c := V6.f0; have V6d := V6.f1; have V6l := V6.lt
          go_wp2_with fail
          refine (P3.out _).mono ?_; rintro e w7 ⟨rfl, hb7⟩
          have B7 := belowT (B6) hb7
          have X7 := (X6).keep hb7; have X7a := X7.c0; have X7b := X7.c1; have X7c := X7.f0; have X7d := X7.f1; have X7l := X7.lt
          have Y7 := (Y6).keep hb7; have Y7a := Y7.c0; have Y7b := Y7.c1; have Y7c := Y7.f0; have Y7d := Y7.f1; have Y7l := Y7.lt
          have U7 := (U6).keep hb7; have U7a := U7.c0; have U7b := U7.c1; have U7c := U7.f0; have U7d := U7.f1; have U7l := U7.lt
          have V7 := (V6).keep hb7; have V7a := V7.c0; have V7b := V7.c1; have V7c := V7.f0; have V7d := V7.f1; have V7l := V7.lt
          go_wp2_with fail
          refine (P4.out _).mono ?_; rintro e w8 ⟨rfl, hb8⟩
          have B8 := belowT (B7) hb8
          have X8 := (X7).keep hb8; have X8a := X8.c0; have X8b := X8.c1; have X8c := X8.f0; have X8d := X8.f1; have X8l := X8.lt
          have Y8 := (Y7).keep hb8; have Y8a := Y8.c0; have Y8b := Y8.c1; have Y8c := Y8.f0; have Y8d := Y8.f1; have Y8l := Y8.lt
          have U8 := (U7).keep hb8; have U8a := U8.c0; have U8b := U8.c1; have U8c := U8.f0; have U8d := U8.f1; have U8l := U8.lt
          have V8 := (V7).keep hb8; have V8a := V8.c0; have V8b := V8.c1; have V8c := V8.f0; have V8d := V8.f1; have V8l := V8.lt
          go_wp2_with fail
          refine (AW.out _ (B8)).mono ?_; rintro e w9 ⟨rfl, hb9⟩
          have B9 := belowT (B8) hb9
          have X9 := (X8).keep hb9; have X9a := X9.c0; have X9b := X9.c1; have X9c := X9.f0; have X9d := X9.f1; have X9l := X9.lt
          have Y9 := (Y8).keep hb9; have Y9a := Y9.c0; have Y9b := Y9.c1; have Y9c := Y9.f0; have Y9d := Y9.f1; have Y9l := Y9.lt
          have U9 := (U8).keep hb9; have U9a := U9.c0; have U9b := U9.c1; have U9c := U9.f0; have U9d := U9.f1; have U9l := U9.lt
          have V9 := (V8).keep hb9; have V9a := V9.c0; have V9b := V9.c1; have V9c := V9.f0; have V9d := V9.f1; have V9l := V9.lt
          go_wp2_with fail
          go_ret
          exact ⟨rfl, B9⟩
        · skip
          go_wp2_with fail
          refine (EH.out _).mono ?_; rintro e w5 ⟨rfl, hb5⟩
          have B5 := belowT (B2) hb5
          have X5 := (X2).keep hb5; have X5a := X5.c0; have X5b := X5.c1; have X5c := X5.f0; have X5d := X5.f1; have X5l := X5.lt
          have Y5 := (Y2).keep hb5; have Y5a := Y5.c0; have Y5b := Y5.c1; have Y5c := Y5.f0; have Y5d := Y5.f1; have Y5l := Y5.lt
          have U5 := (G2).keep hb5; have U5a := U5.c0; have U5b := U5.c1; have U5c := U5.f0; have U5d := U5.f1; have U5l := U5.lt
          have V5 := (H2).keep hb5; have V5a := V5.c0; have V5b := V5.c1; have V5c := V5.f0; have V5d := V5.f1; have V5l := V5.lt
          go_wp2_with fail
          refine (P1.out _).mono ?_; rintro e w6 ⟨rfl, hb6⟩
          have B6 := belowT (B5) hb6
          have X6 := (X5).keep hb6; have X6a := X6.c0; have X6b := X6.c1; have X6c := X6.f0; have X6d := X6.f1; have X6l := X6.lt
          have Y6 := (Y5).keep hb6; have Y6a := Y6.c0; have Y6b := Y6.c1; have Y6c := Y6.f0; have Y6d := Y6.f1; have Y6l := Y6.lt
          have U6 := (U5).keep hb6; have U6a := U6.c0; have U6b := U6.c1; have U6c := U6.f0; have U6d := U6.f1; have U6l := U6.lt
          have V6 := (V5).keep hb6; have V6a := V6.c0; have V6b := V6.c1; have V6c := V6.f0; have V6d := V6.f1; have V6l := V6.lt
          go_wp2_with fail
          refine (P2.out _).mono ?_; rintro e w7 ⟨rfl, hb7⟩
          have B7 := belowT (B6) hb7
          have X7 := (X6).keep hb7; have X7a := X7.c0; have X7b := X7.c1; have X7c := X7.f0; have X7d := X7.f1; have X7l := X7.lt
          have Y7 := (Y6).keep hb7; have Y7a := Y7.c0; have Y7b := Y7.c1; have Y7c := Y7.f0; have Y7d := Y7.f1; have Y7l := Y7.lt
          have U7 := (U6).keep hb7; have U7a := U7.c0; have U7b := U7.c1; have U7c := U7.f0; have U7d := U7.f1; have U7l := U7.lt
          have V7 := (V6).keep hb7; have V7a := V7.c0; have V7b := V7.c1; have V7c := V7.f0; have V7d := V7.f1; have V7l := V7.lt
          go_wp2_with fail
          refine (P3.out _).mono ?_; rintro e w8 ⟨rfl, hb8⟩
          have B8 := belowT (B7) hb8
          have X8 := (X7).keep hb8; have X8a := X8.c0; have X8b := X8.c1; have X8c := X8.f0; have X8d := X8.f1; have X8l := X8.lt
          have Y8 := (Y7).keep hb8; have Y8a := Y8.c0; have Y8b := Y8.c1; have Y8c := Y8.f0; have Y8d := Y8.f1; have Y8l := Y8.lt
          have U8 := (U7).keep hb8; have U8a := U8.c0; have U8b := U8.c1; have U8c := U8.f0; have U8d := U8.f1; have U8l := U8.lt
          have V8 := (V7).keep hb8; have V8a := V8.c0; have V8b := V8.c1; have V8c := V8.f0; have V8d := V8.f1; have V8l := V8.lt
          go_wp2_with fail
          refine (AW.out _ (B8)).mono ?_; rintro e w9 ⟨rfl, hb9⟩
          have B9 := belowT (B8) hb9
          have X9 := (X8).keep hb9; have X9a := X9.c0; have X9b := X9.c1; have X9c := X9.f0; have X9d := X9.f1; have X9l := X9.lt
          have Y9 := (Y8).keep hb9; have Y9a := Y9.c0; have Y9b := Y9.c1; have Y9c := Y9.f0; have Y9d := Y9.f1; have Y9l := Y9.lt
          have U9 := (U8).keep hb9; have U9a := U9.c0; have U9b := U9.c1; have U9c := U9.f0; have U9d := U9.f1; have U9l := U9.lt
          have V9 := (V8).keep hb9; have V9a := V9.c0; have V9b := V9.c1; have V9c := V9.f0; have V9d := V9.f1; have V9l := V9.lt
          go_wp2_with fail
          go_ret
          exact ⟨rfl, B9⟩
        · skip
          go_wp2_with fail
          refine (EH.out _).mono ?_; rintro e w5 ⟨rfl, hb5⟩
          have B5 := belowT (B2) hb5
          have X5 := (X2).keep hb5; have X5a := X5.c0; have X5b := X5.c1; have X5c := X5.f0; have X5d := X5.f1; have X5l := X5.lt
          have Y5 := (Y2).keep hb5; have Y5a := Y5.c0; have Y5b := Y5.c1; have Y5c := Y5.f0; have Y5d := Y5.f1; have Y5l := Y5.lt
          have U5 := (G2).keep hb5; have U5a := U5.c0; have U5b := U5.c1; have U5c := U5.f0; have U5d := U5.f1; have U5l := U5.lt
          have V5 := (H2).keep hb5; have V5a := V5.c0; have V5b := V5.c1; have V5c := V5.f0; have V5d := V5.f1; have V5l := V5.lt
          go_wp2_with fail
          refine (P1.out _).mono ?_; rintro e w6 ⟨rfl, hb6⟩
          have B6 := belowT (B5) hb6
          have X6 := (X5).keep hb6; have X6a := X6.c0; have X6b := X6.c1; have X6c := X6.f0; have X6d := X6.f1; have X6l := X6.lt
          have Y6 := (Y5).keep hb6; have Y6a := Y6.c0; have Y6b := Y6.c1; have Y6c := Y6.f0; have Y6d := Y6.f1; have Y6l := Y6.lt
          have U6 := (U5).keep hb6; have U6a := U6.c0; have U6b := U6.c1; have U6c := U6.f0; have U6d := U6.f1; have U6l := U6.lt
          have V6 := (V5).keep hb6; have V6a := V6.c0; have V6b := V6.c1; have V6c := V6.f0; have V6d := V6.f1; have V6l := V6.lt
          go_wp2_with fail
          refine (P2.out _).mono ?_; rintro e w7 ⟨rfl, hb7⟩
          have B7 := belowT (B6) hb7
          have X7 := (X6).keep hb7; have X7a := X7.c0; have X7b := X7.c1; have X7c := X7.f0; have X7d := X7.f1; have X7l := X7.lt
          have Y7 := (Y6).keep hb7; have Y7a := Y7.c0; have Y7b := Y7.c1; have Y7c := Y7.f0; have Y7d := Y7.f1; have Y7l := Y7.lt
          have U7 := (U6).keep hb7; have U7a := U7.c0; have U7b := U7.c1; have U7c := U7.f0; have U7d := U7.f1; have U7l := U7.lt
          have V7 := (V6).keep hb7; have V7a := V7.c0; have V7b := V7.c1; have V7c := V7.f0; have V7d := V7.f1; have V7l := V7.lt
          go_wp2_with fail
          refine (P3.out _).mono ?_; rintro e w8 ⟨rfl, hb8⟩
          have B8 := belowT (B7) hb8
          have X8 := (X7).keep hb8; have X8a := X8.c0; have X8b := X8.c1; have X8c := X8.f0; have X8d := X8.f1; have X8l := X8.lt
          have Y8 := (Y7).keep hb8; have Y8a := Y8.c0; have Y8b := Y8.c1; have Y8c := Y8.f0; have Y8d := Y8.f1; have Y8l := Y8.lt
          have U8 := (U7).keep hb8; have U8a := U8.c0; have U8b := U8.c1; have U8c := U8.f0; have U8d := U8.f1; have U8l := U8.lt
          have V8 := (V7).keep hb8; have V8a := V8.c0; have V8b := V8.c1; have V8c := V8.f0; have V8d := V8.f1; have V8l := V8.lt
          go_wp2_with fail
          refine (P4.out _).mono ?_; rintro e w9 ⟨rfl, hb9⟩
          have B9 := belowT (B8) hb9
          have X9 := (X8).keep hb9; have X9a := X9.c0; have X9b := X9.c1; have X9c := X9.f0; have X9d := X9.f1; have X9l := X9.lt
          have Y9 := (Y8).keep hb9; have Y9a := Y9.c0; have Y9b := Y9.c1; have Y9c := Y9.f0; have Y9d := Y9.f1; have Y9l := Y9.lt
          have U9 := (U8).keep hb9; have U9a := U9.c0; have U9b := U9.c1; have U9c := U9.f0; have U9d := U9.f1; have U9l := U9.lt
          have V9 := (V8).keep hb9; have V9a := V9.c0; have V9b := V9.c1; have V9c := V9.f0; have V9d := V9.f1; have V9l := V9.lt
          go_wp2_with fail
          refine (AW.out _ (B9)).mono ?_; rintro e w10 ⟨rfl, hb10⟩
          have B10 := belowT (B9) hb10
          have X10 := (X9).keep hb10; have X10a := X10.c0; have X10b := X10.c1; have X10c := X10.f0; have X10d := X10.f1; have X10l := X10.lt
          have Y10 := (Y9).keep hb10; have Y10a := Y10.c0; have Y10b := Y10.c1; have Y10c := Y10.f0; have Y10d := Y10.f1; have Y10l := Y10.lt
          have U10 := (U9).keep hb10; have U10a := U10.c0; have U10b := U10.c1; have U10c := U10.f0; have U10d := U10.f1; have U10l := U10.lt
          have V10 := (V9).keep hb10; have V10a := V10.c0; have V10b := V10.c1; have V10c := V10.f0; have V10d := V10.f1; have V10l := V10.lt
          go_wp2_with fail
          go_ret
          exact ⟨rfl, B10⟩

theorem meets_any (a b c d x : Int) (w : World) (n : NoneAt w) :
    Calls Tryd.prog 3 #[.agg #[.int .i64 a, .int .i64 b], .agg #[.int .i64 c, .int .i64 d], .int .i64 x] w fun e w' => e = .returned (.bool true) ∧ Below w.heap.size w w' :=
  meets_core a b c d x _ _ _ _ _ _ _ _ _ _ _ _ _ _ _ _ w (Lib.hid fun w' B => Meet_any a b c d w' (n.keep B)) (Lib.hid fun w' B => Hull_any a b c d w' (n.keep B))
    (Lib.hid (Has_any a b x)) (Lib.hid (Has_any c d x)) (Lib.hid (Has_any _ _ x)) (Lib.hid (Has_any _ _ x)) (Lib.hid (Empty_any a b)) (Lib.hid (Empty_any c d)) (Lib.hid (Empty_any _ _)) (Lib.hid (Empty_any _ _))
    (Lib.hid (Has_any a b _)) (Lib.hid (Has_any c d _)) (Lib.hid (Has_any a b _)) (Lib.hid (Has_any c d _)) (Lib.hid fun w' B => awake_any w' (n.keep B)) (Sp.meet_hull a b c d x) (Sp.hull_ends a b c d)

end Go.Proofs.YtdembidbaojldaaDoor
