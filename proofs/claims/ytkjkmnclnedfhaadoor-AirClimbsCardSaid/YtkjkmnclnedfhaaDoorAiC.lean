/- The landed air's Both, Alt, Speed. -/
import Derived.Test.YtkjkmnclnedfhaaDoorAiWhere
import Derived.Test.YtkjkmnclnedfhaaDoorAiCfg
import Derived.BigRegion
namespace Go.Proofs.YtkjkmnclnedfhaaDoor
open Go.RowKit Obs

/-- The operations of a drawn region, as the translation has them. -/
def aboth1 : Array Oper := #[
  { dst := some 6, op := .fieldAddr 61 (.tmp 2) 8, type := 0, pos := "air.go:45", after := #[], guard := none },
  { dst := some 7, op := .load 25 (.tmp 6), type := 25, pos := "air.go:45", after := #[{ on := 0, ground := .data }], guard := none },
  { dst := some 8, op := .move (.tmp 1), type := 63, pos := "air.go:45", after := #[], guard := none },
  { dst := some 9, op := .call { callee := .value (.func 29), args := #[.tmp 7, .tmp 8, .const (.int .i64 6)], argTypes := #[25, 63, 3] }, type := 32, pos := "air.go:45", after := #[{ on := 1, ground := .data }, { on := 2, ground := .data }], guard := none },
  { dst := some 10, op := .fieldAddr 61 (.tmp 2) 9, type := 0, pos := "air.go:45", after := #[], guard := none },
  { dst := some 11, op := .load 25 (.tmp 10), type := 25, pos := "air.go:45", after := #[{ on := 4, ground := .data }], guard := none },
  { dst := some 12, op := .move (.tmp 1), type := 63, pos := "air.go:45", after := #[], guard := none },
  { dst := some 13, op := .call { callee := .value (.func 29), args := #[.tmp 11, .tmp 12, .const (.int .i64 9)], argTypes := #[25, 63, 3] }, type := 32, pos := "air.go:45", after := #[{ on := 5, ground := .data }, { on := 6, ground := .data }, { on := 3, ground := .chain }], guard := none },
  { dst := none, op := .store 32 (.tmp 4) (.tmp 9), type := 0, pos := "air.go:45", after := #[{ on := 3, ground := .data }, { on := 7, ground := .chain }, { on := 0, ground := .phase }, { on := 1, ground := .phase }, { on := 2, ground := .phase }, { on := 3, ground := .phase }, { on := 4, ground := .textOnly Go.Departure.lateStores }, { on := 5, ground := .textOnly Go.Departure.lateStores }, { on := 6, ground := .textOnly Go.Departure.lateStores }, { on := 7, ground := .textOnly Go.Departure.lateStoresUnsure }], guard := none },
  { dst := none, op := .store 32 (.tmp 5) (.tmp 13), type := 0, pos := "air.go:45", after := #[{ on := 7, ground := .data }, { on := 8, ground := .chain }, { on := 0, ground := .phase }, { on := 1, ground := .phase }, { on := 2, ground := .phase }, { on := 3, ground := .phase }, { on := 4, ground := .phase }, { on := 5, ground := .phase }, { on := 6, ground := .phase }, { on := 7, ground := .phase }, { on := 8, ground := .phase }], guard := none }]
theorem aboth1_plain : Region.noSelect aboth1 = true := by kernel_rfl

set_option maxHeartbeats 8000000 in
set_option maxRecDepth 100000 in
theorem Both_core (cf : Array Value) (a c : Ai) (ba : Option Addr) (n cap : Nat) (aL aH sL sH : Int) (w : World)
    (hai : Hid ((Tryd.prog.info? 25).map (·.size) = some 10)) (R1 : Hid (∀ (W : World) b, W.rangeAt b 0 cf.toList → W.rangeAt b 25 (al a).toArray.toList)) (R2 : Hid (∀ (W : World) b, W.rangeAt b 0 cf.toList → W.rangeAt b 35 (al c).toArray.toList))
    (WA : Hid (∀ w', Below w.heap.size w w' → Calls Tryd.prog 29 #[av a, .slice ba n cap, .int .i64 6] w' fun e w'' => e = .returned (sv aL aH) ∧ Below w'.heap.size w' w''))
    (WB : Hid (∀ w', Below w.heap.size w w' → Calls Tryd.prog 29 #[av c, .slice ba n cap, .int .i64 9] w' fun e w'' => e = .returned (sv sL sH) ∧ Below w'.heap.size w' w''))
    : Calls Tryd.prog 16 #[.agg cf, .slice ba n cap] w fun e w' => e = .returned (.tuple #[sv aL aH, sv sL sH]) ∧ Below w.heap.size w w' := by
  have hS1 := (((Sp.none w).more cf.toList 61).more [.int .i64 0, .int .i64 0] 32).more [.int .i64 0, .int .i64 0] 32
  simp only [heap1] at hS1
  have HS1 := Lib.hid (show Sp w [(w.heap.size, cf.toList.map some), (w.heap.size + 1, [some (.int .i64 0), some (.int .i64 0)]), (w.heap.size + 1 + 1, [some (.int .i64 0), some (.int .i64 0)])] (((w.alloc (.cells cf 61)).alloc (.cells #[.int .i64 0, .int .i64 0] 32)).alloc (.cells #[.int .i64 0, .int .i64 0] 32)) from hS1)
  clear hS1
  have hi := hai.out
  go_enter Tryd.func16, Tryd.ntmps16
  go_upto_region 1 with fail
  obtain ⟨w1, hX, hS⟩ := (HS1.out).named
  rw [← hX]
  clear hX HS1
  have HS2 := Lib.hid hS
  clear hS
  have hS3 := (HS2.out).forget 1 rfl 0
  have HS3 := Lib.hid hS3
  clear hS3 HS2
  have hS4 := (HS3.out).forget 1 rfl 1
  have HS4 := Lib.hid hS4
  clear hS4 HS3
  have hS5 := (HS4.out).forget 2 rfl 0
  have HS5 := Lib.hid hS5
  clear hS5 HS4
  have hS6 := (HS5.out).forget 2 rfl 1
  have HS6 := Lib.hid hS6
  clear hS6 HS5
  obtain ⟨bs1, hbs⟩ : ∃ bs : List (Nat × List (Option Value)), bs = [(w.heap.size, cf.toList.map some), (w.heap.size + 1, [none, none]), (w.heap.size + 1 + 1, [none, none])] := ⟨_, rfl⟩
  have hT := (HS6.out).cast hbs
  have o1_0 : ∀ w', Sp w bs1 w' → ∃ z, w'.cell? ⟨w.heap.size + 1, 0, none⟩ = some z ∧ w'.frozen? ⟨w.heap.size + 1, 0, none⟩ = false := by rw [hbs]; exact fun w' h => h.there 1 rfl 0 rfl
  have s1_0 : ∀ w' z, Sp w bs1 w' → Sp w bs1 (w'.setCell ⟨w.heap.size + 1, 0, none⟩ z) := by rw [hbs]; exact fun w' z h => h.hit 1 rfl 0 rfl z
  have o1_1 : ∀ w', Sp w bs1 w' → ∃ z, w'.cell? ⟨w.heap.size + 1, 1, none⟩ = some z ∧ w'.frozen? ⟨w.heap.size + 1, 1, none⟩ = false := by rw [hbs]; exact fun w' h => h.there 1 rfl 1 rfl
  have s1_1 : ∀ w' z, Sp w bs1 w' → Sp w bs1 (w'.setCell ⟨w.heap.size + 1, 1, none⟩ z) := by rw [hbs]; exact fun w' z h => h.hit 1 rfl 1 rfl z
  have o2_0 : ∀ w', Sp w bs1 w' → ∃ z, w'.cell? ⟨w.heap.size + 1 + 1, 0, none⟩ = some z ∧ w'.frozen? ⟨w.heap.size + 1 + 1, 0, none⟩ = false := by rw [hbs]; exact fun w' h => h.there 2 rfl 0 rfl
  have s2_0 : ∀ w' z, Sp w bs1 w' → Sp w bs1 (w'.setCell ⟨w.heap.size + 1 + 1, 0, none⟩ z) := by rw [hbs]; exact fun w' z h => h.hit 2 rfl 0 rfl z
  have o2_1 : ∀ w', Sp w bs1 w' → ∃ z, w'.cell? ⟨w.heap.size + 1 + 1, 1, none⟩ = some z ∧ w'.frozen? ⟨w.heap.size + 1 + 1, 1, none⟩ = false := by rw [hbs]; exact fun w' h => h.there 2 rfl 1 rfl
  have s2_1 : ∀ w' z, Sp w bs1 w' → Sp w bs1 (w'.setCell ⟨w.heap.size + 1 + 1, 1, none⟩ z) := by rw [hbs]; exact fun w' z h => h.hit 2 rfl 1 rfl z
  have RL0 : ∀ w', Sp w bs1 w' → w'.rangeAt (w.heap.size) 25 (al a).toArray.toList := by rw [hbs]; exact fun w' h => R1.out _ _ (h.range 0 (l := cf.toList) rfl)
  have RL1 : ∀ w', Sp w bs1 w' → w'.rangeAt (w.heap.size) 35 (al c).toArray.toList := by rw [hbs]; exact fun w' h => R2.out _ _ (h.range 0 (l := cf.toList) rfl)
  have nx : ∀ w', Sp w bs1 w' → Sp w [(w.heap.size, cf.toList.map some), (w.heap.size + 1, [some (.int .i64 aL), some (.int .i64 aH)]), (w.heap.size + 1 + 1, [some (.int .i64 sL), some (.int .i64 sH)])] ((((w'.setCell ⟨w.heap.size + 1, 0, none⟩ (.int .i64 aL)).setCell ⟨w.heap.size + 1, 1, none⟩ (.int .i64 aH)).setCell ⟨w.heap.size + 1 + 1, 0, none⟩ (.int .i64 sL)).setCell ⟨w.heap.size + 1 + 1, 1, none⟩ (.int .i64 sH)) := by rw [hbs]; exact fun w' h => ((((h.put 1 rfl 0 _).put 1 rfl 1 _).put 2 rfl 0 _).put 2 rfl 1 _)
  have kS : ∀ w1 w2, Sp w bs1 w1 → Below w1.heap.size w1 w2 → Sp w bs1 w2 := fun _ _ h hb => h.keep hb
  clear hbs HS6
  change (Code.region 1 aboth1 true).wp Tryd.prog _ _ _
  refine wp_region_noPanic ?_
  refine wp_region_held_drew (S := (Sp w bs1)) (by kernel_rfl) (hT.drew) (fun hHeld => ?_)
  refine wpAnyH_take (i := 0) (oi := ({ dst := some 6, op := .fieldAddr 61 (.tmp 2) 8, type := 0, pos := "air.go:45", after := #[], guard := none } : Oper)) (v := ?vs1_0) rfl aboth1_plain (by as_aux_lemma => kernel_rfl) (by as_aux_lemma => kernel_rfl) (fun _ _ _ h => h) (Or.inl ⟨by rfl, ?ys1_0⟩) (by assumption) ?rs1_0
  case ys1_0 => (intro w hSw; (try dsimp only at hSw); go_simp; try with_reducible rfl)
  try simp only [Act.put, List.setIfInBounds_toArray, List.set_cons_zero, List.set_cons_succ]
  refine wpAnyH_take (i := 1) (oi := ({ dst := some 7, op := .load 25 (.tmp 6), type := 25, pos := "air.go:45", after := #[{ on := 0, ground := .data }], guard := none } : Oper)) rfl aboth1_plain (by as_aux_lemma => kernel_rfl) (by as_aux_lemma => kernel_rfl) (fun _ _ _ h => h) (yields_load (by rfl) 25 _ rfl _ _ rfl _ _ RL0 Tryd.underlying25 rfl hi) (by assumption) ?_
  try simp only [Act.put, List.setIfInBounds_toArray, List.set_cons_zero, List.set_cons_succ]
  refine wpAnyH_take (i := 2) (oi := ({ dst := some 8, op := .move (.tmp 1), type := 63, pos := "air.go:45", after := #[], guard := none } : Oper)) (v := ?vs1_2) rfl aboth1_plain (by as_aux_lemma => kernel_rfl) (by as_aux_lemma => kernel_rfl) (fun _ _ _ h => h) (Or.inl ⟨by rfl, ?ys1_2⟩) (by assumption) ?rs1_2
  case ys1_2 => (intro w hSw; (try dsimp only at hSw); go_simp; try with_reducible rfl)
  try simp only [Act.put, List.setIfInBounds_toArray, List.set_cons_zero, List.set_cons_succ]
  refine wpAnyH_take (i := 4) (oi := ({ dst := some 10, op := .fieldAddr 61 (.tmp 2) 9, type := 0, pos := "air.go:45", after := #[], guard := none } : Oper)) (v := ?vs1_4) rfl aboth1_plain (by as_aux_lemma => kernel_rfl) (by as_aux_lemma => kernel_rfl) (fun _ _ _ h => h) (Or.inl ⟨by rfl, ?ys1_4⟩) (by assumption) ?rs1_4
  case ys1_4 => (intro w hSw; (try dsimp only at hSw); go_simp; try with_reducible rfl)
  try simp only [Act.put, List.setIfInBounds_toArray, List.set_cons_zero, List.set_cons_succ]
  refine wpAnyH_take (i := 5) (oi := ({ dst := some 11, op := .load 25 (.tmp 10), type := 25, pos := "air.go:45", after := #[{ on := 4, ground := .data }], guard := none } : Oper)) rfl aboth1_plain (by as_aux_lemma => kernel_rfl) (by as_aux_lemma => kernel_rfl) (fun _ _ _ h => h) (yields_load (by rfl) 25 _ rfl _ _ rfl _ _ RL1 Tryd.underlying25 rfl hi) (by assumption) ?_
  try simp only [Act.put, List.setIfInBounds_toArray, List.set_cons_zero, List.set_cons_succ]
  refine wpAnyH_take (i := 6) (oi := ({ dst := some 12, op := .move (.tmp 1), type := 63, pos := "air.go:45", after := #[], guard := none } : Oper)) (v := ?vs1_6) rfl aboth1_plain (by as_aux_lemma => kernel_rfl) (by as_aux_lemma => kernel_rfl) (fun _ _ _ h => h) (Or.inl ⟨by rfl, ?ys1_6⟩) (by assumption) ?rs1_6
  case ys1_6 => (intro w hSw; (try dsimp only at hSw); go_simp; try with_reducible rfl)
  try simp only [Act.put, List.setIfInBounds_toArray, List.set_cons_zero, List.set_cons_succ]
  refine wpAnyH_ready (rs := [3]) (by as_aux_lemma => kernel_rfl) (by simp) ?_
  refine AllReadyH.cons (o := ({ dst := some 9, op := .call { callee := .value (.func 29), args := #[.tmp 7, .tmp 8, .const (.int .i64 6)], argTypes := #[25, 63, 3] }, type := 32, pos := "air.go:45", after := #[{ on := 1, ground := .data }, { on := 2, ground := .data }], guard := none } : Oper)) rfl (fun KK hK => ?_) AllReadyH.nil
  rw [if_pos (by rfl)]
  go_simp
  go_at_call 29; refine (WA.out _ (Sp.below (by assumption))).mono ?_; rintro e w2 ⟨rfl, hb2⟩
  go_wp2_with fail
  refine hK.out _ _ ?_ (fun hHeld2 => ?_)
  · exact kS _ _ (by assumption) hb2
  clear hK KK hb2
  try simp only [Act.put, List.setIfInBounds_toArray, List.set_cons_zero, List.set_cons_succ]
  refine wpAnyH_ready (rs := [7]) (by as_aux_lemma => kernel_rfl) (by simp) ?_
  refine AllReadyH.cons (o := ({ dst := some 13, op := .call { callee := .value (.func 29), args := #[.tmp 11, .tmp 12, .const (.int .i64 9)], argTypes := #[25, 63, 3] }, type := 32, pos := "air.go:45", after := #[{ on := 5, ground := .data }, { on := 6, ground := .data }, { on := 3, ground := .chain }], guard := none } : Oper)) rfl (fun KK hK => ?_) AllReadyH.nil
  rw [if_pos (by rfl)]
  go_simp
  go_at_call 29; refine (WB.out _ (Sp.below (by assumption))).mono ?_; rintro e w3 ⟨rfl, hb3⟩
  go_wp2_with fail
  refine hK.out _ _ ?_ (fun hHeld3 => ?_)
  · exact kS _ _ (by assumption) hb3
  clear hK KK hb3 hHeld2
  try simp only [Act.put, List.setIfInBounds_toArray, List.set_cons_zero, List.set_cons_succ]
  refine wpAnyH_ready (rs := [8]) (by as_aux_lemma => kernel_rfl) (by simp) ?_
  refine AllReadyH.cons (o := ({ dst := none, op := .store 32 (.tmp 4) (.tmp 9), type := 0, pos := "air.go:45", after := #[{ on := 3, ground := .data }, { on := 7, ground := .chain }, { on := 0, ground := .phase }, { on := 1, ground := .phase }, { on := 2, ground := .phase }, { on := 3, ground := .phase }, { on := 4, ground := .textOnly Go.Departure.lateStores }, { on := 5, ground := .textOnly Go.Departure.lateStores }, { on := 6, ground := .textOnly Go.Departure.lateStores }, { on := 7, ground := .textOnly Go.Departure.lateStoresUnsure }], guard := none } : Oper)) rfl (fun KK hK => ?_) AllReadyH.nil
  rw [if_pos (by rfl)]
  obtain ⟨z1_0, k1_0, f1_0⟩ := o1_0 _ hHeld3
  obtain ⟨z1_1, k1_1, f1_1⟩ := o1_1 _ hHeld3
  have N1 := nx _ hHeld3
  go_simp
  refine hK.out _ _ ?_ (fun hHeldS0 => ?_)
  · exact (s1_1 _ _ (s1_0 _ _ hHeld3))
  clear hK KK
  try simp only [Act.put, List.setIfInBounds_toArray, List.set_cons_zero, List.set_cons_succ]
  refine wpAnyH_ready (rs := [9]) (by as_aux_lemma => kernel_rfl) (by simp) ?_
  refine AllReadyH.cons (o := ({ dst := none, op := .store 32 (.tmp 5) (.tmp 13), type := 0, pos := "air.go:45", after := #[{ on := 7, ground := .data }, { on := 8, ground := .chain }, { on := 0, ground := .phase }, { on := 1, ground := .phase }, { on := 2, ground := .phase }, { on := 3, ground := .phase }, { on := 4, ground := .phase }, { on := 5, ground := .phase }, { on := 6, ground := .phase }, { on := 7, ground := .phase }, { on := 8, ground := .phase }], guard := none } : Oper)) rfl (fun KK hK => ?_) AllReadyH.nil
  rw [if_pos (by rfl)]
  obtain ⟨z2_0, k2_0, f2_0⟩ := o2_0 _ hHeldS0
  obtain ⟨z2_1, k2_1, f2_1⟩ := o2_1 _ hHeldS0
  go_simp
  refine hK.out _ _ ?_ (fun hHeldS1 => ?_)
  · exact (s2_1 _ _ (s2_0 _ _ hHeldS0))
  clear hK KK
  try simp only [Act.put, List.setIfInBounds_toArray, List.set_cons_zero, List.set_cons_succ]
  refine wpAnyH_done (by as_aux_lemma => kernel_rfl) ?_ _
  refine NoPanic.normal ?_
  have HS7 := Lib.hid N1
  clear o1_0 s1_0 o1_1 s1_1 o2_0 s2_0 o2_1 s2_1 RL0 RL1 nx kS hT N1 k1_0 f1_0 k1_1 f1_1 k2_0 f2_0 k2_1 f2_1
  have k1_0 := (HS7.out).at 1 rfl 0 (v := .int .i64 aL) rfl
  have k1_1 := (HS7.out).at 1 rfl 1 (v := .int .i64 aH) rfl
  have k2_0 := (HS7.out).at 2 rfl 0 (v := .int .i64 sL) rfl
  have k2_1 := (HS7.out).at 2 rfl 1 (v := .int .i64 sH) rfl
  have BH := Lib.hid HS7.out.below
  go_wp2_with fail
  exact bodyPost_ret (v := .tuple #[sv aL aH, sv sL sH]) (by simp [results, Tryd.results16, go_sem, *]) rfl ⟨rfl, BH.out⟩
set_option maxHeartbeats 16000000 in
set_option maxRecDepth 100000 in
theorem Alt_core (cf : Array Value) (a : Ai) (q g : Qd) (r : Rd) (x0 x1 x2 : Int) (t0 t1 t2 : Bool) (w : World)
    (hai : Hid ((Tryd.prog.info? 25).map (·.size) = some 10)) (R1 : Hid (∀ (W : World) b, W.rangeAt b 0 cf.toList → W.rangeAt b 25 (al a).toArray.toList))
    (PT : Hid (∀ w', Calls Tryd.prog 18 #[.agg (ra r), .int .i64 6] w' fun e w'' => e = .returned (.tuple #[.agg #[.int .i64 x0, .int .i64 x1, .int .i64 x2], .agg #[.bool t0, .bool t1, .bool t2]]) ∧ Below w'.heap.size w' w''))
    (SP : Hid (∀ w', Below w.heap.size w w' → Calls Tryd.prog 9 #[av a, qv q, .agg #[.int .i64 x0, .int .i64 x1, .int .i64 x2], .agg #[.bool t0, .bool t1, .bool t2]] w' fun e w'' => e = .returned (qv g) ∧ Below w'.heap.size w' w''))
    : Calls Tryd.prog 19 #[.agg cf, qv q, rv r] w fun e w' => e = .returned (qv g) ∧ Below w.heap.size w w' := by
  have hS1 := ((((Sp.none w).more cf.toList 61).more (qc q) 35).more (rc r) 55).more [.int .i64 0, .int .i64 0, .int .i64 0, .int .i64 0, .bool false, .int .i64 0, .int .i64 0, .int .i64 0, .int .i64 0, .bool false, .int .i64 0, .int .i64 0, .int .i64 0, .int .i64 0, .bool false, .int .i64 0, .int .i64 0, .int .i64 0, .int .i64 0, .bool false] 35
  simp only [heap1] at hS1
  have HS1 := Lib.hid (show Sp w [(w.heap.size, cf.toList.map some), (w.heap.size + 1, (qc q).map some), (w.heap.size + 1 + 1, (rc r).map some), (w.heap.size + 1 + 1 + 1, [some (.int .i64 0), some (.int .i64 0), some (.int .i64 0), some (.int .i64 0), some (.bool false), some (.int .i64 0), some (.int .i64 0), some (.int .i64 0), some (.int .i64 0), some (.bool false), some (.int .i64 0), some (.int .i64 0), some (.int .i64 0), some (.int .i64 0), some (.bool false), some (.int .i64 0), some (.int .i64 0), some (.int .i64 0), some (.int .i64 0), some (.bool false)])] ((((w.alloc (.cells cf 61)).alloc (.cells (qa q) 35)).alloc (.cells (ra r) 55)).alloc (.cells #[.int .i64 0, .int .i64 0, .int .i64 0, .int .i64 0, .bool false, .int .i64 0, .int .i64 0, .int .i64 0, .int .i64 0, .bool false, .int .i64 0, .int .i64 0, .int .i64 0, .int .i64 0, .bool false, .int .i64 0, .int .i64 0, .int .i64 0, .int .i64 0, .bool false] 35)) from hS1)
  clear hS1
  have hia := hai.out
  have hir := sizeRd r
  have hiq := info_qa q
  have hig := info_qa g
  have h1g := qa_one g
  unfold rv
  go_enter Tryd.func19, Tryd.ntmps19
  go_upto_region 1 with fail
  obtain ⟨w1, hX, hS⟩ := (HS1.out).named
  rw [← hX]
  clear hX HS1
  have HS2 := Lib.hid hS
  clear hS
  have HR := Lib.hid ((HS2.out).range 2 (l := rc r) rfl)
  go_wp2_with (refine list_load_any rfl 55 _ rfl _ 0 rfl (ra r) _ HR.out Tryd.underlying55 rfl hir ?_)
  clear HR hir
  refine (PT.out _).mono ?_; rintro e w2 ⟨rfl, hb2⟩
  have hS3 := (HS2.out).keep hb2
  have HS3 := Lib.hid hS3
  clear hS3 HS2
  clear hb2
  clear PT
  go_upto_region 2 with fail
  have hS4 := (HS3.out).more [.int .i64 x0, .int .i64 x1, .int .i64 x2] 22
  have HS4 := Lib.hid hS4
  clear hS4 HS3
  have hS5 := (HS4.out).more [.bool t0, .bool t1, .bool t2] 23
  simp only [heap1] at hS5
  have HS5 := Lib.hid hS5
  clear hS5 HS4
  obtain ⟨w3, hX, hS⟩ := (HS5.out).named
  rw [← hX]
  clear hX HS5
  have HS6 := Lib.hid hS
  clear hS
  have k4_0 := (HS6.out).at 4 rfl 0 (v := .int .i64 x0) rfl
  have k4_1 := (HS6.out).at 4 rfl 1 (v := .int .i64 x1) rfl
  have k4_2 := (HS6.out).at 4 rfl 2 (v := .int .i64 x2) rfl
  have k5_0 := (HS6.out).at 5 rfl 0 (v := .bool t0) rfl
  have k5_1 := (HS6.out).at 5 rfl 1 (v := .bool t1) rfl
  have k5_2 := (HS6.out).at 5 rfl 2 (v := .bool t2) rfl
  have HR := Lib.hid (R1.out _ _ ((HS6.out).range 0 (l := cf.toList) rfl))
  have HQ := Lib.hid ((HS6.out).range 1 (l := qc q) rfl)
  go_wp2_with (first | refine list_load_any rfl 25 _ rfl _ 25 rfl (al a).toArray _ HR.out Tryd.underlying25 rfl hia ?_ | refine list_load_any rfl 35 _ rfl _ 0 rfl (qa q) _ HQ.out Tryd.underlying35 rfl hiq ?_)
  clear HR HQ hia hiq
  refine (SP.out _ HS6.out.below).mono ?_; rintro e w4 ⟨rfl, hb4⟩
  have hS7 := (HS6.out).keep hb4
  have HS7 := Lib.hid hS7
  clear hS7 HS6
  clear hb4
  clear SP k4_0 k4_1 k4_2 k5_0 k5_1 k5_2
  have HT := Lib.hid ((HS7.out).free_row 3 rfl (n := 20) rfl)
  have HF := Lib.hid ((HS7.out).row 3 rfl (qc g) rfl)
  have HR := Lib.hid (HF.out.range 3 (l := qc g) rfl)
  have HB := Lib.hid HF.out.below
  clear HF HS7
  go_wp2_with (first | refine wpList_store_mid rfl 35 _ _ rfl (w.heap.size + 1 + 1 + 1) 0 (qa g) rfl rfl HT.out hig h1g ?_)
  exact bodyPost_ret (results_row (c := qa g) rfl rfl HR.out Tryd.underlying35 rfl hig) rfl ⟨rfl, HB.out⟩

set_option maxHeartbeats 16000000 in
set_option maxRecDepth 100000 in
theorem Speed_core (cf : Array Value) (a : Ai) (q g : Qd) (r : Rd) (x0 x1 x2 : Int) (t0 t1 t2 : Bool) (w : World)
    (hai : Hid ((Tryd.prog.info? 25).map (·.size) = some 10)) (R1 : Hid (∀ (W : World) b, W.rangeAt b 0 cf.toList → W.rangeAt b 35 (al a).toArray.toList))
    (PT : Hid (∀ w', Calls Tryd.prog 18 #[.agg (ra r), .int .i64 9] w' fun e w'' => e = .returned (.tuple #[.agg #[.int .i64 x0, .int .i64 x1, .int .i64 x2], .agg #[.bool t0, .bool t1, .bool t2]]) ∧ Below w'.heap.size w' w''))
    (SP : Hid (∀ w', Below w.heap.size w w' → Calls Tryd.prog 9 #[av a, qv q, .agg #[.int .i64 x0, .int .i64 x1, .int .i64 x2], .agg #[.bool t0, .bool t1, .bool t2]] w' fun e w'' => e = .returned (qv g) ∧ Below w'.heap.size w' w''))
    : Calls Tryd.prog 20 #[.agg cf, qv q, rv r] w fun e w' => e = .returned (qv g) ∧ Below w.heap.size w w' := by
  have hS1 := ((((Sp.none w).more cf.toList 61).more (qc q) 35).more (rc r) 55).more [.int .i64 0, .int .i64 0, .int .i64 0, .int .i64 0, .bool false, .int .i64 0, .int .i64 0, .int .i64 0, .int .i64 0, .bool false, .int .i64 0, .int .i64 0, .int .i64 0, .int .i64 0, .bool false, .int .i64 0, .int .i64 0, .int .i64 0, .int .i64 0, .bool false] 35
  simp only [heap1] at hS1
  have HS1 := Lib.hid (show Sp w [(w.heap.size, cf.toList.map some), (w.heap.size + 1, (qc q).map some), (w.heap.size + 1 + 1, (rc r).map some), (w.heap.size + 1 + 1 + 1, [some (.int .i64 0), some (.int .i64 0), some (.int .i64 0), some (.int .i64 0), some (.bool false), some (.int .i64 0), some (.int .i64 0), some (.int .i64 0), some (.int .i64 0), some (.bool false), some (.int .i64 0), some (.int .i64 0), some (.int .i64 0), some (.int .i64 0), some (.bool false), some (.int .i64 0), some (.int .i64 0), some (.int .i64 0), some (.int .i64 0), some (.bool false)])] ((((w.alloc (.cells cf 61)).alloc (.cells (qa q) 35)).alloc (.cells (ra r) 55)).alloc (.cells #[.int .i64 0, .int .i64 0, .int .i64 0, .int .i64 0, .bool false, .int .i64 0, .int .i64 0, .int .i64 0, .int .i64 0, .bool false, .int .i64 0, .int .i64 0, .int .i64 0, .int .i64 0, .bool false, .int .i64 0, .int .i64 0, .int .i64 0, .int .i64 0, .bool false] 35)) from hS1)
  clear hS1
  have hia := hai.out
  have hir := sizeRd r
  have hiq := info_qa q
  have hig := info_qa g
  have h1g := qa_one g
  unfold rv
  go_enter Tryd.func20, Tryd.ntmps20
  go_upto_region 1 with fail
  obtain ⟨w1, hX, hS⟩ := (HS1.out).named
  rw [← hX]
  clear hX HS1
  have HS2 := Lib.hid hS
  clear hS
  have HR := Lib.hid ((HS2.out).range 2 (l := rc r) rfl)
  go_wp2_with (refine list_load_any rfl 55 _ rfl _ 0 rfl (ra r) _ HR.out Tryd.underlying55 rfl hir ?_)
  clear HR hir
  refine (PT.out _).mono ?_; rintro e w2 ⟨rfl, hb2⟩
  have hS3 := (HS2.out).keep hb2
  have HS3 := Lib.hid hS3
  clear hS3 HS2
  clear hb2
  clear PT
  go_upto_region 2 with fail
  have hS4 := (HS3.out).more [.int .i64 x0, .int .i64 x1, .int .i64 x2] 22
  have HS4 := Lib.hid hS4
  clear hS4 HS3
  have hS5 := (HS4.out).more [.bool t0, .bool t1, .bool t2] 23
  simp only [heap1] at hS5
  have HS5 := Lib.hid hS5
  clear hS5 HS4
  obtain ⟨w3, hX, hS⟩ := (HS5.out).named
  rw [← hX]
  clear hX HS5
  have HS6 := Lib.hid hS
  clear hS
  have k4_0 := (HS6.out).at 4 rfl 0 (v := .int .i64 x0) rfl
  have k4_1 := (HS6.out).at 4 rfl 1 (v := .int .i64 x1) rfl
  have k4_2 := (HS6.out).at 4 rfl 2 (v := .int .i64 x2) rfl
  have k5_0 := (HS6.out).at 5 rfl 0 (v := .bool t0) rfl
  have k5_1 := (HS6.out).at 5 rfl 1 (v := .bool t1) rfl
  have k5_2 := (HS6.out).at 5 rfl 2 (v := .bool t2) rfl
  have HR := Lib.hid (R1.out _ _ ((HS6.out).range 0 (l := cf.toList) rfl))
  have HQ := Lib.hid ((HS6.out).range 1 (l := qc q) rfl)
  go_wp2_with (first | refine list_load_any rfl 25 _ rfl _ 35 rfl (al a).toArray _ HR.out Tryd.underlying25 rfl hia ?_ | refine list_load_any rfl 35 _ rfl _ 0 rfl (qa q) _ HQ.out Tryd.underlying35 rfl hiq ?_)
  clear HR HQ hia hiq
  refine (SP.out _ HS6.out.below).mono ?_; rintro e w4 ⟨rfl, hb4⟩
  have hS7 := (HS6.out).keep hb4
  have HS7 := Lib.hid hS7
  clear hS7 HS6
  clear hb4
  clear SP k4_0 k4_1 k4_2 k5_0 k5_1 k5_2
  have HT := Lib.hid ((HS7.out).free_row 3 rfl (n := 20) rfl)
  have HF := Lib.hid ((HS7.out).row 3 rfl (qc g) rfl)
  have HR := Lib.hid (HF.out.range 3 (l := qc g) rfl)
  have HB := Lib.hid HF.out.below
  clear HF HS7
  go_wp2_with (first | refine wpList_store_mid rfl 35 _ _ rfl (w.heap.size + 1 + 1 + 1) 0 (qa g) rfl rfl HT.out hig h1g ?_)
  exact bodyPost_ret (results_row (c := qa g) rfl rfl HR.out Tryd.underlying35 rfl hig) rfl ⟨rfl, HB.out⟩


theorem conf_part {W : World} {b k : Nat} {a : Ai} (e : ∀ j : Fin 10, confCells.toList[k + j.val]? = (al a).toArray.toList[j.val]?) (h : W.rangeAt b 0 confCells.toList) : W.rangeAt b k (al a).toArray.toList := fun j v hv => by
  have hj : j < 10 := by
    have := (List.getElem?_eq_some_iff.1 hv).1
    simpa [al] using this
  have := h (k + j) v ((e ⟨j, hj⟩).trans hv)
  rwa [Nat.zero_add] at this
theorem conf_at (k : Nat) (a : Ai) (h : (confCells.toList.drop k).take 10 = al a) (j : Fin 10) : confCells.toList[k + j.val]? = (al a).toArray.toList[j.val]? := by
  rw [show (al a).toArray.toList = al a from rfl, ← h, List.getElem?_take_of_lt j.isLt, List.getElem?_drop]
theorem air_size : (Tryd.prog.info? 25).map (·.size) = some 10 := by kernel_rfl
theorem conf_alt {W : World} {b : Nat} (h : W.rangeAt b 0 confCells.toList) : W.rangeAt b 25 (al alt0).toArray.toList := conf_part (conf_at 25 alt0 rfl) h
theorem conf_speed {W : World} {b : Nat} (h : W.rangeAt b 0 confCells.toList) : W.rangeAt b 35 (al speed0).toArray.toList := conf_part (conf_at 35 speed0 rfl) h
theorem Both_any {w : World} {ba : Option Addr} {cap : Nat} {l : List Rd} (C : CameRd w ba cap l) (n : NoneAt w) (ha : RA alt0) (hs : RA speed0) :
    Calls Tryd.prog 16 #[.agg confCells, .slice ba l.length cap] w fun e w' => e = .returned (.tuple #[sv (hullQ (runQ alt0 6 l)).1 (hullQ (runQ alt0 6 l)).2, sv (hullQ (runQ speed0 9 l)).1 (hullQ (runQ speed0 9 l)).2]) ∧ Below w.heap.size w w' :=
  Both_core confCells alt0 speed0 ba l.length cap _ _ _ _ w (Lib.hid air_size) (Lib.hid fun _ _ h => conf_alt h) (Lib.hid fun _ _ h => conf_speed h)
    (Lib.hid fun _ B => where_any alt0 6 6 (C.keep B) (n.keep B) ha Part_any6) (Lib.hid fun _ B => where_any speed0 9 9 (C.keep B) (n.keep B) hs Part_any9)
theorem Alt_any (q : Qd) (r : Rd) (w : World) (n : NoneAt w) (h : RA alt0) (k : QR q) :
    Calls Tryd.prog 19 #[.agg confCells, qv q, rv r] w fun e w' => e = .returned (qv (stepR alt0 6 q r)) ∧ Below w.heap.size w w' :=
  Alt_core confCells alt0 q _ r _ _ _ _ _ _ w (Lib.hid air_size) (Lib.hid fun _ _ h => conf_alt h) (Lib.hid fun w' => Part_any6 r w') (Lib.hid fun w' B => TStep_any alt0 q _ _ _ _ _ _ w' (n.keep B) h k (pv_r6 6 0 r) (pv_r6 6 1 r) (pv_r6 6 2 r))
theorem Speed_any (q : Qd) (r : Rd) (w : World) (n : NoneAt w) (h : RA speed0) (k : QR q) :
    Calls Tryd.prog 20 #[.agg confCells, qv q, rv r] w fun e w' => e = .returned (qv (stepR speed0 9 q r)) ∧ Below w.heap.size w w' :=
  Speed_core confCells speed0 q _ r _ _ _ _ _ _ w (Lib.hid air_size) (Lib.hid fun _ _ h => conf_speed h) (Lib.hid fun w' => Part_any9 r w') (Lib.hid fun w' B => TStep_any speed0 q _ _ _ _ _ _ w' (n.keep B) h k (pv_r6 9 0 r) (pv_r6 9 1 r) (pv_r6 9 2 r))

/-- the law's own reading: j of its twelve sources are there -/
def Obs.rdF (j : Nat) : Rd := ⟨[0, 0, 0, 0, 0, 0, 1005, 1004, 1000, 100, 101, 105], List.replicate (min j 12) true ++ List.replicate (12 - min j 12) false, by decide, by simp; omega, by decide⟩
theorem rdF_set : ∀ j, j < 12 → ((rc (rdF j)).map some).set (12 + j) (some (.bool true)) = (rc (rdF (j + 1))).map some
  | 0, _ => rfl
  | 1, _ => rfl
  | 2, _ => rfl
  | 3, _ => rfl
  | 4, _ => rfl
  | 5, _ => rfl
  | 6, _ => rfl
  | 7, _ => rfl
  | 8, _ => rfl
  | 9, _ => rfl
  | 10, _ => rfl
  | 11, _ => rfl
  | n + 12, h => absurd h (by omega)
theorem rdF_at (j : Nat) (h : j < 12) : ((rc (rdF j)).map some)[12 + j]? = some (some (.bool ((rdF j).there.getD j false))) := by rw [List.getElem?_map, rc_there (rdF j) j h]; rfl
theorem Sp.join {W w : World} {x p q : Nat × List (Option Value)} (h : Sp W [x, p] w) (k : Sp W [x, q] w) (n : p.1 ≠ q.1) : Sp W [x, p, q] w := by
  have ha := h.2.1
  have ka := k.2.1
  unfold Apart at ha ka
  simp only [List.pairwise_cons, List.mem_cons, List.not_mem_nil, or_false, forall_eq, List.Pairwise.nil, and_true, false_imp_iff, implies_true] at ha ka
  refine ⟨⟨h.below, fun y hy => ?_⟩, ?_, fun y hy => ?_⟩
  · simp only [List.mem_cons, List.not_mem_nil, or_false] at hy
    rcases hy with rfl | rfl | rfl
    · exact h.1.2 _ (by simp)
    · exact h.1.2 _ (by simp)
    · exact k.1.2 _ (by simp)
  · unfold Apart
    simp only [List.pairwise_cons, List.mem_cons, List.not_mem_nil, or_false, List.Pairwise.nil, and_true, false_imp_iff, implies_true]
    exact ⟨fun y hy => by rcases hy with rfl | rfl; exact ha; exact ka, fun y hy => by subst hy; exact n⟩
  · simp only [List.mem_cons, List.not_mem_nil, or_false] at hy
    rcases hy with rfl | rfl | rfl
    · exact h.2.2 _ (by simp)
    · exact h.2.2 _ (by simp)
    · exact k.2.2 _ (by simp)
theorem put_span {o : Oper} {a : Act} {w : World} {K : Act → World → Prop} {Q : Exit → Act → World → Prop} {x y : Operand} {g : Nat} {u v : Int} (ho : o.op = .store 32 x y) (hx : a.eval x = .pointer (some ⟨g, 0, none⟩)) (hy : a.eval y = sv u v) (T : w.there g 0 2)
    (h : K (a.put o.dst undef) ((w.setCell ⟨g, 0, none⟩ (.int .i64 u)).setCell ⟨g, 1, none⟩ (.int .i64 v))) : Oper.wp Tryd.prog o a w K Q :=
  wp_store_mid _ x y ho g 0 #[.int .i64 u, .int .i64 v] hx hy T (by kernel_rfl) (by simp [Value.oneCell']) h
theorem setCell2_named (w : World) (g : Nat) (u v : Int) : ∃ x, x = (w.setCell ⟨g, 0, none⟩ (.int .i64 u)).setCell ⟨g, 1, none⟩ (.int .i64 v) := ⟨_, rfl⟩
theorem Sp.lt2 {W w : World} {x p : Nat × List (Option Value)} (h : Sp W [x, p] w) : p.1 < w.heap.size := (h.2.2 p (by simp)).2
/-- a slice literal of two readings that are the same -/
theorem build2_lit (a0 a1 a2 a3 a4 a5 a6 a7 a8 a9 a10 a11 : Int) (b0 b1 b2 b3 b4 b5 b6 b7 b8 b9 b10 b11 : Bool) (w : World) : (Instr.buildSlice 63 2 #[(0, .agg (([a0, a1, a2, a3, a4, a5, a6, a7, a8, a9, a10, a11].map fun n => Value.int .i64 n) ++ [b0, b1, b2, b3, b4, b5, b6, b7, b8, b9, b10, b11].map fun b => Value.bool b).toArray), (1, .agg (([a0, a1, a2, a3, a4, a5, a6, a7, a8, a9, a10, a11].map fun n => Value.int .i64 n) ++ [b0, b1, b2, b3, b4, b5, b6, b7, b8, b9, b10, b11].map fun b => Value.bool b).toArray)]).run Tryd.prog w =
    .ok (.slice (some ⟨w.heap.size, 0, none⟩) 2 2) (w.alloc (.cells ((([a0, a1, a2, a3, a4, a5, a6, a7, a8, a9, a10, a11].map fun n => Value.int .i64 n) ++ [b0, b1, b2, b3, b4, b5, b6, b7, b8, b9, b10, b11].map fun b => Value.bool b) ++ (([a0, a1, a2, a3, a4, a5, a6, a7, a8, a9, a10, a11].map fun n => Value.int .i64 n) ++ [b0, b1, b2, b3, b4, b5, b6, b7, b8, b9, b10, b11].map fun b => Value.bool b)).toArray 55)) := by kernel_rfl
theorem build2_cells (v : List Int) (t : List Bool) (hv : v.length = 12) (ht : t.length = 12) (w : World) : (Instr.buildSlice 63 2 #[(0, .agg ((v.map fun n => Value.int .i64 n) ++ t.map fun b => Value.bool b).toArray), (1, .agg ((v.map fun n => Value.int .i64 n) ++ t.map fun b => Value.bool b).toArray)]).run Tryd.prog w =
    .ok (.slice (some ⟨w.heap.size, 0, none⟩) 2 2) (w.alloc (.cells (((v.map fun n => Value.int .i64 n) ++ t.map fun b => Value.bool b) ++ ((v.map fun n => Value.int .i64 n) ++ t.map fun b => Value.bool b)).toArray 55)) :=
  match v, hv, t, ht with
  | [a0, a1, a2, a3, a4, a5, a6, a7, a8, a9, a10, a11], _, [b0, b1, b2, b3, b4, b5, b6, b7, b8, b9, b10, b11], _ => build2_lit a0 a1 a2 a3 a4 a5 a6 a7 a8 a9 a10 a11 b0 b1 b2 b3 b4 b5 b6 b7 b8 b9 b10 b11 w
theorem oper_build2 {o : Oper} {a : Act} {w : World} {K : Act → World → Prop} {Q : Exit → Act → World → Prop} {x y : Operand} {R : Rd} (ho : o.op = .buildSlice 63 2 #[(0, x), (1, y)]) (hx : a.eval x = rv R) (hy : a.eval y = rv R)
    (h : K (a.put o.dst (.slice (some ⟨w.heap.size, 0, none⟩) 2 2)) (w.alloc (.cells (rc R ++ rc R).toArray 55))) : Oper.wp Tryd.prog o a w K Q := by
  have hb : (Instr.buildSlice 63 2 #[(0, rv R), (1, rv R)]).run Tryd.prog w = .ok (.slice (some ⟨w.heap.size, 0, none⟩) 2 2) (w.alloc (.cells (rc R ++ rc R).toArray 55)) := build2_cells R.val R.there R.hv R.ht w
  unfold Oper.wp execOp
  simp only [ho, List.map_toArray, List.map_cons, List.map_nil, hx, hy, Sem.run_bind, hb, Result.andThen_ok, Sem.run_pure]
  exact h
theorem came_two (w : World) (R : Rd) : CameRd (w.alloc (.cells (rc R ++ rc R).toArray 55)) (some ⟨w.heap.size, 0, none⟩) 2 [R, R] := by
  have h := range_new w (rc R ++ rc R).toArray 55
  refine ⟨Nat.le_refl _, by decide, fun _ => ⟨w.heap.size, 0, rfl, fun j hj => ?_⟩, fun e => by cases e⟩
  have hR : (rc R).length = 24 := rc_len R
  match j, hj with
  | 0, _ =>
    intro k v hv
    have hv : (rc R)[k]? = some v := hv
    exact h k v (show (rc R ++ rc R)[k]? = some v by rw [List.getElem?_append_left (List.getElem?_eq_some_iff.1 hv).1]; exact hv)
  | 1, _ =>
    intro k v hv
    have hv : (rc R)[k]? = some v := hv
    have := h (24 + k) v (show (rc R ++ rc R)[24 + k]? = some v by rw [List.getElem?_append_right (by omega), hR, Nat.add_sub_cancel_left]; exact hv)
    rwa [Nat.zero_add] at this

end Go.Proofs.YtkjkmnclnedfhaaDoor
