
/- The landed observer's Start; its Has, where it is so. -/
import Derived.Test.YtkjkmnclnedfhaaDoorObLanA
namespace Go.Proofs.YtkjkmnclnedfhaaDoor
open Go.RowKit Obs

/-- The operations of a drawn region, as the translation has them. -/
def ostart : Array Oper := #[
  { dst := some 3, op := .fieldAddr 25 (.tmp 1) 5, type := 0, pos := "observer.go:11", after := #[], guard := none },
  { dst := some 4, op := .load 2 (.tmp 3), type := 2, pos := "observer.go:11", after := #[{ on := 0, ground := .data }], guard := none },
  { dst := some 5, op := .call { callee := .value (.func 31), args := #[.tmp 4], argTypes := #[2] }, type := 32, pos := "observer.go:11", after := #[{ on := 1, ground := .data }], guard := none },
  { dst := some 6, op := .fieldAddr 25 (.tmp 1) 2, type := 0, pos := "observer.go:11", after := #[], guard := none },
  { dst := some 7, op := .load 2 (.tmp 6), type := 2, pos := "observer.go:11", after := #[{ on := 3, ground := .data }], guard := none },
  { dst := some 8, op := .call { callee := .value (.func 31), args := #[.tmp 7], argTypes := #[2] }, type := 32, pos := "observer.go:11", after := #[{ on := 4, ground := .data }, { on := 2, ground := .chain }], guard := none },
  { dst := some 9, op := .build 34 #[(0, .tmp 5), (1, .tmp 8)], type := 34, pos := "observer.go:11", after := #[{ on := 2, ground := .data }, { on := 5, ground := .data }], guard := none },
  { dst := none, op := .store 34 (.tmp 2) (.tmp 9), type := 0, pos := "observer.go:11", after := #[{ on := 6, ground := .data }, { on := 5, ground := .chain }, { on := 0, ground := .phase }, { on := 1, ground := .phase }, { on := 2, ground := .phase }, { on := 3, ground := .phase }, { on := 4, ground := .phase }, { on := 5, ground := .phase }, { on := 6, ground := .phase }], guard := none }]
theorem ostart_plain : Region.noSelect ostart = true := by kernel_rfl

set_option maxHeartbeats 4000000 in
set_option maxRecDepth 100000 in
theorem Start_core (a : Ai) (m b : Int) (w : World)
    (U1 : Hid (∀ w', Calls Tryd.prog 31 #[.int .i64 a.most] w' fun e w'' => e = .returned (sv m a.most) ∧ Below w'.heap.size w' w''))
    (U2 : Hid (∀ w', Calls Tryd.prog 31 #[.int .i64 a.bias] w' fun e w'' => e = .returned (sv b a.bias) ∧ Below w'.heap.size w' w'')) :
    Calls Tryd.prog 21 #[av a] w fun e w' => e = .returned (.agg #[.int .i64 m, .int .i64 a.most, .int .i64 b, .int .i64 a.bias, .bool false]) ∧ Below w.heap.size w w' := by
  have hS1 := ((Sp.none w).more [.int .i64 a.e0, .int .i64 a.e1, .int .i64 a.e2, .bool a.b0, .bool a.b1, .bool a.b2, .int .i64 a.bias, .int .i64 a.change, .int .i64 a.move, .int .i64 a.most] 25).more [.int .i64 0, .int .i64 0, .int .i64 0, .int .i64 0, .bool false] 34
  simp only [heap1] at hS1
  have HS1 := Lib.hid hS1
  clear hS1
  go_enter Tryd.func21, Tryd.ntmps21
  go_upto_region 1 with fail
  obtain ⟨w1, hX, hS⟩ := (HS1.out).named
  rw [← hX]
  clear hX HS1
  have HS2 := Lib.hid hS
  clear hS
  have hS3 := (HS2.out).forget 1 rfl 0
  have HS3 := Lib.hid hS3
  clear hS3 HS2
  have hS4 := (HS3.out).forget 1 rfl 1
  have HS4 := Lib.hid hS4
  clear hS4 HS3
  have hS5 := (HS4.out).forget 1 rfl 2
  have HS5 := Lib.hid hS5
  clear hS5 HS4
  have hS6 := (HS5.out).forget 1 rfl 3
  have HS6 := Lib.hid hS6
  clear hS6 HS5
  have hS7 := (HS6.out).forget 1 rfl 4
  have HS7 := Lib.hid hS7
  clear hS7 HS6
  obtain ⟨bs1, hbs⟩ : ∃ bs : List (Nat × List (Option Value)), bs = [(w.heap.size, [some (.int .i64 a.e0), some (.int .i64 a.e1), some (.int .i64 a.e2), some (.bool a.b0), some (.bool a.b1), some (.bool a.b2), some (.int .i64 a.bias), some (.int .i64 a.change), some (.int .i64 a.move), some (.int .i64 a.most)]), (w.heap.size + 1, [none, none, none, none, none])] := ⟨_, rfl⟩
  have hT := (HS7.out).cast hbs
  have c0_6 : ∀ w', Sp w bs1 w' → w'.cell? ⟨w.heap.size, 6, none⟩ = some (.int .i64 a.bias) := by rw [hbs]; exact fun w' h => h.at 0 rfl 6 rfl
  have c0_9 : ∀ w', Sp w bs1 w' → w'.cell? ⟨w.heap.size, 9, none⟩ = some (.int .i64 a.most) := by rw [hbs]; exact fun w' h => h.at 0 rfl 9 rfl
  have o1_0 : ∀ w', Sp w bs1 w' → ∃ z, w'.cell? ⟨w.heap.size + 1, 0, none⟩ = some z ∧ w'.frozen? ⟨w.heap.size + 1, 0, none⟩ = false := by rw [hbs]; exact fun w' h => h.there 1 rfl 0 rfl
  have s1_0 : ∀ w' z, Sp w bs1 w' → Sp w bs1 (w'.setCell ⟨w.heap.size + 1, 0, none⟩ z) := by rw [hbs]; exact fun w' z h => h.hit 1 rfl 0 rfl z
  have o1_1 : ∀ w', Sp w bs1 w' → ∃ z, w'.cell? ⟨w.heap.size + 1, 1, none⟩ = some z ∧ w'.frozen? ⟨w.heap.size + 1, 1, none⟩ = false := by rw [hbs]; exact fun w' h => h.there 1 rfl 1 rfl
  have s1_1 : ∀ w' z, Sp w bs1 w' → Sp w bs1 (w'.setCell ⟨w.heap.size + 1, 1, none⟩ z) := by rw [hbs]; exact fun w' z h => h.hit 1 rfl 1 rfl z
  have o1_2 : ∀ w', Sp w bs1 w' → ∃ z, w'.cell? ⟨w.heap.size + 1, 2, none⟩ = some z ∧ w'.frozen? ⟨w.heap.size + 1, 2, none⟩ = false := by rw [hbs]; exact fun w' h => h.there 1 rfl 2 rfl
  have s1_2 : ∀ w' z, Sp w bs1 w' → Sp w bs1 (w'.setCell ⟨w.heap.size + 1, 2, none⟩ z) := by rw [hbs]; exact fun w' z h => h.hit 1 rfl 2 rfl z
  have o1_3 : ∀ w', Sp w bs1 w' → ∃ z, w'.cell? ⟨w.heap.size + 1, 3, none⟩ = some z ∧ w'.frozen? ⟨w.heap.size + 1, 3, none⟩ = false := by rw [hbs]; exact fun w' h => h.there 1 rfl 3 rfl
  have s1_3 : ∀ w' z, Sp w bs1 w' → Sp w bs1 (w'.setCell ⟨w.heap.size + 1, 3, none⟩ z) := by rw [hbs]; exact fun w' z h => h.hit 1 rfl 3 rfl z
  have o1_4 : ∀ w', Sp w bs1 w' → ∃ z, w'.cell? ⟨w.heap.size + 1, 4, none⟩ = some z ∧ w'.frozen? ⟨w.heap.size + 1, 4, none⟩ = false := by rw [hbs]; exact fun w' h => h.there 1 rfl 4 rfl
  have s1_4 : ∀ w' z, Sp w bs1 w' → Sp w bs1 (w'.setCell ⟨w.heap.size + 1, 4, none⟩ z) := by rw [hbs]; exact fun w' z h => h.hit 1 rfl 4 rfl z
  have nx : ∀ w', Sp w bs1 w' → Sp w [(w.heap.size, [some (.int .i64 a.e0), some (.int .i64 a.e1), some (.int .i64 a.e2), some (.bool a.b0), some (.bool a.b1), some (.bool a.b2), some (.int .i64 a.bias), some (.int .i64 a.change), some (.int .i64 a.move), some (.int .i64 a.most)]), (w.heap.size + 1, [some (.int .i64 m), some (.int .i64 a.most), some (.int .i64 b), some (.int .i64 a.bias), some (.bool false)])] (((((w'.setCell ⟨w.heap.size + 1, 0, none⟩ (.int .i64 m)).setCell ⟨w.heap.size + 1, 1, none⟩ (.int .i64 a.most)).setCell ⟨w.heap.size + 1, 2, none⟩ (.int .i64 b)).setCell ⟨w.heap.size + 1, 3, none⟩ (.int .i64 a.bias)).setCell ⟨w.heap.size + 1, 4, none⟩ (.bool false)) := by rw [hbs]; exact fun w' h => (((((h.put 1 rfl 0 _).put 1 rfl 1 _).put 1 rfl 2 _).put 1 rfl 3 _).put 1 rfl 4 _)
  have kS : ∀ w1 w2, Sp w bs1 w1 → Below w1.heap.size w1 w2 → Sp w bs1 w2 := fun _ _ h hb => h.keep hb
  clear hbs HS7
  change (Code.region 1 ostart true).wp Tryd.prog _ _ _
  refine wp_region_noPanic ?_
  refine wp_region_held_drew (S := (Sp w bs1)) (by kernel_rfl) (hT.drew) (fun hHeld => ?_)
  refine wpAnyH_take (i := 0) (oi := ({ dst := some 3, op := .fieldAddr 25 (.tmp 1) 5, type := 0, pos := "observer.go:11", after := #[], guard := none } : Oper)) (v := ?vs1_0) rfl ostart_plain (by as_aux_lemma => kernel_rfl) (by as_aux_lemma => kernel_rfl) (fun _ _ _ h => h) (Or.inl ⟨by rfl, ?ys1_0⟩) (by assumption) ?rs1_0
  case ys1_0 => (intro w hSw; (try dsimp only at hSw); go_simp; try with_reducible rfl)
  try simp only [Act.put, List.setIfInBounds_toArray, List.set_cons_zero, List.set_cons_succ]
  refine wpAnyH_take (i := 1) (oi := ({ dst := some 4, op := .load 2 (.tmp 3), type := 2, pos := "observer.go:11", after := #[{ on := 0, ground := .data }], guard := none } : Oper)) (v := ?vs1_1) rfl ostart_plain (by as_aux_lemma => kernel_rfl) (by as_aux_lemma => kernel_rfl) (fun _ _ _ h => h) (Or.inl ⟨by rfl, ?ys1_1⟩) (by assumption) ?rs1_1
  case ys1_1 => (intro w hSw; (try dsimp only at hSw); go_simp; try with_reducible rfl)
  try simp only [Act.put, List.setIfInBounds_toArray, List.set_cons_zero, List.set_cons_succ]
  refine wpAnyH_take (i := 3) (oi := ({ dst := some 6, op := .fieldAddr 25 (.tmp 1) 2, type := 0, pos := "observer.go:11", after := #[], guard := none } : Oper)) (v := ?vs1_3) rfl ostart_plain (by as_aux_lemma => kernel_rfl) (by as_aux_lemma => kernel_rfl) (fun _ _ _ h => h) (Or.inl ⟨by rfl, ?ys1_3⟩) (by assumption) ?rs1_3
  case ys1_3 => (intro w hSw; (try dsimp only at hSw); go_simp; try with_reducible rfl)
  try simp only [Act.put, List.setIfInBounds_toArray, List.set_cons_zero, List.set_cons_succ]
  refine wpAnyH_take (i := 4) (oi := ({ dst := some 7, op := .load 2 (.tmp 6), type := 2, pos := "observer.go:11", after := #[{ on := 3, ground := .data }], guard := none } : Oper)) (v := ?vs1_4) rfl ostart_plain (by as_aux_lemma => kernel_rfl) (by as_aux_lemma => kernel_rfl) (fun _ _ _ h => h) (Or.inl ⟨by rfl, ?ys1_4⟩) (by assumption) ?rs1_4
  case ys1_4 => (intro w hSw; (try dsimp only at hSw); go_simp; try with_reducible rfl)
  try simp only [Act.put, List.setIfInBounds_toArray, List.set_cons_zero, List.set_cons_succ]
  refine wpAnyH_ready (rs := [2]) (by as_aux_lemma => kernel_rfl) (by simp) ?_
  refine AllReadyH.cons (o := ({ dst := some 5, op := .call { callee := .value (.func 31), args := #[.tmp 4], argTypes := #[2] }, type := 32, pos := "observer.go:11", after := #[{ on := 1, ground := .data }], guard := none } : Oper)) rfl (fun KK hK => ?_) AllReadyH.nil
  rw [if_pos (by rfl)]
  go_simp
  go_at_call 31; refine (U1.out _).mono ?_; rintro e w2 ⟨rfl, hb2⟩
  go_wp2_with fail
  refine hK.out _ _ ?_ (fun hHeld2 => ?_)
  · exact kS _ _ (by assumption) hb2
  clear hK KK hb2
  try simp only [Act.put, List.setIfInBounds_toArray, List.set_cons_zero, List.set_cons_succ]
  refine wpAnyH_ready (rs := [5]) (by as_aux_lemma => kernel_rfl) (by simp) ?_
  refine AllReadyH.cons (o := ({ dst := some 8, op := .call { callee := .value (.func 31), args := #[.tmp 7], argTypes := #[2] }, type := 32, pos := "observer.go:11", after := #[{ on := 4, ground := .data }, { on := 2, ground := .chain }], guard := none } : Oper)) rfl (fun KK hK => ?_) AllReadyH.nil
  rw [if_pos (by rfl)]
  go_simp
  go_at_call 31; refine (U2.out _).mono ?_; rintro e w3 ⟨rfl, hb3⟩
  go_wp2_with fail
  refine hK.out _ _ ?_ (fun hHeld3 => ?_)
  · exact kS _ _ (by assumption) hb3
  clear hK KK hb3 hHeld2
  try simp only [Act.put, List.setIfInBounds_toArray, List.set_cons_zero, List.set_cons_succ]
  refine wpAnyH_take (i := 6) (oi := ({ dst := some 9, op := .build 34 #[(0, .tmp 5), (1, .tmp 8)], type := 34, pos := "observer.go:11", after := #[{ on := 2, ground := .data }, { on := 5, ground := .data }], guard := none } : Oper)) (v := ?vs1_6) rfl ostart_plain (by as_aux_lemma => kernel_rfl) (by as_aux_lemma => kernel_rfl) (fun _ _ _ h => h) (Or.inl ⟨by rfl, ?ys1_6⟩) (by assumption) ?rs1_6
  case ys1_6 => (intro w hSw; (try dsimp only at hSw); go_simp; try with_reducible rfl)
  try simp only [Act.put, List.setIfInBounds_toArray, List.set_cons_zero, List.set_cons_succ]
  refine wpAnyH_ready (rs := [7]) (by as_aux_lemma => kernel_rfl) (by simp) ?_
  refine AllReadyH.cons (o := ({ dst := none, op := .store 34 (.tmp 2) (.tmp 9), type := 0, pos := "observer.go:11", after := #[{ on := 6, ground := .data }, { on := 5, ground := .chain }, { on := 0, ground := .phase }, { on := 1, ground := .phase }, { on := 2, ground := .phase }, { on := 3, ground := .phase }, { on := 4, ground := .phase }, { on := 5, ground := .phase }, { on := 6, ground := .phase }], guard := none } : Oper)) rfl (fun KK hK => ?_) AllReadyH.nil
  rw [if_pos (by rfl)]
  obtain ⟨z1_0, k1_0, f1_0⟩ := o1_0 _ hHeld3
  obtain ⟨z1_1, k1_1, f1_1⟩ := o1_1 _ hHeld3
  obtain ⟨z1_2, k1_2, f1_2⟩ := o1_2 _ hHeld3
  obtain ⟨z1_3, k1_3, f1_3⟩ := o1_3 _ hHeld3
  obtain ⟨z1_4, k1_4, f1_4⟩ := o1_4 _ hHeld3
  have N1 := nx _ hHeld3
  go_simp
  refine hK.out _ _ ?_ (fun hHeldS0 => ?_)
  · exact (s1_4 _ _ (s1_3 _ _ (s1_2 _ _ (s1_1 _ _ (s1_0 _ _ hHeld3)))))
  clear hK KK
  try simp only [Act.put, List.setIfInBounds_toArray, List.set_cons_zero, List.set_cons_succ]
  refine wpAnyH_done (by as_aux_lemma => kernel_rfl) ?_ _
  refine NoPanic.normal ?_
  have HS8 := Lib.hid N1
  clear c0_6 c0_9 o1_0 s1_0 o1_1 s1_1 o1_2 s1_2 o1_3 s1_3 o1_4 s1_4 nx kS hT N1 k1_0 f1_0 k1_1 f1_1 k1_2 f1_2 k1_3 f1_3 k1_4 f1_4
  obtain ⟨w4, hX, hS⟩ := (HS8.out).named
  rw [← hX]
  clear hX HS8
  have HS9 := Lib.hid hS
  clear hS
  have r1_0 := (HS9.out).at 1 rfl 0 (v := .int .i64 m) rfl
  have r1_1 := (HS9.out).at 1 rfl 1 (v := .int .i64 a.most) rfl
  have r1_2 := (HS9.out).at 1 rfl 2 (v := .int .i64 b) rfl
  have r1_3 := (HS9.out).at 1 rfl 3 (v := .int .i64 a.bias) rfl
  have r1_4 := (HS9.out).at 1 rfl 4 (v := .bool false) rfl
  have BH := Lib.hid HS9.out.below
  clear HS9
  go_wp2_with fail
  exact bodyPost_ret (v := .agg #[.int .i64 m, .int .i64 a.most, .int .i64 b, .int .i64 a.bias, .bool false]) (by simp [results, Tryd.results21, go_sem, *]) rfl ⟨rfl, BH.out⟩
theorem Start_any (a : Ai) (w : World) (h : AR a) :
    Calls Tryd.prog 21 #[av a] w fun e w' => e = .returned (ov (Obs.start a)) ∧ Below w.heap.size w w' := by
  have h1 := h.most; have h2 := h.bias
  exact Start_core a _ _ w (Lib.hid fun w' => upTo_any a.most (by omega) (by omega) w') (Lib.hid fun w' => upTo_any a.bias h2.1 (by omega) w')

end Go.Proofs.YtkjkmnclnedfhaaDoor
