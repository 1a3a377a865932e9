
/- The landed ladder's Gyros, Air, Mode, Name, keeps, Worse. -/
import Derived.Test.YtldbkompebefmaaDoorLdNum
import Derived.Test.YtldbkompebefmaaDoorSp
import Derived.Lib.MinMax
import Derived.Deep.RegionWith
import Derived.Deep.CutBlock
import Derived.Deep.CutRange
import Derived.BigRegion
namespace Go.Proofs.YtldbkompebefmaaDoor
open Go.RowKit Ld

set_option maxHeartbeats 8000000 in
set_option maxRecDepth 100000 in
theorem Gyros_any (u : Int) (w : World)
    : Calls Tryd.prog 32 #[.int .i64 u] w fun e w' => e = .returned (.int .i64 (gyr u)) ∧ Below w.heap.size w w' := by
  have BH := Lib.hid (Below.refl w.heap.size w)
  rcases gyr_cases u with ⟨h, e⟩ | ⟨h, e⟩ | ⟨h, e⟩ | ⟨h, e⟩ | ⟨h, e⟩ <;> rw [e] <;> clear e
  · skip
    have d6 : decide ((6 : Int) ≤ u) = true := decide_eq_true h
    clear h
    go_enter Tryd.func32, Tryd.ntmps32
    go_wp2_with fail
    exact bodyPost_ret (v := .int .i64 0) (by simp [results, Tryd.results32, go_sem, *]) rfl ⟨rfl, BH.out⟩
  · skip
    subst h
    go_enter Tryd.func32, Tryd.ntmps32
    go_wp2_with fail
    exact bodyPost_ret (v := .int .i64 1) (by simp [results, Tryd.results32, go_sem, *]) rfl ⟨rfl, BH.out⟩
  · skip
    subst h
    go_enter Tryd.func32, Tryd.ntmps32
    go_wp2_with fail
    exact bodyPost_ret (v := .int .i64 2) (by simp [results, Tryd.results32, go_sem, *]) rfl ⟨rfl, BH.out⟩
  · skip
    subst h
    go_enter Tryd.func32, Tryd.ntmps32
    go_wp2_with fail
    exact bodyPost_ret (v := .int .i64 4) (by simp [results, Tryd.results32, go_sem, *]) rfl ⟨rfl, BH.out⟩
  · skip
    have d6 : decide ((6 : Int) ≤ u) = false := decide_eq_false (by omega)
    have nu5 : ¬ u = 5 := by omega
    have bu5 : (u == (5 : Int)) = false := by simpa using nu5
    have nu4 : ¬ u = 4 := by omega
    have bu4 : (u == (4 : Int)) = false := by simpa using nu4
    have nu3 : ¬ u = 3 := by omega
    have bu3 : (u == (3 : Int)) = false := by simpa using nu3
    clear h
    go_enter Tryd.func32, Tryd.ntmps32
    go_wp2_with fail
    exact bodyPost_ret (v := .int .i64 5) (by simp [results, Tryd.results32, go_sem, *]) rfl ⟨rfl, BH.out⟩

set_option maxHeartbeats 8000000 in
set_option maxRecDepth 100000 in
theorem Air_core (a s x y : Int) (w : World)
    (HX : Hid (max a s = x)) (HY : Hid (min a s = y))
    : Calls Tryd.prog 33 #[.int .i64 a, .int .i64 s] w fun e w' => e = .returned (.int .i64 (airS x y)) ∧ Below w.heap.size w w' := by
  have BH := Lib.hid (Below.refl w.heap.size w)
  have hx := HX.out
  have hy := HY.out
  clear HX HY
  rcases airS_cases x y with ⟨h, e⟩ | ⟨h, e⟩ | ⟨h, k, e⟩ | ⟨h, k, e⟩ <;> rw [e] <;> clear e
  · skip
    have d0 : decide (x ≤ 0) = true := decide_eq_true h
    clear h
    go_enter Tryd.func33, Tryd.ntmps33
    go_wp2_with fail
    exact bodyPost_ret (v := .int .i64 0) (by simp [results, Tryd.results33, go_sem, *]) rfl ⟨rfl, BH.out⟩
  · skip
    subst h
    go_enter Tryd.func33, Tryd.ntmps33
    go_wp2_with fail
    exact bodyPost_ret (v := .int .i64 1) (by simp [results, Tryd.results33, go_sem, *]) rfl ⟨rfl, BH.out⟩
  · skip
    have d0 : decide (x ≤ 0) = false := decide_eq_false (by omega)
    have nx1 : ¬ x = 1 := by omega
    have bx1 : (x == (1 : Int)) = false := by simpa using nx1
    have d2 : decide (y < 2) = true := decide_eq_true (by omega)
    clear h k
    go_enter Tryd.func33, Tryd.ntmps33
    go_wp2_with fail
    exact bodyPost_ret (v := .int .i64 2) (by simp [results, Tryd.results33, go_sem, *]) rfl ⟨rfl, BH.out⟩
  · skip
    have d0 : decide (x ≤ 0) = false := decide_eq_false (by omega)
    have nx1 : ¬ x = 1 := by omega
    have bx1 : (x == (1 : Int)) = false := by simpa using nx1
    have d2 : decide (y < 2) = false := decide_eq_false (by omega)
    clear h k
    go_enter Tryd.func33, Tryd.ntmps33
    go_wp2_with fail
    exact bodyPost_ret (v := .int .i64 4) (by simp [results, Tryd.results33, go_sem, *]) rfl ⟨rfl, BH.out⟩
theorem Air_any (a s : Int) (w : World) : Calls Tryd.prog 33 #[.int .i64 a, .int .i64 s] w fun e w' => e = .returned (.int .i64 (air a s)) ∧ Below w.heap.size w w' :=
  Air_core a s _ _ w (Lib.hid rfl) (Lib.hid rfl)

/-- The operations of a drawn region, as the translation has them. -/
def ldmode : Array Oper := #[
  { dst := some 4, op := .fieldAddr 23 (.tmp 1) 0, type := 0, pos := "ladder.go:53", after := #[], guard := none },
  { dst := some 5, op := .load 3 (.tmp 4), type := 3, pos := "ladder.go:53", after := #[{ on := 0, ground := .data }], guard := none },
  { dst := some 6, op := .call { callee := .value (.func 32), args := #[.tmp 5], argTypes := #[3] }, type := 3, pos := "ladder.go:53", after := #[{ on := 1, ground := .data }], guard := none },
  { dst := some 7, op := .fieldAddr 23 (.tmp 1) 2, type := 0, pos := "ladder.go:53", after := #[], guard := none },
  { dst := some 8, op := .load 3 (.tmp 7), type := 3, pos := "ladder.go:53", after := #[{ on := 3, ground := .data }], guard := none },
  { dst := some 9, op := .fieldAddr 23 (.tmp 1) 3, type := 0, pos := "ladder.go:53", after := #[], guard := none },
  { dst := some 10, op := .load 3 (.tmp 9), type := 3, pos := "ladder.go:53", after := #[{ on := 5, ground := .data }], guard := none },
  { dst := some 11, op := .call { callee := .value (.func 33), args := #[.tmp 8, .tmp 10], argTypes := #[3, 3] }, type := 3, pos := "ladder.go:53", after := #[{ on := 4, ground := .data }, { on := 6, ground := .data }, { on := 2, ground := .chain }], guard := none },
  { dst := some 12, op := .call { callee := .builtin .max, args := #[.tmp 6, .tmp 11], argTypes := #[3, 3] }, type := 3, pos := "ladder.go:53", after := #[{ on := 2, ground := .data }, { on := 7, ground := .data }], guard := none },
  { dst := some 3, op := .assign (.tmp 12), type := 3, pos := "ladder.go:53", after := #[{ on := 8, ground := .data }, { on := 7, ground := .chain }, { on := 0, ground := .phase }, { on := 1, ground := .phase }, { on := 2, ground := .phase }, { on := 3, ground := .phase }, { on := 4, ground := .phase }, { on := 5, ground := .phase }, { on := 6, ground := .phase }, { on := 7, ground := .phase }, { on := 8, ground := .phase }], guard := none }]
theorem ldmode_plain : Region.noSelect ldmode = true := by kernel_rfl

set_option maxHeartbeats 8000000 in
set_option maxRecDepth 100000 in
theorem Mode_core (l : La) (g v n0 n1 n2 r : Int) (w : World)
    (GY : Hid (∀ w', Below w.heap.size w w' → Calls Tryd.prog 32 #[.int .i64 l.u] w' fun e w'' => e = .returned (.int .i64 g) ∧ Below w'.heap.size w' w''))
    (AI : Hid (∀ w', Below w.heap.size w w' → Calls Tryd.prog 33 #[.int .i64 l.al, .int .i64 l.sp] w' fun e w'' => e = .returned (.int .i64 v) ∧ Below w'.heap.size w' w''))
    (M0 : Hid (max g v = n0)) (F1 : Hid (l.fo = true → max n0 2 = n1)) (F0 : Hid (l.fo = false → n1 = n0)) (A1 : Hid (l.am = true → max n1 3 = n2)) (A0 : Hid (l.am = false → n2 = n1)) (N1 : Hid (l.no = true → max n2 5 = r)) (N0 : Hid (l.no = false → r = n2))
    : Calls Tryd.prog 16 #[lv l] w fun e w' => e = .returned (.int .i64 r) ∧ Below w.heap.size w w' := by
  have hS1 := (Sp.none w).more [.int .i64 l.u, .bool l.am, .int .i64 l.al, .int .i64 l.sp, .bool l.fo, .bool l.no] 23
  have HS1 := Lib.hid hS1
  clear hS1
  have hm := M0.out
  clear M0
  go_enter Tryd.func16, Tryd.ntmps16
  go_upto_region 1 with fail
  obtain ⟨bs1, hbs⟩ : ∃ bs : List (Nat × List (Option Value)), bs = [(w.heap.size, [some (.int .i64 l.u), some (.bool l.am), some (.int .i64 l.al), some (.int .i64 l.sp), some (.bool l.fo), some (.bool l.no)])] := ⟨_, rfl⟩
  have hT := (HS1.out).cast hbs
  have c0_0 : ∀ w', Sp w bs1 w' → w'.cell? ⟨w.heap.size, 0, none⟩ = some (.int .i64 l.u) := by rw [hbs]; exact fun w' h => h.at 0 rfl 0 rfl
  have c0_2 : ∀ w', Sp w bs1 w' → w'.cell? ⟨w.heap.size, 2, none⟩ = some (.int .i64 l.al) := by rw [hbs]; exact fun w' h => h.at 0 rfl 2 rfl
  have c0_3 : ∀ w', Sp w bs1 w' → w'.cell? ⟨w.heap.size, 3, none⟩ = some (.int .i64 l.sp) := by rw [hbs]; exact fun w' h => h.at 0 rfl 3 rfl
  have nx : ∀ w', Sp w bs1 w' → Sp w [(w.heap.size, [some (.int .i64 l.u), some (.bool l.am), some (.int .i64 l.al), some (.int .i64 l.sp), some (.bool l.fo), some (.bool l.no)])] w' := by rw [hbs]; exact fun w' h => h
  have kS : ∀ w1 w2, Sp w bs1 w1 → Below w1.heap.size w1 w2 → Sp w bs1 w2 := fun _ _ h hb => h.keep hb
  clear hbs HS1
  change (Code.region 1 ldmode true).wp Tryd.prog _ _ _
  refine wp_region_noPanic ?_
  refine wp_region_held_drew (S := (Sp w bs1)) (by kernel_rfl) (hT.drew) (fun hHeld => ?_)
  refine wpAnyH_take (i := 0) (oi := ({ dst := some 4, op := .fieldAddr 23 (.tmp 1) 0, type := 0, pos := "ladder.go:53", after := #[], guard := none } : Oper)) (v := ?vs1_0) rfl ldmode_plain (by as_aux_lemma => kernel_rfl) (by as_aux_lemma => kernel_rfl) (fun _ _ _ h => h) (Or.inl ⟨by rfl, ?ys1_0⟩) (by assumption) ?rs1_0
  case ys1_0 => (intro w hSw; (try dsimp only at hSw); go_simp; try with_reducible rfl)
  try simp only [Act.put, List.setIfInBounds_toArray, List.set_cons_zero, List.set_cons_succ]
  refine wpAnyH_take (i := 1) (oi := ({ dst := some 5, op := .load 3 (.tmp 4), type := 3, pos := "ladder.go:53", after := #[{ on := 0, ground := .data }], guard := none } : Oper)) (v := ?vs1_1) rfl ldmode_plain (by as_aux_lemma => kernel_rfl) (by as_aux_lemma => kernel_rfl) (fun _ _ _ h => h) (Or.inl ⟨by rfl, ?ys1_1⟩) (by assumption) ?rs1_1
  case ys1_1 => (intro w hSw; (try dsimp only at hSw); go_simp; try with_reducible rfl)
  try simp only [Act.put, List.setIfInBounds_toArray, List.set_cons_zero, List.set_cons_succ]
  refine wpAnyH_take (i := 3) (oi := ({ dst := some 7, op := .fieldAddr 23 (.tmp 1) 2, type := 0, pos := "ladder.go:53", after := #[], guard := none } : Oper)) (v := ?vs1_3) rfl ldmode_plain (by as_aux_lemma => kernel_rfl) (by as_aux_lemma => kernel_rfl) (fun _ _ _ h => h) (Or.inl ⟨by rfl, ?ys1_3⟩) (by assumption) ?rs1_3
  case ys1_3 => (intro w hSw; (try dsimp only at hSw); go_simp; try with_reducible rfl)
  try simp only [Act.put, List.setIfInBounds_toArray, List.set_cons_zero, List.set_cons_succ]
  refine wpAnyH_take (i := 4) (oi := ({ dst := some 8, op := .load 3 (.tmp 7), type := 3, pos := "ladder.go:53", after := #[{ on := 3, ground := .data }], guard := none } : Oper)) (v := ?vs1_4) rfl ldmode_plain (by as_aux_lemma => kernel_rfl) (by as_aux_lemma => kernel_rfl) (fun _ _ _ h => h) (Or.inl ⟨by rfl, ?ys1_4⟩) (by assumption) ?rs1_4
  case ys1_4 => (intro w hSw; (try dsimp only at hSw); go_simp; try with_reducible rfl)
  try simp only [Act.put, List.setIfInBounds_toArray, List.set_cons_zero, List.set_cons_succ]
  refine wpAnyH_take (i := 5) (oi := ({ dst := some 9, op := .fieldAddr 23 (.tmp 1) 3, type := 0, pos := "ladder.go:53", after := #[], guard := none } : Oper)) (v := ?vs1_5) rfl ldmode_plain (by as_aux_lemma => kernel_rfl) (by as_aux_lemma => kernel_rfl) (fun _ _ _ h => h) (Or.inl ⟨by rfl, ?ys1_5⟩) (by assumption) ?rs1_5
  case ys1_5 => (intro w hSw; (try dsimp only at hSw); go_simp; try with_reducible rfl)
  try simp only [Act.put, List.setIfInBounds_toArray, List.set_cons_zero, List.set_cons_succ]
  refine wpAnyH_take (i := 6) (oi := ({ dst := some 10, op := .load 3 (.tmp 9), type := 3, pos := "ladder.go:53", after := #[{ on := 5, ground := .data }], guard := none } : Oper)) (v := ?vs1_6) rfl ldmode_plain (by as_aux_lemma => kernel_rfl) (by as_aux_lemma => kernel_rfl) (fun _ _ _ h => h) (Or.inl ⟨by rfl, ?ys1_6⟩) (by assumption) ?rs1_6
  case ys1_6 => (intro w hSw; (try dsimp only at hSw); go_simp; try with_reducible rfl)
  try simp only [Act.put, List.setIfInBounds_toArray, List.set_cons_zero, List.set_cons_succ]
  refine wpAnyH_ready (rs := [2]) (by as_aux_lemma => kernel_rfl) (by simp) ?_
  refine AllReadyH.cons (o := ({ dst := some 6, op := .call { callee := .value (.func 32), args := #[.tmp 5], argTypes := #[3] }, type := 3, pos := "ladder.go:53", after := #[{ on := 1, ground := .data }], guard := none } : Oper)) rfl (fun KK hK => ?_) AllReadyH.nil
  rw [if_pos (by rfl)]
  go_simp
  go_at_call 32; refine (GY.out _ (Sp.below (by assumption))).mono ?_; rintro e w1 ⟨rfl, hb1⟩
  go_wp2_with fail
  refine hK.out _ _ ?_ (fun hHeld1 => ?_)
  · exact kS _ _ (by assumption) hb1
  clear hK KK hb1
  try simp only [Act.put, List.setIfInBounds_toArray, List.set_cons_zero, List.set_cons_succ]
  refine wpAnyH_ready (rs := [7]) (by as_aux_lemma => kernel_rfl) (by simp) ?_
  refine AllReadyH.cons (o := ({ dst := some 11, op := .call { callee := .value (.func 33), args := #[.tmp 8, .tmp 10], argTypes := #[3, 3] }, type := 3, pos := "ladder.go:53", after := #[{ on := 4, ground := .data }, { on := 6, ground := .data }, { on := 2, ground := .chain }], guard := none } : Oper)) rfl (fun KK hK => ?_) AllReadyH.nil
  rw [if_pos (by rfl)]
  go_simp
  go_at_call 33; refine (AI.out _ (Sp.below (by assumption))).mono ?_; rintro e w2 ⟨rfl, hb2⟩
  go_wp2_with fail
  refine hK.out _ _ ?_ (fun hHeld2 => ?_)
  · exact kS _ _ (by assumption) hb2
  clear hK KK hb2 hHeld1
  try simp only [Act.put, List.setIfInBounds_toArray, List.set_cons_zero, List.set_cons_succ]
  refine wpAnyH_take (i := 8) (oi := ({ dst := some 12, op := .call { callee := .builtin .max, args := #[.tmp 6, .tmp 11], argTypes := #[3, 3] }, type := 3, pos := "ladder.go:53", after := #[{ on := 2, ground := .data }, { on := 7, ground := .data }], guard := none } : Oper)) (v := ?vs1_8) rfl ldmode_plain (by as_aux_lemma => kernel_rfl) (by as_aux_lemma => kernel_rfl) (fun _ _ _ h => h) (Or.inl ⟨by rfl, ?ys1_8⟩) (by assumption) ?rs1_8
  case ys1_8 => (intro w hSw; (try dsimp only at hSw); go_simp; try with_reducible rfl)
  try simp only [Act.put, List.setIfInBounds_toArray, List.set_cons_zero, List.set_cons_succ]
  refine wpAnyH_take (i := 9) (oi := ({ dst := some 3, op := .assign (.tmp 12), type := 3, pos := "ladder.go:53", after := #[{ on := 8, ground := .data }, { on := 7, ground := .chain }, { on := 0, ground := .phase }, { on := 1, ground := .phase }, { on := 2, ground := .phase }, { on := 3, ground := .phase }, { on := 4, ground := .phase }, { on := 5, ground := .phase }, { on := 6, ground := .phase }, { on := 7, ground := .phase }, { on := 8, ground := .phase }], guard := none } : Oper)) (v := ?vs1_9) rfl ldmode_plain (by as_aux_lemma => kernel_rfl) (by as_aux_lemma => kernel_rfl) (fun _ _ _ h => h) (Or.inl ⟨by rfl, ?ys1_9⟩) (by assumption) ?rs1_9
  case ys1_9 => (intro w hSw; (try dsimp only at hSw); go_simp; try with_reducible rfl)
  try simp only [Act.put, List.setIfInBounds_toArray, List.set_cons_zero, List.set_cons_succ]
  refine wpAnyH_done (by as_aux_lemma => kernel_rfl) ?_ _
  refine NoPanic.normal ?_
  have N1 := nx _ hHeld2
  have HS2 := Lib.hid N1
  clear c0_0 c0_2 c0_3 nx kS hT N1
  clear GY AI
  have k0_1 := (HS2.out).at 0 rfl 1 (v := .bool l.am) rfl
  have k0_4 := (HS2.out).at 0 rfl 4 (v := .bool l.fo) rfl
  have k0_5 := (HS2.out).at 0 rfl 5 (v := .bool l.no) rfl
  have BH := Lib.hid HS2.out.below
  clear HS2
  rcases Bool.eq_false_or_eq_true l.fo with c0 | c0
  · have e0 := F1.out c0
    rw [c0] at k0_4
    clear c0 F1 F0
    rcases Bool.eq_false_or_eq_true l.am with c1 | c1
    · have e1 := A1.out c1
      rw [c1] at k0_1
      clear c1 A1 A0
      rcases Bool.eq_false_or_eq_true l.no with c2 | c2
      · have e2 := N1.out c2
        rw [c2] at k0_5
        clear c2 N1 N0
        go_wp2_with fail
        exact bodyPost_ret (v := .int .i64 r) (by simp [results, Tryd.results16, go_sem, *]) rfl ⟨rfl, BH.out⟩
      · have e2 := N0.out c2
        rw [c2] at k0_5
        subst e2
        clear c2 N1 N0
        go_wp2_with fail
        exact bodyPost_ret (v := .int .i64 r) (by simp [results, Tryd.results16, go_sem, *]) rfl ⟨rfl, BH.out⟩
    · have e1 := A0.out c1
      rw [c1] at k0_1
      subst e1
      clear c1 A1 A0
      rcases Bool.eq_false_or_eq_true l.no with c2 | c2
      · have e2 := N1.out c2
        rw [c2] at k0_5
        clear c2 N1 N0
        go_wp2_with fail
        exact bodyPost_ret (v := .int .i64 r) (by simp [results, Tryd.results16, go_sem, *]) rfl ⟨rfl, BH.out⟩
      · have e2 := N0.out c2
        rw [c2] at k0_5
        subst e2
        clear c2 N1 N0
        go_wp2_with fail
        exact bodyPost_ret (v := .int .i64 r) (by simp [results, Tryd.results16, go_sem, *]) rfl ⟨rfl, BH.out⟩
  · have e0 := F0.out c0
    rw [c0] at k0_4
    subst e0
    clear c0 F1 F0
    rcases Bool.eq_false_or_eq_true l.am with c1 | c1
    · have e1 := A1.out c1
      rw [c1] at k0_1
      clear c1 A1 A0
      rcases Bool.eq_false_or_eq_true l.no with c2 | c2
      · have e2 := N1.out c2
        rw [c2] at k0_5
        clear c2 N1 N0
        go_wp2_with fail
        exact bodyPost_ret (v := .int .i64 r) (by simp [results, Tryd.results16, go_sem, *]) rfl ⟨rfl, BH.out⟩
      · have e2 := N0.out c2
        rw [c2] at k0_5
        subst e2
        clear c2 N1 N0
        go_wp2_with fail
        exact bodyPost_ret (v := .int .i64 r) (by simp [results, Tryd.results16, go_sem, *]) rfl ⟨rfl, BH.out⟩
    · have e1 := A0.out c1
      rw [c1] at k0_1
      subst e1
      clear c1 A1 A0
      rcases Bool.eq_false_or_eq_true l.no with c2 | c2
      · have e2 := N1.out c2
        rw [c2] at k0_5
        clear c2 N1 N0
        go_wp2_with fail
        exact bodyPost_ret (v := .int .i64 r) (by simp [results, Tryd.results16, go_sem, *]) rfl ⟨rfl, BH.out⟩
      · have e2 := N0.out c2
        rw [c2] at k0_5
        subst e2
        clear c2 N1 N0
        go_wp2_with fail
        exact bodyPost_ret (v := .int .i64 r) (by simp [results, Tryd.results16, go_sem, *]) rfl ⟨rfl, BH.out⟩
theorem Mode_any (l : La) (w : World) : Calls Tryd.prog 16 #[lv l] w fun e w' => e = .returned (.int .i64 (mode l)) ∧ Below w.heap.size w w' :=
  Mode_core l (gyr l.u) (air l.al l.sp) (m0 l) (m1 l) (m2 l) (mode l) w (Lib.hid fun w' _ => Gyros_any _ w') (Lib.hid fun w' _ => Air_any _ _ w') (Lib.hid rfl)
    (Lib.hid fun h => (if_pos h).symm) (Lib.hid fun h => if_neg (by rw [h]; decide)) (Lib.hid fun h => (if_pos h).symm) (Lib.hid fun h => if_neg (by rw [h]; decide)) (Lib.hid (fun h => by have := m2_le l; unfold mode; rw [if_pos h]; omega)) (Lib.hid fun h => if_neg (by rw [h]; decide))

set_option maxHeartbeats 8000000 in
set_option maxRecDepth 100000 in
theorem keeps_any (a b : Bool) (w : World)
    : Calls Tryd.prog 31 #[.bool a, .bool b] w fun e w' => e = .returned (.bool (a || !b)) ∧ Below w.heap.size w w' := by
  have BH := Lib.hid (Below.refl w.heap.size w)
  cases a <;> cases b
  · skip
    go_enter Tryd.func31, Tryd.ntmps31
    go_wp2_with fail
    exact bodyPost_ret (v := .bool true) (by simp [results, Tryd.results31, go_sem, *]) rfl ⟨rfl, BH.out⟩
  · skip
    go_enter Tryd.func31, Tryd.ntmps31
    go_wp2_with fail
    exact bodyPost_ret (v := .bool false) (by simp [results, Tryd.results31, go_sem, *]) rfl ⟨rfl, BH.out⟩
  · skip
    go_enter Tryd.func31, Tryd.ntmps31
    go_wp2_with fail
    exact bodyPost_ret (v := .bool true) (by simp [results, Tryd.results31, go_sem, *]) rfl ⟨rfl, BH.out⟩
  · skip
    go_enter Tryd.func31, Tryd.ntmps31
    go_wp2_with fail
    exact bodyPost_ret (v := .bool true) (by simp [results, Tryd.results31, go_sem, *]) rfl ⟨rfl, BH.out⟩

set_option maxHeartbeats 8000000 in
set_option maxRecDepth 100000 in
theorem Worse_core (a b : La) (d1 d2 d3 d4 d5 d6 : Bool) (w : World)
    (D1 : Hid (decide (a.u ≤ b.u) = d1)) (D2 : Hid (decide (b.al ≤ a.al) = d2)) (D3 : Hid (decide (b.sp ≤ a.sp) = d3))
    (K4 : Hid (∀ w', Below w.heap.size w w' → Calls Tryd.prog 31 #[.bool a.am, .bool b.am] w' fun e w'' => e = .returned (.bool d4) ∧ Below w'.heap.size w' w''))
    (K5 : Hid (∀ w', Below w.heap.size w w' → Calls Tryd.prog 31 #[.bool a.fo, .bool b.fo] w' fun e w'' => e = .returned (.bool d5) ∧ Below w'.heap.size w' w''))
    (K6 : Hid (∀ w', Below w.heap.size w w' → Calls Tryd.prog 31 #[.bool a.no, .bool b.no] w' fun e w'' => e = .returned (.bool d6) ∧ Below w'.heap.size w' w''))
    : Calls Tryd.prog 15 #[lv a, lv b] w fun e w' => e = .returned (.bool (d1 && d2 && d3 && d4 && d5 && d6)) ∧ Below w.heap.size w w' := by
  have hS1 := ((Sp.none w).more [.int .i64 a.u, .bool a.am, .int .i64 a.al, .int .i64 a.sp, .bool a.fo, .bool a.no] 23).more [.int .i64 b.u, .bool b.am, .int .i64 b.al, .int .i64 b.sp, .bool b.fo, .bool b.no] 23
  simp only [heap1] at hS1
  have HS1 := Lib.hid hS1
  clear hS1
  have h1 := D1.out
  have h2 := D2.out
  have h3 := D3.out
  clear D1 D2 D3
  go_enter Tryd.func15, Tryd.ntmps15
  go_upto_region 1 with fail
  obtain ⟨w1, hX, hS⟩ := (HS1.out).named
  rw [← hX]
  clear hX HS1
  have HS2 := Lib.hid hS
  clear hS
  have k0_0 := (HS2.out).at 0 rfl 0 (v := .int .i64 a.u) rfl
  have k0_1 := (HS2.out).at 0 rfl 1 (v := .bool a.am) rfl
  have k0_2 := (HS2.out).at 0 rfl 2 (v := .int .i64 a.al) rfl
  have k0_3 := (HS2.out).at 0 rfl 3 (v := .int .i64 a.sp) rfl
  have k0_4 := (HS2.out).at 0 rfl 4 (v := .bool a.fo) rfl
  have k0_5 := (HS2.out).at 0 rfl 5 (v := .bool a.no) rfl
  have k1_0 := (HS2.out).at 1 rfl 0 (v := .int .i64 b.u) rfl
  have k1_1 := (HS2.out).at 1 rfl 1 (v := .bool b.am) rfl
  have k1_2 := (HS2.out).at 1 rfl 2 (v := .int .i64 b.al) rfl
  have k1_3 := (HS2.out).at 1 rfl 3 (v := .int .i64 b.sp) rfl
  have k1_4 := (HS2.out).at 1 rfl 4 (v := .bool b.fo) rfl
  have k1_5 := (HS2.out).at 1 rfl 5 (v := .bool b.no) rfl
  have BH := Lib.hid HS2.out.below
  cases d1
  · skip
    go_wp2_with fail
    exact bodyPost_ret (v := .bool false) (by simp [results, Tryd.results15, go_sem, *]) rfl ⟨rfl, BH.out⟩
  · skip
    cases d2
    · skip
      go_wp2_with fail
      exact bodyPost_ret (v := .bool false) (by simp [results, Tryd.results15, go_sem, *]) rfl ⟨rfl, BH.out⟩
    · skip
      cases d3
      · skip
        go_wp2_with fail
        exact bodyPost_ret (v := .bool false) (by simp [results, Tryd.results15, go_sem, *]) rfl ⟨rfl, BH.out⟩
      · skip
        cases d4
        · skip
          go_wp2_with fail
          refine (K4.out _ HS2.out.below).mono ?_; rintro e w2 ⟨rfl, hb2⟩
          have hS3 := (HS2.out).keep hb2
          have HS3 := Lib.hid hS3
          clear hS3 HS2
          clear hb2
          have v3_0_0 := (HS3.out).at 0 rfl 0 (v := .int .i64 a.u) rfl
          have v3_0_1 := (HS3.out).at 0 rfl 1 (v := .bool a.am) rfl
          have v3_0_2 := (HS3.out).at 0 rfl 2 (v := .int .i64 a.al) rfl
          have v3_0_3 := (HS3.out).at 0 rfl 3 (v := .int .i64 a.sp) rfl
          have v3_0_4 := (HS3.out).at 0 rfl 4 (v := .bool a.fo) rfl
          have v3_0_5 := (HS3.out).at 0 rfl 5 (v := .bool a.no) rfl
          have v3_1_0 := (HS3.out).at 1 rfl 0 (v := .int .i64 b.u) rfl
          have v3_1_1 := (HS3.out).at 1 rfl 1 (v := .bool b.am) rfl
          have v3_1_2 := (HS3.out).at 1 rfl 2 (v := .int .i64 b.al) rfl
          have v3_1_3 := (HS3.out).at 1 rfl 3 (v := .int .i64 b.sp) rfl
          have v3_1_4 := (HS3.out).at 1 rfl 4 (v := .bool b.fo) rfl
          have v3_1_5 := (HS3.out).at 1 rfl 5 (v := .bool b.no) rfl
          have BZ := Lib.hid HS3.out.below
          go_wp2_with fail
          exact bodyPost_ret (v := .bool false) (by simp [results, Tryd.results15, go_sem, *]) rfl ⟨rfl, BZ.out⟩
        · skip
          cases d5
          · skip
            go_wp2_with fail
            refine (K4.out _ HS2.out.below).mono ?_; rintro e w2 ⟨rfl, hb2⟩
            have hS3 := (HS2.out).keep hb2
            have HS3 := Lib.hid hS3
            clear hS3 HS2
            clear hb2
            have v3_0_0 := (HS3.out).at 0 rfl 0 (v := .int .i64 a.u) rfl
            have v3_0_1 := (HS3.out).at 0 rfl 1 (v := .bool a.am) rfl
            have v3_0_2 := (HS3.out).at 0 rfl 2 (v := .int .i64 a.al) rfl
            have v3_0_3 := (HS3.out).at 0 rfl 3 (v := .int .i64 a.sp) rfl
            have v3_0_4 := (HS3.out).at 0 rfl 4 (v := .bool a.fo) rfl
            have v3_0_5 := (HS3.out).at 0 rfl 5 (v := .bool a.no) rfl
            have v3_1_0 := (HS3.out).at 1 rfl 0 (v := .int .i64 b.u) rfl
            have v3_1_1 := (HS3.out).at 1 rfl 1 (v := .bool b.am) rfl
            have v3_1_2 := (HS3.out).at 1 rfl 2 (v := .int .i64 b.al) rfl
            have v3_1_3 := (HS3.out).at 1 rfl 3 (v := .int .i64 b.sp) rfl
            have v3_1_4 := (HS3.out).at 1 rfl 4 (v := .bool b.fo) rfl
            have v3_1_5 := (HS3.out).at 1 rfl 5 (v := .bool b.no) rfl
            go_wp2_with fail
            refine (K5.out _ HS3.out.below).mono ?_; rintro e w3 ⟨rfl, hb3⟩
            have hS4 := (HS3.out).keep hb3
            have HS4 := Lib.hid hS4
            clear hS4 HS3
            clear hb3
            have v4_0_0 := (HS4.out).at 0 rfl 0 (v := .int .i64 a.u) rfl
            have v4_0_1 := (HS4.out).at 0 rfl 1 (v := .bool a.am) rfl
            have v4_0_2 := (HS4.out).at 0 rfl 2 (v := .int .i64 a.al) rfl
            have v4_0_3 := (HS4.out).at 0 rfl 3 (v := .int .i64 a.sp) rfl
            have v4_0_4 := (HS4.out).at 0 rfl 4 (v := .bool a.fo) rfl
            have v4_0_5 := (HS4.out).at 0 rfl 5 (v := .bool a.no) rfl
            have v4_1_0 := (HS4.out).at 1 rfl 0 (v := .int .i64 b.u) rfl
            have v4_1_1 := (HS4.out).at 1 rfl 1 (v := .bool b.am) rfl
            have v4_1_2 := (HS4.out).at 1 rfl 2 (v := .int .i64 b.al) rfl
            have v4_1_3 := (HS4.out).at 1 rfl 3 (v := .int .i64 b.sp) rfl
            have v4_1_4 := (HS4.out).at 1 rfl 4 (v := .bool b.fo) rfl
            have v4_1_5 := (HS4.out).at 1 rfl 5 (v := .bool b.no) rfl
            have BZ := Lib.hid HS4.out.below
            go_wp2_with fail
            exact bodyPost_ret (v := .bool false) (by simp [results, Tryd.results15, go_sem, *]) rfl ⟨rfl, BZ.out⟩
          · skip
            cases d6
            · skip
              go_wp2_with fail
              refine (K4.out _ HS2.out.below).mono ?_; rintro e w2 ⟨rfl, hb2⟩
              have hS3 := (HS2.out).keep hb2
              have HS3 := Lib.hid hS3
              clear hS3 HS2
              clear hb2
              have v3_0_0 := (HS3.out).at 0 rfl 0 (v := .int .i64 a.u) rfl
              have v3_0_1 := (HS3.out).at 0 rfl 1 (v := .bool a.am) rfl
              have v3_0_2 := (HS3.out).at 0 rfl 2 (v := .int .i64 a.al) rfl
              have v3_0_3 := (HS3.out).at 0 rfl 3 (v := .int .i64 a.sp) rfl
              have v3_0_4 := (HS3.out).at 0 rfl 4 (v := .bool a.fo) rfl
              have v3_0_5 := (HS3.out).at 0 rfl 5 (v := .bool a.no) rfl
              have v3_1_0 := (HS3.out).at 1 rfl 0 (v := .int .i64 b.u) rfl
              have v3_1_1 := (HS3.out).at 1 rfl 1 (v := .bool b.am) rfl
              have v3_1_2 := (HS3.out).at 1 rfl 2 (v := .int .i64 b.al) rfl
              have v3_1_3 := (HS3.out).at 1 rfl 3 (v := .int .i64 b.sp) rfl
              have v3_1_4 := (HS3.out).at 1 rfl 4 (v := .bool b.fo) rfl
              have v3_1_5 := (HS3.out).at 1 rfl 5 (v := .bool b.no) rfl
              go_wp2_with fail
              refine (K5.out _ HS3.out.below).mono ?_; rintro e w3 ⟨rfl, hb3⟩
              have hS4 := (HS3.out).keep hb3
              have HS4 := Lib.hid hS4
              clear hS4 HS3
              clear hb3
              have v4_0_0 := (HS4.out).at 0 rfl 0 (v := .int .i64 a.u) rfl
              have v4_0_1 := (HS4.out).at 0 rfl 1 (v := .bool a.am) rfl
              have v4_0_2 := (HS4.out).at 0 rfl 2 (v := .int .i64 a.al) rfl
              have v4_0_3 := (HS4.out).at 0 rfl 3 (v := .int .i64 a.sp) rfl
              have v4_0_4 := (HS4.out).at 0 rfl 4 (v := .bool a.fo) rfl
              have v4_0_5 := (HS4.out).at 0 rfl 5 (v := .bool a.no) rfl
              have v4_1_0 := (HS4.out).at 1 rfl 0 (v := .int .i64 b.u) rfl
              have v4_1_1 := (HS4.out).at 1 rfl 1 (v := .bool b.am) rfl
              have v4_1_2 := (HS4.out).at 1 rfl 2 (v := .int .i64 b.al) rfl
              have v4_1_3 := (HS4.out).at 1 rfl 3 (v := .int .i64 b.sp) rfl
              have v4_1_4 := (HS4.out).at 1 rfl 4 (v := .bool b.fo) rfl
              have v4_1_5 := (HS4.out).at 1 rfl 5 (v := .bool b.no) rfl
              go_wp2_with fail
              refine (K6.out _ HS4.out.below).mono ?_; rintro e w4 ⟨rfl, hb4⟩
              have hS5 := (HS4.out).keep hb4
              have HS5 := Lib.hid hS5
              clear hS5 HS4
              clear hb4
              have v5_0_0 := (HS5.out).at 0 rfl 0 (v := .int .i64 a.u) rfl
              have v5_0_1 := (HS5.out).at 0 rfl 1 (v := .bool a.am) rfl
              have v5_0_2 := (HS5.out).at 0 rfl 2 (v := .int .i64 a.al) rfl
              have v5_0_3 := (HS5.out).at 0 rfl 3 (v := .int .i64 a.sp) rfl
              have v5_0_4 := (HS5.out).at 0 rfl 4 (v := .bool a.fo) rfl
              have v5_0_5 := (HS5.out).at 0 rfl 5 (v := .bool a.no) rfl
              have v5_1_0 := (HS5.out).at 1 rfl 0 (v := .int .i64 b.u) rfl
              have v5_1_1 := (HS5.out).at 1 rfl 1 (v := .bool b.am) rfl
              have v5_1_2 := (HS5.out).at 1 rfl 2 (v := .int .i64 b.al) rfl
              have v5_1_3 := (HS5.out).at 1 rfl 3 (v := .int .i64 b.sp) rfl
              have v5_1_4 := (HS5.out).at 1 rfl 4 (v := .bool b.fo) rfl
              have v5_1_5 := (HS5.out).at 1 rfl 5 (v := .bool b.no) rfl
              have BZ := Lib.hid HS5.out.below
              go_wp2_with fail
              exact bodyPost_ret (v := .bool false) (by simp [results, Tryd.results15, go_sem, *]) rfl ⟨rfl, BZ.out⟩
            · skip
              go_wp2_with fail
              refine (K4.out _ HS2.out.below).mono ?_; rintro e w2 ⟨rfl, hb2⟩
              have hS3 := (HS2.out).keep hb2
              have HS3 := Lib.hid hS3
              clear hS3 HS2
              clear hb2
              have v3_0_0 := (HS3.out).at 0 rfl 0 (v := .int .i64 a.u) rfl
              have v3_0_1 := (HS3.out).at 0 rfl 1 (v := .bool a.am) rfl
              have v3_0_2 := (HS3.out).at 0 rfl 2 (v := .int .i64 a.al) rfl
              have v3_0_3 := (HS3.out).at 0 rfl 3 (v := .int .i64 a.sp) rfl
              have v3_0_4 := (HS3.out).at 0 rfl 4 (v := .bool a.fo) rfl
              have v3_0_5 := (HS3.out).at 0 rfl 5 (v := .bool a.no) rfl
              have v3_1_0 := (HS3.out).at 1 rfl 0 (v := .int .i64 b.u) rfl
              have v3_1_1 := (HS3.out).at 1 rfl 1 (v := .bool b.am) rfl
              have v3_1_2 := (HS3.out).at 1 rfl 2 (v := .int .i64 b.al) rfl
              have v3_1_3 := (HS3.out).at 1 rfl 3 (v := .int .i64 b.sp) rfl
              have v3_1_4 := (HS3.out).at 1 rfl 4 (v := .bool b.fo) rfl
              have v3_1_5 := (HS3.out).at 1 rfl 5 (v := .bool b.no) rfl
              go_wp2_with fail
              refine (K5.out _ HS3.out.below).mono ?_; rintro e w3 ⟨rfl, hb3⟩
              have hS4 := (HS3.out).keep hb3
              have HS4 := Lib.hid hS4
              clear hS4 HS3
              clear hb3
              have v4_0_0 := (HS4.out).at 0 rfl 0 (v := .int .i64 a.u) rfl
              have v4_0_1 := (HS4.out).at 0 rfl 1 (v := .bool a.am) rfl
              have v4_0_2 := (HS4.out).at 0 rfl 2 (v := .int .i64 a.al) rfl
              have v4_0_3 := (HS4.out).at 0 rfl 3 (v := .int .i64 a.sp) rfl
              have v4_0_4 := (HS4.out).at 0 rfl 4 (v := .bool a.fo) rfl
              have v4_0_5 := (HS4.out).at 0 rfl 5 (v := .bool a.no) rfl
              have v4_1_0 := (HS4.out).at 1 rfl 0 (v := .int .i64 b.u) rfl
              have v4_1_1 := (HS4.out).at 1 rfl 1 (v := .bool b.am) rfl
              have v4_1_2 := (HS4.out).at 1 rfl 2 (v := .int .i64 b.al) rfl
              have v4_1_3 := (HS4.out).at 1 rfl 3 (v := .int .i64 b.sp) rfl
              have v4_1_4 := (HS4.out).at 1 rfl 4 (v := .bool b.fo) rfl
              have v4_1_5 := (HS4.out).at 1 rfl 5 (v := .bool b.no) rfl
              go_wp2_with fail
              refine (K6.out _ HS4.out.below).mono ?_; rintro e w4 ⟨rfl, hb4⟩
              have hS5 := (HS4.out).keep hb4
              have HS5 := Lib.hid hS5
              clear hS5 HS4
              clear hb4
              have v5_0_0 := (HS5.out).at 0 rfl 0 (v := .int .i64 a.u) rfl
              have v5_0_1 := (HS5.out).at 0 rfl 1 (v := .bool a.am) rfl
              have v5_0_2 := (HS5.out).at 0 rfl 2 (v := .int .i64 a.al) rfl
              have v5_0_3 := (HS5.out).at 0 rfl 3 (v := .int .i64 a.sp) rfl
              have v5_0_4 := (HS5.out).at 0 rfl 4 (v := .bool a.fo) rfl
              have v5_0_5 := (HS5.out).at 0 rfl 5 (v := .bool a.no) rfl
              have v5_1_0 := (HS5.out).at 1 rfl 0 (v := .int .i64 b.u) rfl
              have v5_1_1 := (HS5.out).at 1 rfl 1 (v := .bool b.am) rfl
              have v5_1_2 := (HS5.out).at 1 rfl 2 (v := .int .i64 b.al) rfl
              have v5_1_3 := (HS5.out).at 1 rfl 3 (v := .int .i64 b.sp) rfl
              have v5_1_4 := (HS5.out).at 1 rfl 4 (v := .bool b.fo) rfl
              have v5_1_5 := (HS5.out).at 1 rfl 5 (v := .bool b.no) rfl
              have BZ := Lib.hid HS5.out.below
              go_wp2_with fail
              exact bodyPost_ret (v := .bool true) (by simp [results, Tryd.results15, go_sem, *]) rfl ⟨rfl, BZ.out⟩
theorem Worse_any (a b : La) (w : World) : Calls Tryd.prog 15 #[lv a, lv b] w fun e w' => e = .returned (.bool (worse a b)) ∧ Below w.heap.size w w' :=
  Worse_core a b _ _ _ _ _ _ w (Lib.hid rfl) (Lib.hid rfl) (Lib.hid rfl) (Lib.hid fun w' _ => keeps_any _ _ w') (Lib.hid fun w' _ => keeps_any _ _ w') (Lib.hid fun w' _ => keeps_any _ _ w')

end Go.Proofs.YtldbkompebefmaaDoor
