/- The landed observer's Step, over the contracts of what it calls. -/
import Derived.Test.YtkjkmnclnedfhaaDoorObLanA
namespace Go.Proofs.YtkjkmnclnedfhaaDoor
open Go.RowKit Obs

/-- The operations of a drawn region, as the translation has them. -/
def ostep8 : Array Oper := #[
  { dst := some 37, op := .fieldAddr 34 (.tmp 6) 0, type := 0, pos := "observer.go:34", after := #[], guard := none },
  { dst := some 38, op := .load 32 (.tmp 37), type := 32, pos := "observer.go:34", after := #[{ on := 0, ground := .data }], guard := none },
  { dst := some 39, op := .move (.tmp 11), type := 3, pos := "observer.go:34", after := #[], guard := none },
  { dst := some 40, op := .indexAddr 22 (.tmp 8) (.tmp 39), type := 0, pos := "observer.go:34", after := #[{ on := 2, ground := .data }], guard := none },
  { dst := some 41, op := .load 2 (.tmp 40), type := 2, pos := "observer.go:34", after := #[{ on := 3, ground := .data }], guard := none },
  { dst := some 42, op := .move (.tmp 11), type := 3, pos := "observer.go:34", after := #[], guard := none },
  { dst := some 43, op := .fieldAddr 25 (.tmp 5) 0, type := 0, pos := "observer.go:34", after := #[], guard := none },
  { dst := some 44, op := .indexAddr 22 (.tmp 43) (.tmp 42), type := 0, pos := "observer.go:34", after := #[{ on := 6, ground := .data }, { on := 5, ground := .data }], guard := none },
  { dst := some 45, op := .load 2 (.tmp 44), type := 2, pos := "observer.go:34", after := #[{ on := 7, ground := .data }], guard := none },
  { dst := some 46, op := .call { callee := .value (.func 33), args := #[.tmp 41, .tmp 45], argTypes := #[2, 2] }, type := 32, pos := "observer.go:34", after := #[{ on := 4, ground := .data }, { on := 8, ground := .data }], guard := none },
  { dst := some 47, op := .call { callee := .value (.func 26), args := #[.tmp 38, .tmp 46], argTypes := #[32, 32] }, type := 32, pos := "observer.go:34", after := #[{ on := 1, ground := .data }, { on := 9, ground := .data }, { on := 9, ground := .chain }], guard := none },
  { dst := some 48, op := .fieldAddr 34 (.tmp 6) 0, type := 0, pos := "observer.go:34", after := #[{ on := 0, ground := .phase }, { on := 1, ground := .phase }, { on := 2, ground := .phase }, { on := 3, ground := .phase }, { on := 4, ground := .phase }, { on := 5, ground := .phase }, { on := 6, ground := .phase }, { on := 7, ground := .phase }, { on := 8, ground := .phase }, { on := 9, ground := .phase }, { on := 10, ground := .phase }], guard := none },
  { dst := none, op := .store 32 (.tmp 48) (.tmp 47), type := 0, pos := "observer.go:34", after := #[{ on := 11, ground := .data }, { on := 10, ground := .data }, { on := 10, ground := .chain }, { on := 0, ground := .phase }, { on := 1, ground := .phase }, { on := 2, ground := .phase }, { on := 3, ground := .phase }, { on := 4, ground := .phase }, { on := 5, ground := .phase }, { on := 6, ground := .phase }, { on := 7, ground := .phase }, { on := 8, ground := .phase }, { on := 9, ground := .phase }, { on := 10, ground := .phase }], guard := none }]
theorem ostep8_plain : Region.noSelect ostep8 = true := by kernel_rfl

/-- The operations of a drawn region, as the translation has them. -/
def ostep14 : Array Oper := #[
  { dst := some 67, op := .load 34 (.tmp 6), type := 34, pos := "observer.go:39", after := #[], guard := none },
  { dst := some 68, op := .move (.tmp 12), type := 3, pos := "observer.go:39", after := #[], guard := none },
  { dst := some 69, op := .indexAddr 22 (.tmp 8) (.tmp 68), type := 0, pos := "observer.go:39", after := #[{ on := 1, ground := .data }], guard := none },
  { dst := some 70, op := .load 2 (.tmp 69), type := 2, pos := "observer.go:39", after := #[{ on := 2, ground := .data }], guard := none },
  { dst := some 71, op := .move (.tmp 12), type := 3, pos := "observer.go:39", after := #[], guard := none },
  { dst := some 72, op := .fieldAddr 25 (.tmp 5) 0, type := 0, pos := "observer.go:39", after := #[], guard := none },
  { dst := some 73, op := .indexAddr 22 (.tmp 72) (.tmp 71), type := 0, pos := "observer.go:39", after := #[{ on := 5, ground := .data }, { on := 4, ground := .data }], guard := none },
  { dst := some 74, op := .load 2 (.tmp 73), type := 2, pos := "observer.go:39", after := #[{ on := 6, ground := .data }], guard := none },
  { dst := some 75, op := .call { callee := .value (.func 33), args := #[.tmp 70, .tmp 74], argTypes := #[2, 2] }, type := 32, pos := "observer.go:39", after := #[{ on := 3, ground := .data }, { on := 7, ground := .data }], guard := none },
  { dst := some 76, op := .call { callee := .value (.func 34), args := #[.tmp 67, .tmp 75], argTypes := #[34, 32] }, type := 34, pos := "observer.go:39", after := #[{ on := 0, ground := .data }, { on := 8, ground := .data }, { on := 8, ground := .chain }], guard := none },
  { dst := none, op := .store 34 (.tmp 6) (.tmp 76), type := 0, pos := "observer.go:39", after := #[{ on := 9, ground := .data }, { on := 9, ground := .chain }, { on := 0, ground := .phase }, { on := 1, ground := .phase }, { on := 2, ground := .phase }, { on := 3, ground := .phase }, { on := 4, ground := .phase }, { on := 5, ground := .phase }, { on := 6, ground := .phase }, { on := 7, ground := .phase }, { on := 8, ground := .phase }, { on := 9, ground := .phase }], guard := none }]
theorem ostep14_plain : Region.noSelect ostep14 = true := by kernel_rfl

set_option maxHeartbeats 40000000 in
set_option maxRecDepth 100000 in
theorem Step_core (a : Ai) (vL vH bL bH bad x0 x1 x2 : Int) (t0 t1 t2 : Bool) (p : Ob) (q r : Nat → Ob) (l0 h0 l1 h1 l2 h2 mL0 mH0 mL1 mH1 mL2 mH2 : Int) (s0 s1 s2 z : Ob) (E1 E2 : Bool) (w : World)
    (PR : Hid (∀ w', Below w.heap.size w w' → Calls Tryd.prog 32 #[av a, .agg #[.int .i64 vL, .int .i64 vH, .int .i64 bL, .int .i64 bH, .bool false]] w' fun e w'' => e = .returned (ov p) ∧ Below w'.heap.size w' w''))
    (A0 : Hid (∀ w', Below w.heap.size w w' → Calls Tryd.prog 33 #[.int .i64 x0, .int .i64 a.e0] w' fun e w'' => e = .returned (sv l0 h0) ∧ Below w'.heap.size w' w''))
    (M0 : Hid (∀ w', Below w.heap.size w w' → Calls Tryd.prog 26 #[sv (q 0).vL (q 0).vH, sv l0 h0] w' fun e w'' => e = .returned (sv mL0 mH0) ∧ Below w'.heap.size w' w''))
    (S0 : Hid (∀ w', Below w.heap.size w w' → Calls Tryd.prog 34 #[ov (r 0), sv l0 h0] w' fun e w'' => e = .returned (ov s0) ∧ Below w'.heap.size w' w''))
    (Qt0 : Hid (t0 = true → ¬ bad = 0 → a.b0 = false → q 1 = ⟨mL0, mH0, (q 0).bL, (q 0).bH, (q 0).ref⟩)) (Qf0 : Hid (¬ (t0 = true ∧ ¬ bad = 0 ∧ a.b0 = false) → q 1 = q 0))
    (Rt0 : Hid (t0 = true → ¬ bad = 0 → a.b0 = true → r 1 = s0)) (Rf0 : Hid (¬ (t0 = true ∧ ¬ bad = 0 ∧ a.b0 = true) → r 1 = r 0))
    (A1 : Hid (∀ w', Below w.heap.size w w' → Calls Tryd.prog 33 #[.int .i64 x1, .int .i64 a.e1] w' fun e w'' => e = .returned (sv l1 h1) ∧ Below w'.heap.size w' w''))
    (M1 : Hid (∀ w', Below w.heap.size w w' → Calls Tryd.prog 26 #[sv (q 1).vL (q 1).vH, sv l1 h1] w' fun e w'' => e = .returned (sv mL1 mH1) ∧ Below w'.heap.size w' w''))
    (S1 : Hid (∀ w', Below w.heap.size w w' → Calls Tryd.prog 34 #[ov (r 1), sv l1 h1] w' fun e w'' => e = .returned (ov s1) ∧ Below w'.heap.size w' w''))
    (Qt1 : Hid (t1 = true → ¬ bad = 1 → a.b1 = false → q 2 = ⟨mL1, mH1, (q 1).bL, (q 1).bH, (q 1).ref⟩)) (Qf1 : Hid (¬ (t1 = true ∧ ¬ bad = 1 ∧ a.b1 = false) → q 2 = q 1))
    (Rt1 : Hid (t1 = true → ¬ bad = 1 → a.b1 = true → r 2 = s1)) (Rf1 : Hid (¬ (t1 = true ∧ ¬ bad = 1 ∧ a.b1 = true) → r 2 = r 1))
    (A2 : Hid (∀ w', Below w.heap.size w w' → Calls Tryd.prog 33 #[.int .i64 x2, .int .i64 a.e2] w' fun e w'' => e = .returned (sv l2 h2) ∧ Below w'.heap.size w' w''))
    (M2 : Hid (∀ w', Below w.heap.size w w' → Calls Tryd.prog 26 #[sv (q 2).vL (q 2).vH, sv l2 h2] w' fun e w'' => e = .returned (sv mL2 mH2) ∧ Below w'.heap.size w' w''))
    (S2 : Hid (∀ w', Below w.heap.size w w' → Calls Tryd.prog 34 #[ov (r 2), sv l2 h2] w' fun e w'' => e = .returned (ov s2) ∧ Below w'.heap.size w' w''))
    (Qt2 : Hid (t2 = true → ¬ bad = 2 → a.b2 = false → q 3 = ⟨mL2, mH2, (q 2).bL, (q 2).bH, (q 2).ref⟩)) (Qf2 : Hid (¬ (t2 = true ∧ ¬ bad = 2 ∧ a.b2 = false) → q 3 = q 2))
    (Rt2 : Hid (t2 = true → ¬ bad = 2 → a.b2 = true → r 3 = s2)) (Rf2 : Hid (¬ (t2 = true ∧ ¬ bad = 2 ∧ a.b2 = true) → r 3 = r 2))
    (Q0 : Hid (q 0 = p)) (R0 : Hid (r 0 = q 3))
    (EV : Hid (∀ w', Below w.heap.size w w' → Calls Tryd.prog 35 #[sv (r 3).vL (r 3).vH] w' fun e w'' => e = .returned (.bool E1) ∧ Below w'.heap.size w' w''))
    (EB : Hid (∀ w', Below w.heap.size w w' → Calls Tryd.prog 35 #[sv (r 3).bL (r 3).bH] w' fun e w'' => e = .returned (.bool E2) ∧ Below w'.heap.size w' w''))
    (Zt : Hid (E1 = true ∨ E2 = true → z = ⟨0, 0, 0, 0, true⟩)) (Zf : Hid (E1 = false → E2 = false → z = r 3))
    : Calls Tryd.prog 23 #[av a, .agg #[.int .i64 vL, .int .i64 vH, .int .i64 bL, .int .i64 bH, .bool false], .int .i64 bad, .agg #[.int .i64 x0, .int .i64 x1, .int .i64 x2], .agg #[.bool t0, .bool t1, .bool t2]] w fun e w' => e = .returned (ov z) ∧ Below w.heap.size w w' := by
  have hS1 := (((((Sp.none w).more [.int .i64 a.e0, .int .i64 a.e1, .int .i64 a.e2, .bool a.b0, .bool a.b1, .bool a.b2, .int .i64 a.bias, .int .i64 a.change, .int .i64 a.move, .int .i64 a.most] 25).more [.int .i64 vL, .int .i64 vH, .int .i64 bL, .int .i64 bH, .bool false] 34).more [.int .i64 x0, .int .i64 x1, .int .i64 x2] 22).more [.bool t0, .bool t1, .bool t2] 23).more [.int .i64 0, .int .i64 0, .int .i64 0, .int .i64 0, .bool false] 34
  simp only [heap1] at hS1
  have HS1 := Lib.hid hS1
  clear hS1
  go_enter Tryd.func23, Tryd.ntmps23
  go_wp2_with fail
  refine (PR.out _ HS1.out.below).mono ?_; rintro e w1 ⟨rfl, hb1⟩
  have hS2 := (HS1.out).keep hb1
  have HS2 := Lib.hid hS2
  clear hS2 HS1
  clear hb1
  clear PR
  have k1_0 := (HS2.out).at 1 rfl 0 (v := .int .i64 vL) rfl
  have k1_1 := (HS2.out).at 1 rfl 1 (v := .int .i64 vH) rfl
  have k1_2 := (HS2.out).at 1 rfl 2 (v := .int .i64 bL) rfl
  have k1_3 := (HS2.out).at 1 rfl 3 (v := .int .i64 bH) rfl
  have k1_4 := (HS2.out).at 1 rfl 4 (v := .bool false) rfl
  have f1_0 := (HS2.out).free 1 rfl 0 rfl
  have f1_1 := (HS2.out).free 1 rfl 1 rfl
  have f1_2 := (HS2.out).free 1 rfl 2 rfl
  have f1_3 := (HS2.out).free 1 rfl 3 rfl
  have f1_4 := (HS2.out).free 1 rfl 4 rfl
  have hS3 := (((((HS2.out).put 1 rfl 0 (.int .i64 p.vL)).put 1 rfl 1 (.int .i64 p.vH)).put 1 rfl 2 (.int .i64 p.bL)).put 1 rfl 3 (.int .i64 p.bH)).put 1 rfl 4 (.bool p.ref)
  have HS3 := Lib.hid hS3
  clear hS3 HS2
  go_wp2_with fail
  clear k1_0 k1_1 k1_2 k1_3 k1_4 f1_0 f1_1 f1_2 f1_3 f1_4
  go_loopw [19] (fun i wr => ∃ j : Nat, j ≤ 3 ∧ i = .int .i64 j ∧ Sp w [(w.heap.size, [some (.int .i64 a.e0), some (.int .i64 a.e1), some (.int .i64 a.e2), some (.bool a.b0), some (.bool a.b1), some (.bool a.b2), some (.int .i64 a.bias), some (.int .i64 a.change), some (.int .i64 a.move), some (.int .i64 a.most)]), (w.heap.size + 1, [some (.int .i64 (q j).vL), some (.int .i64 (q j).vH), some (.int .i64 (q j).bL), some (.int .i64 (q j).bH), some (.bool (q j).ref)]), (w.heap.size + 1 + 1, [some (.int .i64 x0), some (.int .i64 x1), some (.int .i64 x2)]), (w.heap.size + 1 + 1 + 1, [some (.bool t0), some (.bool t1), some (.bool t2)]), (w.heap.size + 1 + 1 + 1 + 1, [some (.int .i64 0), some (.int .i64 0), some (.int .i64 0), some (.int .i64 0), some (.bool false)])] wr) (fun i _ => 3 - (intOf i).toNat)
  case atStart => exact ⟨0, by omega, rfl, by rw [Q0.out]; exact HS3.out⟩
  case round =>
    clear HS3
    obtain ⟨j, hj, rfl, hS⟩ := hrel
    rcases (show j = 0 ∨ j = 1 ∨ j = 2 ∨ j = 3 by omega) with rfl | rfl | rfl | rfl
    · skip
      have HS4 := Lib.hid hS
      clear hS hj
      have kt := (HS4.out).at 3 rfl 0 (v := .bool t0) rfl
      have kb := (HS4.out).at 0 rfl 3 (v := .bool a.b0) rfl
      rcases Bool.eq_false_or_eq_true t0 with ct | ct
      · rw [ct] at kt
        by_cases cb : bad = 0
        · subst cb
          clear ct
          have e1 : q 1 = q 0 := Qf0.out (fun h => absurd rfl h.2.1)
          have HE := Lib.hid e1
          clear e1
          have HN := HS4.out
          go_wp2_with fail
          go_roundw
          case rel => first | exact ⟨1, by omega, rfl, by rw [HE.out]; exact HN⟩ | ((repeat apply Exists.intro); exact ⟨⟨1, by omega, rfl, by rw [HE.out]; exact HN⟩, rfl⟩)
          case measure => simp [intOf]
        · have HB0 := Lib.hid cb
          have d0 : ((0 : Int) == bad) = false := by simpa using Ne.symm cb
          have d1 : (bad == (0 : Int)) = false := by simpa using cb
          have d2 : ¬ (0 : Int) = bad := Ne.symm cb
          have HT0 := Lib.hid ct
          clear ct
          rcases Bool.eq_false_or_eq_true a.b0 with cc | cc
          · rw [cc] at kb
            have HC0 := Lib.hid cc
            clear cc
            have e1 : q 1 = q 0 := Qf0.out (fun h => by rw [HC0.out] at h; exact absurd h.2.2 (by decide))
            have HE := Lib.hid e1
            clear e1
            have HN := HS4.out
            go_wp2_with fail
            go_roundw
            case rel => first | exact ⟨1, by omega, rfl, by rw [HE.out]; exact HN⟩ | ((repeat apply Exists.intro); exact ⟨⟨1, by omega, rfl, by rw [HE.out]; exact HN⟩, rfl⟩)
            case measure => simp [intOf]
          · rw [cc] at kb
            have HC0 := Lib.hid cc
            clear cc
            have e1 := Qt0.out HT0.out HB0.out HC0.out
            have HE := Lib.hid e1
            clear e1
            go_upto_region 8 with fail
            clear kt kb d0 d1 d2
            obtain ⟨w2, hX, HK⟩ := (HS4.out).named
            rw [← hX]
            clear hX
            have hT := ((HK).forget 1 rfl 0).forget 1 rfl 1
            obtain ⟨bs1, hbs⟩ : ∃ bs : List (Nat × List (Option Value)), bs = [(w.heap.size, [some (.int .i64 a.e0), some (.int .i64 a.e1), some (.int .i64 a.e2), some (.bool a.b0), some (.bool a.b1), some (.bool a.b2), some (.int .i64 a.bias), some (.int .i64 a.change), some (.int .i64 a.move), some (.int .i64 a.most)]), (w.heap.size + 1, [none, none, some (.int .i64 (q 0).bL), some (.int .i64 (q 0).bH), some (.bool (q 0).ref)]), (w.heap.size + 1 + 1, [some (.int .i64 x0), some (.int .i64 x1), some (.int .i64 x2)]), (w.heap.size + 1 + 1 + 1, [some (.bool t0), some (.bool t1), some (.bool t2)]), (w.heap.size + 1 + 1 + 1 + 1, [some (.int .i64 0), some (.int .i64 0), some (.int .i64 0), some (.int .i64 0), some (.bool false)])] := ⟨_, rfl⟩
            replace hT : Sp w bs1 w2 := hbs ▸ hT
            have c2_0 : ∀ w', Sp w bs1 w' → w'.cell? ⟨w.heap.size + 1 + 1, 0, none⟩ = some (.int .i64 x0) := by rw [hbs]; exact fun w' h => h.at 2 rfl 0 rfl
            have c0_0 : ∀ w', Sp w bs1 w' → w'.cell? ⟨w.heap.size, 0, none⟩ = some (.int .i64 a.e0) := by rw [hbs]; exact fun w' h => h.at 0 rfl 0 rfl
            have kS : ∀ w1 w2, Sp w bs1 w1 → Below w1.heap.size w1 w2 → Sp w bs1 w2 := fun _ _ h hb => h.keep hb
            have s1_0 : ∀ w' z, Sp w bs1 w' → Sp w bs1 (w'.setCell ⟨w.heap.size + 1, 0, none⟩ z) := by rw [hbs]; exact fun w' z h => h.hit 1 rfl 0 rfl z
            have s1_1 : ∀ w' z, Sp w bs1 w' → Sp w bs1 (w'.setCell ⟨w.heap.size + 1, 1, none⟩ z) := by rw [hbs]; exact fun w' z h => h.hit 1 rfl 1 rfl z
            have nx : ∀ w', Sp w [(w.heap.size, [some (.int .i64 a.e0), some (.int .i64 a.e1), some (.int .i64 a.e2), some (.bool a.b0), some (.bool a.b1), some (.bool a.b2), some (.int .i64 a.bias), some (.int .i64 a.change), some (.int .i64 a.move), some (.int .i64 a.most)]), (w.heap.size + 1, [some (.int .i64 (q 0).vL), some (.int .i64 (q 0).vH), some (.int .i64 (q 0).bL), some (.int .i64 (q 0).bH), some (.bool (q 0).ref)]), (w.heap.size + 1 + 1, [some (.int .i64 x0), some (.int .i64 x1), some (.int .i64 x2)]), (w.heap.size + 1 + 1 + 1, [some (.bool t0), some (.bool t1), some (.bool t2)]), (w.heap.size + 1 + 1 + 1 + 1, [some (.int .i64 0), some (.int .i64 0), some (.int .i64 0), some (.int .i64 0), some (.bool false)])] w' → Sp w [(w.heap.size, [some (.int .i64 a.e0), some (.int .i64 a.e1), some (.int .i64 a.e2), some (.bool a.b0), some (.bool a.b1), some (.bool a.b2), some (.int .i64 a.bias), some (.int .i64 a.change), some (.int .i64 a.move), some (.int .i64 a.most)]), (w.heap.size + 1, [some (.int .i64 mL0), some (.int .i64 mH0), some (.int .i64 (q 0).bL), some (.int .i64 (q 0).bH), some (.bool (q 0).ref)]), (w.heap.size + 1 + 1, [some (.int .i64 x0), some (.int .i64 x1), some (.int .i64 x2)]), (w.heap.size + 1 + 1 + 1, [some (.bool t0), some (.bool t1), some (.bool t2)]), (w.heap.size + 1 + 1 + 1 + 1, [some (.int .i64 0), some (.int .i64 0), some (.int .i64 0), some (.int .i64 0), some (.bool false)])] ((w'.setCell ⟨w.heap.size + 1, 0, none⟩ (.int .i64 mL0)).setCell ⟨w.heap.size + 1, 1, none⟩ (.int .i64 mH0)) := fun w' h => ((h.put 1 rfl 0 _).put 1 rfl 1 _)
            clear hbs HS4
            change (Code.region 8 ostep8 true).wp Tryd.prog _ _ _
            refine wp_region_noPanic ?_
            refine wp_region_held_drew (S := (Sp w bs1)) (by kernel_rfl) (hT.drew) (fun hHeld => ?_)
            obtain ⟨w3, hX⟩ : ∃ x, x = w2.drew := ⟨_, rfl⟩
            have hb : Below w2.heap.size w2 w3 := hX ▸ (Below.refl _ _).drew
            rw [← hX] at hHeld ⊢
            have HB := hHeld; clear hHeld
            replace HK := HK.keep hb
            clear hb hX
            refine wpAnyH_take (i := 0) (oi := ({ dst := some 37, op := .fieldAddr 34 (.tmp 6) 0, type := 0, pos := "observer.go:34", after := #[], guard := none } : Oper)) (v := ?vt1_1_) rfl ostep8_plain (by as_aux_lemma => kernel_rfl) (by as_aux_lemma => kernel_rfl) (fun _ _ _ h => h) (Or.inl ⟨by rfl, ?yt1_1_⟩) HB ?rt1_1_
            case yt1_1_ => (intro w hSw; (try dsimp only at hSw); go_simp; try with_reducible rfl)
            try simp only [Act.put, List.setIfInBounds_toArray, List.set_cons_zero, List.set_cons_succ]
            refine wpAnyH_take (i := 2) (oi := ({ dst := some 39, op := .move (.tmp 11), type := 3, pos := "observer.go:34", after := #[], guard := none } : Oper)) (v := ?vt1_2_) rfl ostep8_plain (by as_aux_lemma => kernel_rfl) (by as_aux_lemma => kernel_rfl) (fun _ _ _ h => h) (Or.inl ⟨by rfl, ?yt1_2_⟩) HB ?rt1_2_
            case yt1_2_ => (intro w hSw; (try dsimp only at hSw); go_simp; try with_reducible rfl)
            try simp only [Act.put, List.setIfInBounds_toArray, List.set_cons_zero, List.set_cons_succ]
            refine wpAnyH_take (i := 3) (oi := ({ dst := some 40, op := .indexAddr 22 (.tmp 8) (.tmp 39), type := 0, pos := "observer.go:34", after := #[{ on := 2, ground := .data }], guard := none } : Oper)) (v := ?vt1_3_) rfl ostep8_plain (by as_aux_lemma => kernel_rfl) (by as_aux_lemma => kernel_rfl) (fun _ _ _ h => h) (Or.inl ⟨by rfl, ?yt1_3_⟩) HB ?rt1_3_
            case yt1_3_ => (intro w hSw; (try dsimp only at hSw); go_simp; try with_reducible rfl)
            try simp only [Act.put, List.setIfInBounds_toArray, List.set_cons_zero, List.set_cons_succ]
            refine wpAnyH_take (i := 4) (oi := ({ dst := some 41, op := .load 2 (.tmp 40), type := 2, pos := "observer.go:34", after := #[{ on := 3, ground := .data }], guard := none } : Oper)) (v := ?vt1_4_) rfl ostep8_plain (by as_aux_lemma => kernel_rfl) (by as_aux_lemma => kernel_rfl) (fun _ _ _ h => h) (Or.inl ⟨by rfl, ?yt1_4_⟩) HB ?rt1_4_
            case yt1_4_ => (intro w hSw; (try dsimp only at hSw); go_simp; try with_reducible rfl)
            try simp only [Act.put, List.setIfInBounds_toArray, List.set_cons_zero, List.set_cons_succ]
            refine wpAnyH_take (i := 5) (oi := ({ dst := some 42, op := .move (.tmp 11), type := 3, pos := "observer.go:34", after := #[], guard := none } : Oper)) (v := ?vt1_5_) rfl ostep8_plain (by as_aux_lemma => kernel_rfl) (by as_aux_lemma => kernel_rfl) (fun _ _ _ h => h) (Or.inl ⟨by rfl, ?yt1_5_⟩) HB ?rt1_5_
            case yt1_5_ => (intro w hSw; (try dsimp only at hSw); go_simp; try with_reducible rfl)
            try simp only [Act.put, List.setIfInBounds_toArray, List.set_cons_zero, List.set_cons_succ]
            refine wpAnyH_take (i := 6) (oi := ({ dst := some 43, op := .fieldAddr 25 (.tmp 5) 0, type := 0, pos := "observer.go:34", after := #[], guard := none } : Oper)) (v := ?vt1_6_) rfl ostep8_plain (by as_aux_lemma => kernel_rfl) (by as_aux_lemma => kernel_rfl) (fun _ _ _ h => h) (Or.inl ⟨by rfl, ?yt1_6_⟩) HB ?rt1_6_
            case yt1_6_ => (intro w hSw; (try dsimp only at hSw); go_simp; try with_reducible rfl)
            try simp only [Act.put, List.setIfInBounds_toArray, List.set_cons_zero, List.set_cons_succ]
            refine wpAnyH_take (i := 7) (oi := ({ dst := some 44, op := .indexAddr 22 (.tmp 43) (.tmp 42), type := 0, pos := "observer.go:34", after := #[{ on := 6, ground := .data }, { on := 5, ground := .data }], guard := none } : Oper)) (v := ?vt1_7_) rfl ostep8_plain (by as_aux_lemma => kernel_rfl) (by as_aux_lemma => kernel_rfl) (fun _ _ _ h => h) (Or.inl ⟨by rfl, ?yt1_7_⟩) HB ?rt1_7_
            case yt1_7_ => (intro w hSw; (try dsimp only at hSw); go_simp; try with_reducible rfl)
            try simp only [Act.put, List.setIfInBounds_toArray, List.set_cons_zero, List.set_cons_succ]
            refine wpAnyH_take (i := 8) (oi := ({ dst := some 45, op := .load 2 (.tmp 44), type := 2, pos := "observer.go:34", after := #[{ on := 7, ground := .data }], guard := none } : Oper)) (v := ?vt1_8_) rfl ostep8_plain (by as_aux_lemma => kernel_rfl) (by as_aux_lemma => kernel_rfl) (fun _ _ _ h => h) (Or.inl ⟨by rfl, ?yt1_8_⟩) HB ?rt1_8_
            case yt1_8_ => (intro w hSw; (try dsimp only at hSw); go_simp; try with_reducible rfl)
            try simp only [Act.put, List.setIfInBounds_toArray, List.set_cons_zero, List.set_cons_succ]
            refine wpAnyH_ready (rs := [1, 9]) (by as_aux_lemma => kernel_rfl) (by simp) ?_
            refine AllReadyH.cons (o := ({ dst := some 38, op := .load 32 (.tmp 37), type := 32, pos := "observer.go:34", after := #[{ on := 0, ground := .data }], guard := none } : Oper)) rfl (fun KK hK => ?_) (AllReadyH.cons (o := ({ dst := some 46, op := .call { callee := .value (.func 33), args := #[.tmp 41, .tmp 45], argTypes := #[2, 2] }, type := 32, pos := "observer.go:34", after := #[{ on := 4, ground := .data }, { on := 8, ground := .data }], guard := none } : Oper)) rfl (fun KK hK => ?_) AllReadyH.nil)
            · skip
              rw [if_pos (by rfl)]
              have ld0 := HK.at 1 rfl 0 (v := .int .i64 (q 0).vL) rfl
              have ld1 := HK.at 1 rfl 1 (v := .int .i64 (q 0).vH) rfl
              go_simp
              obtain ⟨w4, hX⟩ : ∃ x, x = w3 := ⟨_, rfl⟩
              have hb : Below w3.heap.size w3 w4 := (show w3 = w4 from hX.symm) ▸ Below.refl _ _
              rw [← hX]
              clear hX ld0 ld1
              refine hK.out _ _ ?_ (fun hHeld => ?_)
              · exact kS _ _ HB hb
              replace HB := hHeld; clear hHeld hK KK
              replace HK := HK.keep hb
              clear hb
              try simp only [Act.put, List.setIfInBounds_toArray, List.set_cons_zero, List.set_cons_succ]
              refine wpAnyH_ready (rs := [9]) (by as_aux_lemma => kernel_rfl) (by simp) ?_
              refine AllReadyH.cons (o := ({ dst := some 46, op := .call { callee := .value (.func 33), args := #[.tmp 41, .tmp 45], argTypes := #[2, 2] }, type := 32, pos := "observer.go:34", after := #[{ on := 4, ground := .data }, { on := 8, ground := .data }], guard := none } : Oper)) rfl (fun KK hK => ?_) AllReadyH.nil
              rw [if_pos (by rfl)]
              go_simp
              go_at_call 33; refine (A0.out _ HK.below).mono ?_; rintro e w5 ⟨rfl, hb⟩
              go_wp2_with fail
              refine hK.out _ _ ?_ (fun hHeld => ?_)
              · exact kS _ _ HB hb
              replace HB := hHeld; clear hHeld hK KK
              replace HK := HK.keep hb
              clear hb
              try simp only [Act.put, List.setIfInBounds_toArray, List.set_cons_zero, List.set_cons_succ]
              refine wpAnyH_ready (rs := [10]) (by as_aux_lemma => kernel_rfl) (by simp) ?_
              refine AllReadyH.cons (o := ({ dst := some 47, op := .call { callee := .value (.func 26), args := #[.tmp 38, .tmp 46], argTypes := #[32, 32] }, type := 32, pos := "observer.go:34", after := #[{ on := 1, ground := .data }, { on := 9, ground := .data }, { on := 9, ground := .chain }], guard := none } : Oper)) rfl (fun KK hK => ?_) AllReadyH.nil
              rw [if_pos (by rfl)]
              go_simp
              go_at_call 26; refine (M0.out _ HK.below).mono ?_; rintro e w6 ⟨rfl, hb⟩
              go_wp2_with fail
              refine hK.out _ _ ?_ (fun hHeld => ?_)
              · exact kS _ _ HB hb
              replace HB := hHeld; clear hHeld hK KK
              replace HK := HK.keep hb
              clear hb
              try simp only [Act.put, List.setIfInBounds_toArray, List.set_cons_zero, List.set_cons_succ]
              refine wpAnyH_take (i := 11) (oi := ({ dst := some 48, op := .fieldAddr 34 (.tmp 6) 0, type := 0, pos := "observer.go:34", after := #[{ on := 0, ground := .phase }, { on := 1, ground := .phase }, { on := 2, ground := .phase }, { on := 3, ground := .phase }, { on := 4, ground := .phase }, { on := 5, ground := .phase }, { on := 6, ground := .phase }, { on := 7, ground := .phase }, { on := 8, ground := .phase }, { on := 9, ground := .phase }, { on := 10, ground := .phase }], guard := none } : Oper)) (v := ?vt1_9_) rfl ostep8_plain (by as_aux_lemma => kernel_rfl) (by as_aux_lemma => kernel_rfl) (fun _ _ _ h => h) (Or.inl ⟨by rfl, ?yt1_9_⟩) HB ?rt1_9_
              case yt1_9_ => (intro w hSw; (try dsimp only at hSw); go_simp; try with_reducible rfl)
              try simp only [Act.put, List.setIfInBounds_toArray, List.set_cons_zero, List.set_cons_succ]
              refine wpAnyH_ready (rs := [12]) (by as_aux_lemma => kernel_rfl) (by simp) ?_
              refine AllReadyH.cons (o := ({ dst := none, op := .store 32 (.tmp 48) (.tmp 47), type := 0, pos := "observer.go:34", after := #[{ on := 11, ground := .data }, { on := 10, ground := .data }, { on := 10, ground := .chain }, { on := 0, ground := .phase }, { on := 1, ground := .phase }, { on := 2, ground := .phase }, { on := 3, ground := .phase }, { on := 4, ground := .phase }, { on := 5, ground := .phase }, { on := 6, ground := .phase }, { on := 7, ground := .phase }, { on := 8, ground := .phase }, { on := 9, ground := .phase }, { on := 10, ground := .phase }], guard := none } : Oper)) rfl (fun KK hK => ?_) AllReadyH.nil
              rw [if_pos (by rfl)]
              obtain ⟨z1_0, l1_0, f1_0⟩ := HK.there 1 rfl 0 rfl
              obtain ⟨z1_1, l1_1, f1_1⟩ := HK.there 1 rfl 1 rfl
              have N1 := nx _ HK
              have HN := (s1_1 _ (.int .i64 mH0) (s1_0 _ (.int .i64 mL0) HB))
              go_simp
              obtain ⟨w7, hX⟩ : ∃ x, x = ((w6.setCell ⟨w.heap.size + 1, 0, none⟩ (.int .i64 mL0)).setCell ⟨w.heap.size + 1, 1, none⟩ (.int .i64 mH0)) := ⟨_, rfl⟩
              rw [← hX] at HN N1 ⊢
              clear hX HK l1_0 f1_0 l1_1 f1_1
              refine hK.out _ _ ?_ (fun hHeld => ?_)
              · exact HN
              replace HB := hHeld; clear hHeld hK KK HN
              try simp only [Act.put]
              refine wpAnyH_done (by as_aux_lemma => kernel_rfl) ?_ _
              refine NoPanic.normal ?_
              go_wp2_with fail
              go_roundw
              case rel => first | exact ⟨1, by omega, rfl, by rw [HE.out]; exact N1⟩ | ((repeat apply Exists.intro); exact ⟨⟨1, by omega, rfl, by rw [HE.out]; exact N1⟩, rfl⟩)
              case measure => simp [intOf]
            · skip
              rw [if_pos (by rfl)]
              go_simp
              go_at_call 33; refine (A0.out _ HK.below).mono ?_; rintro e w4 ⟨rfl, hb⟩
              go_wp2_with fail
              refine hK.out _ _ ?_ (fun hHeld => ?_)
              · exact kS _ _ HB hb
              replace HB := hHeld; clear hHeld hK KK
              replace HK := HK.keep hb
              clear hb
              try simp only [Act.put, List.setIfInBounds_toArray, List.set_cons_zero, List.set_cons_succ]
              refine wpAnyH_ready (rs := [1]) (by as_aux_lemma => kernel_rfl) (by simp) ?_
              refine AllReadyH.cons (o := ({ dst := some 38, op := .load 32 (.tmp 37), type := 32, pos := "observer.go:34", after := #[{ on := 0, ground := .data }], guard := none } : Oper)) rfl (fun KK hK => ?_) AllReadyH.nil
              rw [if_pos (by rfl)]
              have ld0 := HK.at 1 rfl 0 (v := .int .i64 (q 0).vL) rfl
              have ld1 := HK.at 1 rfl 1 (v := .int .i64 (q 0).vH) rfl
              go_simp
              obtain ⟨w5, hX⟩ : ∃ x, x = w4 := ⟨_, rfl⟩
              have hb : Below w4.heap.size w4 w5 := (show w4 = w5 from hX.symm) ▸ Below.refl _ _
              rw [← hX]
              clear hX ld0 ld1
              refine hK.out _ _ ?_ (fun hHeld => ?_)
              · exact kS _ _ HB hb
              replace HB := hHeld; clear hHeld hK KK
              replace HK := HK.keep hb
              clear hb
              try simp only [Act.put, List.setIfInBounds_toArray, List.set_cons_zero, List.set_cons_succ]
              refine wpAnyH_ready (rs := [10]) (by as_aux_lemma => kernel_rfl) (by simp) ?_
              refine AllReadyH.cons (o := ({ dst := some 47, op := .call { callee := .value (.func 26), args := #[.tmp 38, .tmp 46], argTypes := #[32, 32] }, type := 32, pos := "observer.go:34", after := #[{ on := 1, ground := .data }, { on := 9, ground := .data }, { on := 9, ground := .chain }], guard := none } : Oper)) rfl (fun KK hK => ?_) AllReadyH.nil
              rw [if_pos (by rfl)]
              go_simp
              go_at_call 26; refine (M0.out _ HK.below).mono ?_; rintro e w6 ⟨rfl, hb⟩
              go_wp2_with fail
              refine hK.out _ _ ?_ (fun hHeld => ?_)
              · exact kS _ _ HB hb
              replace HB := hHeld; clear hHeld hK KK
              replace HK := HK.keep hb
              clear hb
              try simp only [Act.put, List.setIfInBounds_toArray, List.set_cons_zero, List.set_cons_succ]
              refine wpAnyH_take (i := 11) (oi := ({ dst := some 48, op := .fieldAddr 34 (.tmp 6) 0, type := 0, pos := "observer.go:34", after := #[{ on := 0, ground := .phase }, { on := 1, ground := .phase }, { on := 2, ground := .phase }, { on := 3, ground := .phase }, { on := 4, ground := .phase }, { on := 5, ground := .phase }, { on := 6, ground := .phase }, { on := 7, ground := .phase }, { on := 8, ground := .phase }, { on := 9, ground := .phase }, { on := 10, ground := .phase }], guard := none } : Oper)) (v := ?vt1_10_) rfl ostep8_plain (by as_aux_lemma => kernel_rfl) (by as_aux_lemma => kernel_rfl) (fun _ _ _ h => h) (Or.inl ⟨by rfl, ?yt1_10_⟩) HB ?rt1_10_
              case yt1_10_ => (intro w hSw; (try dsimp only at hSw); go_simp; try with_reducible rfl)
              try simp only [Act.put, List.setIfInBounds_toArray, List.set_cons_zero, List.set_cons_succ]
              refine wpAnyH_ready (rs := [12]) (by as_aux_lemma => kernel_rfl) (by simp) ?_
              refine AllReadyH.cons (o := ({ dst := none, op := .store 32 (.tmp 48) (.tmp 47), type := 0, pos := "observer.go:34", after := #[{ on := 11, ground := .data }, { on := 10, ground := .data }, { on := 10, ground := .chain }, { on := 0, ground := .phase }, { on := 1, ground := .phase }, { on := 2, ground := .phase }, { on := 3, ground := .phase }, { on := 4, ground := .phase }, { on := 5, ground := .phase }, { on := 6, ground := .phase }, { on := 7, ground := .phase }, { on := 8, ground := .phase }, { on := 9, ground := .phase }, { on := 10, ground := .phase }], guard := none } : Oper)) rfl (fun KK hK => ?_) AllReadyH.nil
              rw [if_pos (by rfl)]
              obtain ⟨z1_0, l1_0, f1_0⟩ := HK.there 1 rfl 0 rfl
              obtain ⟨z1_1, l1_1, f1_1⟩ := HK.there 1 rfl 1 rfl
              have N1 := nx _ HK
              have HN := (s1_1 _ (.int .i64 mH0) (s1_0 _ (.int .i64 mL0) HB))
              go_simp
              obtain ⟨w7, hX⟩ : ∃ x, x = ((w6.setCell ⟨w.heap.size + 1, 0, none⟩ (.int .i64 mL0)).setCell ⟨w.heap.size + 1, 1, none⟩ (.int .i64 mH0)) := ⟨_, rfl⟩
              rw [← hX] at HN N1 ⊢
              clear hX HK l1_0 f1_0 l1_1 f1_1
              refine hK.out _ _ ?_ (fun hHeld => ?_)
              · exact HN
              replace HB := hHeld; clear hHeld hK KK HN
              try simp only [Act.put]
              refine wpAnyH_done (by as_aux_lemma => kernel_rfl) ?_ _
              refine NoPanic.normal ?_
              go_wp2_with fail
              go_roundw
              case rel => first | exact ⟨1, by omega, rfl, by rw [HE.out]; exact N1⟩ | ((repeat apply Exists.intro); exact ⟨⟨1, by omega, rfl, by rw [HE.out]; exact N1⟩, rfl⟩)
              case measure => simp [intOf]
      · rw [ct] at kt
        have HT0 := Lib.hid ct
        clear ct
        have e1 : q 1 = q 0 := Qf0.out (fun h => by rw [HT0.out] at h; exact absurd h.1 (by decide))
        have HE := Lib.hid e1
        clear e1
        have HN := HS4.out
        go_wp2_with fail
        go_roundw
        case rel => first | exact ⟨1, by omega, rfl, by rw [HE.out]; exact HN⟩ | ((repeat apply Exists.intro); exact ⟨⟨1, by omega, rfl, by rw [HE.out]; exact HN⟩, rfl⟩)
        case measure => simp [intOf]
    · skip
      have HS5 := Lib.hid hS
      clear hS hj
      have kt := (HS5.out).at 3 rfl 1 (v := .bool t1) rfl
      have kb := (HS5.out).at 0 rfl 4 (v := .bool a.b1) rfl
      rcases Bool.eq_false_or_eq_true t1 with ct | ct
      · rw [ct] at kt
        by_cases cb : bad = 1
        · subst cb
          clear ct
          have e1 : q 2 = q 1 := Qf1.out (fun h => absurd rfl h.2.1)
          have HE := Lib.hid e1
          clear e1
          have HN := HS5.out
          go_wp2_with fail
          go_roundw
          case rel => first | exact ⟨2, by omega, rfl, by rw [HE.out]; exact HN⟩ | ((repeat apply Exists.intro); exact ⟨⟨2, by omega, rfl, by rw [HE.out]; exact HN⟩, rfl⟩)
          case measure => simp [intOf]
        · have HB0 := Lib.hid cb
          have d0 : ((1 : Int) == bad) = false := by simpa using Ne.symm cb
          have d1 : (bad == (1 : Int)) = false := by simpa using cb
          have d2 : ¬ (1 : Int) = bad := Ne.symm cb
          have HT0 := Lib.hid ct
          clear ct
          rcases Bool.eq_false_or_eq_true a.b1 with cc | cc
          · rw [cc] at kb
            have HC0 := Lib.hid cc
            clear cc
            have e1 : q 2 = q 1 := Qf1.out (fun h => by rw [HC0.out] at h; exact absurd h.2.2 (by decide))
            have HE := Lib.hid e1
            clear e1
            have HN := HS5.out
            go_wp2_with fail
            go_roundw
            case rel => first | exact ⟨2, by omega, rfl, by rw [HE.out]; exact HN⟩ | ((repeat apply Exists.intro); exact ⟨⟨2, by omega, rfl, by rw [HE.out]; exact HN⟩, rfl⟩)
            case measure => simp [intOf]
          · rw [cc] at kb
            have HC0 := Lib.hid cc
            clear cc
            have e1 := Qt1.out HT0.out HB0.out HC0.out
            have HE := Lib.hid e1
            clear e1
            go_upto_region 8 with fail
            clear kt kb d0 d1 d2
            obtain ⟨w42, hX, HK⟩ := (HS5.out).named
            rw [← hX]
            clear hX
            have hT := ((HK).forget 1 rfl 0).forget 1 rfl 1
            obtain ⟨bs2, hbs⟩ : ∃ bs : List (Nat × List (Option Value)), bs = [(w.heap.size, [some (.int .i64 a.e0), some (.int .i64 a.e1), some (.int .i64 a.e2), some (.bool a.b0), some (.bool a.b1), some (.bool a.b2), some (.int .i64 a.bias), some (.int .i64 a.change), some (.int .i64 a.move), some (.int .i64 a.most)]), (w.heap.size + 1, [none, none, some (.int .i64 (q 1).bL), some (.int .i64 (q 1).bH), some (.bool (q 1).ref)]), (w.heap.size + 1 + 1, [some (.int .i64 x0), some (.int .i64 x1), some (.int .i64 x2)]), (w.heap.size + 1 + 1 + 1, [some (.bool t0), some (.bool t1), some (.bool t2)]), (w.heap.size + 1 + 1 + 1 + 1, [some (.int .i64 0), some (.int .i64 0), some (.int .i64 0), some (.int .i64 0), some (.bool false)])] := ⟨_, rfl⟩
            replace hT : Sp w bs2 w42 := hbs ▸ hT
            have c2_1 : ∀ w', Sp w bs2 w' → w'.cell? ⟨w.heap.size + 1 + 1, 1, none⟩ = some (.int .i64 x1) := by rw [hbs]; exact fun w' h => h.at 2 rfl 1 rfl
            have c0_1 : ∀ w', Sp w bs2 w' → w'.cell? ⟨w.heap.size, 1, none⟩ = some (.int .i64 a.e1) := by rw [hbs]; exact fun w' h => h.at 0 rfl 1 rfl
            have kS : ∀ w1 w2, Sp w bs2 w1 → Below w1.heap.size w1 w2 → Sp w bs2 w2 := fun _ _ h hb => h.keep hb
            have s1_0 : ∀ w' z, Sp w bs2 w' → Sp w bs2 (w'.setCell ⟨w.heap.size + 1, 0, none⟩ z) := by rw [hbs]; exact fun w' z h => h.hit 1 rfl 0 rfl z
            have s1_1 : ∀ w' z, Sp w bs2 w' → Sp w bs2 (w'.setCell ⟨w.heap.size + 1, 1, none⟩ z) := by rw [hbs]; exact fun w' z h => h.hit 1 rfl 1 rfl z
            have nx : ∀ w', Sp w [(w.heap.size, [some (.int .i64 a.e0), some (.int .i64 a.e1), some (.int .i64 a.e2), some (.bool a.b0), some (.bool a.b1), some (.bool a.b2), some (.int .i64 a.bias), some (.int .i64 a.change), some (.int .i64 a.move), some (.int .i64 a.most)]), (w.heap.size + 1, [some (.int .i64 (q 1).vL), some (.int .i64 (q 1).vH), some (.int .i64 (q 1).bL), some (.int .i64 (q 1).bH), some (.bool (q 1).ref)]), (w.heap.size + 1 + 1, [some (.int .i64 x0), some (.int .i64 x1), some (.int .i64 x2)]), (w.heap.size + 1 + 1 + 1, [some (.bool t0), some (.bool t1), some (.bool t2)]), (w.heap.size + 1 + 1 + 1 + 1, [some (.int .i64 0), some (.int .i64 0), some (.int .i64 0), some (.int .i64 0), some (.bool false)])] w' → Sp w [(w.heap.size, [some (.int .i64 a.e0), some (.int .i64 a.e1), some (.int .i64 a.e2), some (.bool a.b0), some (.bool a.b1), some (.bool a.b2), some (.int .i64 a.bias), some (.int .i64 a.change), some (.int .i64 a.move), some (.int .i64 a.most)]), (w.heap.size + 1, [some (.int .i64 mL1), some (.int .i64 mH1), some (.int .i64 (q 1).bL), some (.int .i64 (q 1).bH), some (.bool (q 1).ref)]), (w.heap.size + 1 + 1, [some (.int .i64 x0), some (.int .i64 x1), some (.int .i64 x2)]), (w.heap.size + 1 + 1 + 1, [some (.bool t0), some (.bool t1), some (.bool t2)]), (w.heap.size + 1 + 1 + 1 + 1, [some (.int .i64 0), some (.int .i64 0), some (.int .i64 0), some (.int .i64 0), some (.bool false)])] ((w'.setCell ⟨w.heap.size + 1, 0, none⟩ (.int .i64 mL1)).setCell ⟨w.heap.size + 1, 1, none⟩ (.int .i64 mH1)) := fun w' h => ((h.put 1 rfl 0 _).put 1 rfl 1 _)
            clear hbs HS5
            change (Code.region 8 ostep8 true).wp Tryd.prog _ _ _
            refine wp_region_noPanic ?_
            refine wp_region_held_drew (S := (Sp w bs2)) (by kernel_rfl) (hT.drew) (fun hHeld => ?_)
            obtain ⟨w43, hX⟩ : ∃ x, x = w42.drew := ⟨_, rfl⟩
            have hb : Below w42.heap.size w42 w43 := hX ▸ (Below.refl _ _).drew
            rw [← hX] at hHeld ⊢
            have HB := hHeld; clear hHeld
            replace HK := HK.keep hb
            clear hb hX
            refine wpAnyH_take (i := 0) (oi := ({ dst := some 37, op := .fieldAddr 34 (.tmp 6) 0, type := 0, pos := "observer.go:34", after := #[], guard := none } : Oper)) (v := ?vt2_1_) rfl ostep8_plain (by as_aux_lemma => kernel_rfl) (by as_aux_lemma => kernel_rfl) (fun _ _ _ h => h) (Or.inl ⟨by rfl, ?yt2_1_⟩) HB ?rt2_1_
            case yt2_1_ => (intro w hSw; (try dsimp only at hSw); go_simp; try with_reducible rfl)
            try simp only [Act.put, List.setIfInBounds_toArray, List.set_cons_zero, List.set_cons_succ]
            refine wpAnyH_take (i := 2) (oi := ({ dst := some 39, op := .move (.tmp 11), type := 3, pos := "observer.go:34", after := #[], guard := none } : Oper)) (v := ?vt2_2_) rfl ostep8_plain (by as_aux_lemma => kernel_rfl) (by as_aux_lemma => kernel_rfl) (fun _ _ _ h => h) (Or.inl ⟨by rfl, ?yt2_2_⟩) HB ?rt2_2_
            case yt2_2_ => (intro w hSw; (try dsimp only at hSw); go_simp; try with_reducible rfl)
            try simp only [Act.put, List.setIfInBounds_toArray, List.set_cons_zero, List.set_cons_succ]
            refine wpAnyH_take (i := 3) (oi := ({ dst := some 40, op := .indexAddr 22 (.tmp 8) (.tmp 39), type := 0, pos := "observer.go:34", after := #[{ on := 2, ground := .data }], guard := none } : Oper)) (v := ?vt2_3_) rfl ostep8_plain (by as_aux_lemma => kernel_rfl) (by as_aux_lemma => kernel_rfl) (fun _ _ _ h => h) (Or.inl ⟨by rfl, ?yt2_3_⟩) HB ?rt2_3_
            case yt2_3_ => (intro w hSw; (try dsimp only at hSw); go_simp; try with_reducible rfl)
            try simp only [Act.put, List.setIfInBounds_toArray, List.set_cons_zero, List.set_cons_succ]
            refine wpAnyH_take (i := 4) (oi := ({ dst := some 41, op := .load 2 (.tmp 40), type := 2, pos := "observer.go:34", after := #[{ on := 3, ground := .data }], guard := none } : Oper)) (v := ?vt2_4_) rfl ostep8_plain (by as_aux_lemma => kernel_rfl) (by as_aux_lemma => kernel_rfl) (fun _ _ _ h => h) (Or.inl ⟨by rfl, ?yt2_4_⟩) HB ?rt2_4_
            case yt2_4_ => (intro w hSw; (try dsimp only at hSw); go_simp; try with_reducible rfl)
            try simp only [Act.put, List.setIfInBounds_toArray, List.set_cons_zero, List.set_cons_succ]
            refine wpAnyH_take (i := 5) (oi := ({ dst := some 42, op := .move (.tmp 11), type := 3, pos := "observer.go:34", after := #[], guard := none } : Oper)) (v := ?vt2_5_) rfl ostep8_plain (by as_aux_lemma => kernel_rfl) (by as_aux_lemma => kernel_rfl) (fun _ _ _ h => h) (Or.inl ⟨by rfl, ?yt2_5_⟩) HB ?rt2_5_
            case yt2_5_ => (intro w hSw; (try dsimp only at hSw); go_simp; try with_reducible rfl)
            try simp only [Act.put, List.setIfInBounds_toArray, List.set_cons_zero, List.set_cons_succ]
            refine wpAnyH_take (i := 6) (oi := ({ dst := some 43, op := .fieldAddr 25 (.tmp 5) 0, type := 0, pos := "observer.go:34", after := #[], guard := none } : Oper)) (v := ?vt2_6_) rfl ostep8_plain (by as_aux_lemma => kernel_rfl) (by as_aux_lemma => kernel_rfl) (fun _ _ _ h => h) (Or.inl ⟨by rfl, ?yt2_6_⟩) HB ?rt2_6_
            case yt2_6_ => (intro w hSw; (try dsimp only at hSw); go_simp; try with_reducible rfl)
            try simp only [Act.put, List.setIfInBounds_toArray, List.set_cons_zero, List.set_cons_succ]
            refine wpAnyH_take (i := 7) (oi := ({ dst := some 44, op := .indexAddr 22 (.tmp 43) (.tmp 42), type := 0, pos := "observer.go:34", after := #[{ on := 6, ground := .data }, { on := 5, ground := .data }], guard := none } : Oper)) (v := ?vt2_7_) rfl ostep8_plain (by as_aux_lemma => kernel_rfl) (by as_aux_lemma => kernel_rfl) (fun _ _ _ h => h) (Or.inl ⟨by rfl, ?yt2_7_⟩) HB ?rt2_7_
            case yt2_7_ => (intro w hSw; (try dsimp only at hSw); go_simp; try with_reducible rfl)
            try simp only [Act.put, List.setIfInBounds_toArray, List.set_cons_zero, List.set_cons_succ]
            refine wpAnyH_take (i := 8) (oi := ({ dst := some 45, op := .load 2 (.tmp 44), type := 2, pos := "observer.go:34", after := #[{ on := 7, ground := .data }], guard := none } : Oper)) (v := ?vt2_8_) rfl ostep8_plain (by as_aux_lemma => kernel_rfl) (by as_aux_lemma => kernel_rfl) (fun _ _ _ h => h) (Or.inl ⟨by rfl, ?yt2_8_⟩) HB ?rt2_8_
            case yt2_8_ => (intro w hSw; (try dsimp only at hSw); go_simp; try with_reducible rfl)
            try simp only [Act.put, List.setIfInBounds_toArray, List.set_cons_zero, List.set_cons_succ]
            refine wpAnyH_ready (rs := [1, 9]) (by as_aux_lemma => kernel_rfl) (by simp) ?_
            refine AllReadyH.cons (o := ({ dst := some 38, op := .load 32 (.tmp 37), type := 32, pos := "observer.go:34", after := #[{ on := 0, ground := .data }], guard := none } : Oper)) rfl (fun KK hK => ?_) (AllReadyH.cons (o := ({ dst := some 46, op := .call { callee := .value (.func 33), args := #[.tmp 41, .tmp 45], argTypes := #[2, 2] }, type := 32, pos := "observer.go:34", after := #[{ on := 4, ground := .data }, { on := 8, ground := .data }], guard := none } : Oper)) rfl (fun KK hK => ?_) AllReadyH.nil)
            · skip
              rw [if_pos (by rfl)]
              have ld0 := HK.at 1 rfl 0 (v := .int .i64 (q 1).vL) rfl
              have ld1 := HK.at 1 rfl 1 (v := .int .i64 (q 1).vH) rfl
              go_simp
              obtain ⟨w44, hX⟩ : ∃ x, x = w43 := ⟨_, rfl⟩
              have hb : Below w43.heap.size w43 w44 := (show w43 = w44 from hX.symm) ▸ Below.refl _ _
              rw [← hX]
              clear hX ld0 ld1
              refine hK.out _ _ ?_ (fun hHeld => ?_)
              · exact kS _ _ HB hb
              replace HB := hHeld; clear hHeld hK KK
              replace HK := HK.keep hb
              clear hb
              try simp only [Act.put, List.setIfInBounds_toArray, List.set_cons_zero, List.set_cons_succ]
              refine wpAnyH_ready (rs := [9]) (by as_aux_lemma => kernel_rfl) (by simp) ?_
              refine AllReadyH.cons (o := ({ dst := some 46, op := .call { callee := .value (.func 33), args := #[.tmp 41, .tmp 45], argTypes := #[2, 2] }, type := 32, pos := "observer.go:34", after := #[{ on := 4, ground := .data }, { on := 8, ground := .data }], guard := none } : Oper)) rfl (fun KK hK => ?_) AllReadyH.nil
              rw [if_pos (by rfl)]
              go_simp
              go_at_call 33; refine (A1.out _ HK.below).mono ?_; rintro e w45 ⟨rfl, hb⟩
              go_wp2_with fail
              refine hK.out _ _ ?_ (fun hHeld => ?_)
              · exact kS _ _ HB hb
              replace HB := hHeld; clear hHeld hK KK
              replace HK := HK.keep hb
              clear hb
              try simp only [Act.put, List.setIfInBounds_toArray, List.set_cons_zero, List.set_cons_succ]
              refine wpAnyH_ready (rs := [10]) (by as_aux_lemma => kernel_rfl) (by simp) ?_
              refine AllReadyH.cons (o := ({ dst := some 47, op := .call { callee := .value (.func 26), args := #[.tmp 38, .tmp 46], argTypes := #[32, 32] }, type := 32, pos := "observer.go:34", after := #[{ on := 1, ground := .data }, { on := 9, ground := .data }, { on := 9, ground := .chain }], guard := none } : Oper)) rfl (fun KK hK => ?_) AllReadyH.nil
              rw [if_pos (by rfl)]
              go_simp
              go_at_call 26; refine (M1.out _ HK.below).mono ?_; rintro e w46 ⟨rfl, hb⟩
              go_wp2_with fail
              refine hK.out _ _ ?_ (fun hHeld => ?_)
              · exact kS _ _ HB hb
              replace HB := hHeld; clear hHeld hK KK
              replace HK := HK.keep hb
              clear hb
              try simp only [Act.put, List.setIfInBounds_toArray, List.set_cons_zero, List.set_cons_succ]
              refine wpAnyH_take (i := 11) (oi := ({ dst := some 48, op := .fieldAddr 34 (.tmp 6) 0, type := 0, pos := "observer.go:34", after := #[{ on := 0, ground := .phase }, { on := 1, ground := .phase }, { on := 2, ground := .phase }, { on := 3, ground := .phase }, { on := 4, ground := .phase }, { on := 5, ground := .phase }, { on := 6, ground := .phase }, { on := 7, ground := .phase }, { on := 8, ground := .phase }, { on := 9, ground := .phase }, { on := 10, ground := .phase }], guard := none } : Oper)) (v := ?vt2_9_) rfl ostep8_plain (by as_aux_lemma => kernel_rfl) (by as_aux_lemma => kernel_rfl) (fun _ _ _ h => h) (Or.inl ⟨by rfl, ?yt2_9_⟩) HB ?rt2_9_
              case yt2_9_ => (intro w hSw; (try dsimp only at hSw); go_simp; try with_reducible rfl)
              try simp only [Act.put, List.setIfInBounds_toArray, List.set_cons_zero, List.set_cons_succ]
              refine wpAnyH_ready (rs := [12]) (by as_aux_lemma => kernel_rfl) (by simp) ?_
              refine AllReadyH.cons (o := ({ dst := none, op := .store 32 (.tmp 48) (.tmp 47), type := 0, pos := "observer.go:34", after := #[{ on := 11, ground := .data }, { on := 10, ground := .data }, { on := 10, ground := .chain }, { on := 0, ground := .phase }, { on := 1, ground := .phase }, { on := 2, ground := .phase }, { on := 3, ground := .phase }, { on := 4, ground := .phase }, { on := 5, ground := .phase }, { on := 6, ground := .phase }, { on := 7, ground := .phase }, { on := 8, ground := .phase }, { on := 9, ground := .phase }, { on := 10, ground := .phase }], guard := none } : Oper)) rfl (fun KK hK => ?_) AllReadyH.nil
              rw [if_pos (by rfl)]
              obtain ⟨z1_0, l1_0, f1_0⟩ := HK.there 1 rfl 0 rfl
              obtain ⟨z1_1, l1_1, f1_1⟩ := HK.there 1 rfl 1 rfl
              have N1 := nx _ HK
              have HN := (s1_1 _ (.int .i64 mH1) (s1_0 _ (.int .i64 mL1) HB))
              go_simp
              obtain ⟨w47, hX⟩ : ∃ x, x = ((w46.setCell ⟨w.heap.size + 1, 0, none⟩ (.int .i64 mL1)).setCell ⟨w.heap.size + 1, 1, none⟩ (.int .i64 mH1)) := ⟨_, rfl⟩
              rw [← hX] at HN N1 ⊢
              clear hX HK l1_0 f1_0 l1_1 f1_1
              refine hK.out _ _ ?_ (fun hHeld => ?_)
              · exact HN
              replace HB := hHeld; clear hHeld hK KK HN
              try simp only [Act.put]
              refine wpAnyH_done (by as_aux_lemma => kernel_rfl) ?_ _
              refine NoPanic.normal ?_
              go_wp2_with fail
              go_roundw
              case rel => first | exact ⟨2, by omega, rfl, by rw [HE.out]; exact N1⟩ | ((repeat apply Exists.intro); exact ⟨⟨2, by omega, rfl, by rw [HE.out]; exact N1⟩, rfl⟩)
              case measure => simp [intOf]
            · skip
              rw [if_pos (by rfl)]
              go_simp
              go_at_call 33; refine (A1.out _ HK.below).mono ?_; rintro e w44 ⟨rfl, hb⟩
              go_wp2_with fail
              refine hK.out _ _ ?_ (fun hHeld => ?_)
              · exact kS _ _ HB hb
              replace HB := hHeld; clear hHeld hK KK
              replace HK := HK.keep hb
              clear hb
              try simp only [Act.put, List.setIfInBounds_toArray, List.set_cons_zero, List.set_cons_succ]
              refine wpAnyH_ready (rs := [1]) (by as_aux_lemma => kernel_rfl) (by simp) ?_
              refine AllReadyH.cons (o := ({ dst := some 38, op := .load 32 (.tmp 37), type := 32, pos := "observer.go:34", after := #[{ on := 0, ground := .data }], guard := none } : Oper)) rfl (fun KK hK => ?_) AllReadyH.nil
              rw [if_pos (by rfl)]
              have ld0 := HK.at 1 rfl 0 (v := .int .i64 (q 1).vL) rfl
              have ld1 := HK.at 1 rfl 1 (v := .int .i64 (q 1).vH) rfl
              go_simp
              obtain ⟨w45, hX⟩ : ∃ x, x = w44 := ⟨_, rfl⟩
              have hb : Below w44.heap.size w44 w45 := (show w44 = w45 from hX.symm) ▸ Below.refl _ _
              rw [← hX]
              clear hX ld0 ld1
              refine hK.out _ _ ?_ (fun hHeld => ?_)
              · exact kS _ _ HB hb
              replace HB := hHeld; clear hHeld hK KK
              replace HK := HK.keep hb
              clear hb
              try simp only [Act.put, List.setIfInBounds_toArray, List.set_cons_zero, List.set_cons_succ]
              refine wpAnyH_ready (rs := [10]) (by as_aux_lemma => kernel_rfl) (by simp) ?_
              refine AllReadyH.cons (o := ({ dst := some 47, op := .call { callee := .value (.func 26), args := #[.tmp 38, .tmp 46], argTypes := #[32, 32] }, type := 32, pos := "observer.go:34", after := #[{ on := 1, ground := .data }, { on := 9, ground := .data }, { on := 9, ground := .chain }], guard := none } : Oper)) rfl (fun KK hK => ?_) AllReadyH.nil
              rw [if_pos (by rfl)]
              go_simp
              go_at_call 26; refine (M1.out _ HK.below).mono ?_; rintro e w46 ⟨rfl, hb⟩
              go_wp2_with fail
              refine hK.out _ _ ?_ (fun hHeld => ?_)
              · exact kS _ _ HB hb
              replace HB := hHeld; clear hHeld hK KK
              replace HK := HK.keep hb
              clear hb
              try simp only [Act.put, List.setIfInBounds_toArray, List.set_cons_zero, List.set_cons_succ]
              refine wpAnyH_take (i := 11) (oi := ({ dst := some 48, op := .fieldAddr 34 (.tmp 6) 0, type := 0, pos := "observer.go:34", after := #[{ on := 0, ground := .phase }, { on := 1, ground := .phase }, { on := 2, ground := .phase }, { on := 3, ground := .phase }, { on := 4, ground := .phase }, { on := 5, ground := .phase }, { on := 6, ground := .phase }, { on := 7, ground := .phase }, { on := 8, ground := .phase }, { on := 9, ground := .phase }, { on := 10, ground := .phase }], guard := none } : Oper)) (v := ?vt2_10_) rfl ostep8_plain (by as_aux_lemma => kernel_rfl) (by as_aux_lemma => kernel_rfl) (fun _ _ _ h => h) (Or.inl ⟨by rfl, ?yt2_10_⟩) HB ?rt2_10_
              case yt2_10_ => (intro w hSw; (try dsimp only at hSw); go_simp; try with_reducible rfl)
              try simp only [Act.put, List.setIfInBounds_toArray, List.set_cons_zero, List.set_cons_succ]
              refine wpAnyH_ready (rs := [12]) (by as_aux_lemma => kernel_rfl) (by simp) ?_
              refine AllReadyH.cons (o := ({ dst := none, op := .store 32 (.tmp 48) (.tmp 47), type := 0, pos := "observer.go:34", after := #[{ on := 11, ground := .data }, { on := 10, ground := .data }, { on := 10, ground := .chain }, { on := 0, ground := .phase }, { on := 1, ground := .phase }, { on := 2, ground := .phase }, { on := 3, ground := .phase }, { on := 4, ground := .phase }, { on := 5, ground := .phase }, { on := 6, ground := .phase }, { on := 7, ground := .phase }, { on := 8, ground := .phase }, { on := 9, ground := .phase }, { on := 10, ground := .phase }], guard := none } : Oper)) rfl (fun KK hK => ?_) AllReadyH.nil
              rw [if_pos (by rfl)]
              obtain ⟨z1_0, l1_0, f1_0⟩ := HK.there 1 rfl 0 rfl
              obtain ⟨z1_1, l1_1, f1_1⟩ := HK.there 1 rfl 1 rfl
              have N1 := nx _ HK
              have HN := (s1_1 _ (.int .i64 mH1) (s1_0 _ (.int .i64 mL1) HB))
              go_simp
              obtain ⟨w47, hX⟩ : ∃ x, x = ((w46.setCell ⟨w.heap.size + 1, 0, none⟩ (.int .i64 mL1)).setCell ⟨w.heap.size + 1, 1, none⟩ (.int .i64 mH1)) := ⟨_, rfl⟩
              rw [← hX] at HN N1 ⊢
              clear hX HK l1_0 f1_0 l1_1 f1_1
              refine hK.out _ _ ?_ (fun hHeld => ?_)
              · exact HN
              replace HB := hHeld; clear hHeld hK KK HN
              try simp only [Act.put]
              refine wpAnyH_done (by as_aux_lemma => kernel_rfl) ?_ _
              refine NoPanic.normal ?_
              go_wp2_with fail
              go_roundw
              case rel => first | exact ⟨2, by omega, rfl, by rw [HE.out]; exact N1⟩ | ((repeat apply Exists.intro); exact ⟨⟨2, by omega, rfl, by rw [HE.out]; exact N1⟩, rfl⟩)
              case measure => simp [intOf]
      · rw [ct] at kt
        have HT0 := Lib.hid ct
        clear ct
        have e1 : q 2 = q 1 := Qf1.out (fun h => by rw [HT0.out] at h; exact absurd h.1 (by decide))
        have HE := Lib.hid e1
        clear e1
        have HN := HS5.out
        go_wp2_with fail
        go_roundw
        case rel => first | exact ⟨2, by omega, rfl, by rw [HE.out]; exact HN⟩ | ((repeat apply Exists.intro); exact ⟨⟨2, by omega, rfl, by rw [HE.out]; exact HN⟩, rfl⟩)
        case measure => simp [intOf]
    · skip
      have HS6 := Lib.hid hS
      clear hS hj
      have kt := (HS6.out).at 3 rfl 2 (v := .bool t2) rfl
      have kb := (HS6.out).at 0 rfl 5 (v := .bool a.b2) rfl
      rcases Bool.eq_false_or_eq_true t2 with ct | ct
      · rw [ct] at kt
        by_cases cb : bad = 2
        · subst cb
          clear ct
          have e1 : q 3 = q 2 := Qf2.out (fun h => absurd rfl h.2.1)
          have HE := Lib.hid e1
          clear e1
          have HN := HS6.out
          go_wp2_with fail
          go_roundw
          case rel => first | exact ⟨3, by omega, rfl, by rw [HE.out]; exact HN⟩ | ((repeat apply Exists.intro); exact ⟨⟨3, by omega, rfl, by rw [HE.out]; exact HN⟩, rfl⟩)
          case measure => simp [intOf]
        · have HB0 := Lib.hid cb
          have d0 : ((2 : Int) == bad) = false := by simpa using Ne.symm cb
          have d1 : (bad == (2 : Int)) = false := by simpa using cb
          have d2 : ¬ (2 : Int) = bad := Ne.symm cb
          have HT0 := Lib.hid ct
          clear ct
          rcases Bool.eq_false_or_eq_true a.b2 with cc | cc
          · rw [cc] at kb
            have HC0 := Lib.hid cc
            clear cc
            have e1 : q 3 = q 2 := Qf2.out (fun h => by rw [HC0.out] at h; exact absurd h.2.2 (by decide))
            have HE := Lib.hid e1
            clear e1
            have HN := HS6.out
            go_wp2_with fail
            go_roundw
            case rel => first | exact ⟨3, by omega, rfl, by rw [HE.out]; exact HN⟩ | ((repeat apply Exists.intro); exact ⟨⟨3, by omega, rfl, by rw [HE.out]; exact HN⟩, rfl⟩)
            case measure => simp [intOf]
          · rw [cc] at kb
            have HC0 := Lib.hid cc
            clear cc
            have e1 := Qt2.out HT0.out HB0.out HC0.out
            have HE := Lib.hid e1
            clear e1
            go_upto_region 8 with fail
            clear kt kb d0 d1 d2
            obtain ⟨w82, hX, HK⟩ := (HS6.out).named
            rw [← hX]
            clear hX
            have hT := ((HK).forget 1 rfl 0).forget 1 rfl 1
            obtain ⟨bs3, hbs⟩ : ∃ bs : List (Nat × List (Option Value)), bs = [(w.heap.size, [some (.int .i64 a.e0), some (.int .i64 a.e1), some (.int .i64 a.e2), some (.bool a.b0), some (.bool a.b1), some (.bool a.b2), some (.int .i64 a.bias), some (.int .i64 a.change), some (.int .i64 a.move), some (.int .i64 a.most)]), (w.heap.size + 1, [none, none, some (.int .i64 (q 2).bL), some (.int .i64 (q 2).bH), some (.bool (q 2).ref)]), (w.heap.size + 1 + 1, [some (.int .i64 x0), some (.int .i64 x1), some (.int .i64 x2)]), (w.heap.size + 1 + 1 + 1, [some (.bool t0), some (.bool t1), some (.bool t2)]), (w.heap.size + 1 + 1 + 1 + 1, [some (.int .i64 0), some (.int .i64 0), some (.int .i64 0), some (.int .i64 0), some (.bool false)])] := ⟨_, rfl⟩
            replace hT : Sp w bs3 w82 := hbs ▸ hT
            have c2_2 : ∀ w', Sp w bs3 w' → w'.cell? ⟨w.heap.size + 1 + 1, 2, none⟩ = some (.int .i64 x2) := by rw [hbs]; exact fun w' h => h.at 2 rfl 2 rfl
            have c0_2 : ∀ w', Sp w bs3 w' → w'.cell? ⟨w.heap.size, 2, none⟩ = some (.int .i64 a.e2) := by rw [hbs]; exact fun w' h => h.at 0 rfl 2 rfl
            have kS : ∀ w1 w2, Sp w bs3 w1 → Below w1.heap.size w1 w2 → Sp w bs3 w2 := fun _ _ h hb => h.keep hb
            have s1_0 : ∀ w' z, Sp w bs3 w' → Sp w bs3 (w'.setCell ⟨w.heap.size + 1, 0, none⟩ z) := by rw [hbs]; exact fun w' z h => h.hit 1 rfl 0 rfl z
            have s1_1 : ∀ w' z, Sp w bs3 w' → Sp w bs3 (w'.setCell ⟨w.heap.size + 1, 1, none⟩ z) := by rw [hbs]; exact fun w' z h => h.hit 1 rfl 1 rfl z
            have nx : ∀ w', Sp w [(w.heap.size, [some (.int .i64 a.e0), some (.int .i64 a.e1), some (.int .i64 a.e2), some (.bool a.b0), some (.bool a.b1), some (.bool a.b2), some (.int .i64 a.bias), some (.int .i64 a.change), some (.int .i64 a.move), some (.int .i64 a.most)]), (w.heap.size + 1, [some (.int .i64 (q 2).vL), some (.int .i64 (q 2).vH), some (.int .i64 (q 2).bL), some (.int .i64 (q 2).bH), some (.bool (q 2).ref)]), (w.heap.size + 1 + 1, [some (.int .i64 x0), some (.int .i64 x1), some (.int .i64 x2)]), (w.heap.size + 1 + 1 + 1, [some (.bool t0), some (.bool t1), some (.bool t2)]), (w.heap.size + 1 + 1 + 1 + 1, [some (.int .i64 0), some (.int .i64 0), some (.int .i64 0), some (.int .i64 0), some (.bool false)])] w' → Sp w [(w.heap.size, [some (.int .i64 a.e0), some (.int .i64 a.e1), some (.int .i64 a.e2), some (.bool a.b0), some (.bool a.b1), some (.bool a.b2), some (.int .i64 a.bias), some (.int .i64 a.change), some (.int .i64 a.move), some (.int .i64 a.most)]), (w.heap.size + 1, [some (.int .i64 mL2), some (.int .i64 mH2), some (.int .i64 (q 2).bL), some (.int .i64 (q 2).bH), some (.bool (q 2).ref)]), (w.heap.size + 1 + 1, [some (.int .i64 x0), some (.int .i64 x1), some (.int .i64 x2)]), (w.heap.size + 1 + 1 + 1, [some (.bool t0), some (.bool t1), some (.bool t2)]), (w.heap.size + 1 + 1 + 1 + 1, [some (.int .i64 0), some (.int .i64 0), some (.int .i64 0), some (.int .i64 0), some (.bool false)])] ((w'.setCell ⟨w.heap.size + 1, 0, none⟩ (.int .i64 mL2)).setCell ⟨w.heap.size + 1, 1, none⟩ (.int .i64 mH2)) := fun w' h => ((h.put 1 rfl 0 _).put 1 rfl 1 _)
            clear hbs HS6
            change (Code.region 8 ostep8 true).wp Tryd.prog _ _ _
            refine wp_region_noPanic ?_
            refine wp_region_held_drew (S := (Sp w bs3)) (by kernel_rfl) (hT.drew) (fun hHeld => ?_)
            obtain ⟨w83, hX⟩ : ∃ x, x = w82.drew := ⟨_, rfl⟩
            have hb : Below w82.heap.size w82 w83 := hX ▸ (Below.refl _ _).drew
            rw [← hX] at hHeld ⊢
            have HB := hHeld; clear hHeld
            replace HK := HK.keep hb
            clear hb hX
            refine wpAnyH_take (i := 0) (oi := ({ dst := some 37, op := .fieldAddr 34 (.tmp 6) 0, type := 0, pos := "observer.go:34", after := #[], guard := none } : Oper)) (v := ?vt3_1_) rfl ostep8_plain (by as_aux_lemma => kernel_rfl) (by as_aux_lemma => kernel_rfl) (fun _ _ _ h => h) (Or.inl ⟨by rfl, ?yt3_1_⟩) HB ?rt3_1_
            case yt3_1_ => (intro w hSw; (try dsimp only at hSw); go_simp; try with_reducible rfl)
            try simp only [Act.put, List.setIfInBounds_toArray, List.set_cons_zero, List.set_cons_succ]
            refine wpAnyH_take (i := 2) (oi := ({ dst := some 39, op := .move (.tmp 11), type := 3, pos := "observer.go:34", after := #[], guard := none } : Oper)) (v := ?vt3_2_) rfl ostep8_plain (by as_aux_lemma => kernel_rfl) (by as_aux_lemma => kernel_rfl) (fun _ _ _ h => h) (Or.inl ⟨by rfl, ?yt3_2_⟩) HB ?rt3_2_
            case yt3_2_ => (intro w hSw; (try dsimp only at hSw); go_simp; try with_reducible rfl)
            try simp only [Act.put, List.setIfInBounds_toArray, List.set_cons_zero, List.set_cons_succ]
            refine wpAnyH_take (i := 3) (oi := ({ dst := some 40, op := .indexAddr 22 (.tmp 8) (.tmp 39), type := 0, pos := "observer.go:34", after := #[{ on := 2, ground := .data }], guard := none } : Oper)) (v := ?vt3_3_) rfl ostep8_plain (by as_aux_lemma => kernel_rfl) (by as_aux_lemma => kernel_rfl) (fun _ _ _ h => h) (Or.inl ⟨by rfl, ?yt3_3_⟩) HB ?rt3_3_
            case yt3_3_ => (intro w hSw; (try dsimp only at hSw); go_simp; try with_reducible rfl)
            try simp only [Act.put, List.setIfInBounds_toArray, List.set_cons_zero, List.set_cons_succ]
            refine wpAnyH_take (i := 4) (oi := ({ dst := some 41, op := .load 2 (.tmp 40), type := 2, pos := "observer.go:34", after := #[{ on := 3, ground := .data }], guard := none } : Oper)) (v := ?vt3_4_) rfl ostep8_plain (by as_aux_lemma => kernel_rfl) (by as_aux_lemma => kernel_rfl) (fun _ _ _ h => h) (Or.inl ⟨by rfl, ?yt3_4_⟩) HB ?rt3_4_
            case yt3_4_ => (intro w hSw; (try dsimp only at hSw); go_simp; try with_reducible rfl)
            try simp only [Act.put, List.setIfInBounds_toArray, List.set_cons_zero, List.set_cons_succ]
            refine wpAnyH_take (i := 5) (oi := ({ dst := some 42, op := .move (.tmp 11), type := 3, pos := "observer.go:34", after := #[], guard := none } : Oper)) (v := ?vt3_5_) rfl ostep8_plain (by as_aux_lemma => kernel_rfl) (by as_aux_lemma => kernel_rfl) (fun _ _ _ h => h) (Or.inl ⟨by rfl, ?yt3_5_⟩) HB ?rt3_5_
            case yt3_5_ => (intro w hSw; (try dsimp only at hSw); go_simp; try with_reducible rfl)
            try simp only [Act.put, List.setIfInBounds_toArray, List.set_cons_zero, List.set_cons_succ]
            refine wpAnyH_take (i := 6) (oi := ({ dst := some 43, op := .fieldAddr 25 (.tmp 5) 0, type := 0, pos := "observer.go:34", after := #[], guard := none } : Oper)) (v := ?vt3_6_) rfl ostep8_plain (by as_aux_lemma => kernel_rfl) (by as_aux_lemma => kernel_rfl) (fun _ _ _ h => h) (Or.inl ⟨by rfl, ?yt3_6_⟩) HB ?rt3_6_
            case yt3_6_ => (intro w hSw; (try dsimp only at hSw); go_simp; try with_reducible rfl)
            try simp only [Act.put, List.setIfInBounds_toArray, List.set_cons_zero, List.set_cons_succ]
            refine wpAnyH_take (i := 7) (oi := ({ dst := some 44, op := .indexAddr 22 (.tmp 43) (.tmp 42), type := 0, pos := "observer.go:34", after := #[{ on := 6, ground := .data }, { on := 5, ground := .data }], guard := none } : Oper)) (v := ?vt3_7_) rfl ostep8_plain (by as_aux_lemma => kernel_rfl) (by as_aux_lemma => kernel_rfl) (fun _ _ _ h => h) (Or.inl ⟨by rfl, ?yt3_7_⟩) HB ?rt3_7_
            case yt3_7_ => (intro w hSw; (try dsimp only at hSw); go_simp; try with_reducible rfl)
            try simp only [Act.put, List.setIfInBounds_toArray, List.set_cons_zero, List.set_cons_succ]
            refine wpAnyH_take (i := 8) (oi := ({ dst := some 45, op := .load 2 (.tmp 44), type := 2, pos := "observer.go:34", after := #[{ on := 7, ground := .data }], guard := none } : Oper)) (v := ?vt3_8_) rfl ostep8_plain (by as_aux_lemma => kernel_rfl) (by as_aux_lemma => kernel_rfl) (fun _ _ _ h => h) (Or.inl ⟨by rfl, ?yt3_8_⟩) HB ?rt3_8_
            case yt3_8_ => (intro w hSw; (try dsimp only at hSw); go_simp; try with_reducible rfl)
            try simp only [Act.put, List.setIfInBounds_toArray, List.set_cons_zero, List.set_cons_succ]
            refine wpAnyH_ready (rs := [1, 9]) (by as_aux_lemma => kernel_rfl) (by simp) ?_
            refine AllReadyH.cons (o := ({ dst := some 38, op := .load 32 (.tmp 37), type := 32, pos := "observer.go:34", after := #[{ on := 0, ground := .data }], guard := none } : Oper)) rfl (fun KK hK => ?_) (AllReadyH.cons (o := ({ dst := some 46, op := .call { callee := .value (.func 33), args := #[.tmp 41, .tmp 45], argTypes := #[2, 2] }, type := 32, pos := "observer.go:34", after := #[{ on := 4, ground := .data }, { on := 8, ground := .data }], guard := none } : Oper)) rfl (fun KK hK => ?_) AllReadyH.nil)
            · skip
              rw [if_pos (by rfl)]
              have ld0 := HK.at 1 rfl 0 (v := .int .i64 (q 2).vL) rfl
              have ld1 := HK.at 1 rfl 1 (v := .int .i64 (q 2).vH) rfl
              go_simp
              obtain ⟨w84, hX⟩ : ∃ x, x = w83 := ⟨_, rfl⟩
              have hb : Below w83.heap.size w83 w84 := (show w83 = w84 from hX.symm) ▸ Below.refl _ _
              rw [← hX]
              clear hX ld0 ld1
              refine hK.out _ _ ?_ (fun hHeld => ?_)
              · exact kS _ _ HB hb
              replace HB := hHeld; clear hHeld hK KK
              replace HK := HK.keep hb
              clear hb
              try simp only [Act.put, List.setIfInBounds_toArray, List.set_cons_zero, List.set_cons_succ]
              refine wpAnyH_ready (rs := [9]) (by as_aux_lemma => kernel_rfl) (by simp) ?_
              refine AllReadyH.cons (o := ({ dst := some 46, op := .call { callee := .value (.func 33), args := #[.tmp 41, .tmp 45], argTypes := #[2, 2] }, type := 32, pos := "observer.go:34", after := #[{ on := 4, ground := .data }, { on := 8, ground := .data }], guard := none } : Oper)) rfl (fun KK hK => ?_) AllReadyH.nil
              rw [if_pos (by rfl)]
              go_simp
              go_at_call 33; refine (A2.out _ HK.below).mono ?_; rintro e w85 ⟨rfl, hb⟩
              go_wp2_with fail
              refine hK.out _ _ ?_ (fun hHeld => ?_)
              · exact kS _ _ HB hb
              replace HB := hHeld; clear hHeld hK KK
              replace HK := HK.keep hb
              clear hb
              try simp only [Act.put, List.setIfInBounds_toArray, List.set_cons_zero, List.set_cons_succ]
              refine wpAnyH_ready (rs := [10]) (by as_aux_lemma => kernel_rfl) (by simp) ?_
              refine AllReadyH.cons (o := ({ dst := some 47, op := .call { callee := .value (.func 26), args := #[.tmp 38, .tmp 46], argTypes := #[32, 32] }, type := 32, pos := "observer.go:34", after := #[{ on := 1, ground := .data }, { on := 9, ground := .data }, { on := 9, ground := .chain }], guard := none } : Oper)) rfl (fun KK hK => ?_) AllReadyH.nil
              rw [if_pos (by rfl)]
              go_simp
              go_at_call 26; refine (M2.out _ HK.below).mono ?_; rintro e w86 ⟨rfl, hb⟩
              go_wp2_with fail
              refine hK.out _ _ ?_ (fun hHeld => ?_)
              · exact kS _ _ HB hb
              replace HB := hHeld; clear hHeld hK KK
              replace HK := HK.keep hb
              clear hb
              try simp only [Act.put, List.setIfInBounds_toArray, List.set_cons_zero, List.set_cons_succ]
              refine wpAnyH_take (i := 11) (oi := ({ dst := some 48, op := .fieldAddr 34 (.tmp 6) 0, type := 0, pos := "observer.go:34", after := #[{ on := 0, ground := .phase }, { on := 1, ground := .phase }, { on := 2, ground := .phase }, { on := 3, ground := .phase }, { on := 4, ground := .phase }, { on := 5, ground := .phase }, { on := 6, ground := .phase }, { on := 7, ground := .phase }, { on := 8, ground := .phase }, { on := 9, ground := .phase }, { on := 10, ground := .phase }], guard := none } : Oper)) (v := ?vt3_9_) rfl ostep8_plain (by as_aux_lemma => kernel_rfl) (by as_aux_lemma => kernel_rfl) (fun _ _ _ h => h) (Or.inl ⟨by rfl, ?yt3_9_⟩) HB ?rt3_9_
              case yt3_9_ => (intro w hSw; (try dsimp only at hSw); go_simp; try with_reducible rfl)
              try simp only [Act.put, List.setIfInBounds_toArray, List.set_cons_zero, List.set_cons_succ]
              refine wpAnyH_ready (rs := [12]) (by as_aux_lemma => kernel_rfl) (by simp) ?_
              refine AllReadyH.cons (o := ({ dst := none, op := .store 32 (.tmp 48) (.tmp 47), type := 0, pos := "observer.go:34", after := #[{ on := 11, ground := .data }, { on := 10, ground := .data }, { on := 10, ground := .chain }, { on := 0, ground := .phase }, { on := 1, ground := .phase }, { on := 2, ground := .phase }, { on := 3, ground := .phase }, { on := 4, ground := .phase }, { on := 5, ground := .phase }, { on := 6, ground := .phase }, { on := 7, ground := .phase }, { on := 8, ground := .phase }, { on := 9, ground := .phase }, { on := 10, ground := .phase }], guard := none } : Oper)) rfl (fun KK hK => ?_) AllReadyH.nil
              rw [if_pos (by rfl)]
              obtain ⟨z1_0, l1_0, f1_0⟩ := HK.there 1 rfl 0 rfl
              obtain ⟨z1_1, l1_1, f1_1⟩ := HK.there 1 rfl 1 rfl
              have N1 := nx _ HK
              have HN := (s1_1 _ (.int .i64 mH2) (s1_0 _ (.int .i64 mL2) HB))
              go_simp
              obtain ⟨w87, hX⟩ : ∃ x, x = ((w86.setCell ⟨w.heap.size + 1, 0, none⟩ (.int .i64 mL2)).setCell ⟨w.heap.size + 1, 1, none⟩ (.int .i64 mH2)) := ⟨_, rfl⟩
              rw [← hX] at HN N1 ⊢
              clear hX HK l1_0 f1_0 l1_1 f1_1
              refine hK.out _ _ ?_ (fun hHeld => ?_)
              · exact HN
              replace HB := hHeld; clear hHeld hK KK HN
              try simp only [Act.put]
              refine wpAnyH_done (by as_aux_lemma => kernel_rfl) ?_ _
              refine NoPanic.normal ?_
              go_wp2_with fail
              go_roundw
              case rel => first | exact ⟨3, by omega, rfl, by rw [HE.out]; exact N1⟩ | ((repeat apply Exists.intro); exact ⟨⟨3, by omega, rfl, by rw [HE.out]; exact N1⟩, rfl⟩)
              case measure => simp [intOf]
            · skip
              rw [if_pos (by rfl)]
              go_simp
              go_at_call 33; refine (A2.out _ HK.below).mono ?_; rintro e w84 ⟨rfl, hb⟩
              go_wp2_with fail
              refine hK.out _ _ ?_ (fun hHeld => ?_)
              · exact kS _ _ HB hb
              replace HB := hHeld; clear hHeld hK KK
              replace HK := HK.keep hb
              clear hb
              try simp only [Act.put, List.setIfInBounds_toArray, List.set_cons_zero, List.set_cons_succ]
              refine wpAnyH_ready (rs := [1]) (by as_aux_lemma => kernel_rfl) (by simp) ?_
              refine AllReadyH.cons (o := ({ dst := some 38, op := .load 32 (.tmp 37), type := 32, pos := "observer.go:34", after := #[{ on := 0, ground := .data }], guard := none } : Oper)) rfl (fun KK hK => ?_) AllReadyH.nil
              rw [if_pos (by rfl)]
              have ld0 := HK.at 1 rfl 0 (v := .int .i64 (q 2).vL) rfl
              have ld1 := HK.at 1 rfl 1 (v := .int .i64 (q 2).vH) rfl
              go_simp
              obtain ⟨w85, hX⟩ : ∃ x, x = w84 := ⟨_, rfl⟩
              have hb : Below w84.heap.size w84 w85 := (show w84 = w85 from hX.symm) ▸ Below.refl _ _
              rw [← hX]
              clear hX ld0 ld1
              refine hK.out _ _ ?_ (fun hHeld => ?_)
              · exact kS _ _ HB hb
              replace HB := hHeld; clear hHeld hK KK
              replace HK := HK.keep hb
              clear hb
              try simp only [Act.put, List.setIfInBounds_toArray, List.set_cons_zero, List.set_cons_succ]
              refine wpAnyH_ready (rs := [10]) (by as_aux_lemma => kernel_rfl) (by simp) ?_
              refine AllReadyH.cons (o := ({ dst := some 47, op := .call { callee := .value (.func 26), args := #[.tmp 38, .tmp 46], argTypes := #[32, 32] }, type := 32, pos := "observer.go:34", after := #[{ on := 1, ground := .data }, { on := 9, ground := .data }, { on := 9, ground := .chain }], guard := none } : Oper)) rfl (fun KK hK => ?_) AllReadyH.nil
              rw [if_pos (by rfl)]
              go_simp
              go_at_call 26; refine (M2.out _ HK.below).mono ?_; rintro e w86 ⟨rfl, hb⟩
              go_wp2_with fail
              refine hK.out _ _ ?_ (fun hHeld => ?_)
              · exact kS _ _ HB hb
              replace HB := hHeld; clear hHeld hK KK
              replace HK := HK.keep hb
              clear hb
              try simp only [Act.put, List.setIfInBounds_toArray, List.set_cons_zero, List.set_cons_succ]
              refine wpAnyH_take (i := 11) (oi := ({ dst := some 48, op := .fieldAddr 34 (.tmp 6) 0, type := 0, pos := "observer.go:34", after := #[{ on := 0, ground := .phase }, { on := 1, ground := .phase }, { on := 2, ground := .phase }, { on := 3, ground := .phase }, { on := 4, ground := .phase }, { on := 5, ground := .phase }, { on := 6, ground := .phase }, { on := 7, ground := .phase }, { on := 8, ground := .phase }, { on := 9, ground := .phase }, { on := 10, ground := .phase }], guard := none } : Oper)) (v := ?vt3_10_) rfl ostep8_plain (by as_aux_lemma => kernel_rfl) (by as_aux_lemma => kernel_rfl) (fun _ _ _ h => h) (Or.inl ⟨by rfl, ?yt3_10_⟩) HB ?rt3_10_
              case yt3_10_ => (intro w hSw; (try dsimp only at hSw); go_simp; try with_reducible rfl)
              try simp only [Act.put, List.setIfInBounds_toArray, List.set_cons_zero, List.set_cons_succ]
              refine wpAnyH_ready (rs := [12]) (by as_aux_lemma => kernel_rfl) (by simp) ?_
              refine AllReadyH.cons (o := ({ dst := none, op := .store 32 (.tmp 48) (.tmp 47), type := 0, pos := "observer.go:34", after := #[{ on := 11, ground := .data }, { on := 10, ground := .data }, { on := 10, ground := .chain }, { on := 0, ground := .phase }, { on := 1, ground := .phase }, { on := 2, ground := .phase }, { on := 3, ground := .phase }, { on := 4, ground := .phase }, { on := 5, ground := .phase }, { on := 6, ground := .phase }, { on := 7, ground := .phase }, { on := 8, ground := .phase }, { on := 9, ground := .phase }, { on := 10, ground := .phase }], guard := none } : Oper)) rfl (fun KK hK => ?_) AllReadyH.nil
              rw [if_pos (by rfl)]
              obtain ⟨z1_0, l1_0, f1_0⟩ := HK.there 1 rfl 0 rfl
              obtain ⟨z1_1, l1_1, f1_1⟩ := HK.there 1 rfl 1 rfl
              have N1 := nx _ HK
              have HN := (s1_1 _ (.int .i64 mH2) (s1_0 _ (.int .i64 mL2) HB))
              go_simp
              obtain ⟨w87, hX⟩ : ∃ x, x = ((w86.setCell ⟨w.heap.size + 1, 0, none⟩ (.int .i64 mL2)).setCell ⟨w.heap.size + 1, 1, none⟩ (.int .i64 mH2)) := ⟨_, rfl⟩
              rw [← hX] at HN N1 ⊢
              clear hX HK l1_0 f1_0 l1_1 f1_1
              refine hK.out _ _ ?_ (fun hHeld => ?_)
              · exact HN
              replace HB := hHeld; clear hHeld hK KK HN
              try simp only [Act.put]
              refine wpAnyH_done (by as_aux_lemma => kernel_rfl) ?_ _
              refine NoPanic.normal ?_
              go_wp2_with fail
              go_roundw
              case rel => first | exact ⟨3, by omega, rfl, by rw [HE.out]; exact N1⟩ | ((repeat apply Exists.intro); exact ⟨⟨3, by omega, rfl, by rw [HE.out]; exact N1⟩, rfl⟩)
              case measure => simp [intOf]
      · rw [ct] at kt
        have HT0 := Lib.hid ct
        clear ct
        have e1 : q 3 = q 2 := Qf2.out (fun h => by rw [HT0.out] at h; exact absurd h.1 (by decide))
        have HE := Lib.hid e1
        clear e1
        have HN := HS6.out
        go_wp2_with fail
        go_roundw
        case rel => first | exact ⟨3, by omega, rfl, by rw [HE.out]; exact HN⟩ | ((repeat apply Exists.intro); exact ⟨⟨3, by omega, rfl, by rw [HE.out]; exact HN⟩, rfl⟩)
        case measure => simp [intOf]
    · skip
      have HS7 := Lib.hid hS
      clear hS hj
      clear Qt0 Qf0 Qt1 Qf1 Qt2 Qf2
      go_wp2_with fail
      go_loopw [50] (fun i wr => ∃ j : Nat, j ≤ 3 ∧ i = .int .i64 j ∧ Sp w [(w.heap.size, [some (.int .i64 a.e0), some (.int .i64 a.e1), some (.int .i64 a.e2), some (.bool a.b0), some (.bool a.b1), some (.bool a.b2), some (.int .i64 a.bias), some (.int .i64 a.change), some (.int .i64 a.move), some (.int .i64 a.most)]), (w.heap.size + 1, [some (.int .i64 (r j).vL), some (.int .i64 (r j).vH), some (.int .i64 (r j).bL), some (.int .i64 (r j).bH), some (.bool (r j).ref)]), (w.heap.size + 1 + 1, [some (.int .i64 x0), some (.int .i64 x1), some (.int .i64 x2)]), (w.heap.size + 1 + 1 + 1, [some (.bool t0), some (.bool t1), some (.bool t2)]), (w.heap.size + 1 + 1 + 1 + 1, [some (.int .i64 0), some (.int .i64 0), some (.int .i64 0), some (.int .i64 0), some (.bool false)])] wr) (fun i _ => 3 - (intOf i).toNat)
      case atStart => exact ⟨0, by omega, rfl, by rw [R0.out]; exact HS7.out⟩
      case round =>
        clear HS7
        obtain ⟨j, hj, rfl, hS⟩ := hrel
        rcases (show j = 0 ∨ j = 1 ∨ j = 2 ∨ j = 3 by omega) with rfl | rfl | rfl | rfl
        · skip
          have HS8 := Lib.hid hS
          clear hS hj
          have kt := (HS8.out).at 3 rfl 0 (v := .bool t0) rfl
          have kb := (HS8.out).at 0 rfl 3 (v := .bool a.b0) rfl
          rcases Bool.eq_false_or_eq_true t0 with ct | ct
          · rw [ct] at kt
            by_cases cb : bad = 0
            · subst cb
              clear ct
              have e1 : r 1 = r 0 := Rf0.out (fun h => absurd rfl h.2.1)
              have HE := Lib.hid e1
              clear e1
              have HN := HS8.out
              go_wp2_with fail
              go_roundw
              case rel => first | exact ⟨1, by omega, rfl, by rw [HE.out]; exact HN⟩ | ((repeat apply Exists.intro); exact ⟨⟨1, by omega, rfl, by rw [HE.out]; exact HN⟩, rfl⟩)
              case measure => simp [intOf]
            · have HB0 := Lib.hid cb
              have d0 : ((0 : Int) == bad) = false := by simpa using Ne.symm cb
              have d1 : (bad == (0 : Int)) = false := by simpa using cb
              have d2 : ¬ (0 : Int) = bad := Ne.symm cb
              have HT0 := Lib.hid ct
              clear ct
              rcases Bool.eq_false_or_eq_true a.b0 with cc | cc
              · rw [cc] at kb
                have HC0 := Lib.hid cc
                clear cc
                have e1 := Rt0.out HT0.out HB0.out HC0.out
                have HE := Lib.hid e1
                clear e1
                go_upto_region 14 with fail
                clear kt kb d0 d1 d2
                obtain ⟨w122, hX, HK⟩ := (HS8.out).named
                rw [← hX]
                clear hX
                have hT := (((((HK).forget 1 rfl 0).forget 1 rfl 1).forget 1 rfl 2).forget 1 rfl 3).forget 1 rfl 4
                obtain ⟨bs4, hbs⟩ : ∃ bs : List (Nat × List (Option Value)), bs = [(w.heap.size, [some (.int .i64 a.e0), some (.int .i64 a.e1), some (.int .i64 a.e2), some (.bool a.b0), some (.bool a.b1), some (.bool a.b2), some (.int .i64 a.bias), some (.int .i64 a.change), some (.int .i64 a.move), some (.int .i64 a.most)]), (w.heap.size + 1, [none, none, none, none, none]), (w.heap.size + 1 + 1, [some (.int .i64 x0), some (.int .i64 x1), some (.int .i64 x2)]), (w.heap.size + 1 + 1 + 1, [some (.bool t0), some (.bool t1), some (.bool t2)]), (w.heap.size + 1 + 1 + 1 + 1, [some (.int .i64 0), some (.int .i64 0), some (.int .i64 0), some (.int .i64 0), some (.bool false)])] := ⟨_, rfl⟩
                replace hT : Sp w bs4 w122 := hbs ▸ hT
                have c2_0 : ∀ w', Sp w bs4 w' → w'.cell? ⟨w.heap.size + 1 + 1, 0, none⟩ = some (.int .i64 x0) := by rw [hbs]; exact fun w' h => h.at 2 rfl 0 rfl
                have c0_0 : ∀ w', Sp w bs4 w' → w'.cell? ⟨w.heap.size, 0, none⟩ = some (.int .i64 a.e0) := by rw [hbs]; exact fun w' h => h.at 0 rfl 0 rfl
                have kS : ∀ w1 w2, Sp w bs4 w1 → Below w1.heap.size w1 w2 → Sp w bs4 w2 := fun _ _ h hb => h.keep hb
                have s1_0 : ∀ w' z, Sp w bs4 w' → Sp w bs4 (w'.setCell ⟨w.heap.size + 1, 0, none⟩ z) := by rw [hbs]; exact fun w' z h => h.hit 1 rfl 0 rfl z
                have s1_1 : ∀ w' z, Sp w bs4 w' → Sp w bs4 (w'.setCell ⟨w.heap.size + 1, 1, none⟩ z) := by rw [hbs]; exact fun w' z h => h.hit 1 rfl 1 rfl z
                have s1_2 : ∀ w' z, Sp w bs4 w' → Sp w bs4 (w'.setCell ⟨w.heap.size + 1, 2, none⟩ z) := by rw [hbs]; exact fun w' z h => h.hit 1 rfl 2 rfl z
                have s1_3 : ∀ w' z, Sp w bs4 w' → Sp w bs4 (w'.setCell ⟨w.heap.size + 1, 3, none⟩ z) := by rw [hbs]; exact fun w' z h => h.hit 1 rfl 3 rfl z
                have s1_4 : ∀ w' z, Sp w bs4 w' → Sp w bs4 (w'.setCell ⟨w.heap.size + 1, 4, none⟩ z) := by rw [hbs]; exact fun w' z h => h.hit 1 rfl 4 rfl z
                have nx : ∀ w', Sp w [(w.heap.size, [some (.int .i64 a.e0), some (.int .i64 a.e1), some (.int .i64 a.e2), some (.bool a.b0), some (.bool a.b1), some (.bool a.b2), some (.int .i64 a.bias), some (.int .i64 a.change), some (.int .i64 a.move), some (.int .i64 a.most)]), (w.heap.size + 1, [some (.int .i64 (r 0).vL), some (.int .i64 (r 0).vH), some (.int .i64 (r 0).bL), some (.int .i64 (r 0).bH), some (.bool (r 0).ref)]), (w.heap.size + 1 + 1, [some (.int .i64 x0), some (.int .i64 x1), some (.int .i64 x2)]), (w.heap.size + 1 + 1 + 1, [some (.bool t0), some (.bool t1), some (.bool t2)]), (w.heap.size + 1 + 1 + 1 + 1, [some (.int .i64 0), some (.int .i64 0), some (.int .i64 0), some (.int .i64 0), some (.bool false)])] w' → Sp w [(w.heap.size, [some (.int .i64 a.e0), some (.int .i64 a.e1), some (.int .i64 a.e2), some (.bool a.b0), some (.bool a.b1), some (.bool a.b2), some (.int .i64 a.bias), some (.int .i64 a.change), some (.int .i64 a.move), some (.int .i64 a.most)]), (w.heap.size + 1, [some (.int .i64 s0.vL), some (.int .i64 s0.vH), some (.int .i64 s0.bL), some (.int .i64 s0.bH), some (.bool s0.ref)]), (w.heap.size + 1 + 1, [some (.int .i64 x0), some (.int .i64 x1), some (.int .i64 x2)]), (w.heap.size + 1 + 1 + 1, [some (.bool t0), some (.bool t1), some (.bool t2)]), (w.heap.size + 1 + 1 + 1 + 1, [some (.int .i64 0), some (.int .i64 0), some (.int .i64 0), some (.int .i64 0), some (.bool false)])] (((((w'.setCell ⟨w.heap.size + 1, 0, none⟩ (.int .i64 s0.vL)).setCell ⟨w.heap.size + 1, 1, none⟩ (.int .i64 s0.vH)).setCell ⟨w.heap.size + 1, 2, none⟩ (.int .i64 s0.bL)).setCell ⟨w.heap.size + 1, 3, none⟩ (.int .i64 s0.bH)).setCell ⟨w.heap.size + 1, 4, none⟩ (.bool s0.ref)) := fun w' h => (((((h.put 1 rfl 0 _).put 1 rfl 1 _).put 1 rfl 2 _).put 1 rfl 3 _).put 1 rfl 4 _)
                clear hbs HS8
                change (Code.region 14 ostep14 true).wp Tryd.prog _ _ _
                refine wp_region_noPanic ?_
                refine wp_region_held_drew (S := (Sp w bs4)) (by kernel_rfl) (hT.drew) (fun hHeld => ?_)
                obtain ⟨w123, hX⟩ : ∃ x, x = w122.drew := ⟨_, rfl⟩
                have hb : Below w122.heap.size w122 w123 := hX ▸ (Below.refl _ _).drew
                rw [← hX] at hHeld ⊢
                have HB := hHeld; clear hHeld
                replace HK := HK.keep hb
                clear hb hX
                refine wpAnyH_take (i := 1) (oi := ({ dst := some 68, op := .move (.tmp 12), type := 3, pos := "observer.go:39", after := #[], guard := none } : Oper)) (v := ?vt4_1_) rfl ostep14_plain (by as_aux_lemma => kernel_rfl) (by as_aux_lemma => kernel_rfl) (fun _ _ _ h => h) (Or.inl ⟨by rfl, ?yt4_1_⟩) HB ?rt4_1_
                case yt4_1_ => (intro w hSw; (try dsimp only at hSw); go_simp; try with_reducible rfl)
                try simp only [Act.put, List.setIfInBounds_toArray, List.set_cons_zero, List.set_cons_succ]
                refine wpAnyH_take (i := 2) (oi := ({ dst := some 69, op := .indexAddr 22 (.tmp 8) (.tmp 68), type := 0, pos := "observer.go:39", after := #[{ on := 1, ground := .data }], guard := none } : Oper)) (v := ?vt4_2_) rfl ostep14_plain (by as_aux_lemma => kernel_rfl) (by as_aux_lemma => kernel_rfl) (fun _ _ _ h => h) (Or.inl ⟨by rfl, ?yt4_2_⟩) HB ?rt4_2_
                case yt4_2_ => (intro w hSw; (try dsimp only at hSw); go_simp; try with_reducible rfl)
                try simp only [Act.put, List.setIfInBounds_toArray, List.set_cons_zero, List.set_cons_succ]
                refine wpAnyH_take (i := 3) (oi := ({ dst := some 70, op := .load 2 (.tmp 69), type := 2, pos := "observer.go:39", after := #[{ on := 2, ground := .data }], guard := none } : Oper)) (v := ?vt4_3_) rfl ostep14_plain (by as_aux_lemma => kernel_rfl) (by as_aux_lemma => kernel_rfl) (fun _ _ _ h => h) (Or.inl ⟨by rfl, ?yt4_3_⟩) HB ?rt4_3_
                case yt4_3_ => (intro w hSw; (try dsimp only at hSw); go_simp; try with_reducible rfl)
                try simp only [Act.put, List.setIfInBounds_toArray, List.set_cons_zero, List.set_cons_succ]
                refine wpAnyH_take (i := 4) (oi := ({ dst := some 71, op := .move (.tmp 12), type := 3, pos := "observer.go:39", after := #[], guard := none } : Oper)) (v := ?vt4_4_) rfl ostep14_plain (by as_aux_lemma => kernel_rfl) (by as_aux_lemma => kernel_rfl) (fun _ _ _ h => h) (Or.inl ⟨by rfl, ?yt4_4_⟩) HB ?rt4_4_
                case yt4_4_ => (intro w hSw; (try dsimp only at hSw); go_simp; try with_reducible rfl)
                try simp only [Act.put, List.setIfInBounds_toArray, List.set_cons_zero, List.set_cons_succ]
                refine wpAnyH_take (i := 5) (oi := ({ dst := some 72, op := .fieldAddr 25 (.tmp 5) 0, type := 0, pos := "observer.go:39", after := #[], guard := none } : Oper)) (v := ?vt4_5_) rfl ostep14_plain (by as_aux_lemma => kernel_rfl) (by as_aux_lemma => kernel_rfl) (fun _ _ _ h => h) (Or.inl ⟨by rfl, ?yt4_5_⟩) HB ?rt4_5_
                case yt4_5_ => (intro w hSw; (try dsimp only at hSw); go_simp; try with_reducible rfl)
                try simp only [Act.put, List.setIfInBounds_toArray, List.set_cons_zero, List.set_cons_succ]
                refine wpAnyH_take (i := 6) (oi := ({ dst := some 73, op := .indexAddr 22 (.tmp 72) (.tmp 71), type := 0, pos := "observer.go:39", after := #[{ on := 5, ground := .data }, { on := 4, ground := .data }], guard := none } : Oper)) (v := ?vt4_6_) rfl ostep14_plain (by as_aux_lemma => kernel_rfl) (by as_aux_lemma => kernel_rfl) (fun _ _ _ h => h) (Or.inl ⟨by rfl, ?yt4_6_⟩) HB ?rt4_6_
                case yt4_6_ => (intro w hSw; (try dsimp only at hSw); go_simp; try with_reducible rfl)
                try simp only [Act.put, List.setIfInBounds_toArray, List.set_cons_zero, List.set_cons_succ]
                refine wpAnyH_take (i := 7) (oi := ({ dst := some 74, op := .load 2 (.tmp 73), type := 2, pos := "observer.go:39", after := #[{ on := 6, ground := .data }], guard := none } : Oper)) (v := ?vt4_7_) rfl ostep14_plain (by as_aux_lemma => kernel_rfl) (by as_aux_lemma => kernel_rfl) (fun _ _ _ h => h) (Or.inl ⟨by rfl, ?yt4_7_⟩) HB ?rt4_7_
                case yt4_7_ => (intro w hSw; (try dsimp only at hSw); go_simp; try with_reducible rfl)
                try simp only [Act.put, List.setIfInBounds_toArray, List.set_cons_zero, List.set_cons_succ]
                refine wpAnyH_ready (rs := [0, 8]) (by as_aux_lemma => kernel_rfl) (by simp) ?_
                refine AllReadyH.cons (o := ({ dst := some 67, op := .load 34 (.tmp 6), type := 34, pos := "observer.go:39", after := #[], guard := none } : Oper)) rfl (fun KK hK => ?_) (AllReadyH.cons (o := ({ dst := some 75, op := .call { callee := .value (.func 33), args := #[.tmp 70, .tmp 74], argTypes := #[2, 2] }, type := 32, pos := "observer.go:39", after := #[{ on := 3, ground := .data }, { on := 7, ground := .data }], guard := none } : Oper)) rfl (fun KK hK => ?_) AllReadyH.nil)
                · skip
                  rw [if_pos (by rfl)]
                  have ld0 := HK.at 1 rfl 0 (v := .int .i64 (r 0).vL) rfl
                  have ld1 := HK.at 1 rfl 1 (v := .int .i64 (r 0).vH) rfl
                  have ld2 := HK.at 1 rfl 2 (v := .int .i64 (r 0).bL) rfl
                  have ld3 := HK.at 1 rfl 3 (v := .int .i64 (r 0).bH) rfl
                  have ld4 := HK.at 1 rfl 4 (v := .bool (r 0).ref) rfl
                  go_simp
                  obtain ⟨w124, hX⟩ : ∃ x, x = w123 := ⟨_, rfl⟩
                  have hb : Below w123.heap.size w123 w124 := (show w123 = w124 from hX.symm) ▸ Below.refl _ _
                  rw [← hX]
                  clear hX ld0 ld1 ld2 ld3 ld4
                  refine hK.out _ _ ?_ (fun hHeld => ?_)
                  · exact kS _ _ HB hb
                  replace HB := hHeld; clear hHeld hK KK
                  replace HK := HK.keep hb
                  clear hb
                  try simp only [Act.put, List.setIfInBounds_toArray, List.set_cons_zero, List.set_cons_succ]
                  refine wpAnyH_ready (rs := [8]) (by as_aux_lemma => kernel_rfl) (by simp) ?_
                  refine AllReadyH.cons (o := ({ dst := some 75, op := .call { callee := .value (.func 33), args := #[.tmp 70, .tmp 74], argTypes := #[2, 2] }, type := 32, pos := "observer.go:39", after := #[{ on := 3, ground := .data }, { on := 7, ground := .data }], guard := none } : Oper)) rfl (fun KK hK => ?_) AllReadyH.nil
                  rw [if_pos (by rfl)]
                  go_simp
                  go_at_call 33; refine (A0.out _ HK.below).mono ?_; rintro e w125 ⟨rfl, hb⟩
                  go_wp2_with fail
                  refine hK.out _ _ ?_ (fun hHeld => ?_)
                  · exact kS _ _ HB hb
                  replace HB := hHeld; clear hHeld hK KK
                  replace HK := HK.keep hb
                  clear hb
                  try simp only [Act.put, List.setIfInBounds_toArray, List.set_cons_zero, List.set_cons_succ]
                  refine wpAnyH_ready (rs := [9]) (by as_aux_lemma => kernel_rfl) (by simp) ?_
                  refine AllReadyH.cons (o := ({ dst := some 76, op := .call { callee := .value (.func 34), args := #[.tmp 67, .tmp 75], argTypes := #[34, 32] }, type := 34, pos := "observer.go:39", after := #[{ on := 0, ground := .data }, { on := 8, ground := .data }, { on := 8, ground := .chain }], guard := none } : Oper)) rfl (fun KK hK => ?_) AllReadyH.nil
                  rw [if_pos (by rfl)]
                  go_simp
                  go_at_call 34; refine (S0.out _ HK.below).mono ?_; rintro e w126 ⟨rfl, hb⟩
                  go_wp2_with fail
                  refine hK.out _ _ ?_ (fun hHeld => ?_)
                  · exact kS _ _ HB hb
                  replace HB := hHeld; clear hHeld hK KK
                  replace HK := HK.keep hb
                  clear hb
                  try simp only [Act.put, List.setIfInBounds_toArray, List.set_cons_zero, List.set_cons_succ]
                  refine wpAnyH_ready (rs := [10]) (by as_aux_lemma => kernel_rfl) (by simp) ?_
                  refine AllReadyH.cons (o := ({ dst := none, op := .store 34 (.tmp 6) (.tmp 76), type := 0, pos := "observer.go:39", after := #[{ on := 9, ground := .data }, { on := 9, ground := .chain }, { on := 0, ground := .phase }, { on := 1, ground := .phase }, { on := 2, ground := .phase }, { on := 3, ground := .phase }, { on := 4, ground := .phase }, { on := 5, ground := .phase }, { on := 6, ground := .phase }, { on := 7, ground := .phase }, { on := 8, ground := .phase }, { on := 9, ground := .phase }], guard := none } : Oper)) rfl (fun KK hK => ?_) AllReadyH.nil
                  rw [if_pos (by rfl)]
                  obtain ⟨z1_0, l1_0, f1_0⟩ := HK.there 1 rfl 0 rfl
                  obtain ⟨z1_1, l1_1, f1_1⟩ := HK.there 1 rfl 1 rfl
                  obtain ⟨z1_2, l1_2, f1_2⟩ := HK.there 1 rfl 2 rfl
                  obtain ⟨z1_3, l1_3, f1_3⟩ := HK.there 1 rfl 3 rfl
                  obtain ⟨z1_4, l1_4, f1_4⟩ := HK.there 1 rfl 4 rfl
                  have N1 := nx _ HK
                  have HN := (s1_4 _ (.bool s0.ref) (s1_3 _ (.int .i64 s0.bH) (s1_2 _ (.int .i64 s0.bL) (s1_1 _ (.int .i64 s0.vH) (s1_0 _ (.int .i64 s0.vL) HB)))))
                  go_simp
                  obtain ⟨w127, hX⟩ : ∃ x, x = (((((w126.setCell ⟨w.heap.size + 1, 0, none⟩ (.int .i64 s0.vL)).setCell ⟨w.heap.size + 1, 1, none⟩ (.int .i64 s0.vH)).setCell ⟨w.heap.size + 1, 2, none⟩ (.int .i64 s0.bL)).setCell ⟨w.heap.size + 1, 3, none⟩ (.int .i64 s0.bH)).setCell ⟨w.heap.size + 1, 4, none⟩ (.bool s0.ref)) := ⟨_, rfl⟩
                  rw [← hX] at HN N1 ⊢
                  clear hX HK l1_0 f1_0 l1_1 f1_1 l1_2 f1_2 l1_3 f1_3 l1_4 f1_4
                  refine hK.out _ _ ?_ (fun hHeld => ?_)
                  · exact HN
                  replace HB := hHeld; clear hHeld hK KK HN
                  try simp only [Act.put]
                  refine wpAnyH_done (by as_aux_lemma => kernel_rfl) ?_ _
                  refine NoPanic.normal ?_
                  go_wp2_with fail
                  go_roundw
                  case rel => first | exact ⟨1, by omega, rfl, by rw [HE.out]; exact N1⟩ | ((repeat apply Exists.intro); exact ⟨⟨1, by omega, rfl, by rw [HE.out]; exact N1⟩, rfl⟩)
                  case measure => simp [intOf]
                · skip
                  rw [if_pos (by rfl)]
                  go_simp
                  go_at_call 33; refine (A0.out _ HK.below).mono ?_; rintro e w124 ⟨rfl, hb⟩
                  go_wp2_with fail
                  refine hK.out _ _ ?_ (fun hHeld => ?_)
                  · exact kS _ _ HB hb
                  replace HB := hHeld; clear hHeld hK KK
                  replace HK := HK.keep hb
                  clear hb
                  try simp only [Act.put, List.setIfInBounds_toArray, List.set_cons_zero, List.set_cons_succ]
                  refine wpAnyH_ready (rs := [0]) (by as_aux_lemma => kernel_rfl) (by simp) ?_
                  refine AllReadyH.cons (o := ({ dst := some 67, op := .load 34 (.tmp 6), type := 34, pos := "observer.go:39", after := #[], guard := none } : Oper)) rfl (fun KK hK => ?_) AllReadyH.nil
                  rw [if_pos (by rfl)]
                  have ld0 := HK.at 1 rfl 0 (v := .int .i64 (r 0).vL) rfl
                  have ld1 := HK.at 1 rfl 1 (v := .int .i64 (r 0).vH) rfl
                  have ld2 := HK.at 1 rfl 2 (v := .int .i64 (r 0).bL) rfl
                  have ld3 := HK.at 1 rfl 3 (v := .int .i64 (r 0).bH) rfl
                  have ld4 := HK.at 1 rfl 4 (v := .bool (r 0).ref) rfl
                  go_simp
                  obtain ⟨w125, hX⟩ : ∃ x, x = w124 := ⟨_, rfl⟩
                  have hb : Below w124.heap.size w124 w125 := (show w124 = w125 from hX.symm) ▸ Below.refl _ _
                  rw [← hX]
                  clear hX ld0 ld1 ld2 ld3 ld4
                  refine hK.out _ _ ?_ (fun hHeld => ?_)
                  · exact kS _ _ HB hb
                  replace HB := hHeld; clear hHeld hK KK
                  replace HK := HK.keep hb
                  clear hb
                  try simp only [Act.put, List.setIfInBounds_toArray, List.set_cons_zero, List.set_cons_succ]
                  refine wpAnyH_ready (rs := [9]) (by as_aux_lemma => kernel_rfl) (by simp) ?_
                  refine AllReadyH.cons (o := ({ dst := some 76, op := .call { callee := .value (.func 34), args := #[.tmp 67, .tmp 75], argTypes := #[34, 32] }, type := 34, pos := "observer.go:39", after := #[{ on := 0, ground := .data }, { on := 8, ground := .data }, { on := 8, ground := .chain }], guard := none } : Oper)) rfl (fun KK hK => ?_) AllReadyH.nil
                  rw [if_pos (by rfl)]
                  go_simp
                  go_at_call 34; refine (S0.out _ HK.below).mono ?_; rintro e w126 ⟨rfl, hb⟩
                  go_wp2_with fail
                  refine hK.out _ _ ?_ (fun hHeld => ?_)
                  · exact kS _ _ HB hb
                  replace HB := hHeld; clear hHeld hK KK
                  replace HK := HK.keep hb
                  clear hb
                  try simp only [Act.put, List.setIfInBounds_toArray, List.set_cons_zero, List.set_cons_succ]
                  refine wpAnyH_ready (rs := [10]) (by as_aux_lemma => kernel_rfl) (by simp) ?_
                  refine AllReadyH.cons (o := ({ dst := none, op := .store 34 (.tmp 6) (.tmp 76), type := 0, pos := "observer.go:39", after := #[{ on := 9, ground := .data }, { on := 9, ground := .chain }, { on := 0, ground := .phase }, { on := 1, ground := .phase }, { on := 2, ground := .phase }, { on := 3, ground := .phase }, { on := 4, ground := .phase }, { on := 5, ground := .phase }, { on := 6, ground := .phase }, { on := 7, ground := .phase }, { on := 8, ground := .phase }, { on := 9, ground := .phase }], guard := none } : Oper)) rfl (fun KK hK => ?_) AllReadyH.nil
                  rw [if_pos (by rfl)]
                  obtain ⟨z1_0, l1_0, f1_0⟩ := HK.there 1 rfl 0 rfl
                  obtain ⟨z1_1, l1_1, f1_1⟩ := HK.there 1 rfl 1 rfl
                  obtain ⟨z1_2, l1_2, f1_2⟩ := HK.there 1 rfl 2 rfl
                  obtain ⟨z1_3, l1_3, f1_3⟩ := HK.there 1 rfl 3 rfl
                  obtain ⟨z1_4, l1_4, f1_4⟩ := HK.there 1 rfl 4 rfl
                  have N1 := nx _ HK
                  have HN := (s1_4 _ (.bool s0.ref) (s1_3 _ (.int .i64 s0.bH) (s1_2 _ (.int .i64 s0.bL) (s1_1 _ (.int .i64 s0.vH) (s1_0 _ (.int .i64 s0.vL) HB)))))
                  go_simp
                  obtain ⟨w127, hX⟩ : ∃ x, x = (((((w126.setCell ⟨w.heap.size + 1, 0, none⟩ (.int .i64 s0.vL)).setCell ⟨w.heap.size + 1, 1, none⟩ (.int .i64 s0.vH)).setCell ⟨w.heap.size + 1, 2, none⟩ (.int .i64 s0.bL)).setCell ⟨w.heap.size + 1, 3, none⟩ (.int .i64 s0.bH)).setCell ⟨w.heap.size + 1, 4, none⟩ (.bool s0.ref)) := ⟨_, rfl⟩
                  rw [← hX] at HN N1 ⊢
                  clear hX HK l1_0 f1_0 l1_1 f1_1 l1_2 f1_2 l1_3 f1_3 l1_4 f1_4
                  refine hK.out _ _ ?_ (fun hHeld => ?_)
                  · exact HN
                  replace HB := hHeld; clear hHeld hK KK HN
                  try simp only [Act.put]
                  refine wpAnyH_done (by as_aux_lemma => kernel_rfl) ?_ _
                  refine NoPanic.normal ?_
                  go_wp2_with fail
                  go_roundw
                  case rel => first | exact ⟨1, by omega, rfl, by rw [HE.out]; exact N1⟩ | ((repeat apply Exists.intro); exact ⟨⟨1, by omega, rfl, by rw [HE.out]; exact N1⟩, rfl⟩)
                  case measure => simp [intOf]
              · rw [cc] at kb
                have HC0 := Lib.hid cc
                clear cc
                have e1 : r 1 = r 0 := Rf0.out (fun h => by rw [HC0.out] at h; exact absurd h.2.2 (by decide))
                have HE := Lib.hid e1
                clear e1
                have HN := HS8.out
                go_wp2_with fail
                go_roundw
                case rel => first | exact ⟨1, by omega, rfl, by rw [HE.out]; exact HN⟩ | ((repeat apply Exists.intro); exact ⟨⟨1, by omega, rfl, by rw [HE.out]; exact HN⟩, rfl⟩)
                case measure => simp [intOf]
          · rw [ct] at kt
            have HT0 := Lib.hid ct
            clear ct
            have e1 : r 1 = r 0 := Rf0.out (fun h => by rw [HT0.out] at h; exact absurd h.1 (by decide))
            have HE := Lib.hid e1
            clear e1
            have HN := HS8.out
            go_wp2_with fail
            go_roundw
            case rel => first | exact ⟨1, by omega, rfl, by rw [HE.out]; exact HN⟩ | ((repeat apply Exists.intro); exact ⟨⟨1, by omega, rfl, by rw [HE.out]; exact HN⟩, rfl⟩)
            case measure => simp [intOf]
        · skip
          have HS9 := Lib.hid hS
          clear hS hj
          have kt := (HS9.out).at 3 rfl 1 (v := .bool t1) rfl
          have kb := (HS9.out).at 0 rfl 4 (v := .bool a.b1) rfl
          rcases Bool.eq_false_or_eq_true t1 with ct | ct
          · rw [ct] at kt
            by_cases cb : bad = 1
            · subst cb
              clear ct
              have e1 : r 2 = r 1 := Rf1.out (fun h => absurd rfl h.2.1)
              have HE := Lib.hid e1
              clear e1
              have HN := HS9.out
              go_wp2_with fail
              go_roundw
              case rel => first | exact ⟨2, by omega, rfl, by rw [HE.out]; exact HN⟩ | ((repeat apply Exists.intro); exact ⟨⟨2, by omega, rfl, by rw [HE.out]; exact HN⟩, rfl⟩)
              case measure => simp [intOf]
            · have HB0 := Lib.hid cb
              have d0 : ((1 : Int) == bad) = false := by simpa using Ne.symm cb
              have d1 : (bad == (1 : Int)) = false := by simpa using cb
              have d2 : ¬ (1 : Int) = bad := Ne.symm cb
              have HT0 := Lib.hid ct
              clear ct
              rcases Bool.eq_false_or_eq_true a.b1 with cc | cc
              · rw [cc] at kb
                have HC0 := Lib.hid cc
                clear cc
                have e1 := Rt1.out HT0.out HB0.out HC0.out
                have HE := Lib.hid e1
                clear e1
                go_upto_region 14 with fail
                clear kt kb d0 d1 d2
                obtain ⟨w162, hX, HK⟩ := (HS9.out).named
                rw [← hX]
                clear hX
                have hT := (((((HK).forget 1 rfl 0).forget 1 rfl 1).forget 1 rfl 2).forget 1 rfl 3).forget 1 rfl 4
                obtain ⟨bs5, hbs⟩ : ∃ bs : List (Nat × List (Option Value)), bs = [(w.heap.size, [some (.int .i64 a.e0), some (.int .i64 a.e1), some (.int .i64 a.e2), some (.bool a.b0), some (.bool a.b1), some (.bool a.b2), some (.int .i64 a.bias), some (.int .i64 a.change), some (.int .i64 a.move), some (.int .i64 a.most)]), (w.heap.size + 1, [none, none, none, none, none]), (w.heap.size + 1 + 1, [some (.int .i64 x0), some (.int .i64 x1), some (.int .i64 x2)]), (w.heap.size + 1 + 1 + 1, [some (.bool t0), some (.bool t1), some (.bool t2)]), (w.heap.size + 1 + 1 + 1 + 1, [some (.int .i64 0), some (.int .i64 0), some (.int .i64 0), some (.int .i64 0), some (.bool false)])] := ⟨_, rfl⟩
                replace hT : Sp w bs5 w162 := hbs ▸ hT
                have c2_1 : ∀ w', Sp w bs5 w' → w'.cell? ⟨w.heap.size + 1 + 1, 1, none⟩ = some (.int .i64 x1) := by rw [hbs]; exact fun w' h => h.at 2 rfl 1 rfl
                have c0_1 : ∀ w', Sp w bs5 w' → w'.cell? ⟨w.heap.size, 1, none⟩ = some (.int .i64 a.e1) := by rw [hbs]; exact fun w' h => h.at 0 rfl 1 rfl
                have kS : ∀ w1 w2, Sp w bs5 w1 → Below w1.heap.size w1 w2 → Sp w bs5 w2 := fun _ _ h hb => h.keep hb
                have s1_0 : ∀ w' z, Sp w bs5 w' → Sp w bs5 (w'.setCell ⟨w.heap.size + 1, 0, none⟩ z) := by rw [hbs]; exact fun w' z h => h.hit 1 rfl 0 rfl z
                have s1_1 : ∀ w' z, Sp w bs5 w' → Sp w bs5 (w'.setCell ⟨w.heap.size + 1, 1, none⟩ z) := by rw [hbs]; exact fun w' z h => h.hit 1 rfl 1 rfl z
                have s1_2 : ∀ w' z, Sp w bs5 w' → Sp w bs5 (w'.setCell ⟨w.heap.size + 1, 2, none⟩ z) := by rw [hbs]; exact fun w' z h => h.hit 1 rfl 2 rfl z
                have s1_3 : ∀ w' z, Sp w bs5 w' → Sp w bs5 (w'.setCell ⟨w.heap.size + 1, 3, none⟩ z) := by rw [hbs]; exact fun w' z h => h.hit 1 rfl 3 rfl z
                have s1_4 : ∀ w' z, Sp w bs5 w' → Sp w bs5 (w'.setCell ⟨w.heap.size + 1, 4, none⟩ z) := by rw [hbs]; exact fun w' z h => h.hit 1 rfl 4 rfl z
                have nx : ∀ w', Sp w [(w.heap.size, [some (.int .i64 a.e0), some (.int .i64 a.e1), some (.int .i64 a.e2), some (.bool a.b0), some (.bool a.b1), some (.bool a.b2), some (.int .i64 a.bias), some (.int .i64 a.change), some (.int .i64 a.move), some (.int .i64 a.most)]), (w.heap.size + 1, [some (.int .i64 (r 1).vL), some (.int .i64 (r 1).vH), some (.int .i64 (r 1).bL), some (.int .i64 (r 1).bH), some (.bool (r 1).ref)]), (w.heap.size + 1 + 1, [some (.int .i64 x0), some (.int .i64 x1), some (.int .i64 x2)]), (w.heap.size + 1 + 1 + 1, [some (.bool t0), some (.bool t1), some (.bool t2)]), (w.heap.size + 1 + 1 + 1 + 1, [some (.int .i64 0), some (.int .i64 0), some (.int .i64 0), some (.int .i64 0), some (.bool false)])] w' → Sp w [(w.heap.size, [some (.int .i64 a.e0), some (.int .i64 a.e1), some (.int .i64 a.e2), some (.bool a.b0), some (.bool a.b1), some (.bool a.b2), some (.int .i64 a.bias), some (.int .i64 a.change), some (.int .i64 a.move), some (.int .i64 a.most)]), (w.heap.size + 1, [some (.int .i64 s1.vL), some (.int .i64 s1.vH), some (.int .i64 s1.bL), some (.int .i64 s1.bH), some (.bool s1.ref)]), (w.heap.size + 1 + 1, [some (.int .i64 x0), some (.int .i64 x1), some (.int .i64 x2)]), (w.heap.size + 1 + 1 + 1, [some (.bool t0), some (.bool t1), some (.bool t2)]), (w.heap.size + 1 + 1 + 1 + 1, [some (.int .i64 0), some (.int .i64 0), some (.int .i64 0), some (.int .i64 0), some (.bool false)])] (((((w'.setCell ⟨w.heap.size + 1, 0, none⟩ (.int .i64 s1.vL)).setCell ⟨w.heap.size + 1, 1, none⟩ (.int .i64 s1.vH)).setCell ⟨w.heap.size + 1, 2, none⟩ (.int .i64 s1.bL)).setCell ⟨w.heap.size + 1, 3, none⟩ (.int .i64 s1.bH)).setCell ⟨w.heap.size + 1, 4, none⟩ (.bool s1.ref)) := fun w' h => (((((h.put 1 rfl 0 _).put 1 rfl 1 _).put 1 rfl 2 _).put 1 rfl 3 _).put 1 rfl 4 _)
                clear hbs HS9
                change (Code.region 14 ostep14 true).wp Tryd.prog _ _ _
                refine wp_region_noPanic ?_
                refine wp_region_held_drew (S := (Sp w bs5)) (by kernel_rfl) (hT.drew) (fun hHeld => ?_)
                obtain ⟨w163, hX⟩ : ∃ x, x = w162.drew := ⟨_, rfl⟩
                have hb : Below w162.heap.size w162 w163 := hX ▸ (Below.refl _ _).drew
                rw [← hX] at hHeld ⊢
                have HB := hHeld; clear hHeld
                replace HK := HK.keep hb
                clear hb hX
                refine wpAnyH_take (i := 1) (oi := ({ dst := some 68, op := .move (.tmp 12), type := 3, pos := "observer.go:39", after := #[], guard := none } : Oper)) (v := ?vt5_1_) rfl ostep14_plain (by as_aux_lemma => kernel_rfl) (by as_aux_lemma => kernel_rfl) (fun _ _ _ h => h) (Or.inl ⟨by rfl, ?yt5_1_⟩) HB ?rt5_1_
                case yt5_1_ => (intro w hSw; (try dsimp only at hSw); go_simp; try with_reducible rfl)
                try simp only [Act.put, List.setIfInBounds_toArray, List.set_cons_zero, List.set_cons_succ]
                refine wpAnyH_take (i := 2) (oi := ({ dst := some 69, op := .indexAddr 22 (.tmp 8) (.tmp 68), type := 0, pos := "observer.go:39", after := #[{ on := 1, ground := .data }], guard := none } : Oper)) (v := ?vt5_2_) rfl ostep14_plain (by as_aux_lemma => kernel_rfl) (by as_aux_lemma => kernel_rfl) (fun _ _ _ h => h) (Or.inl ⟨by rfl, ?yt5_2_⟩) HB ?rt5_2_
                case yt5_2_ => (intro w hSw; (try dsimp only at hSw); go_simp; try with_reducible rfl)
                try simp only [Act.put, List.setIfInBounds_toArray, List.set_cons_zero, List.set_cons_succ]
                refine wpAnyH_take (i := 3) (oi := ({ dst := some 70, op := .load 2 (.tmp 69), type := 2, pos := "observer.go:39", after := #[{ on := 2, ground := .data }], guard := none } : Oper)) (v := ?vt5_3_) rfl ostep14_plain (by as_aux_lemma => kernel_rfl) (by as_aux_lemma => kernel_rfl) (fun _ _ _ h => h) (Or.inl ⟨by rfl, ?yt5_3_⟩) HB ?rt5_3_
                case yt5_3_ => (intro w hSw; (try dsimp only at hSw); go_simp; try with_reducible rfl)
                try simp only [Act.put, List.setIfInBounds_toArray, List.set_cons_zero, List.set_cons_succ]
                refine wpAnyH_take (i := 4) (oi := ({ dst := some 71, op := .move (.tmp 12), type := 3, pos := "observer.go:39", after := #[], guard := none } : Oper)) (v := ?vt5_4_) rfl ostep14_plain (by as_aux_lemma => kernel_rfl) (by as_aux_lemma => kernel_rfl) (fun _ _ _ h => h) (Or.inl ⟨by rfl, ?yt5_4_⟩) HB ?rt5_4_
                case yt5_4_ => (intro w hSw; (try dsimp only at hSw); go_simp; try with_reducible rfl)
                try simp only [Act.put, List.setIfInBounds_toArray, List.set_cons_zero, List.set_cons_succ]
                refine wpAnyH_take (i := 5) (oi := ({ dst := some 72, op := .fieldAddr 25 (.tmp 5) 0, type := 0, pos := "observer.go:39", after := #[], guard := none } : Oper)) (v := ?vt5_5_) rfl ostep14_plain (by as_aux_lemma => kernel_rfl) (by as_aux_lemma => kernel_rfl) (fun _ _ _ h => h) (Or.inl ⟨by rfl, ?yt5_5_⟩) HB ?rt5_5_
                case yt5_5_ => (intro w hSw; (try dsimp only at hSw); go_simp; try with_reducible rfl)
                try simp only [Act.put, List.setIfInBounds_toArray, List.set_cons_zero, List.set_cons_succ]
                refine wpAnyH_take (i := 6) (oi := ({ dst := some 73, op := .indexAddr 22 (.tmp 72) (.tmp 71), type := 0, pos := "observer.go:39", after := #[{ on := 5, ground := .data }, { on := 4, ground := .data }], guard := none } : Oper)) (v := ?vt5_6_) rfl ostep14_plain (by as_aux_lemma => kernel_rfl) (by as_aux_lemma => kernel_rfl) (fun _ _ _ h => h) (Or.inl ⟨by rfl, ?yt5_6_⟩) HB ?rt5_6_
                case yt5_6_ => (intro w hSw; (try dsimp only at hSw); go_simp; try with_reducible rfl)
                try simp only [Act.put, List.setIfInBounds_toArray, List.set_cons_zero, List.set_cons_succ]
                refine wpAnyH_take (i := 7) (oi := ({ dst := some 74, op := .load 2 (.tmp 73), type := 2, pos := "observer.go:39", after := #[{ on := 6, ground := .data }], guard := none } : Oper)) (v := ?vt5_7_) rfl ostep14_plain (by as_aux_lemma => kernel_rfl) (by as_aux_lemma => kernel_rfl) (fun _ _ _ h => h) (Or.inl ⟨by rfl, ?yt5_7_⟩) HB ?rt5_7_
                case yt5_7_ => (intro w hSw; (try dsimp only at hSw); go_simp; try with_reducible rfl)
                try simp only [Act.put, List.setIfInBounds_toArray, List.set_cons_zero, List.set_cons_succ]
                refine wpAnyH_ready (rs := [0, 8]) (by as_aux_lemma => kernel_rfl) (by simp) ?_
                refine AllReadyH.cons (o := ({ dst := some 67, op := .load 34 (.tmp 6), type := 34, pos := "observer.go:39", after := #[], guard := none } : Oper)) rfl (fun KK hK => ?_) (AllReadyH.cons (o := ({ dst := some 75, op := .call { callee := .value (.func 33), args := #[.tmp 70, .tmp 74], argTypes := #[2, 2] }, type := 32, pos := "observer.go:39", after := #[{ on := 3, ground := .data }, { on := 7, ground := .data }], guard := none } : Oper)) rfl (fun KK hK => ?_) AllReadyH.nil)
                · skip
                  rw [if_pos (by rfl)]
                  have ld0 := HK.at 1 rfl 0 (v := .int .i64 (r 1).vL) rfl
                  have ld1 := HK.at 1 rfl 1 (v := .int .i64 (r 1).vH) rfl
                  have ld2 := HK.at 1 rfl 2 (v := .int .i64 (r 1).bL) rfl
                  have ld3 := HK.at 1 rfl 3 (v := .int .i64 (r 1).bH) rfl
                  have ld4 := HK.at 1 rfl 4 (v := .bool (r 1).ref) rfl
                  go_simp
                  obtain ⟨w164, hX⟩ : ∃ x, x = w163 := ⟨_, rfl⟩
                  have hb : Below w163.heap.size w163 w164 := (show w163 = w164 from hX.symm) ▸ Below.refl _ _
                  rw [← hX]
                  clear hX ld0 ld1 ld2 ld3 ld4
                  refine hK.out _ _ ?_ (fun hHeld => ?_)
                  · exact kS _ _ HB hb
                  replace HB := hHeld; clear hHeld hK KK
                  replace HK := HK.keep hb
                  clear hb
                  try simp only [Act.put, List.setIfInBounds_toArray, List.set_cons_zero, List.set_cons_succ]
                  refine wpAnyH_ready (rs := [8]) (by as_aux_lemma => kernel_rfl) (by simp) ?_
                  refine AllReadyH.cons (o := ({ dst := some 75, op := .call { callee := .value (.func 33), args := #[.tmp 70, .tmp 74], argTypes := #[2, 2] }, type := 32, pos := "observer.go:39", after := #[{ on := 3, ground := .data }, { on := 7, ground := .data }], guard := none } : Oper)) rfl (fun KK hK => ?_) AllReadyH.nil
                  rw [if_pos (by rfl)]
                  go_simp
                  go_at_call 33; refine (A1.out _ HK.below).mono ?_; rintro e w165 ⟨rfl, hb⟩
                  go_wp2_with fail
                  refine hK.out _ _ ?_ (fun hHeld => ?_)
                  · exact kS _ _ HB hb
                  replace HB := hHeld; clear hHeld hK KK
                  replace HK := HK.keep hb
                  clear hb
                  try simp only [Act.put, List.setIfInBounds_toArray, List.set_cons_zero, List.set_cons_succ]
                  refine wpAnyH_ready (rs := [9]) (by as_aux_lemma => kernel_rfl) (by simp) ?_
                  refine AllReadyH.cons (o := ({ dst := some 76, op := .call { callee := .value (.func 34), args := #[.tmp 67, .tmp 75], argTypes := #[34, 32] }, type := 34, pos := "observer.go:39", after := #[{ on := 0, ground := .data }, { on := 8, ground := .data }, { on := 8, ground := .chain }], guard := none } : Oper)) rfl (fun KK hK => ?_) AllReadyH.nil
                  rw [if_pos (by rfl)]
                  go_simp
                  go_at_call 34; refine (S1.out _ HK.below).mono ?_; rintro e w166 ⟨rfl, hb⟩
                  go_wp2_with fail
                  refine hK.out _ _ ?_ (fun hHeld => ?_)
                  · exact kS _ _ HB hb
                  replace HB := hHeld; clear hHeld hK KK
                  replace HK := HK.keep hb
                  clear hb
                  try simp only [Act.put, List.setIfInBounds_toArray, List.set_cons_zero, List.set_cons_succ]
                  refine wpAnyH_ready (rs := [10]) (by as_aux_lemma => kernel_rfl) (by simp) ?_
                  refine AllReadyH.cons (o := ({ dst := none, op := .store 34 (.tmp 6) (.tmp 76), type := 0, pos := "observer.go:39", after := #[{ on := 9, ground := .data }, { on := 9, ground := .chain }, { on := 0, ground := .phase }, { on := 1, ground := .phase }, { on := 2, ground := .phase }, { on := 3, ground := .phase }, { on := 4, ground := .phase }, { on := 5, ground := .phase }, { on := 6, ground := .phase }, { on := 7, ground := .phase }, { on := 8, ground := .phase }, { on := 9, ground := .phase }], guard := none } : Oper)) rfl (fun KK hK => ?_) AllReadyH.nil
                  rw [if_pos (by rfl)]
                  obtain ⟨z1_0, l1_0, f1_0⟩ := HK.there 1 rfl 0 rfl
                  obtain ⟨z1_1, l1_1, f1_1⟩ := HK.there 1 rfl 1 rfl
                  obtain ⟨z1_2, l1_2, f1_2⟩ := HK.there 1 rfl 2 rfl
                  obtain ⟨z1_3, l1_3, f1_3⟩ := HK.there 1 rfl 3 rfl
                  obtain ⟨z1_4, l1_4, f1_4⟩ := HK.there 1 rfl 4 rfl
                  have N1 := nx _ HK
                  have HN := (s1_4 _ (.bool s1.ref) (s1_3 _ (.int .i64 s1.bH) (s1_2 _ (.int .i64 s1.bL) (s1_1 _ (.int .i64 s1.vH) (s1_0 _ (.int .i64 s1.vL) HB)))))
                  go_simp
                  obtain ⟨w167, hX⟩ : ∃ x, x = (((((w166.setCell ⟨w.heap.size + 1, 0, none⟩ (.int .i64 s1.vL)).setCell ⟨w.heap.size + 1, 1, none⟩ (.int .i64 s1.vH)).setCell ⟨w.heap.size + 1, 2, none⟩ (.int .i64 s1.bL)).setCell ⟨w.heap.size + 1, 3, none⟩ (.int .i64 s1.bH)).setCell ⟨w.heap.size + 1, 4, none⟩ (.bool s1.ref)) := ⟨_, rfl⟩
                  rw [← hX] at HN N1 ⊢
                  clear hX HK l1_0 f1_0 l1_1 f1_1 l1_2 f1_2 l1_3 f1_3 l1_4 f1_4
                  refine hK.out _ _ ?_ (fun hHeld => ?_)
                  · exact HN
                  replace HB := hHeld; clear hHeld hK KK HN
                  try simp only [Act.put]
                  refine wpAnyH_done (by as_aux_lemma => kernel_rfl) ?_ _
                  refine NoPanic.normal ?_
                  go_wp2_with fail
                  go_roundw
                  case rel => first | exact ⟨2, by omega, rfl, by rw [HE.out]; exact N1⟩ | ((repeat apply Exists.intro); exact ⟨⟨2, by omega, rfl, by rw [HE.out]; exact N1⟩, rfl⟩)
                  case measure => simp [intOf]
                · skip
                  rw [if_pos (by rfl)]
                  go_simp
                  go_at_call 33; refine (A1.out _ HK.below).mono ?_; rintro e w164 ⟨rfl, hb⟩
                  go_wp2_with fail
                  refine hK.out _ _ ?_ (fun hHeld => ?_)
                  · exact kS _ _ HB hb
                  replace HB := hHeld; clear hHeld hK KK
                  replace HK := HK.keep hb
                  clear hb
                  try simp only [Act.put, List.setIfInBounds_toArray, List.set_cons_zero, List.set_cons_succ]
                  refine wpAnyH_ready (rs := [0]) (by as_aux_lemma => kernel_rfl) (by simp) ?_
                  refine AllReadyH.cons (o := ({ dst := some 67, op := .load 34 (.tmp 6), type := 34, pos := "observer.go:39", after := #[], guard := none } : Oper)) rfl (fun KK hK => ?_) AllReadyH.nil
                  rw [if_pos (by rfl)]
                  have ld0 := HK.at 1 rfl 0 (v := .int .i64 (r 1).vL) rfl
                  have ld1 := HK.at 1 rfl 1 (v := .int .i64 (r 1).vH) rfl
                  have ld2 := HK.at 1 rfl 2 (v := .int .i64 (r 1).bL) rfl
                  have ld3 := HK.at 1 rfl 3 (v := .int .i64 (r 1).bH) rfl
                  have ld4 := HK.at 1 rfl 4 (v := .bool (r 1).ref) rfl
                  go_simp
                  obtain ⟨w165, hX⟩ : ∃ x, x = w164 := ⟨_, rfl⟩
                  have hb : Below w164.heap.size w164 w165 := (show w164 = w165 from hX.symm) ▸ Below.refl _ _
                  rw [← hX]
                  clear hX ld0 ld1 ld2 ld3 ld4
                  refine hK.out _ _ ?_ (fun hHeld => ?_)
                  · exact kS _ _ HB hb
                  replace HB := hHeld; clear hHeld hK KK
                  replace HK := HK.keep hb
                  clear hb
                  try simp only [Act.put, List.setIfInBounds_toArray, List.set_cons_zero, List.set_cons_succ]
                  refine wpAnyH_ready (rs := [9]) (by as_aux_lemma => kernel_rfl) (by simp) ?_
                  refine AllReadyH.cons (o := ({ dst := some 76, op := .call { callee := .value (.func 34), args := #[.tmp 67, .tmp 75], argTypes := #[34, 32] }, type := 34, pos := "observer.go:39", after := #[{ on := 0, ground := .data }, { on := 8, ground := .data }, { on := 8, ground := .chain }], guard := none } : Oper)) rfl (fun KK hK => ?_) AllReadyH.nil
                  rw [if_pos (by rfl)]
                  go_simp
                  go_at_call 34; refine (S1.out _ HK.below).mono ?_; rintro e w166 ⟨rfl, hb⟩
                  go_wp2_with fail
                  refine hK.out _ _ ?_ (fun hHeld => ?_)
                  · exact kS _ _ HB hb
                  replace HB := hHeld; clear hHeld hK KK
                  replace HK := HK.keep hb
                  clear hb
                  try simp only [Act.put, List.setIfInBounds_toArray, List.set_cons_zero, List.set_cons_succ]
                  refine wpAnyH_ready (rs := [10]) (by as_aux_lemma => kernel_rfl) (by simp) ?_
                  refine AllReadyH.cons (o := ({ dst := none, op := .store 34 (.tmp 6) (.tmp 76), type := 0, pos := "observer.go:39", after := #[{ on := 9, ground := .data }, { on := 9, ground := .chain }, { on := 0, ground := .phase }, { on := 1, ground := .phase }, { on := 2, ground := .phase }, { on := 3, ground := .phase }, { on := 4, ground := .phase }, { on := 5, ground := .phase }, { on := 6, ground := .phase }, { on := 7, ground := .phase }, { on := 8, ground := .phase }, { on := 9, ground := .phase }], guard := none } : Oper)) rfl (fun KK hK => ?_) AllReadyH.nil
                  rw [if_pos (by rfl)]
                  obtain ⟨z1_0, l1_0, f1_0⟩ := HK.there 1 rfl 0 rfl
                  obtain ⟨z1_1, l1_1, f1_1⟩ := HK.there 1 rfl 1 rfl
                  obtain ⟨z1_2, l1_2, f1_2⟩ := HK.there 1 rfl 2 rfl
                  obtain ⟨z1_3, l1_3, f1_3⟩ := HK.there 1 rfl 3 rfl
                  obtain ⟨z1_4, l1_4, f1_4⟩ := HK.there 1 rfl 4 rfl
                  have N1 := nx _ HK
                  have HN := (s1_4 _ (.bool s1.ref) (s1_3 _ (.int .i64 s1.bH) (s1_2 _ (.int .i64 s1.bL) (s1_1 _ (.int .i64 s1.vH) (s1_0 _ (.int .i64 s1.vL) HB)))))
                  go_simp
                  obtain ⟨w167, hX⟩ : ∃ x, x = (((((w166.setCell ⟨w.heap.size + 1, 0, none⟩ (.int .i64 s1.vL)).setCell ⟨w.heap.size + 1, 1, none⟩ (.int .i64 s1.vH)).setCell ⟨w.heap.size + 1, 2, none⟩ (.int .i64 s1.bL)).setCell ⟨w.heap.size + 1, 3, none⟩ (.int .i64 s1.bH)).setCell ⟨w.heap.size + 1, 4, none⟩ (.bool s1.ref)) := ⟨_, rfl⟩
                  rw [← hX] at HN N1 ⊢
                  clear hX HK l1_0 f1_0 l1_1 f1_1 l1_2 f1_2 l1_3 f1_3 l1_4 f1_4
                  refine hK.out _ _ ?_ (fun hHeld => ?_)
                  · exact HN
                  replace HB := hHeld; clear hHeld hK KK HN
                  try simp only [Act.put]
                  refine wpAnyH_done (by as_aux_lemma => kernel_rfl) ?_ _
                  refine NoPanic.normal ?_
                  go_wp2_with fail
                  go_roundw
                  case rel => first | exact ⟨2, by omega, rfl, by rw [HE.out]; exact N1⟩ | ((repeat apply Exists.intro); exact ⟨⟨2, by omega, rfl, by rw [HE.out]; exact N1⟩, rfl⟩)
                  case measure => simp [intOf]
              · rw [cc] at kb
                have HC0 := Lib.hid cc
                clear cc
                have e1 : r 2 = r 1 := Rf1.out (fun h => by rw [HC0.out] at h; exact absurd h.2.2 (by decide))
                have HE := Lib.hid e1
                clear e1
                have HN := HS9.out
                go_wp2_with fail
                go_roundw
                case rel => first | exact ⟨2, by omega, rfl, by rw [HE.out]; exact HN⟩ | ((repeat apply Exists.intro); exact ⟨⟨2, by omega, rfl, by rw [HE.out]; exact HN⟩, rfl⟩)
                case measure => simp [intOf]
          · rw [ct] at kt
            have HT0 := Lib.hid ct
            clear ct
            have e1 : r 2 = r 1 := Rf1.out (fun h => by rw [HT0.out] at h; exact absurd h.1 (by decide))
            have HE := Lib.hid e1
            clear e1
            have HN := HS9.out
            go_wp2_with fail
            go_roundw
            case rel => first | exact ⟨2, by omega, rfl, by rw [HE.out]; exact HN⟩ | ((repeat apply Exists.intro); exact ⟨⟨2, by omega, rfl, by rw [HE.out]; exact HN⟩, rfl⟩)
            case measure => simp [intOf]
        · skip
          have HS10 := Lib.hid hS
          clear hS hj
          have kt := (HS10.out).at 3 rfl 2 (v := .bool t2) rfl
          have kb := (HS10.out).at 0 rfl 5 (v := .bool a.b2) rfl
          rcases Bool.eq_false_or_eq_true t2 with ct | ct
          · rw [ct] at kt
            by_cases cb : bad = 2
            · subst cb
              clear ct
              have e1 : r 3 = r 2 := Rf2.out (fun h => absurd rfl h.2.1)
              have HE := Lib.hid e1
              clear e1
              have HN := HS10.out
              go_wp2_with fail
              go_roundw
              case rel => first | exact ⟨3, by omega, rfl, by rw [HE.out]; exact HN⟩ | ((repeat apply Exists.intro); exact ⟨⟨3, by omega, rfl, by rw [HE.out]; exact HN⟩, rfl⟩)
              case measure => simp [intOf]
            · have HB0 := Lib.hid cb
              have d0 : ((2 : Int) == bad) = false := by simpa using Ne.symm cb
              have d1 : (bad == (2 : Int)) = false := by simpa using cb
              have d2 : ¬ (2 : Int) = bad := Ne.symm cb
              have HT0 := Lib.hid ct
              clear ct
              rcases Bool.eq_false_or_eq_true a.b2 with cc | cc
              · rw [cc] at kb
                have HC0 := Lib.hid cc
                clear cc
                have e1 := Rt2.out HT0.out HB0.out HC0.out
                have HE := Lib.hid e1
                clear e1
                go_upto_region 14 with fail
                clear kt kb d0 d1 d2
                obtain ⟨w202, hX, HK⟩ := (HS10.out).named
                rw [← hX]
                clear hX
                have hT := (((((HK).forget 1 rfl 0).forget 1 rfl 1).forget 1 rfl 2).forget 1 rfl 3).forget 1 rfl 4
                obtain ⟨bs6, hbs⟩ : ∃ bs : List (Nat × List (Option Value)), bs = [(w.heap.size, [some (.int .i64 a.e0), some (.int .i64 a.e1), some (.int .i64 a.e2), some (.bool a.b0), some (.bool a.b1), some (.bool a.b2), some (.int .i64 a.bias), some (.int .i64 a.change), some (.int .i64 a.move), some (.int .i64 a.most)]), (w.heap.size + 1, [none, none, none, none, none]), (w.heap.size + 1 + 1, [some (.int .i64 x0), some (.int .i64 x1), some (.int .i64 x2)]), (w.heap.size + 1 + 1 + 1, [some (.bool t0), some (.bool t1), some (.bool t2)]), (w.heap.size + 1 + 1 + 1 + 1, [some (.int .i64 0), some (.int .i64 0), some (.int .i64 0), some (.int .i64 0), some (.bool false)])] := ⟨_, rfl⟩
                replace hT : Sp w bs6 w202 := hbs ▸ hT
                have c2_2 : ∀ w', Sp w bs6 w' → w'.cell? ⟨w.heap.size + 1 + 1, 2, none⟩ = some (.int .i64 x2) := by rw [hbs]; exact fun w' h => h.at 2 rfl 2 rfl
                have c0_2 : ∀ w', Sp w bs6 w' → w'.cell? ⟨w.heap.size, 2, none⟩ = some (.int .i64 a.e2) := by rw [hbs]; exact fun w' h => h.at 0 rfl 2 rfl
                have kS : ∀ w1 w2, Sp w bs6 w1 → Below w1.heap.size w1 w2 → Sp w bs6 w2 := fun _ _ h hb => h.keep hb
                have s1_0 : ∀ w' z, Sp w bs6 w' → Sp w bs6 (w'.setCell ⟨w.heap.size + 1, 0, none⟩ z) := by rw [hbs]; exact fun w' z h => h.hit 1 rfl 0 rfl z
                have s1_1 : ∀ w' z, Sp w bs6 w' → Sp w bs6 (w'.setCell ⟨w.heap.size + 1, 1, none⟩ z) := by rw [hbs]; exact fun w' z h => h.hit 1 rfl 1 rfl z
                have s1_2 : ∀ w' z, Sp w bs6 w' → Sp w bs6 (w'.setCell ⟨w.heap.size + 1, 2, none⟩ z) := by rw [hbs]; exact fun w' z h => h.hit 1 rfl 2 rfl z
                have s1_3 : ∀ w' z, Sp w bs6 w' → Sp w bs6 (w'.setCell ⟨w.heap.size + 1, 3, none⟩ z) := by rw [hbs]; exact fun w' z h => h.hit 1 rfl 3 rfl z
                have s1_4 : ∀ w' z, Sp w bs6 w' → Sp w bs6 (w'.setCell ⟨w.heap.size + 1, 4, none⟩ z) := by rw [hbs]; exact fun w' z h => h.hit 1 rfl 4 rfl z
                have nx : ∀ w', Sp w [(w.heap.size, [some (.int .i64 a.e0), some (.int .i64 a.e1), some (.int .i64 a.e2), some (.bool a.b0), some (.bool a.b1), some (.bool a.b2), some (.int .i64 a.bias), some (.int .i64 a.change), some (.int .i64 a.move), some (.int .i64 a.most)]), (w.heap.size + 1, [some (.int .i64 (r 2).vL), some (.int .i64 (r 2).vH), some (.int .i64 (r 2).bL), some (.int .i64 (r 2).bH), some (.bool (r 2).ref)]), (w.heap.size + 1 + 1, [some (.int .i64 x0), some (.int .i64 x1), some (.int .i64 x2)]), (w.heap.size + 1 + 1 + 1, [some (.bool t0), some (.bool t1), some (.bool t2)]), (w.heap.size + 1 + 1 + 1 + 1, [some (.int .i64 0), some (.int .i64 0), some (.int .i64 0), some (.int .i64 0), some (.bool false)])] w' → Sp w [(w.heap.size, [some (.int .i64 a.e0), some (.int .i64 a.e1), some (.int .i64 a.e2), some (.bool a.b0), some (.bool a.b1), some (.bool a.b2), some (.int .i64 a.bias), some (.int .i64 a.change), some (.int .i64 a.move), some (.int .i64 a.most)]), (w.heap.size + 1, [some (.int .i64 s2.vL), some (.int .i64 s2.vH), some (.int .i64 s2.bL), some (.int .i64 s2.bH), some (.bool s2.ref)]), (w.heap.size + 1 + 1, [some (.int .i64 x0), some (.int .i64 x1), some (.int .i64 x2)]), (w.heap.size + 1 + 1 + 1, [some (.bool t0), some (.bool t1), some (.bool t2)]), (w.heap.size + 1 + 1 + 1 + 1, [some (.int .i64 0), some (.int .i64 0), some (.int .i64 0), some (.int .i64 0), some (.bool false)])] (((((w'.setCell ⟨w.heap.size + 1, 0, none⟩ (.int .i64 s2.vL)).setCell ⟨w.heap.size + 1, 1, none⟩ (.int .i64 s2.vH)).setCell ⟨w.heap.size + 1, 2, none⟩ (.int .i64 s2.bL)).setCell ⟨w.heap.size + 1, 3, none⟩ (.int .i64 s2.bH)).setCell ⟨w.heap.size + 1, 4, none⟩ (.bool s2.ref)) := fun w' h => (((((h.put 1 rfl 0 _).put 1 rfl 1 _).put 1 rfl 2 _).put 1 rfl 3 _).put 1 rfl 4 _)
                clear hbs HS10
                change (Code.region 14 ostep14 true).wp Tryd.prog _ _ _
                refine wp_region_noPanic ?_
                refine wp_region_held_drew (S := (Sp w bs6)) (by kernel_rfl) (hT.drew) (fun hHeld => ?_)
                obtain ⟨w203, hX⟩ : ∃ x, x = w202.drew := ⟨_, rfl⟩
                have hb : Below w202.heap.size w202 w203 := hX ▸ (Below.refl _ _).drew
                rw [← hX] at hHeld ⊢
                have HB := hHeld; clear hHeld
                replace HK := HK.keep hb
                clear hb hX
                refine wpAnyH_take (i := 1) (oi := ({ dst := some 68, op := .move (.tmp 12), type := 3, pos := "observer.go:39", after := #[], guard := none } : Oper)) (v := ?vt6_1_) rfl ostep14_plain (by as_aux_lemma => kernel_rfl) (by as_aux_lemma => kernel_rfl) (fun _ _ _ h => h) (Or.inl ⟨by rfl, ?yt6_1_⟩) HB ?rt6_1_
                case yt6_1_ => (intro w hSw; (try dsimp only at hSw); go_simp; try with_reducible rfl)
                try simp only [Act.put, List.setIfInBounds_toArray, List.set_cons_zero, List.set_cons_succ]
                refine wpAnyH_take (i := 2) (oi := ({ dst := some 69, op := .indexAddr 22 (.tmp 8) (.tmp 68), type := 0, pos := "observer.go:39", after := #[{ on := 1, ground := .data }], guard := none } : Oper)) (v := ?vt6_2_) rfl ostep14_plain (by as_aux_lemma => kernel_rfl) (by as_aux_lemma => kernel_rfl) (fun _ _ _ h => h) (Or.inl ⟨by rfl, ?yt6_2_⟩) HB ?rt6_2_
                case yt6_2_ => (intro w hSw; (try dsimp only at hSw); go_simp; try with_reducible rfl)
                try simp only [Act.put, List.setIfInBounds_toArray, List.set_cons_zero, List.set_cons_succ]
                refine wpAnyH_take (i := 3) (oi := ({ dst := some 70, op := .load 2 (.tmp 69), type := 2, pos := "observer.go:39", after := #[{ on := 2, ground := .data }], guard := none } : Oper)) (v := ?vt6_3_) rfl ostep14_plain (by as_aux_lemma => kernel_rfl) (by as_aux_lemma => kernel_rfl) (fun _ _ _ h => h) (Or.inl ⟨by rfl, ?yt6_3_⟩) HB ?rt6_3_
                case yt6_3_ => (intro w hSw; (try dsimp only at hSw); go_simp; try with_reducible rfl)
                try simp only [Act.put, List.setIfInBounds_toArray, List.set_cons_zero, List.set_cons_succ]
                refine wpAnyH_take (i := 4) (oi := ({ dst := some 71, op := .move (.tmp 12), type := 3, pos := "observer.go:39", after := #[], guard := none } : Oper)) (v := ?vt6_4_) rfl ostep14_plain (by as_aux_lemma => kernel_rfl) (by as_aux_lemma => kernel_rfl) (fun _ _ _ h => h) (Or.inl ⟨by rfl, ?yt6_4_⟩) HB ?rt6_4_
                case yt6_4_ => (intro w hSw; (try dsimp only at hSw); go_simp; try with_reducible rfl)
                try simp only [Act.put, List.setIfInBounds_toArray, List.set_cons_zero, List.set_cons_succ]
                refine wpAnyH_take (i := 5) (oi := ({ dst := some 72, op := .fieldAddr 25 (.tmp 5) 0, type := 0, pos := "observer.go:39", after := #[], guard := none } : Oper)) (v := ?vt6_5_) rfl ostep14_plain (by as_aux_lemma => kernel_rfl) (by as_aux_lemma => kernel_rfl) (fun _ _ _ h => h) (Or.inl ⟨by rfl, ?yt6_5_⟩) HB ?rt6_5_
                case yt6_5_ => (intro w hSw; (try dsimp only at hSw); go_simp; try with_reducible rfl)
                try simp only [Act.put, List.setIfInBounds_toArray, List.set_cons_zero, List.set_cons_succ]
                refine wpAnyH_take (i := 6) (oi := ({ dst := some 73, op := .indexAddr 22 (.tmp 72) (.tmp 71), type := 0, pos := "observer.go:39", after := #[{ on := 5, ground := .data }, { on := 4, ground := .data }], guard := none } : Oper)) (v := ?vt6_6_) rfl ostep14_plain (by as_aux_lemma => kernel_rfl) (by as_aux_lemma => kernel_rfl) (fun _ _ _ h => h) (Or.inl ⟨by rfl, ?yt6_6_⟩) HB ?rt6_6_
                case yt6_6_ => (intro w hSw; (try dsimp only at hSw); go_simp; try with_reducible rfl)
                try simp only [Act.put, List.setIfInBounds_toArray, List.set_cons_zero, List.set_cons_succ]
                refine wpAnyH_take (i := 7) (oi := ({ dst := some 74, op := .load 2 (.tmp 73), type := 2, pos := "observer.go:39", after := #[{ on := 6, ground := .data }], guard := none } : Oper)) (v := ?vt6_7_) rfl ostep14_plain (by as_aux_lemma => kernel_rfl) (by as_aux_lemma => kernel_rfl) (fun _ _ _ h => h) (Or.inl ⟨by rfl, ?yt6_7_⟩) HB ?rt6_7_
                case yt6_7_ => (intro w hSw; (try dsimp only at hSw); go_simp; try with_reducible rfl)
                try simp only [Act.put, List.setIfInBounds_toArray, List.set_cons_zero, List.set_cons_succ]
                refine wpAnyH_ready (rs := [0, 8]) (by as_aux_lemma => kernel_rfl) (by simp) ?_
                refine AllReadyH.cons (o := ({ dst := some 67, op := .load 34 (.tmp 6), type := 34, pos := "observer.go:39", after := #[], guard := none } : Oper)) rfl (fun KK hK => ?_) (AllReadyH.cons (o := ({ dst := some 75, op := .call { callee := .value (.func 33), args := #[.tmp 70, .tmp 74], argTypes := #[2, 2] }, type := 32, pos := "observer.go:39", after := #[{ on := 3, ground := .data }, { on := 7, ground := .data }], guard := none } : Oper)) rfl (fun KK hK => ?_) AllReadyH.nil)
                · skip
                  rw [if_pos (by rfl)]
                  have ld0 := HK.at 1 rfl 0 (v := .int .i64 (r 2).vL) rfl
                  have ld1 := HK.at 1 rfl 1 (v := .int .i64 (r 2).vH) rfl
                  have ld2 := HK.at 1 rfl 2 (v := .int .i64 (r 2).bL) rfl
                  have ld3 := HK.at 1 rfl 3 (v := .int .i64 (r 2).bH) rfl
                  have ld4 := HK.at 1 rfl 4 (v := .bool (r 2).ref) rfl
                  go_simp
                  obtain ⟨w204, hX⟩ : ∃ x, x = w203 := ⟨_, rfl⟩
                  have hb : Below w203.heap.size w203 w204 := (show w203 = w204 from hX.symm) ▸ Below.refl _ _
                  rw [← hX]
                  clear hX ld0 ld1 ld2 ld3 ld4
                  refine hK.out _ _ ?_ (fun hHeld => ?_)
                  · exact kS _ _ HB hb
                  replace HB := hHeld; clear hHeld hK KK
                  replace HK := HK.keep hb
                  clear hb
                  try simp only [Act.put, List.setIfInBounds_toArray, List.set_cons_zero, List.set_cons_succ]
                  refine wpAnyH_ready (rs := [8]) (by as_aux_lemma => kernel_rfl) (by simp) ?_
                  refine AllReadyH.cons (o := ({ dst := some 75, op := .call { callee := .value (.func 33), args := #[.tmp 70, .tmp 74], argTypes := #[2, 2] }, type := 32, pos := "observer.go:39", after := #[{ on := 3, ground := .data }, { on := 7, ground := .data }], guard := none } : Oper)) rfl (fun KK hK => ?_) AllReadyH.nil
                  rw [if_pos (by rfl)]
                  go_simp
                  go_at_call 33; refine (A2.out _ HK.below).mono ?_; rintro e w205 ⟨rfl, hb⟩
                  go_wp2_with fail
                  refine hK.out _ _ ?_ (fun hHeld => ?_)
                  · exact kS _ _ HB hb
                  replace HB := hHeld; clear hHeld hK KK
                  replace HK := HK.keep hb
                  clear hb
                  try simp only [Act.put, List.setIfInBounds_toArray, List.set_cons_zero, List.set_cons_succ]
                  refine wpAnyH_ready (rs := [9]) (by as_aux_lemma => kernel_rfl) (by simp) ?_
                  refine AllReadyH.cons (o := ({ dst := some 76, op := .call { callee := .value (.func 34), args := #[.tmp 67, .tmp 75], argTypes := #[34, 32] }, type := 34, pos := "observer.go:39", after := #[{ on := 0, ground := .data }, { on := 8, ground := .data }, { on := 8, ground := .chain }], guard := none } : Oper)) rfl (fun KK hK => ?_) AllReadyH.nil
                  rw [if_pos (by rfl)]
                  go_simp
                  go_at_call 34; refine (S2.out _ HK.below).mono ?_; rintro e w206 ⟨rfl, hb⟩
                  go_wp2_with fail
                  refine hK.out _ _ ?_ (fun hHeld => ?_)
                  · exact kS _ _ HB hb
                  replace HB := hHeld; clear hHeld hK KK
                  replace HK := HK.keep hb
                  clear hb
                  try simp only [Act.put, List.setIfInBounds_toArray, List.set_cons_zero, List.set_cons_succ]
                  refine wpAnyH_ready (rs := [10]) (by as_aux_lemma => kernel_rfl) (by simp) ?_
                  refine AllReadyH.cons (o := ({ dst := none, op := .store 34 (.tmp 6) (.tmp 76), type := 0, pos := "observer.go:39", after := #[{ on := 9, ground := .data }, { on := 9, ground := .chain }, { on := 0, ground := .phase }, { on := 1, ground := .phase }, { on := 2, ground := .phase }, { on := 3, ground := .phase }, { on := 4, ground := .phase }, { on := 5, ground := .phase }, { on := 6, ground := .phase }, { on := 7, ground := .phase }, { on := 8, ground := .phase }, { on := 9, ground := .phase }], guard := none } : Oper)) rfl (fun KK hK => ?_) AllReadyH.nil
                  rw [if_pos (by rfl)]
                  obtain ⟨z1_0, l1_0, f1_0⟩ := HK.there 1 rfl 0 rfl
                  obtain ⟨z1_1, l1_1, f1_1⟩ := HK.there 1 rfl 1 rfl
                  obtain ⟨z1_2, l1_2, f1_2⟩ := HK.there 1 rfl 2 rfl
                  obtain ⟨z1_3, l1_3, f1_3⟩ := HK.there 1 rfl 3 rfl
                  obtain ⟨z1_4, l1_4, f1_4⟩ := HK.there 1 rfl 4 rfl
                  have N1 := nx _ HK
                  have HN := (s1_4 _ (.bool s2.ref) (s1_3 _ (.int .i64 s2.bH) (s1_2 _ (.int .i64 s2.bL) (s1_1 _ (.int .i64 s2.vH) (s1_0 _ (.int .i64 s2.vL) HB)))))
                  go_simp
                  obtain ⟨w207, hX⟩ : ∃ x, x = (((((w206.setCell ⟨w.heap.size + 1, 0, none⟩ (.int .i64 s2.vL)).setCell ⟨w.heap.size + 1, 1, none⟩ (.int .i64 s2.vH)).setCell ⟨w.heap.size + 1, 2, none⟩ (.int .i64 s2.bL)).setCell ⟨w.heap.size + 1, 3, none⟩ (.int .i64 s2.bH)).setCell ⟨w.heap.size + 1, 4, none⟩ (.bool s2.ref)) := ⟨_, rfl⟩
                  rw [← hX] at HN N1 ⊢
                  clear hX HK l1_0 f1_0 l1_1 f1_1 l1_2 f1_2 l1_3 f1_3 l1_4 f1_4
                  refine hK.out _ _ ?_ (fun hHeld => ?_)
                  · exact HN
                  replace HB := hHeld; clear hHeld hK KK HN
                  try simp only [Act.put]
                  refine wpAnyH_done (by as_aux_lemma => kernel_rfl) ?_ _
                  refine NoPanic.normal ?_
                  go_wp2_with fail
                  go_roundw
                  case rel => first | exact ⟨3, by omega, rfl, by rw [HE.out]; exact N1⟩ | ((repeat apply Exists.intro); exact ⟨⟨3, by omega, rfl, by rw [HE.out]; exact N1⟩, rfl⟩)
                  case measure => simp [intOf]
                · skip
                  rw [if_pos (by rfl)]
                  go_simp
                  go_at_call 33; refine (A2.out _ HK.below).mono ?_; rintro e w204 ⟨rfl, hb⟩
                  go_wp2_with fail
                  refine hK.out _ _ ?_ (fun hHeld => ?_)
                  · exact kS _ _ HB hb
                  replace HB := hHeld; clear hHeld hK KK
                  replace HK := HK.keep hb
                  clear hb
                  try simp only [Act.put, List.setIfInBounds_toArray, List.set_cons_zero, List.set_cons_succ]
                  refine wpAnyH_ready (rs := [0]) (by as_aux_lemma => kernel_rfl) (by simp) ?_
                  refine AllReadyH.cons (o := ({ dst := some 67, op := .load 34 (.tmp 6), type := 34, pos := "observer.go:39", after := #[], guard := none } : Oper)) rfl (fun KK hK => ?_) AllReadyH.nil
                  rw [if_pos (by rfl)]
                  have ld0 := HK.at 1 rfl 0 (v := .int .i64 (r 2).vL) rfl
                  have ld1 := HK.at 1 rfl 1 (v := .int .i64 (r 2).vH) rfl
                  have ld2 := HK.at 1 rfl 2 (v := .int .i64 (r 2).bL) rfl
                  have ld3 := HK.at 1 rfl 3 (v := .int .i64 (r 2).bH) rfl
                  have ld4 := HK.at 1 rfl 4 (v := .bool (r 2).ref) rfl
                  go_simp
                  obtain ⟨w205, hX⟩ : ∃ x, x = w204 := ⟨_, rfl⟩
                  have hb : Below w204.heap.size w204 w205 := (show w204 = w205 from hX.symm) ▸ Below.refl _ _
                  rw [← hX]
                  clear hX ld0 ld1 ld2 ld3 ld4
                  refine hK.out _ _ ?_ (fun hHeld => ?_)
                  · exact kS _ _ HB hb
                  replace HB := hHeld; clear hHeld hK KK
                  replace HK := HK.keep hb
                  clear hb
                  try simp only [Act.put, List.setIfInBounds_toArray, List.set_cons_zero, List.set_cons_succ]
                  refine wpAnyH_ready (rs := [9]) (by as_aux_lemma => kernel_rfl) (by simp) ?_
                  refine AllReadyH.cons (o := ({ dst := some 76, op := .call { callee := .value (.func 34), args := #[.tmp 67, .tmp 75], argTypes := #[34, 32] }, type := 34, pos := "observer.go:39", after := #[{ on := 0, ground := .data }, { on := 8, ground := .data }, { on := 8, ground := .chain }], guard := none } : Oper)) rfl (fun KK hK => ?_) AllReadyH.nil
                  rw [if_pos (by rfl)]
                  go_simp
                  go_at_call 34; refine (S2.out _ HK.below).mono ?_; rintro e w206 ⟨rfl, hb⟩
                  go_wp2_with fail
                  refine hK.out _ _ ?_ (fun hHeld => ?_)
                  · exact kS _ _ HB hb
                  replace HB := hHeld; clear hHeld hK KK
                  replace HK := HK.keep hb
                  clear hb
                  try simp only [Act.put, List.setIfInBounds_toArray, List.set_cons_zero, List.set_cons_succ]
                  refine wpAnyH_ready (rs := [10]) (by as_aux_lemma => kernel_rfl) (by simp) ?_
                  refine AllReadyH.cons (o := ({ dst := none, op := .store 34 (.tmp 6) (.tmp 76), type := 0, pos := "observer.go:39", after := #[{ on := 9, ground := .data }, { on := 9, ground := .chain }, { on := 0, ground := .phase }, { on := 1, ground := .phase }, { on := 2, ground := .phase }, { on := 3, ground := .phase }, { on := 4, ground := .phase }, { on := 5, ground := .phase }, { on := 6, ground := .phase }, { on := 7, ground := .phase }, { on := 8, ground := .phase }, { on := 9, ground := .phase }], guard := none } : Oper)) rfl (fun KK hK => ?_) AllReadyH.nil
                  rw [if_pos (by rfl)]
                  obtain ⟨z1_0, l1_0, f1_0⟩ := HK.there 1 rfl 0 rfl
                  obtain ⟨z1_1, l1_1, f1_1⟩ := HK.there 1 rfl 1 rfl
                  obtain ⟨z1_2, l1_2, f1_2⟩ := HK.there 1 rfl 2 rfl
                  obtain ⟨z1_3, l1_3, f1_3⟩ := HK.there 1 rfl 3 rfl
                  obtain ⟨z1_4, l1_4, f1_4⟩ := HK.there 1 rfl 4 rfl
                  have N1 := nx _ HK
                  have HN := (s1_4 _ (.bool s2.ref) (s1_3 _ (.int .i64 s2.bH) (s1_2 _ (.int .i64 s2.bL) (s1_1 _ (.int .i64 s2.vH) (s1_0 _ (.int .i64 s2.vL) HB)))))
                  go_simp
                  obtain ⟨w207, hX⟩ : ∃ x, x = (((((w206.setCell ⟨w.heap.size + 1, 0, none⟩ (.int .i64 s2.vL)).setCell ⟨w.heap.size + 1, 1, none⟩ (.int .i64 s2.vH)).setCell ⟨w.heap.size + 1, 2, none⟩ (.int .i64 s2.bL)).setCell ⟨w.heap.size + 1, 3, none⟩ (.int .i64 s2.bH)).setCell ⟨w.heap.size + 1, 4, none⟩ (.bool s2.ref)) := ⟨_, rfl⟩
                  rw [← hX] at HN N1 ⊢
                  clear hX HK l1_0 f1_0 l1_1 f1_1 l1_2 f1_2 l1_3 f1_3 l1_4 f1_4
                  refine hK.out _ _ ?_ (fun hHeld => ?_)
                  · exact HN
                  replace HB := hHeld; clear hHeld hK KK HN
                  try simp only [Act.put]
                  refine wpAnyH_done (by as_aux_lemma => kernel_rfl) ?_ _
                  refine NoPanic.normal ?_
                  go_wp2_with fail
                  go_roundw
                  case rel => first | exact ⟨3, by omega, rfl, by rw [HE.out]; exact N1⟩ | ((repeat apply Exists.intro); exact ⟨⟨3, by omega, rfl, by rw [HE.out]; exact N1⟩, rfl⟩)
                  case measure => simp [intOf]
              · rw [cc] at kb
                have HC0 := Lib.hid cc
                clear cc
                have e1 : r 3 = r 2 := Rf2.out (fun h => by rw [HC0.out] at h; exact absurd h.2.2 (by decide))
                have HE := Lib.hid e1
                clear e1
                have HN := HS10.out
                go_wp2_with fail
                go_roundw
                case rel => first | exact ⟨3, by omega, rfl, by rw [HE.out]; exact HN⟩ | ((repeat apply Exists.intro); exact ⟨⟨3, by omega, rfl, by rw [HE.out]; exact HN⟩, rfl⟩)
                case measure => simp [intOf]
          · rw [ct] at kt
            have HT0 := Lib.hid ct
            clear ct
            have e1 : r 3 = r 2 := Rf2.out (fun h => by rw [HT0.out] at h; exact absurd h.1 (by decide))
            have HE := Lib.hid e1
            clear e1
            have HN := HS10.out
            go_wp2_with fail
            go_roundw
            case rel => first | exact ⟨3, by omega, rfl, by rw [HE.out]; exact HN⟩ | ((repeat apply Exists.intro); exact ⟨⟨3, by omega, rfl, by rw [HE.out]; exact HN⟩, rfl⟩)
            case measure => simp [intOf]
        · skip
          have HS11 := Lib.hid hS
          clear hS hj
          clear Rt0 Rf0 Rt1 Rf1 Rt2 Rf2
          clear A0 A1 A2 M0 M1 M2 S0 S1 S2
          have v1_0 := (HS11.out).at 1 rfl 0 (v := .int .i64 (r 3).vL) rfl
          have v1_1 := (HS11.out).at 1 rfl 1 (v := .int .i64 (r 3).vH) rfl
          have v1_2 := (HS11.out).at 1 rfl 2 (v := .int .i64 (r 3).bL) rfl
          have v1_3 := (HS11.out).at 1 rfl 3 (v := .int .i64 (r 3).bH) rfl
          have v1_4 := (HS11.out).at 1 rfl 4 (v := .bool (r 3).ref) rfl
          rcases Bool.eq_false_or_eq_true E1 with c1 | c1
          · have hz := Zt.out (Or.inl c1)
            rw [c1] at EV
            have HZ := Lib.hid hz
            clear hz c1 Zt Zf EB
            go_wp2_with fail
            refine (EV.out _ HS11.out.below).mono ?_; rintro e w242 ⟨rfl, hb242⟩
            have hS12 := (HS11.out).keep hb242
            have HS12 := Lib.hid hS12
            clear hS12 HS11
            clear hb242
            have r4_0 := (HS12.out).at 4 rfl 0 (v := .int .i64 0) rfl
            have r4_1 := (HS12.out).at 4 rfl 1 (v := .int .i64 0) rfl
            have r4_2 := (HS12.out).at 4 rfl 2 (v := .int .i64 0) rfl
            have r4_3 := (HS12.out).at 4 rfl 3 (v := .int .i64 0) rfl
            have r4_4 := (HS12.out).at 4 rfl 4 (v := .bool false) rfl
            have rf4_0 := (HS12.out).free 4 rfl 0 rfl
            have rf4_1 := (HS12.out).free 4 rfl 1 rfl
            have rf4_2 := (HS12.out).free 4 rfl 2 rfl
            have rf4_3 := (HS12.out).free 4 rfl 3 rfl
            have rf4_4 := (HS12.out).free 4 rfl 4 rfl
            have BH := Lib.hid HS12.out.below
            clear HS12
            go_wp2_with fail
            refine bodyPost_ret (v := .agg #[.int .i64 0, .int .i64 0, .int .i64 0, .int .i64 0, .bool true]) (by simp [results, Tryd.results23, go_sem, *]) rfl ⟨by rw [HZ.out], ?_⟩
            iterate 5 refine Below.setCell (p := ⟨w.heap.size + 1 + 1 + 1 + 1, _, none⟩) ?_ (show w.heap.size ≤ w.heap.size + 1 + 1 + 1 + 1 by omega) _
            exact BH.out
          · rcases Bool.eq_false_or_eq_true E2 with c2 | c2
            · have hz := Zt.out (Or.inr c2)
              rw [c1] at EV
              rw [c2] at EB
              have HZ := Lib.hid hz
              clear hz c1 c2 Zt Zf
              go_wp2_with fail
              refine (EV.out _ HS11.out.below).mono ?_; rintro e w243 ⟨rfl, hb243⟩
              have hS12 := (HS11.out).keep hb243
              have HS12 := Lib.hid hS12
              clear hS12 HS11
              clear hb243
              clear v1_0 v1_1 v1_2 v1_3 v1_4
              have v1_0 := (HS12.out).at 1 rfl 0 (v := .int .i64 (r 3).vL) rfl
              have v1_1 := (HS12.out).at 1 rfl 1 (v := .int .i64 (r 3).vH) rfl
              have v1_2 := (HS12.out).at 1 rfl 2 (v := .int .i64 (r 3).bL) rfl
              have v1_3 := (HS12.out).at 1 rfl 3 (v := .int .i64 (r 3).bH) rfl
              have v1_4 := (HS12.out).at 1 rfl 4 (v := .bool (r 3).ref) rfl
              go_wp2_with fail
              refine (EB.out _ HS12.out.below).mono ?_; rintro e w244 ⟨rfl, hb244⟩
              have hS13 := (HS12.out).keep hb244
              have HS13 := Lib.hid hS13
              clear hS13 HS12
              clear hb244
              clear v1_0 v1_1 v1_2 v1_3 v1_4
              have v1_0 := (HS13.out).at 1 rfl 0 (v := .int .i64 (r 3).vL) rfl
              have v1_1 := (HS13.out).at 1 rfl 1 (v := .int .i64 (r 3).vH) rfl
              have v1_2 := (HS13.out).at 1 rfl 2 (v := .int .i64 (r 3).bL) rfl
              have v1_3 := (HS13.out).at 1 rfl 3 (v := .int .i64 (r 3).bH) rfl
              have v1_4 := (HS13.out).at 1 rfl 4 (v := .bool (r 3).ref) rfl
              have r4_0 := (HS13.out).at 4 rfl 0 (v := .int .i64 0) rfl
              have r4_1 := (HS13.out).at 4 rfl 1 (v := .int .i64 0) rfl
              have r4_2 := (HS13.out).at 4 rfl 2 (v := .int .i64 0) rfl
              have r4_3 := (HS13.out).at 4 rfl 3 (v := .int .i64 0) rfl
              have r4_4 := (HS13.out).at 4 rfl 4 (v := .bool false) rfl
              have rf4_0 := (HS13.out).free 4 rfl 0 rfl
              have rf4_1 := (HS13.out).free 4 rfl 1 rfl
              have rf4_2 := (HS13.out).free 4 rfl 2 rfl
              have rf4_3 := (HS13.out).free 4 rfl 3 rfl
              have rf4_4 := (HS13.out).free 4 rfl 4 rfl
              have BH := Lib.hid HS13.out.below
              clear HS13
              go_wp2_with fail
              refine bodyPost_ret (v := .agg #[.int .i64 0, .int .i64 0, .int .i64 0, .int .i64 0, .bool true]) (by simp [results, Tryd.results23, go_sem, *]) rfl ⟨by rw [HZ.out], ?_⟩
              iterate 5 refine Below.setCell (p := ⟨w.heap.size + 1 + 1 + 1 + 1, _, none⟩) ?_ (show w.heap.size ≤ w.heap.size + 1 + 1 + 1 + 1 by omega) _
              exact BH.out
            · have hz := Zf.out c1 c2
              rw [c1] at EV
              rw [c2] at EB
              have HZ := Lib.hid hz
              clear hz c1 c2 Zt Zf
              go_wp2_with fail
              refine (EV.out _ HS11.out.below).mono ?_; rintro e w245 ⟨rfl, hb245⟩
              have hS12 := (HS11.out).keep hb245
              have HS12 := Lib.hid hS12
              clear hS12 HS11
              clear hb245
              clear v1_0 v1_1 v1_2 v1_3 v1_4
              have v1_0 := (HS12.out).at 1 rfl 0 (v := .int .i64 (r 3).vL) rfl
              have v1_1 := (HS12.out).at 1 rfl 1 (v := .int .i64 (r 3).vH) rfl
              have v1_2 := (HS12.out).at 1 rfl 2 (v := .int .i64 (r 3).bL) rfl
              have v1_3 := (HS12.out).at 1 rfl 3 (v := .int .i64 (r 3).bH) rfl
              have v1_4 := (HS12.out).at 1 rfl 4 (v := .bool (r 3).ref) rfl
              go_wp2_with fail
              refine (EB.out _ HS12.out.below).mono ?_; rintro e w246 ⟨rfl, hb246⟩
              have hS13 := (HS12.out).keep hb246
              have HS13 := Lib.hid hS13
              clear hS13 HS12
              clear hb246
              clear v1_0 v1_1 v1_2 v1_3 v1_4
              have v1_0 := (HS13.out).at 1 rfl 0 (v := .int .i64 (r 3).vL) rfl
              have v1_1 := (HS13.out).at 1 rfl 1 (v := .int .i64 (r 3).vH) rfl
              have v1_2 := (HS13.out).at 1 rfl 2 (v := .int .i64 (r 3).bL) rfl
              have v1_3 := (HS13.out).at 1 rfl 3 (v := .int .i64 (r 3).bH) rfl
              have v1_4 := (HS13.out).at 1 rfl 4 (v := .bool (r 3).ref) rfl
              have r4_0 := (HS13.out).at 4 rfl 0 (v := .int .i64 0) rfl
              have r4_1 := (HS13.out).at 4 rfl 1 (v := .int .i64 0) rfl
              have r4_2 := (HS13.out).at 4 rfl 2 (v := .int .i64 0) rfl
              have r4_3 := (HS13.out).at 4 rfl 3 (v := .int .i64 0) rfl
              have r4_4 := (HS13.out).at 4 rfl 4 (v := .bool false) rfl
              have rf4_0 := (HS13.out).free 4 rfl 0 rfl
              have rf4_1 := (HS13.out).free 4 rfl 1 rfl
              have rf4_2 := (HS13.out).free 4 rfl 2 rfl
              have rf4_3 := (HS13.out).free 4 rfl 3 rfl
              have rf4_4 := (HS13.out).free 4 rfl 4 rfl
              have BH := Lib.hid HS13.out.below
              clear HS13
              go_wp2_with fail
              refine bodyPost_ret (v := .agg #[.int .i64 (r 3).vL, .int .i64 (r 3).vH, .int .i64 (r 3).bL, .int .i64 (r 3).bH, .bool (r 3).ref]) (by simp [results, Tryd.results23, go_sem, *]) rfl ⟨by rw [HZ.out], ?_⟩
              iterate 5 refine Below.setCell (p := ⟨w.heap.size + 1 + 1 + 1 + 1, _, none⟩) ?_ (show w.heap.size ≤ w.heap.size + 1 + 1 + 1 + 1 by omega) _
              exact BH.out
end Go.Proofs.YtkjkmnclnedfhaaDoor
