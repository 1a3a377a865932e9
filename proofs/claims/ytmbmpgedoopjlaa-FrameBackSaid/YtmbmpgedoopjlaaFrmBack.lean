/- FrameBack's law. -/
import Derived.Test.YtmbmpgedoopjlaaFrmTurned
import Derived.Test.YtmbmpgedoopjlaaBufCame
namespace Go.Proofs.Ytmbmpgedoopjlaa
open Go.RowKit

/-- Bytes, right or not -/
theorem Own14.both (O : Own14) (f : Fr) (w : World) : Calls Try.prog 7 #[fv f] w fun e w' => ∃ u er, e = .returned (.tuple #[u, .int .i64 er]) ∧ Below w.heap.size w w' ∧
    (er = 0 ∧ rightF f = true ∧ (∃ g c, u = .slice (some ⟨g, 0, none⟩) 11 c ∧ Came w' (some ⟨g, 0, none⟩) c (frameF f)) ∨ er = 1 ∧ rightF f = false ∧ u = .slice none 0 0) := by
  cases h : rightF f
  · refine (O.no f w h).mono fun e w' hk => ?_
    obtain ⟨he, hb⟩ := hk
    exact ⟨_, _, he, hb, Or.inr ⟨rfl, rfl, rfl⟩⟩
  · refine (O.bytes f w h).mono fun e w' hk => ?_
    obtain ⟨u, he, hu⟩ := hk
    obtain ⟨g, c, rfl, M⟩ := hu.mine (by rw [frame_length]; decide)
    rw [frame_length] at he
    exact ⟨_, _, he, hu.below, Or.inl ⟨rfl, rfl, g, c, rfl, M.came⟩⟩

theorem back_long (O : Own14) (f : Fr) (ba : Option Addr) (n cap : Nat) (w : World) (h : (300 : Int) < n) :
    Calls Try.prog 4 #[fv f, .slice ba n cap] w fun e w' => e = .returned (.bool true) ∧ Below w.heap.size w w' := by
  have AW := Lib.hid fun w => awake_any O w
  obtain ⟨s, c, b, v⟩ := f
  simp only [fv]
  have B1 := Lib.hid (below1 w (.cells #[.int .i64 s, .int .i64 c, .bool b, .int .i64 v] 23))
  go_enter Try.func4, Try.ntmps4
  go_wp2_with fail
  refine (AW.out _).mono ?_; rintro e w1 ⟨rfl, hb1⟩
  have HB := Lib.hid (belowT B1.out hb1)
  clear B1 hb1
  go_wp2
  go_ret
  exact ⟨rfl, HB.out⟩

/-- The operations of a drawn region, as the translation has them. -/
def back11 : Array Oper := #[
  { dst := some 57, op := .move (.tmp 12), type := 26, pos := "law.go:48", after := #[], guard := none },
  { dst := some 58, op := .binOp .eql 26 (.tmp 57) (.const (.int .i64 0)) 26, type := 4, pos := "law.go:48", after := #[{ on := 0, ground := .data }], guard := none },
  { dst := some 59, op := .move (.tmp 58), type := 4, pos := "law.go:48", after := #[{ on := 1, ground := .data }], guard := none },
  { dst := some 60, op := .move (.tmp 1), type := 24, pos := "law.go:48", after := #[{ on := 2, ground := .guard }], guard := some (2, true) },
  { dst := some 61, op := .call { callee := .builtin .len, args := #[.tmp 60], argTypes := #[24] }, type := 3, pos := "law.go:48", after := #[{ on := 3, ground := .data }, { on := 2, ground := .guard }], guard := some (2, true) },
  { dst := some 62, op := .binOp .geq 3 (.tmp 61) (.const (.int .i64 11)) 3, type := 4, pos := "law.go:48", after := #[{ on := 4, ground := .data }, { on := 2, ground := .guard }], guard := some (2, true) },
  { dst := some 63, op := .pick (.tmp 59) (.tmp 62) (.const (.bool false)), type := 4, pos := "law.go:48", after := #[{ on := 2, ground := .data }, { on := 5, ground := .data }], guard := none },
  { dst := some 64, op := .move (.tmp 63), type := 4, pos := "law.go:48", after := #[{ on := 6, ground := .data }, { on := 2, ground := .chain }], guard := none },
  { dst := some 65, op := .move (.tmp 11), type := 24, pos := "law.go:48", after := #[{ on := 7, ground := .guard }], guard := some (7, true) },
  { dst := some 66, op := .convert 24 9 (.tmp 65), type := 9, pos := "law.go:48", after := #[{ on := 8, ground := .data }, { on := 7, ground := .guard }], guard := some (7, true) },
  { dst := some 67, op := .move (.tmp 1), type := 24, pos := "law.go:48", after := #[{ on := 7, ground := .guard }], guard := some (7, true) },
  { dst := some 68, op := .slice 24 (.tmp 67) none (some (.const (.int .i64 11))) none, type := 24, pos := "law.go:48", after := #[{ on := 10, ground := .data }, { on := 7, ground := .guard }], guard := some (7, true) },
  { dst := some 69, op := .convert 24 9 (.tmp 68), type := 9, pos := "law.go:48", after := #[{ on := 11, ground := .data }, { on := 7, ground := .guard }], guard := some (7, true) },
  { dst := some 70, op := .binOp .eql 9 (.tmp 66) (.tmp 69) 9, type := 4, pos := "law.go:48", after := #[{ on := 9, ground := .data }, { on := 12, ground := .data }, { on := 7, ground := .guard }], guard := some (7, true) },
  { dst := some 71, op := .pick (.tmp 64) (.tmp 70) (.const (.bool false)), type := 4, pos := "law.go:48", after := #[{ on := 7, ground := .data }, { on := 13, ground := .data }], guard := none },
  { dst := some 72, op := .move (.tmp 71), type := 4, pos := "law.go:48", after := #[{ on := 14, ground := .data }, { on := 7, ground := .chain }], guard := none },
  { dst := some 73, op := .call { callee := .value (.func 6), args := #[], argTypes := #[] }, type := 4, pos := "law.go:48", after := #[{ on := 15, ground := .chain }, { on := 15, ground := .guard }], guard := some (15, true) },
  { dst := some 74, op := .pick (.tmp 72) (.tmp 73) (.const (.bool false)), type := 4, pos := "law.go:48", after := #[{ on := 15, ground := .data }, { on := 16, ground := .data }], guard := none },
  { dst := some 4, op := .assign (.tmp 74), type := 4, pos := "law.go:48", after := #[{ on := 17, ground := .data }, { on := 16, ground := .chain }, { on := 0, ground := .phase }, { on := 1, ground := .phase }, { on := 2, ground := .phase }, { on := 3, ground := .phase }, { on := 4, ground := .phase }, { on := 5, ground := .phase }, { on := 6, ground := .phase }, { on := 7, ground := .phase }, { on := 8, ground := .phase }, { on := 9, ground := .phase }, { on := 10, ground := .phase }, { on := 11, ground := .phase }, { on := 12, ground := .phase }, { on := 13, ground := .phase }, { on := 14, ground := .phase }, { on := 15, ground := .phase }, { on := 16, ground := .phase }, { on := 17, ground := .phase }], guard := none }]
theorem back11_plain : Region.noSelect back11 = true := by kernel_rfl

set_option maxHeartbeats 8000000 in
set_option maxRecDepth 100000 in
theorem back_core (O : Own14) (f : Fr) (ba : Option Addr) (cap : Nat) (l : List UInt8) (w : World) (C : Came w ba cap l) (h : ¬ (300 : Int) < l.length) :
    Calls Try.prog 4 #[fv f, .slice ba l.length cap] w fun e w' => e = .returned (.bool true) ∧ Below w.heap.size w w' := by
  have AW := Lib.hid fun w => awake_any O w
  have OB := Lib.hid fun w => O.both f w
  have FL := Lib.hid (frame_length f)
  have RF := Lib.hid fun hr => read_frame f l hr
  generalize frameF f = L at *
  obtain ⟨s, c, b, v⟩ := f
  simp only [fv] at OB RF ⊢
  have B1 := Lib.hid (below1 w (.cells #[.int .i64 s, .int .i64 c, .bool b, .int .i64 v] 23))
  have H1 := Lib.hid (hasl w [.int .i64 s, .int .i64 c, .bool b, .int .i64 v] 23)
  have HC := Lib.hid C
  clear C
  go_enter Try.func4, Try.ntmps4
  go_wp2_with fail
  refine (OB.out _).mono ?_; rintro e w1 ⟨u, er, rfl, hb1, hcase⟩
  have HB1 := Lib.hid (belowT B1.out hb1)
  have H2 := Lib.hid (H1.out.keep hb1)
  have HK := Lib.hid hcase
  clear H1 B1 hb1 OB hcase
  go_upto_if 23 with fail
  go_cut [] from 7 to 45 (fun wx => Below w1.heap.size w1 wx)
  case first =>
    rcases HK.out with ⟨rfl, hr, g, cp, rfl, CL⟩ | ⟨rfl, hr, rfl⟩
    · have b0 := empty_bytes w1 _ rfl
      have h11 := FL.out
      go_wp2_with (at_builtin; refine list_append_came (v := .slice (some ⟨w1.heap.size, 0, none⟩) 0 0) (m := L) (ba := some ⟨g, 0, none⟩) (c := cp) rfl rfl rfl b0 (by rw [FL.out]; rfl) (CL.keep b0.below) ?c1 ?_)
      intro v1 w2 hv1
      go_wp2_with (at_builtin; refine list_append_came (v := v1) (m := l) (ba := ba) (c := cap) rfl rfl rfl hv1 rfl (HC.out.keep (belowT HB1.out hv1.below)) ?c2 ?_)
      case c2 => omega
      intro v2 w3 hv2
      obtain ⟨bl, cl, rfl, CA⟩ := hv2.came
      have HX := Lib.hid hv2.below
      have RD := O.read w3 bl cl (L ++ l) CA (by rw [List.length_append, FL.out]; omega)
      rw [RF.out hr, List.length_append, h11] at RD
      simp only [fv] at RD
      clear b0 hv1 hv2 CL CA
      go_wp2_with fail
      refine RD.mono ?_; rintro e w4 ⟨rfl, hb4⟩
      have HX4 := Lib.hid (belowT HX.out hb4)
      have K := H2.out.keep (belowT HX4.out (below1 w4 (.cells #[.int .i64 s, .int .i64 c, .bool b, .int .i64 v] 23)))
      have q0 := K.at 0 rfl
      have q1 := K.at 1 rfl
      have q2 := K.at 2 rfl
      have q3 := K.at 3 rfl
      have BE := Lib.hid (belowT HX4.out (below1 w4 (.cells #[.int .i64 s, .int .i64 c, .bool b, .int .i64 v] 23)))
      clear RD HX hb4 HX4 K
      go_wp2_with fail
      go_meet
      exact BE.out
    · go_wp2_with fail
      go_meet
      exact Below.refl _ _
  case rest =>
    rename World => wx
    have HX := Lib.hid (belowT HB1.out hcut)
    have CX := HC.out.keep HX.out
    have RD := O.read wx ba cap l CX (by omega)
    have RB := Lib.hid (read_back l)
    generalize readF l = rr at *
    obtain ⟨⟨s', c', b', v'⟩, re⟩ := rr
    simp only [fv] at RD
    clear HB1 hcut H2 HK FL RF CX
    go_wp2_with fail
    refine RD.mono ?_; rintro e w3 ⟨rfl, hb3⟩
    have HB3 := Lib.hid (belowT HX.out hb3)
    have H3 := Lib.hid (hasl w3 [.int .i64 s', .int .i64 c', .bool b', .int .i64 v'] 23)
    have B3 := Lib.hid (below1 w3 (.cells #[.int .i64 s', .int .i64 c', .bool b', .int .i64 v'] 23))
    clear RD HX hb3
    by_cases hre : re = 0
    · subst hre
      obtain ⟨hr, h11, hF⟩ := RB.out _ rfl
      have OB := O.both ⟨s', c', b', v'⟩ (w3.alloc (.cells #[.int .i64 s', .int .i64 c', .bool b', .int .i64 v'] 23))
      rw [hF] at OB
      simp only [fv] at OB
      have OB := Lib.hid OB
      clear H3
      go_wp2_with fail
      refine OB.out.mono ?_; rintro e w4 ⟨u, er, rfl, hb4, ⟨rfl, _, g, cp, rfl, CL⟩ | ⟨_, hr', _⟩⟩
      · have HB4 := Lib.hid (belowT (belowT HB3.out B3.out) hb4)
        obtain ⟨b1, o1, rfl, LB⟩ := HC.out.lies (by omega)
        have hcap := HC.out.le
        have hmax := HC.out.max
        have L4 := LB.keep HB4.out
        obtain ⟨gg, oo, hg, LL⟩ := CL.lies (by rw [List.length_take]; omega)
        injection hg with hg
        injection hg with hg1 hg2
        subst hg1 hg2
        clear HB3 B3 OB hb4 CL RB LB
        go_upto_region 11 with fail
        obtain ⟨W0, rfl⟩ : ∃ W0, W0 = w4 := ⟨_, rfl⟩
        have h11' : (11 : Int) ≤ l.length := by omega
        have hc11 : (11 : Int) ≤ cap := by omega
        have hmI : (cap : Int) ≤ 9223372036854775807 := by unfold maxLen at hmax; omega
        have e11 : (l.take 11).length = 11 := by rw [List.length_take]; omega
        have rs : ∀ w', Below W0.heap.size W0 w' → (convert 24 9 (.slice (some ⟨g, 0, none⟩) 11 cp)).run Try.prog w' = .ok (.string ⟨(l.take 11).toArray⟩) w' := fun w' h => by
          have := part_string w' g 0 cp (l.take 11) (LL.keep h)
          rw [e11] at this
          exact this
        have rt : ∀ w', Below W0.heap.size W0 w' → (convert 24 9 (.slice (some ⟨b1, o1, none⟩) 11 cap)).run Try.prog w' = .ok (.string ⟨(l.take 11).toArray⟩) w' := fun w' h => by
          have := part_string w' b1 o1 cap (l.take 11) ((L4.keep h).part 0 11 (by omega))
          rw [e11] at this
          exact this
        generalize (⟨(l.take 11).toArray⟩ : ByteArray) = st at *
        clear hF L4 LL hcap hmax e11 hr h11
        change (Code.region 11 back11 true).wp Try.prog _ _ _
        refine wp_region_noPanic ?_
        refine wp_region_held_drew (S := fun w' => Below W0.heap.size W0 w') (by kernel_rfl) ((Below.refl _ _).drew) (fun hHeld => ?_)
        refine wpAnyH_take (i := 0) (oi := ({ dst := some 57, op := .move (.tmp 12), type := 26, pos := "law.go:48", after := #[], guard := none } : Oper)) (v := ?vs5_0) rfl back11_plain (by as_aux_lemma => kernel_rfl) (by as_aux_lemma => kernel_rfl) (fun _ _ _ h => h) (Or.inl ⟨by rfl, ?ys5_0⟩) (by assumption) ?rs5_0
        case ys5_0 => (intro w hSw; (try dsimp only at hSw); go_simp; try with_reducible rfl)
        try simp only [Act.put, List.setIfInBounds_toArray, List.set_cons_zero, List.set_cons_succ]
        refine wpAnyH_take (i := 1) (oi := ({ dst := some 58, op := .binOp .eql 26 (.tmp 57) (.const (.int .i64 0)) 26, type := 4, pos := "law.go:48", after := #[{ on := 0, ground := .data }], guard := none } : Oper)) (v := ?vs5_1) rfl back11_plain (by as_aux_lemma => kernel_rfl) (by as_aux_lemma => kernel_rfl) (fun _ _ _ h => h) (Or.inl ⟨by rfl, ?ys5_1⟩) (by assumption) ?rs5_1
        case ys5_1 => (intro w hSw; (try dsimp only at hSw); go_simp; try with_reducible rfl)
        try simp only [Act.put, List.setIfInBounds_toArray, List.set_cons_zero, List.set_cons_succ]
        refine wpAnyH_take (i := 2) (oi := ({ dst := some 59, op := .move (.tmp 58), type := 4, pos := "law.go:48", after := #[{ on := 1, ground := .data }], guard := none } : Oper)) (v := ?vs5_2) rfl back11_plain (by as_aux_lemma => kernel_rfl) (by as_aux_lemma => kernel_rfl) (fun _ _ _ h => h) (Or.inl ⟨by rfl, ?ys5_2⟩) (by assumption) ?rs5_2
        case ys5_2 => (intro w hSw; (try dsimp only at hSw); go_simp; try with_reducible rfl)
        try simp only [Act.put, List.setIfInBounds_toArray, List.set_cons_zero, List.set_cons_succ]
        refine wpAnyH_take (i := 3) (oi := ({ dst := some 60, op := .move (.tmp 1), type := 24, pos := "law.go:48", after := #[{ on := 2, ground := .guard }], guard := some (2, true) } : Oper)) (v := ?vs5_3) rfl back11_plain (by as_aux_lemma => kernel_rfl) (by as_aux_lemma => kernel_rfl) (fun _ _ _ h => h) (Or.inl ⟨by rfl, ?ys5_3⟩) (by assumption) ?rs5_3
        case ys5_3 => (intro w hSw; (try dsimp only at hSw); go_simp; try with_reducible rfl)
        try simp only [Act.put, List.setIfInBounds_toArray, List.set_cons_zero, List.set_cons_succ]
        refine wpAnyH_take (i := 4) (oi := ({ dst := some 61, op := .call { callee := .builtin .len, args := #[.tmp 60], argTypes := #[24] }, type := 3, pos := "law.go:48", after := #[{ on := 3, ground := .data }, { on := 2, ground := .guard }], guard := some (2, true) } : Oper)) (v := ?vs5_4) rfl back11_plain (by as_aux_lemma => kernel_rfl) (by as_aux_lemma => kernel_rfl) (fun _ _ _ h => h) (Or.inl ⟨by rfl, ?ys5_4⟩) (by assumption) ?rs5_4
        case ys5_4 => (intro w hSw; (try dsimp only at hSw); go_simp; try with_reducible rfl)
        try simp only [Act.put, List.setIfInBounds_toArray, List.set_cons_zero, List.set_cons_succ]
        refine wpAnyH_take (i := 5) (oi := ({ dst := some 62, op := .binOp .geq 3 (.tmp 61) (.const (.int .i64 11)) 3, type := 4, pos := "law.go:48", after := #[{ on := 4, ground := .data }, { on := 2, ground := .guard }], guard := some (2, true) } : Oper)) (v := ?vs5_5) rfl back11_plain (by as_aux_lemma => kernel_rfl) (by as_aux_lemma => kernel_rfl) (fun _ _ _ h => h) (Or.inl ⟨by rfl, ?ys5_5⟩) (by assumption) ?rs5_5
        case ys5_5 => (intro w hSw; (try dsimp only at hSw); go_simp; try with_reducible rfl)
        try simp only [Act.put, List.setIfInBounds_toArray, List.set_cons_zero, List.set_cons_succ]
        refine wpAnyH_take (i := 6) (oi := ({ dst := some 63, op := .pick (.tmp 59) (.tmp 62) (.const (.bool false)), type := 4, pos := "law.go:48", after := #[{ on := 2, ground := .data }, { on := 5, ground := .data }], guard := none } : Oper)) (v := ?vs5_6) rfl back11_plain (by as_aux_lemma => kernel_rfl) (by as_aux_lemma => kernel_rfl) (fun _ _ _ h => h) (Or.inl ⟨by rfl, ?ys5_6⟩) (by assumption) ?rs5_6
        case ys5_6 => (intro w hSw; (try dsimp only at hSw); go_simp; try with_reducible rfl)
        try simp only [Act.put, List.setIfInBounds_toArray, List.set_cons_zero, List.set_cons_succ]
        refine wpAnyH_take (i := 7) (oi := ({ dst := some 64, op := .move (.tmp 63), type := 4, pos := "law.go:48", after := #[{ on := 6, ground := .data }, { on := 2, ground := .chain }], guard := none } : Oper)) (v := ?vs5_7) rfl back11_plain (by as_aux_lemma => kernel_rfl) (by as_aux_lemma => kernel_rfl) (fun _ _ _ h => h) (Or.inl ⟨by rfl, ?ys5_7⟩) (by assumption) ?rs5_7
        case ys5_7 => (intro w hSw; (try dsimp only at hSw); go_simp; try with_reducible rfl)
        try simp only [Act.put, List.setIfInBounds_toArray, List.set_cons_zero, List.set_cons_succ]
        refine wpAnyH_take (i := 8) (oi := ({ dst := some 65, op := .move (.tmp 11), type := 24, pos := "law.go:48", after := #[{ on := 7, ground := .guard }], guard := some (7, true) } : Oper)) (v := ?vs5_8) rfl back11_plain (by as_aux_lemma => kernel_rfl) (by as_aux_lemma => kernel_rfl) (fun _ _ _ h => h) (Or.inl ⟨by rfl, ?ys5_8⟩) (by assumption) ?rs5_8
        case ys5_8 => (intro w hSw; (try dsimp only at hSw); go_simp; try with_reducible rfl)
        try simp only [Act.put, List.setIfInBounds_toArray, List.set_cons_zero, List.set_cons_succ]
        refine wpAnyH_take (i := 9) (oi := ({ dst := some 66, op := .convert 24 9 (.tmp 65), type := 9, pos := "law.go:48", after := #[{ on := 8, ground := .data }, { on := 7, ground := .guard }], guard := some (7, true) } : Oper)) (v := ?vs5_9) rfl back11_plain (by as_aux_lemma => kernel_rfl) (by as_aux_lemma => kernel_rfl) (fun _ _ _ h => h) (Or.inl ⟨by rfl, ?ys5_9⟩) (by assumption) ?rs5_9
        case ys5_9 => (intro w hSw; (try dsimp only at hSw); go_simp; try with_reducible rfl)
        try simp only [Act.put, List.setIfInBounds_toArray, List.set_cons_zero, List.set_cons_succ]
        refine wpAnyH_take (i := 10) (oi := ({ dst := some 67, op := .move (.tmp 1), type := 24, pos := "law.go:48", after := #[{ on := 7, ground := .guard }], guard := some (7, true) } : Oper)) (v := ?vs5_10) rfl back11_plain (by as_aux_lemma => kernel_rfl) (by as_aux_lemma => kernel_rfl) (fun _ _ _ h => h) (Or.inl ⟨by rfl, ?ys5_10⟩) (by assumption) ?rs5_10
        case ys5_10 => (intro w hSw; (try dsimp only at hSw); go_simp; try with_reducible rfl)
        try simp only [Act.put, List.setIfInBounds_toArray, List.set_cons_zero, List.set_cons_succ]
        refine wpAnyH_take (i := 11) (oi := ({ dst := some 68, op := .slice 24 (.tmp 67) none (some (.const (.int .i64 11))) none, type := 24, pos := "law.go:48", after := #[{ on := 10, ground := .data }, { on := 7, ground := .guard }], guard := some (7, true) } : Oper)) (v := ?vs5_11) rfl back11_plain (by as_aux_lemma => kernel_rfl) (by as_aux_lemma => kernel_rfl) (fun _ _ _ h => h) (Or.inl ⟨by rfl, ?ys5_11⟩) (by assumption) ?rs5_11
        case ys5_11 => (intro w hSw; (try dsimp only at hSw); go_simp; try with_reducible rfl)
        try simp only [Act.put, List.setIfInBounds_toArray, List.set_cons_zero, List.set_cons_succ]
        refine wpAnyH_take (i := 12) (oi := ({ dst := some 69, op := .convert 24 9 (.tmp 68), type := 9, pos := "law.go:48", after := #[{ on := 11, ground := .data }, { on := 7, ground := .guard }], guard := some (7, true) } : Oper)) (v := ?vs5_12) rfl back11_plain (by as_aux_lemma => kernel_rfl) (by as_aux_lemma => kernel_rfl) (fun _ _ _ h => h) (Or.inl ⟨by rfl, ?ys5_12⟩) (by assumption) ?rs5_12
        case ys5_12 => (intro w hSw; (try dsimp only at hSw); go_simp; try with_reducible rfl)
        try simp only [Act.put, List.setIfInBounds_toArray, List.set_cons_zero, List.set_cons_succ]
        refine wpAnyH_take (i := 13) (oi := ({ dst := some 70, op := .binOp .eql 9 (.tmp 66) (.tmp 69) 9, type := 4, pos := "law.go:48", after := #[{ on := 9, ground := .data }, { on := 12, ground := .data }, { on := 7, ground := .guard }], guard := some (7, true) } : Oper)) (v := ?vs5_13) rfl back11_plain (by as_aux_lemma => kernel_rfl) (by as_aux_lemma => kernel_rfl) (fun _ _ _ h => h) (Or.inl ⟨by rfl, ?ys5_13⟩) (by assumption) ?rs5_13
        case ys5_13 => (intro w hSw; (try dsimp only at hSw); go_simp; try with_reducible rfl)
        try simp only [Act.put, List.setIfInBounds_toArray, List.set_cons_zero, List.set_cons_succ]
        refine wpAnyH_take (i := 14) (oi := ({ dst := some 71, op := .pick (.tmp 64) (.tmp 70) (.const (.bool false)), type := 4, pos := "law.go:48", after := #[{ on := 7, ground := .data }, { on := 13, ground := .data }], guard := none } : Oper)) (v := ?vs5_14) rfl back11_plain (by as_aux_lemma => kernel_rfl) (by as_aux_lemma => kernel_rfl) (fun _ _ _ h => h) (Or.inl ⟨by rfl, ?ys5_14⟩) (by assumption) ?rs5_14
        case ys5_14 => (intro w hSw; (try dsimp only at hSw); go_simp; try with_reducible rfl)
        try simp only [Act.put, List.setIfInBounds_toArray, List.set_cons_zero, List.set_cons_succ]
        refine wpAnyH_take (i := 15) (oi := ({ dst := some 72, op := .move (.tmp 71), type := 4, pos := "law.go:48", after := #[{ on := 14, ground := .data }, { on := 7, ground := .chain }], guard := none } : Oper)) (v := ?vs5_15) rfl back11_plain (by as_aux_lemma => kernel_rfl) (by as_aux_lemma => kernel_rfl) (fun _ _ _ h => h) (Or.inl ⟨by rfl, ?ys5_15⟩) (by assumption) ?rs5_15
        case ys5_15 => (intro w hSw; (try dsimp only at hSw); go_simp; try with_reducible rfl)
        try simp only [Act.put, List.setIfInBounds_toArray, List.set_cons_zero, List.set_cons_succ]
        refine wpAnyH_ready (rs := [16]) (by as_aux_lemma => kernel_rfl) (by simp) ?_
        refine AllReadyH.cons (o := ({ dst := some 73, op := .call { callee := .value (.func 6), args := #[], argTypes := #[] }, type := 4, pos := "law.go:48", after := #[{ on := 15, ground := .chain }, { on := 15, ground := .guard }], guard := some (15, true) } : Oper)) rfl (fun KK hK => ?_) AllReadyH.nil
        rw [if_pos (by rfl)]
        go_simp
        go_at_call 6; refine (AW.out _).mono ?_; rintro e w5 ⟨rfl, hb5⟩
        go_wp2_with fail
        refine hK.out _ _ ?_ (fun hHeld5 => ?_)
        · exact belowT (by assumption) hb5
        clear hK KK hb5
        try simp only [Act.put, List.setIfInBounds_toArray, List.set_cons_zero, List.set_cons_succ]
        refine wpAnyH_take (i := 17) (oi := ({ dst := some 74, op := .pick (.tmp 72) (.tmp 73) (.const (.bool false)), type := 4, pos := "law.go:48", after := #[{ on := 15, ground := .data }, { on := 16, ground := .data }], guard := none } : Oper)) (v := ?vs5_17) rfl back11_plain (by as_aux_lemma => kernel_rfl) (by as_aux_lemma => kernel_rfl) (fun _ _ _ h => h) (Or.inl ⟨by rfl, ?ys5_17⟩) (by assumption) ?rs5_17
        case ys5_17 => (intro w hSw; (try dsimp only at hSw); go_simp; try with_reducible rfl)
        try simp only [Act.put, List.setIfInBounds_toArray, List.set_cons_zero, List.set_cons_succ]
        refine wpAnyH_take (i := 18) (oi := ({ dst := some 4, op := .assign (.tmp 74), type := 4, pos := "law.go:48", after := #[{ on := 17, ground := .data }, { on := 16, ground := .chain }, { on := 0, ground := .phase }, { on := 1, ground := .phase }, { on := 2, ground := .phase }, { on := 3, ground := .phase }, { on := 4, ground := .phase }, { on := 5, ground := .phase }, { on := 6, ground := .phase }, { on := 7, ground := .phase }, { on := 8, ground := .phase }, { on := 9, ground := .phase }, { on := 10, ground := .phase }, { on := 11, ground := .phase }, { on := 12, ground := .phase }, { on := 13, ground := .phase }, { on := 14, ground := .phase }, { on := 15, ground := .phase }, { on := 16, ground := .phase }, { on := 17, ground := .phase }], guard := none } : Oper)) (v := ?vs5_18) rfl back11_plain (by as_aux_lemma => kernel_rfl) (by as_aux_lemma => kernel_rfl) (fun _ _ _ h => h) (Or.inl ⟨by rfl, ?ys5_18⟩) (by assumption) ?rs5_18
        case ys5_18 => (intro w hSw; (try dsimp only at hSw); go_simp; try with_reducible rfl)
        try simp only [Act.put, List.setIfInBounds_toArray, List.set_cons_zero, List.set_cons_succ]
        refine wpAnyH_done (by as_aux_lemma => kernel_rfl) ?_ _
        refine NoPanic.normal ?_
        go_wp2_with fail
        go_ret
        exact ⟨rfl, belowT HB4.out (by assumption)⟩
      · rw [hr] at hr'; cases hr'
    · have hq : (re == 0) = false := by simpa using hre
      clear RB hre
      go_wp2_with fail
      refine (AW.out _).mono ?_; rintro e w4 ⟨rfl, hb4⟩
      have HB4 := Lib.hid (belowT (belowT HB3.out B3.out) hb4)
      clear HB3 B3 hb4
      go_wp2
      go_ret
      exact ⟨rfl, HB4.out⟩

theorem Back14_all (O : Own14) (f : Fr) (ba : Option Addr) (cap : Nat) (l : List UInt8) (w : World) (C : Came w ba cap l) :
    Calls Try.prog 4 #[fv f, .slice ba l.length cap] w fun e w' => e = .returned (.bool true) ∧ Below w.heap.size w w' := by
  by_cases h : (300 : Int) < l.length
  · exact back_long O f ba l.length cap w h
  · exact back_core O f ba cap l w C h
end Go.Proofs.Ytmbmpgedoopjlaa
