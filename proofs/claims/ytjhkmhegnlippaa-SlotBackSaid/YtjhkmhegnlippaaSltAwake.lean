/- The laws' own example, layer 18. -/
import Derived.Test.YtjhkmhegnlippaaSltOwn
import Derived.Test.YtjhkmhegnlippaaVr
import Derived.Test.YtjhkmhegnlippaaRebase
namespace Go.Proofs.Ytjhkmhegnlippaa
open Go.RowKit

/-- The operations of a drawn region, as the translation has them. -/
def awake8 : Array Oper := #[
  { dst := some 45, op := .buildSlice 25 0 #[], type := 25, pos := "law.go:19", after := #[], guard := none },
  { dst := some 46, op := .move (.tmp 2), type := 25, pos := "law.go:19", after := #[], guard := none },
  { dst := some 47, op := .slice 25 (.tmp 46) none (some (.const (.int .i64 5))) none, type := 25, pos := "law.go:19", after := #[{ on := 1, ground := .data }], guard := none },
  { dst := some 48, op := .call { callee := .builtin .append, args := #[.tmp 45, .tmp 47], argTypes := #[25, 25] }, type := 25, pos := "law.go:19", after := #[{ on := 0, ground := .data }, { on := 2, ground := .data }], guard := none },
  { dst := some 49, op := .move (.tmp 9), type := 25, pos := "law.go:19", after := #[], guard := none },
  { dst := some 50, op := .slice 25 (.tmp 49) (some (.const (.int .i64 5))) none none, type := 25, pos := "law.go:19", after := #[{ on := 4, ground := .data }], guard := none },
  { dst := some 51, op := .call { callee := .builtin .append, args := #[.tmp 48, .tmp 50], argTypes := #[25, 25] }, type := 25, pos := "law.go:19", after := #[{ on := 3, ground := .data }, { on := 5, ground := .data }, { on := 3, ground := .chain }], guard := none },
  { dst := some 52, op := .call { callee := .value (.func 9), args := #[.tmp 51], argTypes := #[25] }, type := 30, pos := "law.go:19", after := #[{ on := 6, ground := .data }, { on := 6, ground := .chain }], guard := none },
  { dst := some 44, op := .move (.tmp 52), type := 30, pos := "law.go:19", after := #[{ on := 7, ground := .data }], guard := none },
  { dst := some 53, op := .extract (.tmp 44) 0, type := 23, pos := "law.go:19", after := #[{ on := 8, ground := .data }], guard := none },
  { dst := some 54, op := .extract (.tmp 44) 1, type := 24, pos := "law.go:19", after := #[{ on := 8, ground := .data }, { on := 13, ground := .gcOnly Go.Departure.lateStores }], guard := none },
  { dst := some 55, op := .extract (.tmp 44) 2, type := 27, pos := "law.go:19", after := #[{ on := 8, ground := .data }, { on := 14, ground := .gcOnly Go.Departure.lateStores }], guard := none },
  { dst := some 11, op := .alloc 23, type := 0, pos := "law.go:19", after := #[], guard := none },
  { dst := none, op := .store 23 (.tmp 11) (.tmp 53), type := 0, pos := "law.go:19", after := #[{ on := 12, ground := .data }, { on := 9, ground := .data }, { on := 7, ground := .chain }, { on := 0, ground := .phase }, { on := 1, ground := .phase }, { on := 2, ground := .phase }, { on := 3, ground := .phase }, { on := 4, ground := .phase }, { on := 5, ground := .phase }, { on := 6, ground := .phase }, { on := 7, ground := .phase }, { on := 8, ground := .phase }, { on := 9, ground := .phase }, { on := 10, ground := .textOnly Go.Departure.lateStores }, { on := 11, ground := .textOnly Go.Departure.lateStores }, { on := 12, ground := .phase }], guard := none },
  { dst := some 12, op := .assign (.tmp 54), type := 24, pos := "law.go:19", after := #[{ on := 10, ground := .data }, { on := 13, ground := .chain }, { on := 0, ground := .phase }, { on := 1, ground := .phase }, { on := 2, ground := .phase }, { on := 3, ground := .phase }, { on := 4, ground := .phase }, { on := 5, ground := .phase }, { on := 6, ground := .phase }, { on := 7, ground := .phase }, { on := 8, ground := .phase }, { on := 9, ground := .phase }, { on := 10, ground := .phase }, { on := 11, ground := .textOnly Go.Departure.lateStores }, { on := 12, ground := .phase }, { on := 13, ground := .phase }], guard := none },
  { dst := some 13, op := .assign (.tmp 55), type := 27, pos := "law.go:19", after := #[{ on := 11, ground := .data }, { on := 14, ground := .chain }, { on := 0, ground := .phase }, { on := 1, ground := .phase }, { on := 2, ground := .phase }, { on := 3, ground := .phase }, { on := 4, ground := .phase }, { on := 5, ground := .phase }, { on := 6, ground := .phase }, { on := 7, ground := .phase }, { on := 8, ground := .phase }, { on := 9, ground := .phase }, { on := 10, ground := .phase }, { on := 11, ground := .phase }, { on := 12, ground := .phase }, { on := 13, ground := .phase }, { on := 14, ground := .phase }], guard := none }]
theorem awake8_plain : Region.noSelect awake8 = true := by kernel_rfl

set_option maxHeartbeats 8000000 in
set_option maxRecDepth 100000 in
theorem awake_any (O : Own18) (w : World) :
    Calls Try.prog 6 #[] w fun e w' => e = .returned (.bool true) ∧ Below w.heap.size w w' := by
  have r1 : rightN ⟨5, 32, 2⟩ = true := by decide
  have e1 := bytesN_ok 251 r1
  have e2 := bytesN_ok 253 r1
  have l1 := slot_length ⟨5, 32, 2⟩ 251
  have l2 := slot_length ⟨5, 32, 2⟩ 253
  have d1 := read_slot ⟨5, 32, 2⟩ 251 r1 (by decide)
  have h1 : ((slotN ⟨5, 32, 2⟩ 251).getD 0 0).toNat = 2 := by rw [slot_head]; decide
  have t1 := torn_any ⟨5, 32, 2⟩ ⟨5, 32, 2⟩ 251 253 5 (by decide) (by decide) (by decide)
  have OB1 : Hid (∀ w, Calls Try.prog 7 #[.agg #[.int .i64 5, .int .i64 32, .int .i64 2], .int .u32 251] w fun e w' => ∃ ba cap, e = .returned (.tuple #[.slice ba 12 cap, .int .i64 0]) ∧ Came w' ba cap (slotN ⟨5, 32, 2⟩ 251) ∧ Below w.heap.size w w') := Lib.hid fun w => by
    have := O.bytes ⟨5, 32, 2⟩ 251 w (by decide)
    rw [e1] at this
    simp only [l1] at this
    exact this
  have OB2 : Hid (∀ w, Calls Try.prog 7 #[.agg #[.int .i64 5, .int .i64 32, .int .i64 2], .int .u32 253] w fun e w' => ∃ ba cap, e = .returned (.tuple #[.slice ba 12 cap, .int .i64 0]) ∧ Came w' ba cap (slotN ⟨5, 32, 2⟩ 253) ∧ Below w.heap.size w w') := Lib.hid fun w => by
    have := O.bytes ⟨5, 32, 2⟩ 253 w (by decide)
    rw [e2] at this
    simp only [l2] at this
    exact this
  have OB3 : Hid (∀ w, Calls Try.prog 7 #[.agg #[.int .i64 0, .int .i64 0, .int .i64 6], .int .u32 1] w fun e w' => ∃ ba cap, e = .returned (.tuple #[.slice ba 0 cap, .int .i64 1]) ∧ Below w.heap.size w w') := Lib.hid fun w => by
    have := O.bytes ⟨0, 0, 6⟩ 1 w (by decide)
    rw [bytesN_no 1 (by decide)] at this
    exact this.mono fun e w' ⟨ba, cap, he, _, hb⟩ => ⟨ba, cap, he, hb⟩
  have OR := Lib.hid fun w => O.right ⟨5, 32, 2⟩ w
  rw [r1] at OR
  have OS0 : Hid (∀ w, Calls Try.prog 13 #[.slice none 0 0] w fun e w' => e = .returned (.int .u32 0) ∧ Below w.heap.size w w') := Lib.hid fun w => O.seq w none 0 [] (none_come w) (by decide)
  simp only [nv] at OR
  obtain ⟨L, hL⟩ : ∃ L, L = slotN ⟨5, 32, 2⟩ 251 := ⟨_, rfl⟩
  obtain ⟨M, hM⟩ : ∃ M, M = slotN ⟨5, 32, 2⟩ 253 := ⟨_, rfl⟩
  rw [← hL] at OB1 l1 d1 h1 t1
  rw [← hM] at OB2 l2 t1
  have D1 := Lib.hid d1
  have T1 := Lib.hid t1
  have HH1 := Lib.hid h1
  have L1 := Lib.hid l1
  have L2 := Lib.hid l2
  clear d1 t1 l1 l2 h1 hL hM e1 e2 r1
  have H0 := Lib.hid (hasl w [.int .i64 5, .int .i64 32, .int .i64 2] 23)
  have B0 := Lib.hid (below1 w (.cells #[.int .i64 5, .int .i64 32, .int .i64 2] 23))
  go_enter Try.func6, Try.ntmps6
  go_wp2_with fail
  refine (OB1.out _).mono ?_; rintro e w1 ⟨b1, c1, rfl, C1, hb1⟩
  have HB1 := Lib.hid (belowT B0.out hb1)
  have H1 := Lib.hid (H0.out.keep hb1)
  have X1 := Lib.hid C1
  have RD := O.read w1 b1 c1 L C1 (by have := L1.out; omega)
  rw [D1.out, L1.out] at RD
  simp only [nv] at RD
  have RD : Hid (Calls Try.prog 9 #[.slice b1 12 c1] w1 fun e w' => e = .returned (.tuple #[.agg #[.int .i64 5, .int .i64 32, .int .i64 2], .int .u32 251, .int .i64 0]) ∧ Below w1.heap.size w1 w') := Lib.hid RD
  clear C1 hb1 H0 B0 OB1
  go_wp2_with fail
  refine RD.out.mono ?_; rintro e w2 ⟨rfl, hb2⟩
  have hb2a := belowT hb2 (below1 w2 (.cells #[.int .i64 5, .int .i64 32, .int .i64 2] 23))
  have HB2 := Lib.hid (belowT HB1.out hb2a)
  have H2 := Lib.hid (H1.out.keep hb2a)
  have X2 := Lib.hid (X1.out.keep hb2a)
  have K2 := Lib.hid (hasl w2 [.int .i64 5, .int .i64 32, .int .i64 2] 23)
  clear hb2 hb2a HB1 H1 X1 RD
  go_wp2_with fail
  refine (OB3.out _).mono ?_; rintro e w3 ⟨b3, c3, rfl, hb3⟩
  have HB3 := Lib.hid (belowT HB2.out hb3)
  have H3 := Lib.hid (H2.out.keep hb3)
  have X3 := Lib.hid (X2.out.keep hb3)
  have K3 := Lib.hid (K2.out.keep hb3)
  have q0 := H3.out.at 0 rfl
  have q1 := H3.out.at 1 rfl
  have q2 := H3.out.at 2 rfl
  clear hb3 HB2 H2 X2 K2 OB3
  go_wp2_with fail
  refine (OB2.out _).mono ?_; rintro e w4 ⟨b4, c4, rfl, C4, hb4⟩
  have HB4 := Lib.hid (belowT HB3.out hb4)
  have H4 := Lib.hid (H3.out.keep hb4)
  have X4 := Lib.hid (X3.out.keep hb4)
  have K4 := Lib.hid (K3.out.keep hb4)
  have Y4 := Lib.hid C4
  clear hb4 HB3 H3 X3 K3 OB2 q0 q1 q2 C4
  go_wp2
  go_upto_region 8 with fail
  obtain ⟨W0, rfl⟩ : ∃ W0, W0 = w4 := ⟨_, rfl⟩
  go_cut [13] from 11 to 56 (fun u13 wx => u13 = .int .i64 3 ∧ Below W0.heap.size W0 wx)
  case first =>
    have hs1 := came_head X4.out 5 (by have := L1.out; omega)
    rw [L1.out] at hs1
    obtain ⟨b5, c5, hs2, CT⟩ := came_tail Y4.out 5 (by have := L2.out; omega)
    rw [List.length_drop, L2.out] at hs2
    have CX : Hid (Came W0 b1 c1 (L.take 5)) := Lib.hid (X4.out.take 5 (by have := L1.out; omega))
    have CY : Hid (Came W0 b5 c5 (M.drop 5)) := Lib.hid CT
    have lx : (L.take 5).length = 5 := by rw [List.length_take, L1.out]; decide
    have ly : (M.drop 5).length = 7 := by rw [List.length_drop, L2.out]
    have hs1 : ∀ W, (Instr.sliceAt 25 (.slice b1 12 c1) none (some (.int .i64 5)) none).run Try.prog W = .ok (.slice b1 5 c1) W := hs1
    have hs2 : ∀ W, (Instr.sliceAt 25 (.slice b4 12 c4) (some (.int .i64 5)) none none).run Try.prog W = .ok (.slice b5 7 c5) W := hs2
    have RT := T1.out
    generalize L.take 5 = P at *
    generalize M.drop 5 = S at *
    have LX := Lib.hid lx
    have LY := Lib.hid ly
    obtain ⟨Q, hQ⟩ : ∃ Q, Q = P ++ S := ⟨_, rfl⟩
    rw [← hQ] at RT
    have RT := Lib.hid RT
    have LQ := Lib.hid (show Q.length = 12 by rw [hQ, List.length_append, lx, ly])
    have HQ := Lib.hid hQ
    clear lx ly CT hQ
    change (Code.region 8 awake8 true).wp Try.prog _ _ _
    refine wp_region_noPanic ?_
    refine wp_region_held_drew (S := fun w' => Below W0.heap.size W0 w') (by kernel_rfl) ((Below.refl _ _).drew) (fun hHeld => ?_)
    obtain ⟨w2, hX⟩ : ∃ x, x = W0.drew := ⟨_, rfl⟩
    have hb : Below W0.heap.size W0 w2 := hX ▸ (Below.refl _ _).drew
    rw [← hX] at hHeld ⊢
    have HB := hHeld; clear hHeld
    clear hb hX
    refine wpAnyH_take (i := 1) (oi := ({ dst := some 46, op := .move (.tmp 2), type := 25, pos := "law.go:19", after := #[], guard := none } : Oper)) (v := ?vt6_1_) rfl awake8_plain (by as_aux_lemma => kernel_rfl) (by as_aux_lemma => kernel_rfl) (fun _ _ _ h => h) (Or.inl ⟨by rfl, ?yt6_1_⟩) HB ?rt6_1_
    case yt6_1_ => (intro w hSw; (try dsimp only at hSw); go_simp; try with_reducible rfl)
    try simp only [Act.put, List.setIfInBounds_toArray, List.set_cons_zero, List.set_cons_succ]
    refine wpAnyH_take (i := 2) (oi := ({ dst := some 47, op := .slice 25 (.tmp 46) none (some (.const (.int .i64 5))) none, type := 25, pos := "law.go:19", after := #[{ on := 1, ground := .data }], guard := none } : Oper)) (v := ?vt6_2_) rfl awake8_plain (by as_aux_lemma => kernel_rfl) (by as_aux_lemma => kernel_rfl) (fun _ _ _ h => h) (Or.inl ⟨by rfl, ?yt6_2_⟩) HB ?rt6_2_
    case yt6_2_ => (intro w hSw; (try dsimp only at hSw); go_simp; try with_reducible rfl)
    try simp only [Act.put, List.setIfInBounds_toArray, List.set_cons_zero, List.set_cons_succ]
    refine wpAnyH_take (i := 4) (oi := ({ dst := some 49, op := .move (.tmp 9), type := 25, pos := "law.go:19", after := #[], guard := none } : Oper)) (v := ?vt6_3_) rfl awake8_plain (by as_aux_lemma => kernel_rfl) (by as_aux_lemma => kernel_rfl) (fun _ _ _ h => h) (Or.inl ⟨by rfl, ?yt6_3_⟩) HB ?rt6_3_
    case yt6_3_ => (intro w hSw; (try dsimp only at hSw); go_simp; try with_reducible rfl)
    try simp only [Act.put, List.setIfInBounds_toArray, List.set_cons_zero, List.set_cons_succ]
    refine wpAnyH_take (i := 5) (oi := ({ dst := some 50, op := .slice 25 (.tmp 49) (some (.const (.int .i64 5))) none none, type := 25, pos := "law.go:19", after := #[{ on := 4, ground := .data }], guard := none } : Oper)) (v := ?vt6_4_) rfl awake8_plain (by as_aux_lemma => kernel_rfl) (by as_aux_lemma => kernel_rfl) (fun _ _ _ h => h) (Or.inl ⟨by rfl, ?yt6_4_⟩) HB ?rt6_4_
    case yt6_4_ => (intro w hSw; (try dsimp only at hSw); go_simp; try with_reducible rfl)
    try simp only [Act.put, List.setIfInBounds_toArray, List.set_cons_zero, List.set_cons_succ]
    refine wpAnyH_ready (rs := [0, 12]) (by as_aux_lemma => kernel_rfl) (by simp) ?_
    refine AllReadyH.cons (o := ({ dst := some 45, op := .buildSlice 25 0 #[], type := 25, pos := "law.go:19", after := #[], guard := none } : Oper)) rfl (fun KK hK => ?_) (AllReadyH.cons (o := ({ dst := some 11, op := .alloc 23, type := 0, pos := "law.go:19", after := #[], guard := none } : Oper)) rfl (fun KK hK => ?_) AllReadyH.nil)
    · skip
      rw [if_pos (by rfl)]
      go_simp
      have hb := below1 w2 (.cells #[] 5)
      have hv := (empty_bytes0 w2 _ rfl).low HB
      obtain ⟨gv, hgv⟩ : ∃ g, g = w2.heap.size := ⟨_, rfl⟩
      rw [← hgv] at hv ⊢
      clear hgv
      obtain ⟨w3, hX⟩ : ∃ x, x = w2.alloc (.cells #[] 5) := ⟨_, rfl⟩
      rw [← hX] at hv hb ⊢
      clear hX
      refine hK.out _ _ ?_ (fun hHeld => ?_)
      · exact belowT HB hb
      replace HB := hHeld; clear hHeld hK KK
      clear hb
      try simp only [Act.put, List.setIfInBounds_toArray, List.set_cons_zero, List.set_cons_succ]
      refine wpAnyH_ready (rs := [3, 12]) (by as_aux_lemma => kernel_rfl) (by simp) ?_
      refine AllReadyH.cons (o := ({ dst := some 48, op := .call { callee := .builtin .append, args := #[.tmp 45, .tmp 47], argTypes := #[25, 25] }, type := 25, pos := "law.go:19", after := #[{ on := 0, ground := .data }, { on := 2, ground := .data }], guard := none } : Oper)) rfl (fun KK hK => ?_) (AllReadyH.cons (o := ({ dst := some 11, op := .alloc 23, type := 0, pos := "law.go:19", after := #[], guard := none } : Oper)) rfl (fun KK hK => ?_) AllReadyH.nil)
      · skip
        rw [if_pos (by rfl)]
        refine oper_append_cameV (v := .slice (some ⟨gv, 0, none⟩) 0 0) (m := P) (ba := b1) (c := c1) rfl rfl hv (by rw [LX.out]; rfl) (CX.out.keep HB) (by rw [LX.out]; decide) (fun v4 w4 hq HG => ?_)
        replace hq : Bytes0 W0.heap.size W0 w4 v4 P := hq
        have HN := hq.below
        refine hK.out _ _ ?_ (fun hHeld => ?_)
        · exact HN
        replace HB := hHeld; clear hHeld hK KK HN
        clear hv
        clear HG
        try simp only [Act.put, List.setIfInBounds_toArray, List.set_cons_zero, List.set_cons_succ]
        refine wpAnyH_ready (rs := [6, 12]) (by as_aux_lemma => kernel_rfl) (by simp) ?_
        refine AllReadyH.cons (o := ({ dst := some 51, op := .call { callee := .builtin .append, args := #[.tmp 48, .tmp 50], argTypes := #[25, 25] }, type := 25, pos := "law.go:19", after := #[{ on := 3, ground := .data }, { on := 5, ground := .data }, { on := 3, ground := .chain }], guard := none } : Oper)) rfl (fun KK hK => ?_) (AllReadyH.cons (o := ({ dst := some 11, op := .alloc 23, type := 0, pos := "law.go:19", after := #[], guard := none } : Oper)) rfl (fun KK hK => ?_) AllReadyH.nil)
        · skip
          rw [if_pos (by rfl)]
          refine oper_append_cameV (v := v4) (m := S) (ba := b5) (c := c5) rfl rfl hq (by rw [LY.out]; rfl) (CY.out.keep HB) (by rw [LX.out, LY.out]; decide) (fun v7 w5 hr HG => ?_)
          rw [← HQ.out] at hr
          have HN := hr.below
          obtain ⟨b7, c7, rfl, C7⟩ := hr.bytes.came
          clear hr
          refine hK.out _ _ ?_ (fun hHeld => ?_)
          · exact HN
          replace HB := hHeld; clear hHeld hK KK HN
          clear hq
          clear HG
          try simp only [Act.put, List.setIfInBounds_toArray, List.set_cons_zero, List.set_cons_succ]
          refine wpAnyH_ready (rs := [7, 12]) (by as_aux_lemma => kernel_rfl) (by simp) ?_
          refine AllReadyH.cons (o := ({ dst := some 52, op := .call { callee := .value (.func 9), args := #[.tmp 51], argTypes := #[25] }, type := 30, pos := "law.go:19", after := #[{ on := 6, ground := .data }, { on := 6, ground := .chain }], guard := none } : Oper)) rfl (fun KK hK => ?_) (AllReadyH.cons (o := ({ dst := some 11, op := .alloc 23, type := 0, pos := "law.go:19", after := #[], guard := none } : Oper)) rfl (fun KK hK => ?_) AllReadyH.nil)
          · skip
            rw [if_pos (by rfl)]
            go_simp
            go_at_call 9; refine ((show Calls Try.prog 9 #[.slice b7 Q.length c7] w5 (fun e w' => e = .returned (.tuple #[.agg #[.int .i64 0, .int .i64 0, .int .i64 0], .int .u32 0, .int .i64 3]) ∧ Below w5.heap.size w5 w') from by have k := O.read w5 b7 c7 _ C7 (by rw [LQ.out]; decide); rw [RT.out] at k; exact k)).mono ?_; rintro e w6 ⟨rfl, hb⟩
            go_wp2_with fail
            refine hK.out _ _ ?_ (fun hHeld => ?_)
            · exact belowT HB hb
            replace HB := hHeld; clear hHeld hK KK
            replace C7 := C7.keep hb
            clear hb
            try simp only [Act.put, List.setIfInBounds_toArray, List.set_cons_zero, List.set_cons_succ]
            refine wpAnyH_take (i := 8) (oi := ({ dst := some 44, op := .move (.tmp 52), type := 30, pos := "law.go:19", after := #[{ on := 7, ground := .data }], guard := none } : Oper)) (v := ?vt6_5_) rfl awake8_plain (by as_aux_lemma => kernel_rfl) (by as_aux_lemma => kernel_rfl) (fun _ _ _ h => h) (Or.inl ⟨by rfl, ?yt6_5_⟩) HB ?rt6_5_
            case yt6_5_ => (intro w hSw; (try dsimp only at hSw); go_simp; try with_reducible rfl)
            try simp only [Act.put, List.setIfInBounds_toArray, List.set_cons_zero, List.set_cons_succ]
            refine wpAnyH_take (i := 9) (oi := ({ dst := some 53, op := .extract (.tmp 44) 0, type := 23, pos := "law.go:19", after := #[{ on := 8, ground := .data }], guard := none } : Oper)) (v := ?vt6_6_) rfl awake8_plain (by as_aux_lemma => kernel_rfl) (by as_aux_lemma => kernel_rfl) (fun _ _ _ h => h) (Or.inl ⟨by rfl, ?yt6_6_⟩) HB ?rt6_6_
            case yt6_6_ => (intro w hSw; (try dsimp only at hSw); go_simp; try with_reducible rfl)
            try simp only [Act.put, List.setIfInBounds_toArray, List.set_cons_zero, List.set_cons_succ]
            refine wpAnyH_take (i := 10) (oi := ({ dst := some 54, op := .extract (.tmp 44) 1, type := 24, pos := "law.go:19", after := #[{ on := 8, ground := .data }, { on := 13, ground := .gcOnly Go.Departure.lateStores }], guard := none } : Oper)) (v := ?vt6_7_) rfl awake8_plain (by as_aux_lemma => kernel_rfl) (by as_aux_lemma => kernel_rfl) (fun _ _ _ h => h) (Or.inl ⟨by rfl, ?yt6_7_⟩) HB ?rt6_7_
            case yt6_7_ => (intro w hSw; (try dsimp only at hSw); go_simp; try with_reducible rfl)
            try simp only [Act.put, List.setIfInBounds_toArray, List.set_cons_zero, List.set_cons_succ]
            refine wpAnyH_take (i := 11) (oi := ({ dst := some 55, op := .extract (.tmp 44) 2, type := 27, pos := "law.go:19", after := #[{ on := 8, ground := .data }, { on := 14, ground := .gcOnly Go.Departure.lateStores }], guard := none } : Oper)) (v := ?vt6_8_) rfl awake8_plain (by as_aux_lemma => kernel_rfl) (by as_aux_lemma => kernel_rfl) (fun _ _ _ h => h) (Or.inl ⟨by rfl, ?yt6_8_⟩) HB ?rt6_8_
            case yt6_8_ => (intro w hSw; (try dsimp only at hSw); go_simp; try with_reducible rfl)
            try simp only [Act.put, List.setIfInBounds_toArray, List.set_cons_zero, List.set_cons_succ]
            refine wpAnyH_ready (rs := [12]) (by as_aux_lemma => kernel_rfl) (by simp) ?_
            refine AllReadyH.cons (o := ({ dst := some 11, op := .alloc 23, type := 0, pos := "law.go:19", after := #[], guard := none } : Oper)) rfl (fun KK hK => ?_) AllReadyH.nil
            rw [if_pos (by rfl)]
            go_simp
            have hb := below1 w6 (.cells #[.int .i64 0, .int .i64 0, .int .i64 0] 23)
            have VA := Vr.new w6 #[.int .i64 0, .int .i64 0, .int .i64 0] 23
            have hga := HB.size
            obtain ⟨ga, hGA⟩ : ∃ g, g = w6.heap.size := ⟨_, rfl⟩
            rw [← hGA] at VA hga ⊢
            clear hGA
            obtain ⟨w7, hX⟩ : ∃ x, x = w6.alloc (.cells #[.int .i64 0, .int .i64 0, .int .i64 0] 23) := ⟨_, rfl⟩
            rw [← hX] at VA hb ⊢
            clear hX
            refine hK.out _ _ ?_ (fun hHeld => ?_)
            · exact belowT HB hb
            replace HB := hHeld; clear hHeld hK KK
            replace C7 := C7.keep hb
            clear hb
            try simp only [Act.put, List.setIfInBounds_toArray, List.set_cons_zero, List.set_cons_succ]
            refine wpAnyH_ready (rs := [13]) (by as_aux_lemma => kernel_rfl) (by simp) ?_
            refine AllReadyH.cons (o := ({ dst := none, op := .store 23 (.tmp 11) (.tmp 53), type := 0, pos := "law.go:19", after := #[{ on := 12, ground := .data }, { on := 9, ground := .data }, { on := 7, ground := .chain }, { on := 0, ground := .phase }, { on := 1, ground := .phase }, { on := 2, ground := .phase }, { on := 3, ground := .phase }, { on := 4, ground := .phase }, { on := 5, ground := .phase }, { on := 6, ground := .phase }, { on := 7, ground := .phase }, { on := 8, ground := .phase }, { on := 9, ground := .phase }, { on := 10, ground := .textOnly Go.Departure.lateStores }, { on := 11, ground := .textOnly Go.Departure.lateStores }, { on := 12, ground := .phase }], guard := none } : Oper)) rfl (fun KK hK => ?_) AllReadyH.nil
            rw [if_pos (by rfl)]
            have p0 := VA.at 0 rfl
            have p1 := VA.at 1 rfl
            have p2 := VA.at 2 rfl
            have f0 := VA.free 0
            have f1 := VA.free 1
            have f2 := VA.free 2
            go_simp
            have HN := ((HB.setCell (p := ⟨ga, 0, none⟩) hga (.int .i64 0)).setCell (p := ⟨ga, 1, none⟩) hga (.int .i64 0)).setCell (p := ⟨ga, 2, none⟩) hga (.int .i64 0)
            obtain ⟨w8, hX⟩ : ∃ x, x = ((w7.setCell ⟨ga, 0, none⟩ (.int .i64 0)).setCell ⟨ga, 1, none⟩ (.int .i64 0)).setCell ⟨ga, 2, none⟩ (.int .i64 0) := ⟨_, rfl⟩
            rw [← hX] at HN ⊢
            clear hX p0 p1 p2 f0 f1 f2
            have HG : Vr w7 ga #[.int .i64 0, .int .i64 0, .int .i64 0] 23 → (1 : Nat) = 1 → True := fun _ _ => trivial
            refine hK.out _ _ ?_ (fun hHeld => ?_)
            · exact HN
            replace HB := hHeld; clear hHeld hK KK HN
            replace VA := HG VA (by decide)
            clear C7
            clear HG
            try simp only [Act.put, List.setIfInBounds_toArray, List.set_cons_zero, List.set_cons_succ]
            refine wpAnyH_take (i := 14) (oi := ({ dst := some 12, op := .assign (.tmp 54), type := 24, pos := "law.go:19", after := #[{ on := 10, ground := .data }, { on := 13, ground := .chain }, { on := 0, ground := .phase }, { on := 1, ground := .phase }, { on := 2, ground := .phase }, { on := 3, ground := .phase }, { on := 4, ground := .phase }, { on := 5, ground := .phase }, { on := 6, ground := .phase }, { on := 7, ground := .phase }, { on := 8, ground := .phase }, { on := 9, ground := .phase }, { on := 10, ground := .phase }, { on := 11, ground := .textOnly Go.Departure.lateStores }, { on := 12, ground := .phase }, { on := 13, ground := .phase }], guard := none } : Oper)) (v := ?vt6_9_) rfl awake8_plain (by as_aux_lemma => kernel_rfl) (by as_aux_lemma => kernel_rfl) (fun _ _ _ h => h) (Or.inl ⟨by rfl, ?yt6_9_⟩) HB ?rt6_9_
            case yt6_9_ => (intro w hSw; (try dsimp only at hSw); go_simp; try with_reducible rfl)
            try simp only [Act.put, List.setIfInBounds_toArray, List.set_cons_zero, List.set_cons_succ]
            refine wpAnyH_take (i := 15) (oi := ({ dst := some 13, op := .assign (.tmp 55), type := 27, pos := "law.go:19", after := #[{ on := 11, ground := .data }, { on := 14, ground := .chain }, { on := 0, ground := .phase }, { on := 1, ground := .phase }, { on := 2, ground := .phase }, { on := 3, ground := .phase }, { on := 4, ground := .phase }, { on := 5, ground := .phase }, { on := 6, ground := .phase }, { on := 7, ground := .phase }, { on := 8, ground := .phase }, { on := 9, ground := .phase }, { on := 10, ground := .phase }, { on := 11, ground := .phase }, { on := 12, ground := .phase }, { on := 13, ground := .phase }, { on := 14, ground := .phase }], guard := none } : Oper)) (v := ?vt6_10_) rfl awake8_plain (by as_aux_lemma => kernel_rfl) (by as_aux_lemma => kernel_rfl) (fun _ _ _ h => h) (Or.inl ⟨by rfl, ?yt6_10_⟩) HB ?rt6_10_
            case yt6_10_ => (intro w hSw; (try dsimp only at hSw); go_simp; try with_reducible rfl)
            try simp only [Act.put, List.setIfInBounds_toArray, List.set_cons_zero, List.set_cons_succ]
            refine wpAnyH_done (by as_aux_lemma => kernel_rfl) ?_ _
            refine NoPanic.normal ?_
            go_wp2_with fail
            go_meet
            exact ⟨rfl, HB⟩
          · skip
            rw [if_pos (by rfl)]
            go_simp
            have hb := below1 w5 (.cells #[.int .i64 0, .int .i64 0, .int .i64 0] 23)
            have VA := Vr.new w5 #[.int .i64 0, .int .i64 0, .int .i64 0] 23
            have hga := HB.size
            obtain ⟨ga, hGA⟩ : ∃ g, g = w5.heap.size := ⟨_, rfl⟩
            rw [← hGA] at VA hga ⊢
            clear hGA
            obtain ⟨w6, hX⟩ : ∃ x, x = w5.alloc (.cells #[.int .i64 0, .int .i64 0, .int .i64 0] 23) := ⟨_, rfl⟩
            rw [← hX] at VA hb ⊢
            clear hX
            refine hK.out _ _ ?_ (fun hHeld => ?_)
            · exact belowT HB hb
            replace HB := hHeld; clear hHeld hK KK
            replace C7 := C7.keep hb
            clear hb
            try simp only [Act.put, List.setIfInBounds_toArray, List.set_cons_zero, List.set_cons_succ]
            refine wpAnyH_ready (rs := [7]) (by as_aux_lemma => kernel_rfl) (by simp) ?_
            refine AllReadyH.cons (o := ({ dst := some 52, op := .call { callee := .value (.func 9), args := #[.tmp 51], argTypes := #[25] }, type := 30, pos := "law.go:19", after := #[{ on := 6, ground := .data }, { on := 6, ground := .chain }], guard := none } : Oper)) rfl (fun KK hK => ?_) AllReadyH.nil
            rw [if_pos (by rfl)]
            go_simp
            go_at_call 9; refine ((show Calls Try.prog 9 #[.slice b7 Q.length c7] w6 (fun e w' => e = .returned (.tuple #[.agg #[.int .i64 0, .int .i64 0, .int .i64 0], .int .u32 0, .int .i64 3]) ∧ Below w6.heap.size w6 w') from by have k := O.read w6 b7 c7 _ C7 (by rw [LQ.out]; decide); rw [RT.out] at k; exact k)).mono ?_; rintro e w7 ⟨rfl, hb⟩
            go_wp2_with fail
            refine hK.out _ _ ?_ (fun hHeld => ?_)
            · exact belowT HB hb
            replace HB := hHeld; clear hHeld hK KK
            replace C7 := C7.keep hb
            replace VA := VA.keep hb
            clear hb
            try simp only [Act.put, List.setIfInBounds_toArray, List.set_cons_zero, List.set_cons_succ]
            refine wpAnyH_take (i := 8) (oi := ({ dst := some 44, op := .move (.tmp 52), type := 30, pos := "law.go:19", after := #[{ on := 7, ground := .data }], guard := none } : Oper)) (v := ?vt6_11_) rfl awake8_plain (by as_aux_lemma => kernel_rfl) (by as_aux_lemma => kernel_rfl) (fun _ _ _ h => h) (Or.inl ⟨by rfl, ?yt6_11_⟩) HB ?rt6_11_
            case yt6_11_ => (intro w hSw; (try dsimp only at hSw); go_simp; try with_reducible rfl)
            try simp only [Act.put, List.setIfInBounds_toArray, List.set_cons_zero, List.set_cons_succ]
            refine wpAnyH_take (i := 9) (oi := ({ dst := some 53, op := .extract (.tmp 44) 0, type := 23, pos := "law.go:19", after := #[{ on := 8, ground := .data }], guard := none } : Oper)) (v := ?vt6_12_) rfl awake8_plain (by as_aux_lemma => kernel_rfl) (by as_aux_lemma => kernel_rfl) (fun _ _ _ h => h) (Or.inl ⟨by rfl, ?yt6_12_⟩) HB ?rt6_12_
            case yt6_12_ => (intro w hSw; (try dsimp only at hSw); go_simp; try with_reducible rfl)
            try simp only [Act.put, List.setIfInBounds_toArray, List.set_cons_zero, List.set_cons_succ]
            refine wpAnyH_take (i := 10) (oi := ({ dst := some 54, op := .extract (.tmp 44) 1, type := 24, pos := "law.go:19", after := #[{ on := 8, ground := .data }, { on := 13, ground := .gcOnly Go.Departure.lateStores }], guard := none } : Oper)) (v := ?vt6_13_) rfl awake8_plain (by as_aux_lemma => kernel_rfl) (by as_aux_lemma => kernel_rfl) (fun _ _ _ h => h) (Or.inl ⟨by rfl, ?yt6_13_⟩) HB ?rt6_13_
            case yt6_13_ => (intro w hSw; (try dsimp only at hSw); go_simp; try with_reducible rfl)
            try simp only [Act.put, List.setIfInBounds_toArray, List.set_cons_zero, List.set_cons_succ]
            refine wpAnyH_take (i := 11) (oi := ({ dst := some 55, op := .extract (.tmp 44) 2, type := 27, pos := "law.go:19", after := #[{ on := 8, ground := .data }, { on := 14, ground := .gcOnly Go.Departure.lateStores }], guard := none } : Oper)) (v := ?vt6_14_) rfl awake8_plain (by as_aux_lemma => kernel_rfl) (by as_aux_lemma => kernel_rfl) (fun _ _ _ h => h) (Or.inl ⟨by rfl, ?yt6_14_⟩) HB ?rt6_14_
            case yt6_14_ => (intro w hSw; (try dsimp only at hSw); go_simp; try with_reducible rfl)
            try simp only [Act.put, List.setIfInBounds_toArray, List.set_cons_zero, List.set_cons_succ]
            refine wpAnyH_ready (rs := [13]) (by as_aux_lemma => kernel_rfl) (by simp) ?_
            refine AllReadyH.cons (o := ({ dst := none, op := .store 23 (.tmp 11) (.tmp 53), type := 0, pos := "law.go:19", after := #[{ on := 12, ground := .data }, { on := 9, ground := .data }, { on := 7, ground := .chain }, { on := 0, ground := .phase }, { on := 1, ground := .phase }, { on := 2, ground := .phase }, { on := 3, ground := .phase }, { on := 4, ground := .phase }, { on := 5, ground := .phase }, { on := 6, ground := .phase }, { on := 7, ground := .phase }, { on := 8, ground := .phase }, { on := 9, ground := .phase }, { on := 10, ground := .textOnly Go.Departure.lateStores }, { on := 11, ground := .textOnly Go.Departure.lateStores }, { on := 12, ground := .phase }], guard := none } : Oper)) rfl (fun KK hK => ?_) AllReadyH.nil
            rw [if_pos (by rfl)]
            have p0 := VA.at 0 rfl
            have p1 := VA.at 1 rfl
            have p2 := VA.at 2 rfl
            have f0 := VA.free 0
            have f1 := VA.free 1
            have f2 := VA.free 2
            go_simp
            have HN := ((HB.setCell (p := ⟨ga, 0, none⟩) hga (.int .i64 0)).setCell (p := ⟨ga, 1, none⟩) hga (.int .i64 0)).setCell (p := ⟨ga, 2, none⟩) hga (.int .i64 0)
            obtain ⟨w8, hX⟩ : ∃ x, x = ((w7.setCell ⟨ga, 0, none⟩ (.int .i64 0)).setCell ⟨ga, 1, none⟩ (.int .i64 0)).setCell ⟨ga, 2, none⟩ (.int .i64 0) := ⟨_, rfl⟩
            rw [← hX] at HN ⊢
            clear hX p0 p1 p2 f0 f1 f2
            have HG : Vr w7 ga #[.int .i64 0, .int .i64 0, .int .i64 0] 23 → (1 : Nat) = 1 → True := fun _ _ => trivial
            refine hK.out _ _ ?_ (fun hHeld => ?_)
            · exact HN
            replace HB := hHeld; clear hHeld hK KK HN
            replace VA := HG VA (by decide)
            clear C7
            clear HG
            try simp only [Act.put, List.setIfInBounds_toArray, List.set_cons_zero, List.set_cons_succ]
            refine wpAnyH_take (i := 14) (oi := ({ dst := some 12, op := .assign (.tmp 54), type := 24, pos := "law.go:19", after := #[{ on := 10, ground := .data }, { on := 13, ground := .chain }, { on := 0, ground := .phase }, { on := 1, ground := .phase }, { on := 2, ground := .phase }, { on := 3, ground := .phase }, { on := 4, ground := .phase }, { on := 5, ground := .phase }, { on := 6, ground := .phase }, { on := 7, ground := .phase }, { on := 8, ground := .phase }, { on := 9, ground := .phase }, { on := 10, ground := .phase }, { on := 11, ground := .textOnly Go.Departure.lateStores }, { on := 12, ground := .phase }, { on := 13, ground := .phase }], guard := none } : Oper)) (v := ?vt6_15_) rfl awake8_plain (by as_aux_lemma => kernel_rfl) (by as_aux_lemma => kernel_rfl) (fun _ _ _ h => h) (Or.inl ⟨by rfl, ?yt6_15_⟩) HB ?rt6_15_
            case yt6_15_ => (intro w hSw; (try dsimp only at hSw); go_simp; try with_reducible rfl)
            try simp only [Act.put, List.setIfInBounds_toArray, List.set_cons_zero, List.set_cons_succ]
            refine wpAnyH_take (i := 15) (oi := ({ dst := some 13, op := .assign (.tmp 55), type := 27, pos := "law.go:19", after := #[{ on := 11, ground := .data }, { on := 14, ground := .chain }, { on := 0, ground := .phase }, { on := 1, ground := .phase }, { on := 2, ground := .phase }, { on := 3, ground := .phase }, { on := 4, ground := .phase }, { on := 5, ground := .phase }, { on := 6, ground := .phase }, { on := 7, ground := .phase }, { on := 8, ground := .phase }, { on := 9, ground := .phase }, { on := 10, ground := .phase }, { on := 11, ground := .phase }, { on := 12, ground := .phase }, { on := 13, ground := .phase }, { on := 14, ground := .phase }], guard := none } : Oper)) (v := ?vt6_16_) rfl awake8_plain (by as_aux_lemma => kernel_rfl) (by as_aux_lemma => kernel_rfl) (fun _ _ _ h => h) (Or.inl ⟨by rfl, ?yt6_16_⟩) HB ?rt6_16_
            case yt6_16_ => (intro w hSw; (try dsimp only at hSw); go_simp; try with_reducible rfl)
            try simp only [Act.put, List.setIfInBounds_toArray, List.set_cons_zero, List.set_cons_succ]
            refine wpAnyH_done (by as_aux_lemma => kernel_rfl) ?_ _
            refine NoPanic.normal ?_
            go_wp2_with fail
            go_meet
            exact ⟨rfl, HB⟩
        · skip
          rw [if_pos (by rfl)]
          go_simp
          have hb := below1 w4 (.cells #[.int .i64 0, .int .i64 0, .int .i64 0] 23)
          have VA := Vr.new w4 #[.int .i64 0, .int .i64 0, .int .i64 0] 23
          have hga := HB.size
          obtain ⟨ga, hGA⟩ : ∃ g, g = w4.heap.size := ⟨_, rfl⟩
          rw [← hGA] at VA hga ⊢
          clear hGA
          obtain ⟨w5, hX⟩ : ∃ x, x = w4.alloc (.cells #[.int .i64 0, .int .i64 0, .int .i64 0] 23) := ⟨_, rfl⟩
          rw [← hX] at VA hb ⊢
          clear hX
          refine hK.out _ _ ?_ (fun hHeld => ?_)
          · exact belowT HB hb
          replace HB := hHeld; clear hHeld hK KK
          replace hq := hq.keep hb
          clear hb
          try simp only [Act.put, List.setIfInBounds_toArray, List.set_cons_zero, List.set_cons_succ]
          refine wpAnyH_ready (rs := [6]) (by as_aux_lemma => kernel_rfl) (by simp) ?_
          refine AllReadyH.cons (o := ({ dst := some 51, op := .call { callee := .builtin .append, args := #[.tmp 48, .tmp 50], argTypes := #[25, 25] }, type := 25, pos := "law.go:19", after := #[{ on := 3, ground := .data }, { on := 5, ground := .data }, { on := 3, ground := .chain }], guard := none } : Oper)) rfl (fun KK hK => ?_) AllReadyH.nil
          rw [if_pos (by rfl)]
          refine oper_append_cameV (v := v4) (m := S) (ba := b5) (c := c5) rfl rfl hq (by rw [LY.out]; rfl) (CY.out.keep HB) (by rw [LX.out, LY.out]; decide) (fun v7 w6 hr HG => ?_)
          rw [← HQ.out] at hr
          have HN := hr.below
          obtain ⟨b7, c7, rfl, C7⟩ := hr.bytes.came
          clear hr
          refine hK.out _ _ ?_ (fun hHeld => ?_)
          · exact HN
          replace HB := hHeld; clear hHeld hK KK HN
          replace VA := HG VA (by decide)
          clear hq
          clear HG
          try simp only [Act.put, List.setIfInBounds_toArray, List.set_cons_zero, List.set_cons_succ]
          refine wpAnyH_ready (rs := [7]) (by as_aux_lemma => kernel_rfl) (by simp) ?_
          refine AllReadyH.cons (o := ({ dst := some 52, op := .call { callee := .value (.func 9), args := #[.tmp 51], argTypes := #[25] }, type := 30, pos := "law.go:19", after := #[{ on := 6, ground := .data }, { on := 6, ground := .chain }], guard := none } : Oper)) rfl (fun KK hK => ?_) AllReadyH.nil
          rw [if_pos (by rfl)]
          go_simp
          go_at_call 9; refine ((show Calls Try.prog 9 #[.slice b7 Q.length c7] w6 (fun e w' => e = .returned (.tuple #[.agg #[.int .i64 0, .int .i64 0, .int .i64 0], .int .u32 0, .int .i64 3]) ∧ Below w6.heap.size w6 w') from by have k := O.read w6 b7 c7 _ C7 (by rw [LQ.out]; decide); rw [RT.out] at k; exact k)).mono ?_; rintro e w7 ⟨rfl, hb⟩
          go_wp2_with fail
          refine hK.out _ _ ?_ (fun hHeld => ?_)
          · exact belowT HB hb
          replace HB := hHeld; clear hHeld hK KK
          replace VA := VA.keep hb
          replace C7 := C7.keep hb
          clear hb
          try simp only [Act.put, List.setIfInBounds_toArray, List.set_cons_zero, List.set_cons_succ]
          refine wpAnyH_take (i := 8) (oi := ({ dst := some 44, op := .move (.tmp 52), type := 30, pos := "law.go:19", after := #[{ on := 7, ground := .data }], guard := none } : Oper)) (v := ?vt6_17_) rfl awake8_plain (by as_aux_lemma => kernel_rfl) (by as_aux_lemma => kernel_rfl) (fun _ _ _ h => h) (Or.inl ⟨by rfl, ?yt6_17_⟩) HB ?rt6_17_
          case yt6_17_ => (intro w hSw; (try dsimp only at hSw); go_simp; try with_reducible rfl)
          try simp only [Act.put, List.setIfInBounds_toArray, List.set_cons_zero, List.set_cons_succ]
          refine wpAnyH_take (i := 9) (oi := ({ dst := some 53, op := .extract (.tmp 44) 0, type := 23, pos := "law.go:19", after := #[{ on := 8, ground := .data }], guard := none } : Oper)) (v := ?vt6_18_) rfl awake8_plain (by as_aux_lemma => kernel_rfl) (by as_aux_lemma => kernel_rfl) (fun _ _ _ h => h) (Or.inl ⟨by rfl, ?yt6_18_⟩) HB ?rt6_18_
          case yt6_18_ => (intro w hSw; (try dsimp only at hSw); go_simp; try with_reducible rfl)
          try simp only [Act.put, List.setIfInBounds_toArray, List.set_cons_zero, List.set_cons_succ]
          refine wpAnyH_take (i := 10) (oi := ({ dst := some 54, op := .extract (.tmp 44) 1, type := 24, pos := "law.go:19", after := #[{ on := 8, ground := .data }, { on := 13, ground := .gcOnly Go.Departure.lateStores }], guard := none } : Oper)) (v := ?vt6_19_) rfl awake8_plain (by as_aux_lemma => kernel_rfl) (by as_aux_lemma => kernel_rfl) (fun _ _ _ h => h) (Or.inl ⟨by rfl, ?yt6_19_⟩) HB ?rt6_19_
          case yt6_19_ => (intro w hSw; (try dsimp only at hSw); go_simp; try with_reducible rfl)
          try simp only [Act.put, List.setIfInBounds_toArray, List.set_cons_zero, List.set_cons_succ]
          refine wpAnyH_take (i := 11) (oi := ({ dst := some 55, op := .extract (.tmp 44) 2, type := 27, pos := "law.go:19", after := #[{ on := 8, ground := .data }, { on := 14, ground := .gcOnly Go.Departure.lateStores }], guard := none } : Oper)) (v := ?vt6_20_) rfl awake8_plain (by as_aux_lemma => kernel_rfl) (by as_aux_lemma => kernel_rfl) (fun _ _ _ h => h) (Or.inl ⟨by rfl, ?yt6_20_⟩) HB ?rt6_20_
          case yt6_20_ => (intro w hSw; (try dsimp only at hSw); go_simp; try with_reducible rfl)
          try simp only [Act.put, List.setIfInBounds_toArray, List.set_cons_zero, List.set_cons_succ]
          refine wpAnyH_ready (rs := [13]) (by as_aux_lemma => kernel_rfl) (by simp) ?_
          refine AllReadyH.cons (o := ({ dst := none, op := .store 23 (.tmp 11) (.tmp 53), type := 0, pos := "law.go:19", after := #[{ on := 12, ground := .data }, { on := 9, ground := .data }, { on := 7, ground := .chain }, { on := 0, ground := .phase }, { on := 1, ground := .phase }, { on := 2, ground := .phase }, { on := 3, ground := .phase }, { on := 4, ground := .phase }, { on := 5, ground := .phase }, { on := 6, ground := .phase }, { on := 7, ground := .phase }, { on := 8, ground := .phase }, { on := 9, ground := .phase }, { on := 10, ground := .textOnly Go.Departure.lateStores }, { on := 11, ground := .textOnly Go.Departure.lateStores }, { on := 12, ground := .phase }], guard := none } : Oper)) rfl (fun KK hK => ?_) AllReadyH.nil
          rw [if_pos (by rfl)]
          have p0 := VA.at 0 rfl
          have p1 := VA.at 1 rfl
          have p2 := VA.at 2 rfl
          have f0 := VA.free 0
          have f1 := VA.free 1
          have f2 := VA.free 2
          go_simp
          have HN := ((HB.setCell (p := ⟨ga, 0, none⟩) hga (.int .i64 0)).setCell (p := ⟨ga, 1, none⟩) hga (.int .i64 0)).setCell (p := ⟨ga, 2, none⟩) hga (.int .i64 0)
          obtain ⟨w8, hX⟩ : ∃ x, x = ((w7.setCell ⟨ga, 0, none⟩ (.int .i64 0)).setCell ⟨ga, 1, none⟩ (.int .i64 0)).setCell ⟨ga, 2, none⟩ (.int .i64 0) := ⟨_, rfl⟩
          rw [← hX] at HN ⊢
          clear hX p0 p1 p2 f0 f1 f2
          have HG : Vr w7 ga #[.int .i64 0, .int .i64 0, .int .i64 0] 23 → (1 : Nat) = 1 → True := fun _ _ => trivial
          refine hK.out _ _ ?_ (fun hHeld => ?_)
          · exact HN
          replace HB := hHeld; clear hHeld hK KK HN
          replace VA := HG VA (by decide)
          clear C7
          clear HG
          try simp only [Act.put, List.setIfInBounds_toArray, List.set_cons_zero, List.set_cons_succ]
          refine wpAnyH_take (i := 14) (oi := ({ dst := some 12, op := .assign (.tmp 54), type := 24, pos := "law.go:19", after := #[{ on := 10, ground := .data }, { on := 13, ground := .chain }, { on := 0, ground := .phase }, { on := 1, ground := .phase }, { on := 2, ground := .phase }, { on := 3, ground := .phase }, { on := 4, ground := .phase }, { on := 5, ground := .phase }, { on := 6, ground := .phase }, { on := 7, ground := .phase }, { on := 8, ground := .phase }, { on := 9, ground := .phase }, { on := 10, ground := .phase }, { on := 11, ground := .textOnly Go.Departure.lateStores }, { on := 12, ground := .phase }, { on := 13, ground := .phase }], guard := none } : Oper)) (v := ?vt6_21_) rfl awake8_plain (by as_aux_lemma => kernel_rfl) (by as_aux_lemma => kernel_rfl) (fun _ _ _ h => h) (Or.inl ⟨by rfl, ?yt6_21_⟩) HB ?rt6_21_
          case yt6_21_ => (intro w hSw; (try dsimp only at hSw); go_simp; try with_reducible rfl)
          try simp only [Act.put, List.setIfInBounds_toArray, List.set_cons_zero, List.set_cons_succ]
          refine wpAnyH_take (i := 15) (oi := ({ dst := some 13, op := .assign (.tmp 55), type := 27, pos := "law.go:19", after := #[{ on := 11, ground := .data }, { on := 14, ground := .chain }, { on := 0, ground := .phase }, { on := 1, ground := .phase }, { on := 2, ground := .phase }, { on := 3, ground := .phase }, { on := 4, ground := .phase }, { on := 5, ground := .phase }, { on := 6, ground := .phase }, { on := 7, ground := .phase }, { on := 8, ground := .phase }, { on := 9, ground := .phase }, { on := 10, ground := .phase }, { on := 11, ground := .phase }, { on := 12, ground := .phase }, { on := 13, ground := .phase }, { on := 14, ground := .phase }], guard := none } : Oper)) (v := ?vt6_22_) rfl awake8_plain (by as_aux_lemma => kernel_rfl) (by as_aux_lemma => kernel_rfl) (fun _ _ _ h => h) (Or.inl ⟨by rfl, ?yt6_22_⟩) HB ?rt6_22_
          case yt6_22_ => (intro w hSw; (try dsimp only at hSw); go_simp; try with_reducible rfl)
          try simp only [Act.put, List.setIfInBounds_toArray, List.set_cons_zero, List.set_cons_succ]
          refine wpAnyH_done (by as_aux_lemma => kernel_rfl) ?_ _
          refine NoPanic.normal ?_
          go_wp2_with fail
          go_meet
          exact ⟨rfl, HB⟩
      · skip
        rw [if_pos (by rfl)]
        go_simp
        have hb := below1 w3 (.cells #[.int .i64 0, .int .i64 0, .int .i64 0] 23)
        have VA := Vr.new w3 #[.int .i64 0, .int .i64 0, .int .i64 0] 23
        have hga := HB.size
        obtain ⟨ga, hGA⟩ : ∃ g, g = w3.heap.size := ⟨_, rfl⟩
        rw [← hGA] at VA hga ⊢
        clear hGA
        obtain ⟨w4, hX⟩ : ∃ x, x = w3.alloc (.cells #[.int .i64 0, .int .i64 0, .int .i64 0] 23) := ⟨_, rfl⟩
        rw [← hX] at VA hb ⊢
        clear hX
        refine hK.out _ _ ?_ (fun hHeld => ?_)
        · exact belowT HB hb
        replace HB := hHeld; clear hHeld hK KK
        replace hv := hv.keep hb
        clear hb
        try simp only [Act.put, List.setIfInBounds_toArray, List.set_cons_zero, List.set_cons_succ]
        refine wpAnyH_ready (rs := [3]) (by as_aux_lemma => kernel_rfl) (by simp) ?_
        refine AllReadyH.cons (o := ({ dst := some 48, op := .call { callee := .builtin .append, args := #[.tmp 45, .tmp 47], argTypes := #[25, 25] }, type := 25, pos := "law.go:19", after := #[{ on := 0, ground := .data }, { on := 2, ground := .data }], guard := none } : Oper)) rfl (fun KK hK => ?_) AllReadyH.nil
        rw [if_pos (by rfl)]
        refine oper_append_cameV (v := .slice (some ⟨gv, 0, none⟩) 0 0) (m := P) (ba := b1) (c := c1) rfl rfl hv (by rw [LX.out]; rfl) (CX.out.keep HB) (by rw [LX.out]; decide) (fun v4 w5 hq HG => ?_)
        replace hq : Bytes0 W0.heap.size W0 w5 v4 P := hq
        have HN := hq.below
        refine hK.out _ _ ?_ (fun hHeld => ?_)
        · exact HN
        replace HB := hHeld; clear hHeld hK KK HN
        replace VA := HG VA (by decide)
        clear hv
        clear HG
        try simp only [Act.put, List.setIfInBounds_toArray, List.set_cons_zero, List.set_cons_succ]
        refine wpAnyH_ready (rs := [6]) (by as_aux_lemma => kernel_rfl) (by simp) ?_
        refine AllReadyH.cons (o := ({ dst := some 51, op := .call { callee := .builtin .append, args := #[.tmp 48, .tmp 50], argTypes := #[25, 25] }, type := 25, pos := "law.go:19", after := #[{ on := 3, ground := .data }, { on := 5, ground := .data }, { on := 3, ground := .chain }], guard := none } : Oper)) rfl (fun KK hK => ?_) AllReadyH.nil
        rw [if_pos (by rfl)]
        refine oper_append_cameV (v := v4) (m := S) (ba := b5) (c := c5) rfl rfl hq (by rw [LY.out]; rfl) (CY.out.keep HB) (by rw [LX.out, LY.out]; decide) (fun v7 w6 hr HG => ?_)
        rw [← HQ.out] at hr
        have HN := hr.below
        obtain ⟨b7, c7, rfl, C7⟩ := hr.bytes.came
        clear hr
        refine hK.out _ _ ?_ (fun hHeld => ?_)
        · exact HN
        replace HB := hHeld; clear hHeld hK KK HN
        replace VA := HG VA (by decide)
        clear hq
        clear HG
        try simp only [Act.put, List.setIfInBounds_toArray, List.set_cons_zero, List.set_cons_succ]
        refine wpAnyH_ready (rs := [7]) (by as_aux_lemma => kernel_rfl) (by simp) ?_
        refine AllReadyH.cons (o := ({ dst := some 52, op := .call { callee := .value (.func 9), args := #[.tmp 51], argTypes := #[25] }, type := 30, pos := "law.go:19", after := #[{ on := 6, ground := .data }, { on := 6, ground := .chain }], guard := none } : Oper)) rfl (fun KK hK => ?_) AllReadyH.nil
        rw [if_pos (by rfl)]
        go_simp
        go_at_call 9; refine ((show Calls Try.prog 9 #[.slice b7 Q.length c7] w6 (fun e w' => e = .returned (.tuple #[.agg #[.int .i64 0, .int .i64 0, .int .i64 0], .int .u32 0, .int .i64 3]) ∧ Below w6.heap.size w6 w') from by have k := O.read w6 b7 c7 _ C7 (by rw [LQ.out]; decide); rw [RT.out] at k; exact k)).mono ?_; rintro e w7 ⟨rfl, hb⟩
        go_wp2_with fail
        refine hK.out _ _ ?_ (fun hHeld => ?_)
        · exact belowT HB hb
        replace HB := hHeld; clear hHeld hK KK
        replace VA := VA.keep hb
        replace C7 := C7.keep hb
        clear hb
        try simp only [Act.put, List.setIfInBounds_toArray, List.set_cons_zero, List.set_cons_succ]
        refine wpAnyH_take (i := 8) (oi := ({ dst := some 44, op := .move (.tmp 52), type := 30, pos := "law.go:19", after := #[{ on := 7, ground := .data }], guard := none } : Oper)) (v := ?vt6_23_) rfl awake8_plain (by as_aux_lemma => kernel_rfl) (by as_aux_lemma => kernel_rfl) (fun _ _ _ h => h) (Or.inl ⟨by rfl, ?yt6_23_⟩) HB ?rt6_23_
        case yt6_23_ => (intro w hSw; (try dsimp only at hSw); go_simp; try with_reducible rfl)
        try simp only [Act.put, List.setIfInBounds_toArray, List.set_cons_zero, List.set_cons_succ]
        refine wpAnyH_take (i := 9) (oi := ({ dst := some 53, op := .extract (.tmp 44) 0, type := 23, pos := "law.go:19", after := #[{ on := 8, ground := .data }], guard := none } : Oper)) (v := ?vt6_24_) rfl awake8_plain (by as_aux_lemma => kernel_rfl) (by as_aux_lemma => kernel_rfl) (fun _ _ _ h => h) (Or.inl ⟨by rfl, ?yt6_24_⟩) HB ?rt6_24_
        case yt6_24_ => (intro w hSw; (try dsimp only at hSw); go_simp; try with_reducible rfl)
        try simp only [Act.put, List.setIfInBounds_toArray, List.set_cons_zero, List.set_cons_succ]
        refine wpAnyH_take (i := 10) (oi := ({ dst := some 54, op := .extract (.tmp 44) 1, type := 24, pos := "law.go:19", after := #[{ on := 8, ground := .data }, { on := 13, ground := .gcOnly Go.Departure.lateStores }], guard := none } : Oper)) (v := ?vt6_25_) rfl awake8_plain (by as_aux_lemma => kernel_rfl) (by as_aux_lemma => kernel_rfl) (fun _ _ _ h => h) (Or.inl ⟨by rfl, ?yt6_25_⟩) HB ?rt6_25_
        case yt6_25_ => (intro w hSw; (try dsimp only at hSw); go_simp; try with_reducible rfl)
        try simp only [Act.put, List.setIfInBounds_toArray, List.set_cons_zero, List.set_cons_succ]
        refine wpAnyH_take (i := 11) (oi := ({ dst := some 55, op := .extract (.tmp 44) 2, type := 27, pos := "law.go:19", after := #[{ on := 8, ground := .data }, { on := 14, ground := .gcOnly Go.Departure.lateStores }], guard := none } : Oper)) (v := ?vt6_26_) rfl awake8_plain (by as_aux_lemma => kernel_rfl) (by as_aux_lemma => kernel_rfl) (fun _ _ _ h => h) (Or.inl ⟨by rfl, ?yt6_26_⟩) HB ?rt6_26_
        case yt6_26_ => (intro w hSw; (try dsimp only at hSw); go_simp; try with_reducible rfl)
        try simp only [Act.put, List.setIfInBounds_toArray, List.set_cons_zero, List.set_cons_succ]
        refine wpAnyH_ready (rs := [13]) (by as_aux_lemma => kernel_rfl) (by simp) ?_
        refine AllReadyH.cons (o := ({ dst := none, op := .store 23 (.tmp 11) (.tmp 53), type := 0, pos := "law.go:19", after := #[{ on := 12, ground := .data }, { on := 9, ground := .data }, { on := 7, ground := .chain }, { on := 0, ground := .phase }, { on := 1, ground := .phase }, { on := 2, ground := .phase }, { on := 3, ground := .phase }, { on := 4, ground := .phase }, { on := 5, ground := .phase }, { on := 6, ground := .phase }, { on := 7, ground := .phase }, { on := 8, ground := .phase }, { on := 9, ground := .phase }, { on := 10, ground := .textOnly Go.Departure.lateStores }, { on := 11, ground := .textOnly Go.Departure.lateStores }, { on := 12, ground := .phase }], guard := none } : Oper)) rfl (fun KK hK => ?_) AllReadyH.nil
        rw [if_pos (by rfl)]
        have p0 := VA.at 0 rfl
        have p1 := VA.at 1 rfl
        have p2 := VA.at 2 rfl
        have f0 := VA.free 0
        have f1 := VA.free 1
        have f2 := VA.free 2
        go_simp
        have HN := ((HB.setCell (p := ⟨ga, 0, none⟩) hga (.int .i64 0)).setCell (p := ⟨ga, 1, none⟩) hga (.int .i64 0)).setCell (p := ⟨ga, 2, none⟩) hga (.int .i64 0)
        obtain ⟨w8, hX⟩ : ∃ x, x = ((w7.setCell ⟨ga, 0, none⟩ (.int .i64 0)).setCell ⟨ga, 1, none⟩ (.int .i64 0)).setCell ⟨ga, 2, none⟩ (.int .i64 0) := ⟨_, rfl⟩
        rw [← hX] at HN ⊢
        clear hX p0 p1 p2 f0 f1 f2
        have HG : Vr w7 ga #[.int .i64 0, .int .i64 0, .int .i64 0] 23 → (1 : Nat) = 1 → True := fun _ _ => trivial
        refine hK.out _ _ ?_ (fun hHeld => ?_)
        · exact HN
        replace HB := hHeld; clear hHeld hK KK HN
        replace VA := HG VA (by decide)
        clear C7
        clear HG
        try simp only [Act.put, List.setIfInBounds_toArray, List.set_cons_zero, List.set_cons_succ]
        refine wpAnyH_take (i := 14) (oi := ({ dst := some 12, op := .assign (.tmp 54), type := 24, pos := "law.go:19", after := #[{ on := 10, ground := .data }, { on := 13, ground := .chain }, { on := 0, ground := .phase }, { on := 1, ground := .phase }, { on := 2, ground := .phase }, { on := 3, ground := .phase }, { on := 4, ground := .phase }, { on := 5, ground := .phase }, { on := 6, ground := .phase }, { on := 7, ground := .phase }, { on := 8, ground := .phase }, { on := 9, ground := .phase }, { on := 10, ground := .phase }, { on := 11, ground := .textOnly Go.Departure.lateStores }, { on := 12, ground := .phase }, { on := 13, ground := .phase }], guard := none } : Oper)) (v := ?vt6_27_) rfl awake8_plain (by as_aux_lemma => kernel_rfl) (by as_aux_lemma => kernel_rfl) (fun _ _ _ h => h) (Or.inl ⟨by rfl, ?yt6_27_⟩) HB ?rt6_27_
        case yt6_27_ => (intro w hSw; (try dsimp only at hSw); go_simp; try with_reducible rfl)
        try simp only [Act.put, List.setIfInBounds_toArray, List.set_cons_zero, List.set_cons_succ]
        refine wpAnyH_take (i := 15) (oi := ({ dst := some 13, op := .assign (.tmp 55), type := 27, pos := "law.go:19", after := #[{ on := 11, ground := .data }, { on := 14, ground := .chain }, { on := 0, ground := .phase }, { on := 1, ground := .phase }, { on := 2, ground := .phase }, { on := 3, ground := .phase }, { on := 4, ground := .phase }, { on := 5, ground := .phase }, { on := 6, ground := .phase }, { on := 7, ground := .phase }, { on := 8, ground := .phase }, { on := 9, ground := .phase }, { on := 10, ground := .phase }, { on := 11, ground := .phase }, { on := 12, ground := .phase }, { on := 13, ground := .phase }, { on := 14, ground := .phase }], guard := none } : Oper)) (v := ?vt6_28_) rfl awake8_plain (by as_aux_lemma => kernel_rfl) (by as_aux_lemma => kernel_rfl) (fun _ _ _ h => h) (Or.inl ⟨by rfl, ?yt6_28_⟩) HB ?rt6_28_
        case yt6_28_ => (intro w hSw; (try dsimp only at hSw); go_simp; try with_reducible rfl)
        try simp only [Act.put, List.setIfInBounds_toArray, List.set_cons_zero, List.set_cons_succ]
        refine wpAnyH_done (by as_aux_lemma => kernel_rfl) ?_ _
        refine NoPanic.normal ?_
        go_wp2_with fail
        go_meet
        exact ⟨rfl, HB⟩
    · skip
      rw [if_pos (by rfl)]
      go_simp
      have hb := below1 w2 (.cells #[.int .i64 0, .int .i64 0, .int .i64 0] 23)
      have VA := Vr.new w2 #[.int .i64 0, .int .i64 0, .int .i64 0] 23
      have hga := HB.size
      obtain ⟨ga, hGA⟩ : ∃ g, g = w2.heap.size := ⟨_, rfl⟩
      rw [← hGA] at VA hga ⊢
      clear hGA
      obtain ⟨w3, hX⟩ : ∃ x, x = w2.alloc (.cells #[.int .i64 0, .int .i64 0, .int .i64 0] 23) := ⟨_, rfl⟩
      rw [← hX] at VA hb ⊢
      clear hX
      refine hK.out _ _ ?_ (fun hHeld => ?_)
      · exact belowT HB hb
      replace HB := hHeld; clear hHeld hK KK
      clear hb
      try simp only [Act.put, List.setIfInBounds_toArray, List.set_cons_zero, List.set_cons_succ]
      refine wpAnyH_ready (rs := [0]) (by as_aux_lemma => kernel_rfl) (by simp) ?_
      refine AllReadyH.cons (o := ({ dst := some 45, op := .buildSlice 25 0 #[], type := 25, pos := "law.go:19", after := #[], guard := none } : Oper)) rfl (fun KK hK => ?_) AllReadyH.nil
      rw [if_pos (by rfl)]
      go_simp
      have hb := below1 w3 (.cells #[] 5)
      have hv := (empty_bytes0 w3 _ rfl).low HB
      obtain ⟨gv, hgv⟩ : ∃ g, g = w3.heap.size := ⟨_, rfl⟩
      rw [← hgv] at hv ⊢
      clear hgv
      obtain ⟨w4, hX⟩ : ∃ x, x = w3.alloc (.cells #[] 5) := ⟨_, rfl⟩
      rw [← hX] at hv hb ⊢
      clear hX
      refine hK.out _ _ ?_ (fun hHeld => ?_)
      · exact belowT HB hb
      replace HB := hHeld; clear hHeld hK KK
      replace VA := VA.keep hb
      clear hb
      try simp only [Act.put, List.setIfInBounds_toArray, List.set_cons_zero, List.set_cons_succ]
      refine wpAnyH_ready (rs := [3]) (by as_aux_lemma => kernel_rfl) (by simp) ?_
      refine AllReadyH.cons (o := ({ dst := some 48, op := .call { callee := .builtin .append, args := #[.tmp 45, .tmp 47], argTypes := #[25, 25] }, type := 25, pos := "law.go:19", after := #[{ on := 0, ground := .data }, { on := 2, ground := .data }], guard := none } : Oper)) rfl (fun KK hK => ?_) AllReadyH.nil
      rw [if_pos (by rfl)]
      refine oper_append_cameV (v := .slice (some ⟨gv, 0, none⟩) 0 0) (m := P) (ba := b1) (c := c1) rfl rfl hv (by rw [LX.out]; rfl) (CX.out.keep HB) (by rw [LX.out]; decide) (fun v4 w5 hq HG => ?_)
      replace hq : Bytes0 W0.heap.size W0 w5 v4 P := hq
      have HN := hq.below
      refine hK.out _ _ ?_ (fun hHeld => ?_)
      · exact HN
      replace HB := hHeld; clear hHeld hK KK HN
      replace VA := HG VA (by decide)
      clear hv
      clear HG
      try simp only [Act.put, List.setIfInBounds_toArray, List.set_cons_zero, List.set_cons_succ]
      refine wpAnyH_ready (rs := [6]) (by as_aux_lemma => kernel_rfl) (by simp) ?_
      refine AllReadyH.cons (o := ({ dst := some 51, op := .call { callee := .builtin .append, args := #[.tmp 48, .tmp 50], argTypes := #[25, 25] }, type := 25, pos := "law.go:19", after := #[{ on := 3, ground := .data }, { on := 5, ground := .data }, { on := 3, ground := .chain }], guard := none } : Oper)) rfl (fun KK hK => ?_) AllReadyH.nil
      rw [if_pos (by rfl)]
      refine oper_append_cameV (v := v4) (m := S) (ba := b5) (c := c5) rfl rfl hq (by rw [LY.out]; rfl) (CY.out.keep HB) (by rw [LX.out, LY.out]; decide) (fun v7 w6 hr HG => ?_)
      rw [← HQ.out] at hr
      have HN := hr.below
      obtain ⟨b7, c7, rfl, C7⟩ := hr.bytes.came
      clear hr
      refine hK.out _ _ ?_ (fun hHeld => ?_)
      · exact HN
      replace HB := hHeld; clear hHeld hK KK HN
      replace VA := HG VA (by decide)
      clear hq
      clear HG
      try simp only [Act.put, List.setIfInBounds_toArray, List.set_cons_zero, List.set_cons_succ]
      refine wpAnyH_ready (rs := [7]) (by as_aux_lemma => kernel_rfl) (by simp) ?_
      refine AllReadyH.cons (o := ({ dst := some 52, op := .call { callee := .value (.func 9), args := #[.tmp 51], argTypes := #[25] }, type := 30, pos := "law.go:19", after := #[{ on := 6, ground := .data }, { on := 6, ground := .chain }], guard := none } : Oper)) rfl (fun KK hK => ?_) AllReadyH.nil
      rw [if_pos (by rfl)]
      go_simp
      go_at_call 9; refine ((show Calls Try.prog 9 #[.slice b7 Q.length c7] w6 (fun e w' => e = .returned (.tuple #[.agg #[.int .i64 0, .int .i64 0, .int .i64 0], .int .u32 0, .int .i64 3]) ∧ Below w6.heap.size w6 w') from by have k := O.read w6 b7 c7 _ C7 (by rw [LQ.out]; decide); rw [RT.out] at k; exact k)).mono ?_; rintro e w7 ⟨rfl, hb⟩
      go_wp2_with fail
      refine hK.out _ _ ?_ (fun hHeld => ?_)
      · exact belowT HB hb
      replace HB := hHeld; clear hHeld hK KK
      replace VA := VA.keep hb
      replace C7 := C7.keep hb
      clear hb
      try simp only [Act.put, List.setIfInBounds_toArray, List.set_cons_zero, List.set_cons_succ]
      refine wpAnyH_take (i := 8) (oi := ({ dst := some 44, op := .move (.tmp 52), type := 30, pos := "law.go:19", after := #[{ on := 7, ground := .data }], guard := none } : Oper)) (v := ?vt6_29_) rfl awake8_plain (by as_aux_lemma => kernel_rfl) (by as_aux_lemma => kernel_rfl) (fun _ _ _ h => h) (Or.inl ⟨by rfl, ?yt6_29_⟩) HB ?rt6_29_
      case yt6_29_ => (intro w hSw; (try dsimp only at hSw); go_simp; try with_reducible rfl)
      try simp only [Act.put, List.setIfInBounds_toArray, List.set_cons_zero, List.set_cons_succ]
      refine wpAnyH_take (i := 9) (oi := ({ dst := some 53, op := .extract (.tmp 44) 0, type := 23, pos := "law.go:19", after := #[{ on := 8, ground := .data }], guard := none } : Oper)) (v := ?vt6_30_) rfl awake8_plain (by as_aux_lemma => kernel_rfl) (by as_aux_lemma => kernel_rfl) (fun _ _ _ h => h) (Or.inl ⟨by rfl, ?yt6_30_⟩) HB ?rt6_30_
      case yt6_30_ => (intro w hSw; (try dsimp only at hSw); go_simp; try with_reducible rfl)
      try simp only [Act.put, List.setIfInBounds_toArray, List.set_cons_zero, List.set_cons_succ]
      refine wpAnyH_take (i := 10) (oi := ({ dst := some 54, op := .extract (.tmp 44) 1, type := 24, pos := "law.go:19", after := #[{ on := 8, ground := .data }, { on := 13, ground := .gcOnly Go.Departure.lateStores }], guard := none } : Oper)) (v := ?vt6_31_) rfl awake8_plain (by as_aux_lemma => kernel_rfl) (by as_aux_lemma => kernel_rfl) (fun _ _ _ h => h) (Or.inl ⟨by rfl, ?yt6_31_⟩) HB ?rt6_31_
      case yt6_31_ => (intro w hSw; (try dsimp only at hSw); go_simp; try with_reducible rfl)
      try simp only [Act.put, List.setIfInBounds_toArray, List.set_cons_zero, List.set_cons_succ]
      refine wpAnyH_take (i := 11) (oi := ({ dst := some 55, op := .extract (.tmp 44) 2, type := 27, pos := "law.go:19", after := #[{ on := 8, ground := .data }, { on := 14, ground := .gcOnly Go.Departure.lateStores }], guard := none } : Oper)) (v := ?vt6_32_) rfl awake8_plain (by as_aux_lemma => kernel_rfl) (by as_aux_lemma => kernel_rfl) (fun _ _ _ h => h) (Or.inl ⟨by rfl, ?yt6_32_⟩) HB ?rt6_32_
      case yt6_32_ => (intro w hSw; (try dsimp only at hSw); go_simp; try with_reducible rfl)
      try simp only [Act.put, List.setIfInBounds_toArray, List.set_cons_zero, List.set_cons_succ]
      refine wpAnyH_ready (rs := [13]) (by as_aux_lemma => kernel_rfl) (by simp) ?_
      refine AllReadyH.cons (o := ({ dst := none, op := .store 23 (.tmp 11) (.tmp 53), type := 0, pos := "law.go:19", after := #[{ on := 12, ground := .data }, { on := 9, ground := .data }, { on := 7, ground := .chain }, { on := 0, ground := .phase }, { on := 1, ground := .phase }, { on := 2, ground := .phase }, { on := 3, ground := .phase }, { on := 4, ground := .phase }, { on := 5, ground := .phase }, { on := 6, ground := .phase }, { on := 7, ground := .phase }, { on := 8, ground := .phase }, { on := 9, ground := .phase }, { on := 10, ground := .textOnly Go.Departure.lateStores }, { on := 11, ground := .textOnly Go.Departure.lateStores }, { on := 12, ground := .phase }], guard := none } : Oper)) rfl (fun KK hK => ?_) AllReadyH.nil
      rw [if_pos (by rfl)]
      have p0 := VA.at 0 rfl
      have p1 := VA.at 1 rfl
      have p2 := VA.at 2 rfl
      have f0 := VA.free 0
      have f1 := VA.free 1
      have f2 := VA.free 2
      go_simp
      have HN := ((HB.setCell (p := ⟨ga, 0, none⟩) hga (.int .i64 0)).setCell (p := ⟨ga, 1, none⟩) hga (.int .i64 0)).setCell (p := ⟨ga, 2, none⟩) hga (.int .i64 0)
      obtain ⟨w8, hX⟩ : ∃ x, x = ((w7.setCell ⟨ga, 0, none⟩ (.int .i64 0)).setCell ⟨ga, 1, none⟩ (.int .i64 0)).setCell ⟨ga, 2, none⟩ (.int .i64 0) := ⟨_, rfl⟩
      rw [← hX] at HN ⊢
      clear hX p0 p1 p2 f0 f1 f2
      have HG : Vr w7 ga #[.int .i64 0, .int .i64 0, .int .i64 0] 23 → (1 : Nat) = 1 → True := fun _ _ => trivial
      refine hK.out _ _ ?_ (fun hHeld => ?_)
      · exact HN
      replace HB := hHeld; clear hHeld hK KK HN
      replace VA := HG VA (by decide)
      clear C7
      clear HG
      try simp only [Act.put, List.setIfInBounds_toArray, List.set_cons_zero, List.set_cons_succ]
      refine wpAnyH_take (i := 14) (oi := ({ dst := some 12, op := .assign (.tmp 54), type := 24, pos := "law.go:19", after := #[{ on := 10, ground := .data }, { on := 13, ground := .chain }, { on := 0, ground := .phase }, { on := 1, ground := .phase }, { on := 2, ground := .phase }, { on := 3, ground := .phase }, { on := 4, ground := .phase }, { on := 5, ground := .phase }, { on := 6, ground := .phase }, { on := 7, ground := .phase }, { on := 8, ground := .phase }, { on := 9, ground := .phase }, { on := 10, ground := .phase }, { on := 11, ground := .textOnly Go.Departure.lateStores }, { on := 12, ground := .phase }, { on := 13, ground := .phase }], guard := none } : Oper)) (v := ?vt6_33_) rfl awake8_plain (by as_aux_lemma => kernel_rfl) (by as_aux_lemma => kernel_rfl) (fun _ _ _ h => h) (Or.inl ⟨by rfl, ?yt6_33_⟩) HB ?rt6_33_
      case yt6_33_ => (intro w hSw; (try dsimp only at hSw); go_simp; try with_reducible rfl)
      try simp only [Act.put, List.setIfInBounds_toArray, List.set_cons_zero, List.set_cons_succ]
      refine wpAnyH_take (i := 15) (oi := ({ dst := some 13, op := .assign (.tmp 55), type := 27, pos := "law.go:19", after := #[{ on := 11, ground := .data }, { on := 14, ground := .chain }, { on := 0, ground := .phase }, { on := 1, ground := .phase }, { on := 2, ground := .phase }, { on := 3, ground := .phase }, { on := 4, ground := .phase }, { on := 5, ground := .phase }, { on := 6, ground := .phase }, { on := 7, ground := .phase }, { on := 8, ground := .phase }, { on := 9, ground := .phase }, { on := 10, ground := .phase }, { on := 11, ground := .phase }, { on := 12, ground := .phase }, { on := 13, ground := .phase }, { on := 14, ground := .phase }], guard := none } : Oper)) (v := ?vt6_34_) rfl awake8_plain (by as_aux_lemma => kernel_rfl) (by as_aux_lemma => kernel_rfl) (fun _ _ _ h => h) (Or.inl ⟨by rfl, ?yt6_34_⟩) HB ?rt6_34_
      case yt6_34_ => (intro w hSw; (try dsimp only at hSw); go_simp; try with_reducible rfl)
      try simp only [Act.put, List.setIfInBounds_toArray, List.set_cons_zero, List.set_cons_succ]
      refine wpAnyH_done (by as_aux_lemma => kernel_rfl) ?_ _
      refine NoPanic.normal ?_
      go_wp2_with fail
      go_meet
      exact ⟨rfl, HB⟩
  case rest =>
    rename World => wx
    obtain ⟨rfl, hbx⟩ := hcut
    have HBX := Lib.hid (belowT HB4.out hbx)
    have H5 := Lib.hid (H4.out.keep hbx)
    have K5 := Lib.hid (K4.out.keep hbx)
    have X5 := Lib.hid (X4.out.keep hbx)
    have q0 := H5.out.at 0 rfl
    have q1 := H5.out.at 1 rfl
    have q2 := H5.out.at 2 rfl
    have p0 := K5.out.at 0 rfl
    have p1 := K5.out.at 1 rfl
    have p2 := K5.out.at 2 rfl
    obtain ⟨bb, oo, rfl, LL⟩ := X5.out.lies (by have := L1.out; omega)
    have c0 := LL 0 (by have := L1.out; omega)
    rw [HH1.out, Nat.add_zero] at c0
    have c0 : wx.cell? ⟨bb, oo, none⟩ = some (.int .u8 2) := c0
    have SQ := O.seq wx _ _ L X5.out (by have := L1.out; omega)
    rw [D1.out, L1.out] at SQ
    have SQ : Hid (Calls Try.prog 13 #[.slice (some ⟨bb, oo, none⟩) 12 c1] wx fun e w' => e = .returned (.int .u32 251) ∧ Below wx.heap.size wx w') := Lib.hid SQ
    clear hbx HB4 H4 K4 X4 Y4 LL T1
    go_wp2_with fail
    refine SQ.out.mono ?_; rintro e w6 ⟨rfl, hb6⟩
    have HB6 := Lib.hid (belowT HBX.out hb6)
    have H6 := Lib.hid (H5.out.keep hb6)
    clear SQ hb6 HBX H5 K5 X5 q0 q1 q2 p0 p1 p2 c0
    go_wp2_with fail
    refine (OS0.out _).mono ?_; rintro e w7 ⟨rfl, hb7⟩
    have HB7 := Lib.hid (belowT HB6.out hb7)
    have H7 := H6.out.keep hb7
    have q0 := H7.at 0 rfl
    have q1 := H7.at 1 rfl
    have q2 := H7.at 2 rfl
    clear OS0 hb7 HB6 H6 H7
    go_wp2_with fail
    refine (OR.out _).mono ?_; rintro e w8 ⟨rfl, hb8⟩
    have HB8 := Lib.hid (belowT HB7.out hb8)
    clear OR hb8 HB7 q0 q1 q2
    go_wp2
    go_ret
    exact ⟨rfl, HB8.out⟩
end Go.Proofs.Ytjhkmhegnlippaa
