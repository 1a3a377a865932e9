/- SlotTorn over Own18. -/
import Derived.Test.YtjhkmhegnlippaaSltBack
import Derived.Test.YtjhkmhegnlippaaSp
namespace Go.Proofs.Ytjhkmhegnlippaa
open Go.RowKit

/-- numbers as the law makes them -/
theorem seq_of (a : Int) : ∃ s : Nat, (s : Int) < 2147483648 ∧ IntKind.u32.wrap ((IntKind.u64.wrap a).tmod 2147483648) = s := by
  have hw : 0 ≤ IntKind.u64.wrap a := by rw [IntKind.wrap_u64]; omega
  have hm := Int.tmod_lt_of_pos (IntKind.u64.wrap a) (show (0 : Int) < 2147483648 by decide)
  have hz := Int.tmod_nonneg (2147483648 : Int) hw
  refine ⟨((IntKind.u64.wrap a).tmod 2147483648).toNat, by omega, ?_⟩
  generalize (IntKind.u64.wrap a).tmod 2147483648 = z at *
  rw [IntKind.wrap_u32]
  omega
theorem umod (a k : Int) (h0 : 0 < k) (h1 : k ≤ 1000) : ∃ n : Nat, (n : Int) < k ∧ wrap64 ((IntKind.u64.wrap a).tmod k) = n := by
  have hw : 0 ≤ IntKind.u64.wrap a := by rw [IntKind.wrap_u64]; omega
  have hm := Int.tmod_lt_of_pos (IntKind.u64.wrap a) h0
  have hz := Int.tmod_nonneg k hw
  refine ⟨((IntKind.u64.wrap a).tmod k).toNat, by omega, ?_⟩
  generalize (IntKind.u64.wrap a).tmod k = z at *
  unfold wrap64
  omega

/-- The operations of a drawn region, as the translation has them. -/
def torn10 : Array Oper := #[
  { dst := some 68, op := .buildSlice 25 0 #[], type := 25, pos := "law.go:66", after := #[], guard := none },
  { dst := some 69, op := .move (.tmp 9), type := 25, pos := "law.go:66", after := #[], guard := none },
  { dst := some 70, op := .move (.tmp 13), type := 3, pos := "law.go:66", after := #[], guard := none },
  { dst := some 71, op := .slice 25 (.tmp 69) none (some (.tmp 70)) none, type := 25, pos := "law.go:66", after := #[{ on := 1, ground := .data }, { on := 2, ground := .data }], guard := none },
  { dst := some 72, op := .call { callee := .builtin .append, args := #[.tmp 68, .tmp 71], argTypes := #[25, 25] }, type := 25, pos := "law.go:66", after := #[{ on := 0, ground := .data }, { on := 3, ground := .data }], guard := none },
  { dst := some 73, op := .move (.tmp 11), type := 25, pos := "law.go:66", after := #[], guard := none },
  { dst := some 74, op := .move (.tmp 13), type := 3, pos := "law.go:66", after := #[], guard := none },
  { dst := some 75, op := .slice 25 (.tmp 73) (some (.tmp 74)) none none, type := 25, pos := "law.go:66", after := #[{ on := 5, ground := .data }, { on := 6, ground := .data }], guard := none },
  { dst := some 76, op := .call { callee := .builtin .append, args := #[.tmp 72, .tmp 75], argTypes := #[25, 25] }, type := 25, pos := "law.go:66", after := #[{ on := 4, ground := .data }, { on := 7, ground := .data }, { on := 4, ground := .chain }], guard := none },
  { dst := some 77, op := .call { callee := .value (.func 9), args := #[.tmp 76], argTypes := #[25] }, type := 30, pos := "law.go:66", after := #[{ on := 8, ground := .data }, { on := 8, ground := .chain }], guard := none },
  { dst := some 67, op := .move (.tmp 77), type := 30, pos := "law.go:66", after := #[{ on := 9, ground := .data }], guard := none },
  { dst := some 78, op := .extract (.tmp 67) 0, type := 23, pos := "law.go:66", after := #[{ on := 10, ground := .data }], guard := none },
  { dst := some 79, op := .extract (.tmp 67) 1, type := 24, pos := "law.go:66", after := #[{ on := 10, ground := .data }, { on := 15, ground := .gcOnly Go.Departure.lateStores }], guard := none },
  { dst := some 80, op := .extract (.tmp 67) 2, type := 27, pos := "law.go:66", after := #[{ on := 10, ground := .data }, { on := 16, ground := .gcOnly Go.Departure.lateStores }], guard := none },
  { dst := some 14, op := .alloc 23, type := 0, pos := "law.go:66", after := #[], guard := none },
  { dst := none, op := .store 23 (.tmp 14) (.tmp 78), type := 0, pos := "law.go:66", after := #[{ on := 14, ground := .data }, { on := 11, ground := .data }, { on := 9, ground := .chain }, { on := 0, ground := .phase }, { on := 1, ground := .phase }, { on := 2, ground := .phase }, { on := 3, ground := .phase }, { on := 4, ground := .phase }, { on := 5, ground := .phase }, { on := 6, ground := .phase }, { on := 7, ground := .phase }, { on := 8, ground := .phase }, { on := 9, ground := .phase }, { on := 10, ground := .phase }, { on := 11, ground := .phase }, { on := 12, ground := .textOnly Go.Departure.lateStores }, { on := 13, ground := .textOnly Go.Departure.lateStores }, { on := 14, ground := .phase }], guard := none },
  { dst := some 15, op := .assign (.tmp 79), type := 24, pos := "law.go:66", after := #[{ on := 12, ground := .data }, { on := 15, ground := .chain }, { on := 0, ground := .phase }, { on := 1, ground := .phase }, { on := 2, ground := .phase }, { on := 3, ground := .phase }, { on := 4, ground := .phase }, { on := 5, ground := .phase }, { on := 6, ground := .phase }, { on := 7, ground := .phase }, { on := 8, ground := .phase }, { on := 9, ground := .phase }, { on := 10, ground := .phase }, { on := 11, ground := .phase }, { on := 12, ground := .phase }, { on := 13, ground := .textOnly Go.Departure.lateStores }, { on := 14, ground := .phase }, { on := 15, ground := .phase }], guard := none },
  { dst := some 16, op := .assign (.tmp 80), type := 27, pos := "law.go:66", after := #[{ on := 13, ground := .data }, { on := 16, ground := .chain }, { on := 0, ground := .phase }, { on := 1, ground := .phase }, { on := 2, ground := .phase }, { on := 3, ground := .phase }, { on := 4, ground := .phase }, { on := 5, ground := .phase }, { on := 6, ground := .phase }, { on := 7, ground := .phase }, { on := 8, ground := .phase }, { on := 9, ground := .phase }, { on := 10, ground := .phase }, { on := 11, ground := .phase }, { on := 12, ground := .phase }, { on := 13, ground := .phase }, { on := 14, ground := .phase }, { on := 15, ground := .phase }, { on := 16, ground := .phase }], guard := none }]
theorem torn10_plain : Region.noSelect torn10 = true := by kernel_rfl

set_option maxHeartbeats 8000000 in
set_option maxRecDepth 100000 in
theorem torn_core (O : Own18) (a b : Nt) (i m : Int) (s j k : Nat) (w : World) (hs : (s : Int) < 2147483648) (es : IntKind.u32.wrap ((IntKind.u64.wrap i).tmod 2147483648) = s) (hj : (j : Int) < 11) (ej : wrap64 ((IntKind.u64.wrap m).tmod 11) = j) (ek : (1 : Int) + j = k) :
    Calls Try.prog 5 #[nv a, nv b, .agg #[.int .i64 i, .int .i64 m]] w fun e w' => e = .returned (.bool true) ∧ Below w.heap.size w w' := by
  have AW := Lib.hid fun w => awake_any O w
  have OA : Hid (∀ w, Calls Try.prog 7 #[nv a, .int .u32 ((s : Int) + 2)] w fun e w' => ∃ ba cap, e = .returned (.tuple #[.slice ba (bytesN a (s + 2)).1.length cap, .int .i64 (bytesN a (s + 2)).2]) ∧ Came w' ba cap (bytesN a (s + 2)).1 ∧ Below w.heap.size w w') := Lib.hid fun w => O.bytes a (s + 2) w (by omega)
  have OB := Lib.hid fun w => O.bytes b s w (by omega)
  have RA := Lib.hid fun w => O.right a w
  have RB := Lib.hid fun w => O.right b w
  have TN := torn a b s k (by omega) (by omega)
  have la := slot_length a (s + 2)
  have lb := slot_length b s
  have c1 : (s : Int) + 2 ≤ 4294967295 := by omega
  have c2 : (k : Int) ≤ 11 := by omega
  have c3 : (1 : Int) ≤ k := by omega
  clear hs
  cases ra : rightN a <;> cases rb : rightN b
  case true.true =>
    rw [bytesN_ok (s + 2) ra] at OA
    rw [bytesN_ok s rb] at OB
    simp only [la, lb] at OA OB
    obtain ⟨L, hL⟩ : ∃ L, L = slotN a (s + 2) := ⟨_, rfl⟩
    obtain ⟨M, hM⟩ : ∃ M, M = slotN b s := ⟨_, rfl⟩
    rw [← hL] at OA TN la
    rw [← hM] at OB TN lb
    have T1 := Lib.hid TN
    have L1 := Lib.hid la
    have L2 := Lib.hid lb
    clear TN la lb hL hM ra rb RA RB
    obtain ⟨x, y, z⟩ := a
    obtain ⟨p, q, r⟩ := b
    simp only [nv] at OA OB ⊢
    have S0 := Lib.hid ((((Sp.none w).more [.int .i64 x, .int .i64 y, .int .i64 z] 23).more [.int .i64 p, .int .i64 q, .int .i64 r] 23).more [.int .i64 i, .int .i64 m] 35)
    have B0 := Lib.hid (below3 w (.cells #[.int .i64 x, .int .i64 y, .int .i64 z] 23) (.cells #[.int .i64 p, .int .i64 q, .int .i64 r] 23) (.cells #[.int .i64 i, .int .i64 m] 35))
    go_enter Try.func5, Try.ntmps5
    go_wp2_with fail
    refine (OA.out _).mono ?_; rintro e w1 ⟨b1, cc1, rfl, C1, hb1⟩
    have HB1 := Lib.hid (belowT B0.out hb1)
    have S1 := S0.out.keep hb1
    have q0 := S1.at 1 rfl 0 rfl; rw [heap1] at q0
    have q1 := S1.at 1 rfl 1 rfl; rw [heap1] at q1
    have q2 := S1.at 1 rfl 2 rfl; rw [heap1] at q2
    have X1 := Lib.hid C1
    clear B0 S0 S1 hb1 OA C1 es c1
    go_wp2_with fail
    refine (OB.out _).mono ?_; rintro e w2 ⟨b2, cc2, rfl, C2, hb2⟩
    have HB2 := Lib.hid (belowT HB1.out hb2)
    have X4 := Lib.hid (X1.out.keep hb2)
    have Y4 := Lib.hid C2
    clear HB1 hb2 OB C2 X1 q0 q1 q2
    go_wp2
    go_upto_region 10 with fail
    obtain ⟨W0, rfl⟩ : ∃ W0, W0 = w2 := ⟨_, rfl⟩
    go_cut [16] from 14 to 81 (fun u16 wx => u16 = .int .i64 3 ∧ Below W0.heap.size W0 wx)
    case first =>
      have hs1 := came_head X4.out k (by have := L1.out; omega)
      rw [L1.out] at hs1
      obtain ⟨b5, c5, hs2, CT⟩ := came_tail Y4.out k (by have := L2.out; omega)
      rw [List.length_drop, L2.out] at hs2
      have CX : Hid (Came W0 b1 cc1 (L.take k)) := Lib.hid (X4.out.take k (by have := L1.out; omega))
      have CY : Hid (Came W0 b5 c5 (M.drop k)) := Lib.hid CT
      have lx : (L.take k).length = k := by rw [List.length_take, L1.out]; omega
      have ly : (M.drop k).length = 12 - k := by rw [List.length_drop, L2.out]
      have RT := T1.out
      generalize L.take k = P at *
      generalize M.drop k = S at *
      have LX := Lib.hid lx
      have LY := Lib.hid ly
      obtain ⟨Q, hQ⟩ : ∃ Q, Q = P ++ S := ⟨_, rfl⟩
      rw [← hQ] at RT
      have RT := Lib.hid RT
      have LQ := Lib.hid (show Q.length = 12 by rw [hQ, List.length_append, lx, ly]; omega)
      have HQ := Lib.hid hQ
      clear lx ly CT hQ X4 Y4 T1 HB2
      change (Code.region 10 torn10 true).wp Try.prog _ _ _
      refine wp_region_noPanic ?_
      refine wp_region_held_drew (S := fun w' => Below W0.heap.size W0 w') (by kernel_rfl) ((Below.refl _ _).drew) (fun hHeld => ?_)
      obtain ⟨w2, hX⟩ : ∃ x, x = W0.drew := ⟨_, rfl⟩
      have hb : Below W0.heap.size W0 w2 := hX ▸ (Below.refl _ _).drew
      rw [← hX] at hHeld ⊢
      have HB := hHeld; clear hHeld
      clear hb hX
      refine wpAnyH_take (i := 1) (oi := ({ dst := some 69, op := .move (.tmp 9), type := 25, pos := "law.go:66", after := #[], guard := none } : Oper)) (v := ?vt8_1_) rfl torn10_plain (by as_aux_lemma => kernel_rfl) (by as_aux_lemma => kernel_rfl) (fun _ _ _ h => h) (Or.inl ⟨by rfl, ?yt8_1_⟩) HB ?rt8_1_
      case yt8_1_ => (intro w hSw; (try dsimp only at hSw); go_simp; try with_reducible rfl)
      try simp only [Act.put, List.setIfInBounds_toArray, List.set_cons_zero, List.set_cons_succ]
      refine wpAnyH_take (i := 2) (oi := ({ dst := some 70, op := .move (.tmp 13), type := 3, pos := "law.go:66", after := #[], guard := none } : Oper)) (v := ?vt8_2_) rfl torn10_plain (by as_aux_lemma => kernel_rfl) (by as_aux_lemma => kernel_rfl) (fun _ _ _ h => h) (Or.inl ⟨by rfl, ?yt8_2_⟩) HB ?rt8_2_
      case yt8_2_ => (intro w hSw; (try dsimp only at hSw); go_simp; try with_reducible rfl)
      try simp only [Act.put, List.setIfInBounds_toArray, List.set_cons_zero, List.set_cons_succ]
      refine wpAnyH_take (i := 3) (oi := ({ dst := some 71, op := .slice 25 (.tmp 69) none (some (.tmp 70)) none, type := 25, pos := "law.go:66", after := #[{ on := 1, ground := .data }, { on := 2, ground := .data }], guard := none } : Oper)) (v := ?vt8_3_) rfl torn10_plain (by as_aux_lemma => kernel_rfl) (by as_aux_lemma => kernel_rfl) (fun _ _ _ h => h) (Or.inl ⟨by rfl, ?yt8_3_⟩) HB ?rt8_3_
      case yt8_3_ => (intro w hSw; (try dsimp only at hSw); go_simp; try with_reducible rfl)
      try simp only [Act.put, List.setIfInBounds_toArray, List.set_cons_zero, List.set_cons_succ]
      refine wpAnyH_take (i := 5) (oi := ({ dst := some 73, op := .move (.tmp 11), type := 25, pos := "law.go:66", after := #[], guard := none } : Oper)) (v := ?vt8_4_) rfl torn10_plain (by as_aux_lemma => kernel_rfl) (by as_aux_lemma => kernel_rfl) (fun _ _ _ h => h) (Or.inl ⟨by rfl, ?yt8_4_⟩) HB ?rt8_4_
      case yt8_4_ => (intro w hSw; (try dsimp only at hSw); go_simp; try with_reducible rfl)
      try simp only [Act.put, List.setIfInBounds_toArray, List.set_cons_zero, List.set_cons_succ]
      refine wpAnyH_take (i := 6) (oi := ({ dst := some 74, op := .move (.tmp 13), type := 3, pos := "law.go:66", after := #[], guard := none } : Oper)) (v := ?vt8_5_) rfl torn10_plain (by as_aux_lemma => kernel_rfl) (by as_aux_lemma => kernel_rfl) (fun _ _ _ h => h) (Or.inl ⟨by rfl, ?yt8_5_⟩) HB ?rt8_5_
      case yt8_5_ => (intro w hSw; (try dsimp only at hSw); go_simp; try with_reducible rfl)
      try simp only [Act.put, List.setIfInBounds_toArray, List.set_cons_zero, List.set_cons_succ]
      refine wpAnyH_take (i := 7) (oi := ({ dst := some 75, op := .slice 25 (.tmp 73) (some (.tmp 74)) none none, type := 25, pos := "law.go:66", after := #[{ on := 5, ground := .data }, { on := 6, ground := .data }], guard := none } : Oper)) (v := ?vt8_6_) rfl torn10_plain (by as_aux_lemma => kernel_rfl) (by as_aux_lemma => kernel_rfl) (fun _ _ _ h => h) (Or.inl ⟨by rfl, ?yt8_6_⟩) HB ?rt8_6_
      case yt8_6_ => (intro w hSw; (try dsimp only at hSw); go_simp; try with_reducible rfl)
      try simp only [Act.put, List.setIfInBounds_toArray, List.set_cons_zero, List.set_cons_succ]
      refine wpAnyH_ready (rs := [0, 14]) (by as_aux_lemma => kernel_rfl) (by simp) ?_
      refine AllReadyH.cons (o := ({ dst := some 68, op := .buildSlice 25 0 #[], type := 25, pos := "law.go:66", after := #[], guard := none } : Oper)) rfl (fun KK hK => ?_) (AllReadyH.cons (o := ({ dst := some 14, op := .alloc 23, type := 0, pos := "law.go:66", after := #[], guard := none } : Oper)) rfl (fun KK hK => ?_) AllReadyH.nil)
      · skip
        rw [if_pos (by rfl)]
        go_simp
        have hb := below1 w2 (.cells #[] 5)
        have hv := (empty_bytes0 w2 _ rfl).low HB
        obtain ⟨gv, hgv⟩ : ∃ g, g = w2.heap.size := ⟨_, rfl⟩
        rw [← hgv] at hv ⊢
        clear hgv
        obtain ⟨w3, hX⟩ : ∃ x, x = w2.alloc (.cells #[] 5) := ⟨_, rfl⟩
        rw [← hX] at hv hb ⊢
        clear hX
        refine hK.out _ _ ?_ (fun hHeld => ?_)
        · exact belowT HB hb
        replace HB := hHeld; clear hHeld hK KK
        clear hb
        try simp only [Act.put, List.setIfInBounds_toArray, List.set_cons_zero, List.set_cons_succ]
        refine wpAnyH_ready (rs := [4, 14]) (by as_aux_lemma => kernel_rfl) (by simp) ?_
        refine AllReadyH.cons (o := ({ dst := some 72, op := .call { callee := .builtin .append, args := #[.tmp 68, .tmp 71], argTypes := #[25, 25] }, type := 25, pos := "law.go:66", after := #[{ on := 0, ground := .data }, { on := 3, ground := .data }], guard := none } : Oper)) rfl (fun KK hK => ?_) (AllReadyH.cons (o := ({ dst := some 14, op := .alloc 23, type := 0, pos := "law.go:66", after := #[], guard := none } : Oper)) rfl (fun KK hK => ?_) AllReadyH.nil)
        · skip
          rw [if_pos (by rfl)]
          refine oper_append_cameV (v := .slice (some ⟨gv, 0, none⟩) 0 0) (m := P) (ba := b1) (c := cc1) rfl rfl hv (by rw [LX.out]; rfl) (CX.out.keep HB) (by rw [LX.out]; simp; omega) (fun v4 w4 hq HG => ?_)
          replace hq : Bytes0 W0.heap.size W0 w4 v4 P := hq
          have HN := hq.below
          refine hK.out _ _ ?_ (fun hHeld => ?_)
          · exact HN
          replace HB := hHeld; clear hHeld hK KK HN
          clear hv
          clear HG
          try simp only [Act.put, List.setIfInBounds_toArray, List.set_cons_zero, List.set_cons_succ]
          refine wpAnyH_ready (rs := [8, 14]) (by as_aux_lemma => kernel_rfl) (by simp) ?_
          refine AllReadyH.cons (o := ({ dst := some 76, op := .call { callee := .builtin .append, args := #[.tmp 72, .tmp 75], argTypes := #[25, 25] }, type := 25, pos := "law.go:66", after := #[{ on := 4, ground := .data }, { on := 7, ground := .data }, { on := 4, ground := .chain }], guard := none } : Oper)) rfl (fun KK hK => ?_) (AllReadyH.cons (o := ({ dst := some 14, op := .alloc 23, type := 0, pos := "law.go:66", after := #[], guard := none } : Oper)) rfl (fun KK hK => ?_) AllReadyH.nil)
          · skip
            rw [if_pos (by rfl)]
            refine oper_append_cameV (v := v4) (m := S) (ba := b5) (c := c5) rfl rfl hq (by rw [LY.out]; rfl) (CY.out.keep HB) (by rw [LX.out, LY.out]; omega) (fun v7 w5 hr HG => ?_)
            rw [← HQ.out] at hr
            have HN := hr.below
            obtain ⟨b7, c7, rfl, C7⟩ := hr.bytes.came
            clear hr
            refine hK.out _ _ ?_ (fun hHeld => ?_)
            · exact HN
            replace HB := hHeld; clear hHeld hK KK HN
            clear hq
            clear HG
            try simp only [Act.put, List.setIfInBounds_toArray, List.set_cons_zero, List.set_cons_succ]
            refine wpAnyH_ready (rs := [9, 14]) (by as_aux_lemma => kernel_rfl) (by simp) ?_
            refine AllReadyH.cons (o := ({ dst := some 77, op := .call { callee := .value (.func 9), args := #[.tmp 76], argTypes := #[25] }, type := 30, pos := "law.go:66", after := #[{ on := 8, ground := .data }, { on := 8, ground := .chain }], guard := none } : Oper)) rfl (fun KK hK => ?_) (AllReadyH.cons (o := ({ dst := some 14, op := .alloc 23, type := 0, pos := "law.go:66", after := #[], guard := none } : Oper)) rfl (fun KK hK => ?_) AllReadyH.nil)
            · skip
              rw [if_pos (by rfl)]
              go_simp
              go_at_call 9; refine ((show Calls Try.prog 9 #[.slice b7 Q.length c7] w5 (fun e w' => e = .returned (.tuple #[.agg #[.int .i64 0, .int .i64 0, .int .i64 0], .int .u32 0, .int .i64 3]) ∧ Below w5.heap.size w5 w') from by have k := O.read w5 b7 c7 _ C7 (by rw [LQ.out]; decide); rw [RT.out] at k; exact k)).mono ?_; rintro e w6 ⟨rfl, hb⟩
              go_wp2_with fail
              refine hK.out _ _ ?_ (fun hHeld => ?_)
              · exact belowT HB hb
              replace HB := hHeld; clear hHeld hK KK
              replace C7 := C7.keep hb
              clear hb
              try simp only [Act.put, List.setIfInBounds_toArray, List.set_cons_zero, List.set_cons_succ]
              refine wpAnyH_take (i := 10) (oi := ({ dst := some 67, op := .move (.tmp 77), type := 30, pos := "law.go:66", after := #[{ on := 9, ground := .data }], guard := none } : Oper)) (v := ?vt8_7_) rfl torn10_plain (by as_aux_lemma => kernel_rfl) (by as_aux_lemma => kernel_rfl) (fun _ _ _ h => h) (Or.inl ⟨by rfl, ?yt8_7_⟩) HB ?rt8_7_
              case yt8_7_ => (intro w hSw; (try dsimp only at hSw); go_simp; try with_reducible rfl)
              try simp only [Act.put, List.setIfInBounds_toArray, List.set_cons_zero, List.set_cons_succ]
              refine wpAnyH_take (i := 11) (oi := ({ dst := some 78, op := .extract (.tmp 67) 0, type := 23, pos := "law.go:66", after := #[{ on := 10, ground := .data }], guard := none } : Oper)) (v := ?vt8_8_) rfl torn10_plain (by as_aux_lemma => kernel_rfl) (by as_aux_lemma => kernel_rfl) (fun _ _ _ h => h) (Or.inl ⟨by rfl, ?yt8_8_⟩) HB ?rt8_8_
              case yt8_8_ => (intro w hSw; (try dsimp only at hSw); go_simp; try with_reducible rfl)
              try simp only [Act.put, List.setIfInBounds_toArray, List.set_cons_zero, List.set_cons_succ]
              refine wpAnyH_take (i := 12) (oi := ({ dst := some 79, op := .extract (.tmp 67) 1, type := 24, pos := "law.go:66", after := #[{ on := 10, ground := .data }, { on := 15, ground := .gcOnly Go.Departure.lateStores }], guard := none } : Oper)) (v := ?vt8_9_) rfl torn10_plain (by as_aux_lemma => kernel_rfl) (by as_aux_lemma => kernel_rfl) (fun _ _ _ h => h) (Or.inl ⟨by rfl, ?yt8_9_⟩) HB ?rt8_9_
              case yt8_9_ => (intro w hSw; (try dsimp only at hSw); go_simp; try with_reducible rfl)
              try simp only [Act.put, List.setIfInBounds_toArray, List.set_cons_zero, List.set_cons_succ]
              refine wpAnyH_take (i := 13) (oi := ({ dst := some 80, op := .extract (.tmp 67) 2, type := 27, pos := "law.go:66", after := #[{ on := 10, ground := .data }, { on := 16, ground := .gcOnly Go.Departure.lateStores }], guard := none } : Oper)) (v := ?vt8_10_) rfl torn10_plain (by as_aux_lemma => kernel_rfl) (by as_aux_lemma => kernel_rfl) (fun _ _ _ h => h) (Or.inl ⟨by rfl, ?yt8_10_⟩) HB ?rt8_10_
              case yt8_10_ => (intro w hSw; (try dsimp only at hSw); go_simp; try with_reducible rfl)
              try simp only [Act.put, List.setIfInBounds_toArray, List.set_cons_zero, List.set_cons_succ]
              refine wpAnyH_ready (rs := [14]) (by as_aux_lemma => kernel_rfl) (by simp) ?_
              refine AllReadyH.cons (o := ({ dst := some 14, op := .alloc 23, type := 0, pos := "law.go:66", after := #[], guard := none } : Oper)) rfl (fun KK hK => ?_) AllReadyH.nil
              rw [if_pos (by rfl)]
              go_simp
              have hb := below1 w6 (.cells #[.int .i64 0, .int .i64 0, .int .i64 0] 23)
              have VA := Vr.new w6 #[.int .i64 0, .int .i64 0, .int .i64 0] 23
              have hga := HB.size
              obtain ⟨ga, hGA⟩ : ∃ g, g = w6.heap.size := ⟨_, rfl⟩
              rw [← hGA] at VA hga ⊢
              clear hGA
              obtain ⟨w7, hX⟩ : ∃ x, x = w6.alloc (.cells #[.int .i64 0, .int .i64 0, .int .i64 0] 23) := ⟨_, rfl⟩
              rw [← hX] at VA hb ⊢
              clear hX
              refine hK.out _ _ ?_ (fun hHeld => ?_)
              · exact belowT HB hb
              replace HB := hHeld; clear hHeld hK KK
              replace C7 := C7.keep hb
              clear hb
              try simp only [Act.put, List.setIfInBounds_toArray, List.set_cons_zero, List.set_cons_succ]
              refine wpAnyH_ready (rs := [15]) (by as_aux_lemma => kernel_rfl) (by simp) ?_
              refine AllReadyH.cons (o := ({ dst := none, op := .store 23 (.tmp 14) (.tmp 78), type := 0, pos := "law.go:66", after := #[{ on := 14, ground := .data }, { on := 11, ground := .data }, { on := 9, ground := .chain }, { on := 0, ground := .phase }, { on := 1, ground := .phase }, { on := 2, ground := .phase }, { on := 3, ground := .phase }, { on := 4, ground := .phase }, { on := 5, ground := .phase }, { on := 6, ground := .phase }, { on := 7, ground := .phase }, { on := 8, ground := .phase }, { on := 9, ground := .phase }, { on := 10, ground := .phase }, { on := 11, ground := .phase }, { on := 12, ground := .textOnly Go.Departure.lateStores }, { on := 13, ground := .textOnly Go.Departure.lateStores }, { on := 14, ground := .phase }], guard := none } : Oper)) rfl (fun KK hK => ?_) AllReadyH.nil
              rw [if_pos (by rfl)]
              have p0 := VA.at 0 rfl
              have p1 := VA.at 1 rfl
              have p2 := VA.at 2 rfl
              have f0 := VA.free 0
              have f1 := VA.free 1
              have f2 := VA.free 2
              go_simp
              have HN := ((HB.setCell (p := ⟨ga, 0, none⟩) hga (.int .i64 0)).setCell (p := ⟨ga, 1, none⟩) hga (.int .i64 0)).setCell (p := ⟨ga, 2, none⟩) hga (.int .i64 0)
              obtain ⟨w8, hX⟩ : ∃ x, x = ((w7.setCell ⟨ga, 0, none⟩ (.int .i64 0)).setCell ⟨ga, 1, none⟩ (.int .i64 0)).setCell ⟨ga, 2, none⟩ (.int .i64 0) := ⟨_, rfl⟩
              rw [← hX] at HN ⊢
              clear hX p0 p1 p2 f0 f1 f2
              have HG : Vr w7 ga #[.int .i64 0, .int .i64 0, .int .i64 0] 23 → (1 : Nat) = 1 → True := fun _ _ => trivial
              refine hK.out _ _ ?_ (fun hHeld => ?_)
              · exact HN
              replace HB := hHeld; clear hHeld hK KK HN
              replace VA := HG VA (by decide)
              clear C7
              clear HG
              try simp only [Act.put, List.setIfInBounds_toArray, List.set_cons_zero, List.set_cons_succ]
              refine wpAnyH_take (i := 16) (oi := ({ dst := some 15, op := .assign (.tmp 79), type := 24, pos := "law.go:66", after := #[{ on := 12, ground := .data }, { on := 15, ground := .chain }, { on := 0, ground := .phase }, { on := 1, ground := .phase }, { on := 2, ground := .phase }, { on := 3, ground := .phase }, { on := 4, ground := .phase }, { on := 5, ground := .phase }, { on := 6, ground := .phase }, { on := 7, ground := .phase }, { on := 8, ground := .phase }, { on := 9, ground := .phase }, { on := 10, ground := .phase }, { on := 11, ground := .phase }, { on := 12, ground := .phase }, { on := 13, ground := .textOnly Go.Departure.lateStores }, { on := 14, ground := .phase }, { on := 15, ground := .phase }], guard := none } : Oper)) (v := ?vt8_11_) rfl torn10_plain (by as_aux_lemma => kernel_rfl) (by as_aux_lemma => kernel_rfl) (fun _ _ _ h => h) (Or.inl ⟨by rfl, ?yt8_11_⟩) HB ?rt8_11_
              case yt8_11_ => (intro w hSw; (try dsimp only at hSw); go_simp; try with_reducible rfl)
              try simp only [Act.put, List.setIfInBounds_toArray, List.set_cons_zero, List.set_cons_succ]
              refine wpAnyH_take (i := 17) (oi := ({ dst := some 16, op := .assign (.tmp 80), type := 27, pos := "law.go:66", after := #[{ on := 13, ground := .data }, { on := 16, ground := .chain }, { on := 0, ground := .phase }, { on := 1, ground := .phase }, { on := 2, ground := .phase }, { on := 3, ground := .phase }, { on := 4, ground := .phase }, { on := 5, ground := .phase }, { on := 6, ground := .phase }, { on := 7, ground := .phase }, { on := 8, ground := .phase }, { on := 9, ground := .phase }, { on := 10, ground := .phase }, { on := 11, ground := .phase }, { on := 12, ground := .phase }, { on := 13, ground := .phase }, { on := 14, ground := .phase }, { on := 15, ground := .phase }, { on := 16, ground := .phase }], guard := none } : Oper)) (v := ?vt8_12_) rfl torn10_plain (by as_aux_lemma => kernel_rfl) (by as_aux_lemma => kernel_rfl) (fun _ _ _ h => h) (Or.inl ⟨by rfl, ?yt8_12_⟩) HB ?rt8_12_
              case yt8_12_ => (intro w hSw; (try dsimp only at hSw); go_simp; try with_reducible rfl)
              try simp only [Act.put, List.setIfInBounds_toArray, List.set_cons_zero, List.set_cons_succ]
              refine wpAnyH_done (by as_aux_lemma => kernel_rfl) ?_ _
              refine NoPanic.normal ?_
              go_wp2_with fail
              go_meet
              exact ⟨rfl, HB⟩
            · skip
              rw [if_pos (by rfl)]
              go_simp
              have hb := below1 w5 (.cells #[.int .i64 0, .int .i64 0, .int .i64 0] 23)
              have VA := Vr.new w5 #[.int .i64 0, .int .i64 0, .int .i64 0] 23
              have hga := HB.size
              obtain ⟨ga, hGA⟩ : ∃ g, g = w5.heap.size := ⟨_, rfl⟩
              rw [← hGA] at VA hga ⊢
              clear hGA
              obtain ⟨w6, hX⟩ : ∃ x, x = w5.alloc (.cells #[.int .i64 0, .int .i64 0, .int .i64 0] 23) := ⟨_, rfl⟩
              rw [← hX] at VA hb ⊢
              clear hX
              refine hK.out _ _ ?_ (fun hHeld => ?_)
              · exact belowT HB hb
              replace HB := hHeld; clear hHeld hK KK
              replace C7 := C7.keep hb
              clear hb
              try simp only [Act.put, List.setIfInBounds_toArray, List.set_cons_zero, List.set_cons_succ]
              refine wpAnyH_ready (rs := [9]) (by as_aux_lemma => kernel_rfl) (by simp) ?_
              refine AllReadyH.cons (o := ({ dst := some 77, op := .call { callee := .value (.func 9), args := #[.tmp 76], argTypes := #[25] }, type := 30, pos := "law.go:66", after := #[{ on := 8, ground := .data }, { on := 8, ground := .chain }], guard := none } : Oper)) rfl (fun KK hK => ?_) AllReadyH.nil
              rw [if_pos (by rfl)]
              go_simp
              go_at_call 9; refine ((show Calls Try.prog 9 #[.slice b7 Q.length c7] w6 (fun e w' => e = .returned (.tuple #[.agg #[.int .i64 0, .int .i64 0, .int .i64 0], .int .u32 0, .int .i64 3]) ∧ Below w6.heap.size w6 w') from by have k := O.read w6 b7 c7 _ C7 (by rw [LQ.out]; decide); rw [RT.out] at k; exact k)).mono ?_; rintro e w7 ⟨rfl, hb⟩
              go_wp2_with fail
              refine hK.out _ _ ?_ (fun hHeld => ?_)
              · exact belowT HB hb
              replace HB := hHeld; clear hHeld hK KK
              replace C7 := C7.keep hb
              replace VA := VA.keep hb
              clear hb
              try simp only [Act.put, List.setIfInBounds_toArray, List.set_cons_zero, List.set_cons_succ]
              refine wpAnyH_take (i := 10) (oi := ({ dst := some 67, op := .move (.tmp 77), type := 30, pos := "law.go:66", after := #[{ on := 9, ground := .data }], guard := none } : Oper)) (v := ?vt8_13_) rfl torn10_plain (by as_aux_lemma => kernel_rfl) (by as_aux_lemma => kernel_rfl) (fun _ _ _ h => h) (Or.inl ⟨by rfl, ?yt8_13_⟩) HB ?rt8_13_
              case yt8_13_ => (intro w hSw; (try dsimp only at hSw); go_simp; try with_reducible rfl)
              try simp only [Act.put, List.setIfInBounds_toArray, List.set_cons_zero, List.set_cons_succ]
              refine wpAnyH_take (i := 11) (oi := ({ dst := some 78, op := .extract (.tmp 67) 0, type := 23, pos := "law.go:66", after := #[{ on := 10, ground := .data }], guard := none } : Oper)) (v := ?vt8_14_) rfl torn10_plain (by as_aux_lemma => kernel_rfl) (by as_aux_lemma => kernel_rfl) (fun _ _ _ h => h) (Or.inl ⟨by rfl, ?yt8_14_⟩) HB ?rt8_14_
              case yt8_14_ => (intro w hSw; (try dsimp only at hSw); go_simp; try with_reducible rfl)
              try simp only [Act.put, List.setIfInBounds_toArray, List.set_cons_zero, List.set_cons_succ]
              refine wpAnyH_take (i := 12) (oi := ({ dst := some 79, op := .extract (.tmp 67) 1, type := 24, pos := "law.go:66", after := #[{ on := 10, ground := .data }, { on := 15, ground := .gcOnly Go.Departure.lateStores }], guard := none } : Oper)) (v := ?vt8_15_) rfl torn10_plain (by as_aux_lemma => kernel_rfl) (by as_aux_lemma => kernel_rfl) (fun _ _ _ h => h) (Or.inl ⟨by rfl, ?yt8_15_⟩) HB ?rt8_15_
              case yt8_15_ => (intro w hSw; (try dsimp only at hSw); go_simp; try with_reducible rfl)
              try simp only [Act.put, List.setIfInBounds_toArray, List.set_cons_zero, List.set_cons_succ]
              refine wpAnyH_take (i := 13) (oi := ({ dst := some 80, op := .extract (.tmp 67) 2, type := 27, pos := "law.go:66", after := #[{ on := 10, ground := .data }, { on := 16, ground := .gcOnly Go.Departure.lateStores }], guard := none } : Oper)) (v := ?vt8_16_) rfl torn10_plain (by as_aux_lemma => kernel_rfl) (by as_aux_lemma => kernel_rfl) (fun _ _ _ h => h) (Or.inl ⟨by rfl, ?yt8_16_⟩) HB ?rt8_16_
              case yt8_16_ => (intro w hSw; (try dsimp only at hSw); go_simp; try with_reducible rfl)
              try simp only [Act.put, List.setIfInBounds_toArray, List.set_cons_zero, List.set_cons_succ]
              refine wpAnyH_ready (rs := [15]) (by as_aux_lemma => kernel_rfl) (by simp) ?_
              refine AllReadyH.cons (o := ({ dst := none, op := .store 23 (.tmp 14) (.tmp 78), type := 0, pos := "law.go:66", after := #[{ on := 14, ground := .data }, { on := 11, ground := .data }, { on := 9, ground := .chain }, { on := 0, ground := .phase }, { on := 1, ground := .phase }, { on := 2, ground := .phase }, { on := 3, ground := .phase }, { on := 4, ground := .phase }, { on := 5, ground := .phase }, { on := 6, ground := .phase }, { on := 7, ground := .phase }, { on := 8, ground := .phase }, { on := 9, ground := .phase }, { on := 10, ground := .phase }, { on := 11, ground := .phase }, { on := 12, ground := .textOnly Go.Departure.lateStores }, { on := 13, ground := .textOnly Go.Departure.lateStores }, { on := 14, ground := .phase }], guard := none } : Oper)) rfl (fun KK hK => ?_) AllReadyH.nil
              rw [if_pos (by rfl)]
              have p0 := VA.at 0 rfl
              have p1 := VA.at 1 rfl
              have p2 := VA.at 2 rfl
              have f0 := VA.free 0
              have f1 := VA.free 1
              have f2 := VA.free 2
              go_simp
              have HN := ((HB.setCell (p := ⟨ga, 0, none⟩) hga (.int .i64 0)).setCell (p := ⟨ga, 1, none⟩) hga (.int .i64 0)).setCell (p := ⟨ga, 2, none⟩) hga (.int .i64 0)
              obtain ⟨w8, hX⟩ : ∃ x, x = ((w7.setCell ⟨ga, 0, none⟩ (.int .i64 0)).setCell ⟨ga, 1, none⟩ (.int .i64 0)).setCell ⟨ga, 2, none⟩ (.int .i64 0) := ⟨_, rfl⟩
              rw [← hX] at HN ⊢
              clear hX p0 p1 p2 f0 f1 f2
              have HG : Vr w7 ga #[.int .i64 0, .int .i64 0, .int .i64 0] 23 → (1 : Nat) = 1 → True := fun _ _ => trivial
              refine hK.out _ _ ?_ (fun hHeld => ?_)
              · exact HN
              replace HB := hHeld; clear hHeld hK KK HN
              replace VA := HG VA (by decide)
              clear C7
              clear HG
              try simp only [Act.put, List.setIfInBounds_toArray, List.set_cons_zero, List.set_cons_succ]
              refine wpAnyH_take (i := 16) (oi := ({ dst := some 15, op := .assign (.tmp 79), type := 24, pos := "law.go:66", after := #[{ on := 12, ground := .data }, { on := 15, ground := .chain }, { on := 0, ground := .phase }, { on := 1, ground := .phase }, { on := 2, ground := .phase }, { on := 3, ground := .phase }, { on := 4, ground := .phase }, { on := 5, ground := .phase }, { on := 6, ground := .phase }, { on := 7, ground := .phase }, { on := 8, ground := .phase }, { on := 9, ground := .phase }, { on := 10, ground := .phase }, { on := 11, ground := .phase }, { on := 12, ground := .phase }, { on := 13, ground := .textOnly Go.Departure.lateStores }, { on := 14, ground := .phase }, { on := 15, ground := .phase }], guard := none } : Oper)) (v := ?vt8_17_) rfl torn10_plain (by as_aux_lemma => kernel_rfl) (by as_aux_lemma => kernel_rfl) (fun _ _ _ h => h) (Or.inl ⟨by rfl, ?yt8_17_⟩) HB ?rt8_17_
              case yt8_17_ => (intro w hSw; (try dsimp only at hSw); go_simp; try with_reducible rfl)
              try simp only [Act.put, List.setIfInBounds_toArray, List.set_cons_zero, List.set_cons_succ]
              refine wpAnyH_take (i := 17) (oi := ({ dst := some 16, op := .assign (.tmp 80), type := 27, pos := "law.go:66", after := #[{ on := 13, ground := .data }, { on := 16, ground := .chain }, { on := 0, ground := .phase }, { on := 1, ground := .phase }, { on := 2, ground := .phase }, { on := 3, ground := .phase }, { on := 4, ground := .phase }, { on := 5, ground := .phase }, { on := 6, ground := .phase }, { on := 7, ground := .phase }, { on := 8, ground := .phase }, { on := 9, ground := .phase }, { on := 10, ground := .phase }, { on := 11, ground := .phase }, { on := 12, ground := .phase }, { on := 13, ground := .phase }, { on := 14, ground := .phase }, { on := 15, ground := .phase }, { on := 16, ground := .phase }], guard := none } : Oper)) (v := ?vt8_18_) rfl torn10_plain (by as_aux_lemma => kernel_rfl) (by as_aux_lemma => kernel_rfl) (fun _ _ _ h => h) (Or.inl ⟨by rfl, ?yt8_18_⟩) HB ?rt8_18_
              case yt8_18_ => (intro w hSw; (try dsimp only at hSw); go_simp; try with_reducible rfl)
              try simp only [Act.put, List.setIfInBounds_toArray, List.set_cons_zero, List.set_cons_succ]
              refine wpAnyH_done (by as_aux_lemma => kernel_rfl) ?_ _
              refine NoPanic.normal ?_
              go_wp2_with fail
              go_meet
              exact ⟨rfl, HB⟩
          · skip
            rw [if_pos (by rfl)]
            go_simp
            have hb := below1 w4 (.cells #[.int .i64 0, .int .i64 0, .int .i64 0] 23)
            have VA := Vr.new w4 #[.int .i64 0, .int .i64 0, .int .i64 0] 23
            have hga := HB.size
            obtain ⟨ga, hGA⟩ : ∃ g, g = w4.heap.size := ⟨_, rfl⟩
            rw [← hGA] at VA hga ⊢
            clear hGA
            obtain ⟨w5, hX⟩ : ∃ x, x = w4.alloc (.cells #[.int .i64 0, .int .i64 0, .int .i64 0] 23) := ⟨_, rfl⟩
            rw [← hX] at VA hb ⊢
            clear hX
            refine hK.out _ _ ?_ (fun hHeld => ?_)
            · exact belowT HB hb
            replace HB := hHeld; clear hHeld hK KK
            replace hq := hq.keep hb
            clear hb
            try simp only [Act.put, List.setIfInBounds_toArray, List.set_cons_zero, List.set_cons_succ]
            refine wpAnyH_ready (rs := [8]) (by as_aux_lemma => kernel_rfl) (by simp) ?_
            refine AllReadyH.cons (o := ({ dst := some 76, op := .call { callee := .builtin .append, args := #[.tmp 72, .tmp 75], argTypes := #[25, 25] }, type := 25, pos := "law.go:66", after := #[{ on := 4, ground := .data }, { on := 7, ground := .data }, { on := 4, ground := .chain }], guard := none } : Oper)) rfl (fun KK hK => ?_) AllReadyH.nil
            rw [if_pos (by rfl)]
            refine oper_append_cameV (v := v4) (m := S) (ba := b5) (c := c5) rfl rfl hq (by rw [LY.out]; rfl) (CY.out.keep HB) (by rw [LX.out, LY.out]; omega) (fun v7 w6 hr HG => ?_)
            rw [← HQ.out] at hr
            have HN := hr.below
            obtain ⟨b7, c7, rfl, C7⟩ := hr.bytes.came
            clear hr
            refine hK.out _ _ ?_ (fun hHeld => ?_)
            · exact HN
            replace HB := hHeld; clear hHeld hK KK HN
            replace VA := HG VA (by decide)
            clear hq
            clear HG
            try simp only [Act.put, List.setIfInBounds_toArray, List.set_cons_zero, List.set_cons_succ]
            refine wpAnyH_ready (rs := [9]) (by as_aux_lemma => kernel_rfl) (by simp) ?_
            refine AllReadyH.cons (o := ({ dst := some 77, op := .call { callee := .value (.func 9), args := #[.tmp 76], argTypes := #[25] }, type := 30, pos := "law.go:66", after := #[{ on := 8, ground := .data }, { on := 8, ground := .chain }], guard := none } : Oper)) rfl (fun KK hK => ?_) AllReadyH.nil
            rw [if_pos (by rfl)]
            go_simp
            go_at_call 9; refine ((show Calls Try.prog 9 #[.slice b7 Q.length c7] w6 (fun e w' => e = .returned (.tuple #[.agg #[.int .i64 0, .int .i64 0, .int .i64 0], .int .u32 0, .int .i64 3]) ∧ Below w6.heap.size w6 w') from by have k := O.read w6 b7 c7 _ C7 (by rw [LQ.out]; decide); rw [RT.out] at k; exact k)).mono ?_; rintro e w7 ⟨rfl, hb⟩
            go_wp2_with fail
            refine hK.out _ _ ?_ (fun hHeld => ?_)
            · exact belowT HB hb
            replace HB := hHeld; clear hHeld hK KK
            replace VA := VA.keep hb
            replace C7 := C7.keep hb
            clear hb
            try simp only [Act.put, List.setIfInBounds_toArray, List.set_cons_zero, List.set_cons_succ]
            refine wpAnyH_take (i := 10) (oi := ({ dst := some 67, op := .move (.tmp 77), type := 30, pos := "law.go:66", after := #[{ on := 9, ground := .data }], guard := none } : Oper)) (v := ?vt8_19_) rfl torn10_plain (by as_aux_lemma => kernel_rfl) (by as_aux_lemma => kernel_rfl) (fun _ _ _ h => h) (Or.inl ⟨by rfl, ?yt8_19_⟩) HB ?rt8_19_
            case yt8_19_ => (intro w hSw; (try dsimp only at hSw); go_simp; try with_reducible rfl)
            try simp only [Act.put, List.setIfInBounds_toArray, List.set_cons_zero, List.set_cons_succ]
            refine wpAnyH_take (i := 11) (oi := ({ dst := some 78, op := .extract (.tmp 67) 0, type := 23, pos := "law.go:66", after := #[{ on := 10, ground := .data }], guard := none } : Oper)) (v := ?vt8_20_) rfl torn10_plain (by as_aux_lemma => kernel_rfl) (by as_aux_lemma => kernel_rfl) (fun _ _ _ h => h) (Or.inl ⟨by rfl, ?yt8_20_⟩) HB ?rt8_20_
            case yt8_20_ => (intro w hSw; (try dsimp only at hSw); go_simp; try with_reducible rfl)
            try simp only [Act.put, List.setIfInBounds_toArray, List.set_cons_zero, List.set_cons_succ]
            refine wpAnyH_take (i := 12) (oi := ({ dst := some 79, op := .extract (.tmp 67) 1, type := 24, pos := "law.go:66", after := #[{ on := 10, ground := .data }, { on := 15, ground := .gcOnly Go.Departure.lateStores }], guard := none } : Oper)) (v := ?vt8_21_) rfl torn10_plain (by as_aux_lemma => kernel_rfl) (by as_aux_lemma => kernel_rfl) (fun _ _ _ h => h) (Or.inl ⟨by rfl, ?yt8_21_⟩) HB ?rt8_21_
            case yt8_21_ => (intro w hSw; (try dsimp only at hSw); go_simp; try with_reducible rfl)
            try simp only [Act.put, List.setIfInBounds_toArray, List.set_cons_zero, List.set_cons_succ]
            refine wpAnyH_take (i := 13) (oi := ({ dst := some 80, op := .extract (.tmp 67) 2, type := 27, pos := "law.go:66", after := #[{ on := 10, ground := .data }, { on := 16, ground := .gcOnly Go.Departure.lateStores }], guard := none } : Oper)) (v := ?vt8_22_) rfl torn10_plain (by as_aux_lemma => kernel_rfl) (by as_aux_lemma => kernel_rfl) (fun _ _ _ h => h) (Or.inl ⟨by rfl, ?yt8_22_⟩) HB ?rt8_22_
            case yt8_22_ => (intro w hSw; (try dsimp only at hSw); go_simp; try with_reducible rfl)
            try simp only [Act.put, List.setIfInBounds_toArray, List.set_cons_zero, List.set_cons_succ]
            refine wpAnyH_ready (rs := [15]) (by as_aux_lemma => kernel_rfl) (by simp) ?_
            refine AllReadyH.cons (o := ({ dst := none, op := .store 23 (.tmp 14) (.tmp 78), type := 0, pos := "law.go:66", after := #[{ on := 14, ground := .data }, { on := 11, ground := .data }, { on := 9, ground := .chain }, { on := 0, ground := .phase }, { on := 1, ground := .phase }, { on := 2, ground := .phase }, { on := 3, ground := .phase }, { on := 4, ground := .phase }, { on := 5, ground := .phase }, { on := 6, ground := .phase }, { on := 7, ground := .phase }, { on := 8, ground := .phase }, { on := 9, ground := .phase }, { on := 10, ground := .phase }, { on := 11, ground := .phase }, { on := 12, ground := .textOnly Go.Departure.lateStores }, { on := 13, ground := .textOnly Go.Departure.lateStores }, { on := 14, ground := .phase }], guard := none } : Oper)) rfl (fun KK hK => ?_) AllReadyH.nil
            rw [if_pos (by rfl)]
            have p0 := VA.at 0 rfl
            have p1 := VA.at 1 rfl
            have p2 := VA.at 2 rfl
            have f0 := VA.free 0
            have f1 := VA.free 1
            have f2 := VA.free 2
            go_simp
            have HN := ((HB.setCell (p := ⟨ga, 0, none⟩) hga (.int .i64 0)).setCell (p := ⟨ga, 1, none⟩) hga (.int .i64 0)).setCell (p := ⟨ga, 2, none⟩) hga (.int .i64 0)
            obtain ⟨w8, hX⟩ : ∃ x, x = ((w7.setCell ⟨ga, 0, none⟩ (.int .i64 0)).setCell ⟨ga, 1, none⟩ (.int .i64 0)).setCell ⟨ga, 2, none⟩ (.int .i64 0) := ⟨_, rfl⟩
            rw [← hX] at HN ⊢
            clear hX p0 p1 p2 f0 f1 f2
            have HG : Vr w7 ga #[.int .i64 0, .int .i64 0, .int .i64 0] 23 → (1 : Nat) = 1 → True := fun _ _ => trivial
            refine hK.out _ _ ?_ (fun hHeld => ?_)
            · exact HN
            replace HB := hHeld; clear hHeld hK KK HN
            replace VA := HG VA (by decide)
            clear C7
            clear HG
            try simp only [Act.put, List.setIfInBounds_toArray, List.set_cons_zero, List.set_cons_succ]
            refine wpAnyH_take (i := 16) (oi := ({ dst := some 15, op := .assign (.tmp 79), type := 24, pos := "law.go:66", after := #[{ on := 12, ground := .data }, { on := 15, ground := .chain }, { on := 0, ground := .phase }, { on := 1, ground := .phase }, { on := 2, ground := .phase }, { on := 3, ground := .phase }, { on := 4, ground := .phase }, { on := 5, ground := .phase }, { on := 6, ground := .phase }, { on := 7, ground := .phase }, { on := 8, ground := .phase }, { on := 9, ground := .phase }, { on := 10, ground := .phase }, { on := 11, ground := .phase }, { on := 12, ground := .phase }, { on := 13, ground := .textOnly Go.Departure.lateStores }, { on := 14, ground := .phase }, { on := 15, ground := .phase }], guard := none } : Oper)) (v := ?vt8_23_) rfl torn10_plain (by as_aux_lemma => kernel_rfl) (by as_aux_lemma => kernel_rfl) (fun _ _ _ h => h) (Or.inl ⟨by rfl, ?yt8_23_⟩) HB ?rt8_23_
            case yt8_23_ => (intro w hSw; (try dsimp only at hSw); go_simp; try with_reducible rfl)
            try simp only [Act.put, List.setIfInBounds_toArray, List.set_cons_zero, List.set_cons_succ]
            refine wpAnyH_take (i := 17) (oi := ({ dst := some 16, op := .assign (.tmp 80), type := 27, pos := "law.go:66", after := #[{ on := 13, ground := .data }, { on := 16, ground := .chain }, { on := 0, ground := .phase }, { on := 1, ground := .phase }, { on := 2, ground := .phase }, { on := 3, ground := .phase }, { on := 4, ground := .phase }, { on := 5, ground := .phase }, { on := 6, ground := .phase }, { on := 7, ground := .phase }, { on := 8, ground := .phase }, { on := 9, ground := .phase }, { on := 10, ground := .phase }, { on := 11, ground := .phase }, { on := 12, ground := .phase }, { on := 13, ground := .phase }, { on := 14, ground := .phase }, { on := 15, ground := .phase }, { on := 16, ground := .phase }], guard := none } : Oper)) (v := ?vt8_24_) rfl torn10_plain (by as_aux_lemma => kernel_rfl) (by as_aux_lemma => kernel_rfl) (fun _ _ _ h => h) (Or.inl ⟨by rfl, ?yt8_24_⟩) HB ?rt8_24_
            case yt8_24_ => (intro w hSw; (try dsimp only at hSw); go_simp; try with_reducible rfl)
            try simp only [Act.put, List.setIfInBounds_toArray, List.set_cons_zero, List.set_cons_succ]
            refine wpAnyH_done (by as_aux_lemma => kernel_rfl) ?_ _
            refine NoPanic.normal ?_
            go_wp2_with fail
            go_meet
            exact ⟨rfl, HB⟩
        · skip
          rw [if_pos (by rfl)]
          go_simp
          have hb := below1 w3 (.cells #[.int .i64 0, .int .i64 0, .int .i64 0] 23)
          have VA := Vr.new w3 #[.int .i64 0, .int .i64 0, .int .i64 0] 23
          have hga := HB.size
          obtain ⟨ga, hGA⟩ : ∃ g, g = w3.heap.size := ⟨_, rfl⟩
          rw [← hGA] at VA hga ⊢
          clear hGA
          obtain ⟨w4, hX⟩ : ∃ x, x = w3.alloc (.cells #[.int .i64 0, .int .i64 0, .int .i64 0] 23) := ⟨_, rfl⟩
          rw [← hX] at VA hb ⊢
          clear hX
          refine hK.out _ _ ?_ (fun hHeld => ?_)
          · exact belowT HB hb
          replace HB := hHeld; clear hHeld hK KK
          replace hv := hv.keep hb
          clear hb
          try simp only [Act.put, List.setIfInBounds_toArray, List.set_cons_zero, List.set_cons_succ]
          refine wpAnyH_ready (rs := [4]) (by as_aux_lemma => kernel_rfl) (by simp) ?_
          refine AllReadyH.cons (o := ({ dst := some 72, op := .call { callee := .builtin .append, args := #[.tmp 68, .tmp 71], argTypes := #[25, 25] }, type := 25, pos := "law.go:66", after := #[{ on := 0, ground := .data }, { on := 3, ground := .data }], guard := none } : Oper)) rfl (fun KK hK => ?_) AllReadyH.nil
          rw [if_pos (by rfl)]
          refine oper_append_cameV (v := .slice (some ⟨gv, 0, none⟩) 0 0) (m := P) (ba := b1) (c := cc1) rfl rfl hv (by rw [LX.out]; rfl) (CX.out.keep HB) (by rw [LX.out]; simp; omega) (fun v4 w5 hq HG => ?_)
          replace hq : Bytes0 W0.heap.size W0 w5 v4 P := hq
          have HN := hq.below
          refine hK.out _ _ ?_ (fun hHeld => ?_)
          · exact HN
          replace HB := hHeld; clear hHeld hK KK HN
          replace VA := HG VA (by decide)
          clear hv
          clear HG
          try simp only [Act.put, List.setIfInBounds_toArray, List.set_cons_zero, List.set_cons_succ]
          refine wpAnyH_ready (rs := [8]) (by as_aux_lemma => kernel_rfl) (by simp) ?_
          refine AllReadyH.cons (o := ({ dst := some 76, op := .call { callee := .builtin .append, args := #[.tmp 72, .tmp 75], argTypes := #[25, 25] }, type := 25, pos := "law.go:66", after := #[{ on := 4, ground := .data }, { on := 7, ground := .data }, { on := 4, ground := .chain }], guard := none } : Oper)) rfl (fun KK hK => ?_) AllReadyH.nil
          rw [if_pos (by rfl)]
          refine oper_append_cameV (v := v4) (m := S) (ba := b5) (c := c5) rfl rfl hq (by rw [LY.out]; rfl) (CY.out.keep HB) (by rw [LX.out, LY.out]; omega) (fun v7 w6 hr HG => ?_)
          rw [← HQ.out] at hr
          have HN := hr.below
          obtain ⟨b7, c7, rfl, C7⟩ := hr.bytes.came
          clear hr
          refine hK.out _ _ ?_ (fun hHeld => ?_)
          · exact HN
          replace HB := hHeld; clear hHeld hK KK HN
          replace VA := HG VA (by decide)
          clear hq
          clear HG
          try simp only [Act.put, List.setIfInBounds_toArray, List.set_cons_zero, List.set_cons_succ]
          refine wpAnyH_ready (rs := [9]) (by as_aux_lemma => kernel_rfl) (by simp) ?_
          refine AllReadyH.cons (o := ({ dst := some 77, op := .call { callee := .value (.func 9), args := #[.tmp 76], argTypes := #[25] }, type := 30, pos := "law.go:66", after := #[{ on := 8, ground := .data }, { on := 8, ground := .chain }], guard := none } : Oper)) rfl (fun KK hK => ?_) AllReadyH.nil
          rw [if_pos (by rfl)]
          go_simp
          go_at_call 9; refine ((show Calls Try.prog 9 #[.slice b7 Q.length c7] w6 (fun e w' => e = .returned (.tuple #[.agg #[.int .i64 0, .int .i64 0, .int .i64 0], .int .u32 0, .int .i64 3]) ∧ Below w6.heap.size w6 w') from by have k := O.read w6 b7 c7 _ C7 (by rw [LQ.out]; decide); rw [RT.out] at k; exact k)).mono ?_; rintro e w7 ⟨rfl, hb⟩
          go_wp2_with fail
          refine hK.out _ _ ?_ (fun hHeld => ?_)
          · exact belowT HB hb
          replace HB := hHeld; clear hHeld hK KK
          replace VA := VA.keep hb
          replace C7 := C7.keep hb
          clear hb
          try simp only [Act.put, List.setIfInBounds_toArray, List.set_cons_zero, List.set_cons_succ]
          refine wpAnyH_take (i := 10) (oi := ({ dst := some 67, op := .move (.tmp 77), type := 30, pos := "law.go:66", after := #[{ on := 9, ground := .data }], guard := none } : Oper)) (v := ?vt8_25_) rfl torn10_plain (by as_aux_lemma => kernel_rfl) (by as_aux_lemma => kernel_rfl) (fun _ _ _ h => h) (Or.inl ⟨by rfl, ?yt8_25_⟩) HB ?rt8_25_
          case yt8_25_ => (intro w hSw; (try dsimp only at hSw); go_simp; try with_reducible rfl)
          try simp only [Act.put, List.setIfInBounds_toArray, List.set_cons_zero, List.set_cons_succ]
          refine wpAnyH_take (i := 11) (oi := ({ dst := some 78, op := .extract (.tmp 67) 0, type := 23, pos := "law.go:66", after := #[{ on := 10, ground := .data }], guard := none } : Oper)) (v := ?vt8_26_) rfl torn10_plain (by as_aux_lemma => kernel_rfl) (by as_aux_lemma => kernel_rfl) (fun _ _ _ h => h) (Or.inl ⟨by rfl, ?yt8_26_⟩) HB ?rt8_26_
          case yt8_26_ => (intro w hSw; (try dsimp only at hSw); go_simp; try with_reducible rfl)
          try simp only [Act.put, List.setIfInBounds_toArray, List.set_cons_zero, List.set_cons_succ]
          refine wpAnyH_take (i := 12) (oi := ({ dst := some 79, op := .extract (.tmp 67) 1, type := 24, pos := "law.go:66", after := #[{ on := 10, ground := .data }, { on := 15, ground := .gcOnly Go.Departure.lateStores }], guard := none } : Oper)) (v := ?vt8_27_) rfl torn10_plain (by as_aux_lemma => kernel_rfl) (by as_aux_lemma => kernel_rfl) (fun _ _ _ h => h) (Or.inl ⟨by rfl, ?yt8_27_⟩) HB ?rt8_27_
          case yt8_27_ => (intro w hSw; (try dsimp only at hSw); go_simp; try with_reducible rfl)
          try simp only [Act.put, List.setIfInBounds_toArray, List.set_cons_zero, List.set_cons_succ]
          refine wpAnyH_take (i := 13) (oi := ({ dst := some 80, op := .extract (.tmp 67) 2, type := 27, pos := "law.go:66", after := #[{ on := 10, ground := .data }, { on := 16, ground := .gcOnly Go.Departure.lateStores }], guard := none } : Oper)) (v := ?vt8_28_) rfl torn10_plain (by as_aux_lemma => kernel_rfl) (by as_aux_lemma => kernel_rfl) (fun _ _ _ h => h) (Or.inl ⟨by rfl, ?yt8_28_⟩) HB ?rt8_28_
          case yt8_28_ => (intro w hSw; (try dsimp only at hSw); go_simp; try with_reducible rfl)
          try simp only [Act.put, List.setIfInBounds_toArray, List.set_cons_zero, List.set_cons_succ]
          refine wpAnyH_ready (rs := [15]) (by as_aux_lemma => kernel_rfl) (by simp) ?_
          refine AllReadyH.cons (o := ({ dst := none, op := .store 23 (.tmp 14) (.tmp 78), type := 0, pos := "law.go:66", after := #[{ on := 14, ground := .data }, { on := 11, ground := .data }, { on := 9, ground := .chain }, { on := 0, ground := .phase }, { on := 1, ground := .phase }, { on := 2, ground := .phase }, { on := 3, ground := .phase }, { on := 4, ground := .phase }, { on := 5, ground := .phase }, { on := 6, ground := .phase }, { on := 7, ground := .phase }, { on := 8, ground := .phase }, { on := 9, ground := .phase }, { on := 10, ground := .phase }, { on := 11, ground := .phase }, { on := 12, ground := .textOnly Go.Departure.lateStores }, { on := 13, ground := .textOnly Go.Departure.lateStores }, { on := 14, ground := .phase }], guard := none } : Oper)) rfl (fun KK hK => ?_) AllReadyH.nil
          rw [if_pos (by rfl)]
          have p0 := VA.at 0 rfl
          have p1 := VA.at 1 rfl
          have p2 := VA.at 2 rfl
          have f0 := VA.free 0
          have f1 := VA.free 1
          have f2 := VA.free 2
          go_simp
          have HN := ((HB.setCell (p := ⟨ga, 0, none⟩) hga (.int .i64 0)).setCell (p := ⟨ga, 1, none⟩) hga (.int .i64 0)).setCell (p := ⟨ga, 2, none⟩) hga (.int .i64 0)
          obtain ⟨w8, hX⟩ : ∃ x, x = ((w7.setCell ⟨ga, 0, none⟩ (.int .i64 0)).setCell ⟨ga, 1, none⟩ (.int .i64 0)).setCell ⟨ga, 2, none⟩ (.int .i64 0) := ⟨_, rfl⟩
          rw [← hX] at HN ⊢
          clear hX p0 p1 p2 f0 f1 f2
          have HG : Vr w7 ga #[.int .i64 0, .int .i64 0, .int .i64 0] 23 → (1 : Nat) = 1 → True := fun _ _ => trivial
          refine hK.out _ _ ?_ (fun hHeld => ?_)
          · exact HN
          replace HB := hHeld; clear hHeld hK KK HN
          replace VA := HG VA (by decide)
          clear C7
          clear HG
          try simp only [Act.put, List.setIfInBounds_toArray, List.set_cons_zero, List.set_cons_succ]
          refine wpAnyH_take (i := 16) (oi := ({ dst := some 15, op := .assign (.tmp 79), type := 24, pos := "law.go:66", after := #[{ on := 12, ground := .data }, { on := 15, ground := .chain }, { on := 0, ground := .phase }, { on := 1, ground := .phase }, { on := 2, ground := .phase }, { on := 3, ground := .phase }, { on := 4, ground := .phase }, { on := 5, ground := .phase }, { on := 6, ground := .phase }, { on := 7, ground := .phase }, { on := 8, ground := .phase }, { on := 9, ground := .phase }, { on := 10, ground := .phase }, { on := 11, ground := .phase }, { on := 12, ground := .phase }, { on := 13, ground := .textOnly Go.Departure.lateStores }, { on := 14, ground := .phase }, { on := 15, ground := .phase }], guard := none } : Oper)) (v := ?vt8_29_) rfl torn10_plain (by as_aux_lemma => kernel_rfl) (by as_aux_lemma => kernel_rfl) (fun _ _ _ h => h) (Or.inl ⟨by rfl, ?yt8_29_⟩) HB ?rt8_29_
          case yt8_29_ => (intro w hSw; (try dsimp only at hSw); go_simp; try with_reducible rfl)
          try simp only [Act.put, List.setIfInBounds_toArray, List.set_cons_zero, List.set_cons_succ]
          refine wpAnyH_take (i := 17) (oi := ({ dst := some 16, op := .assign (.tmp 80), type := 27, pos := "law.go:66", after := #[{ on := 13, ground := .data }, { on := 16, ground := .chain }, { on := 0, ground := .phase }, { on := 1, ground := .phase }, { on := 2, ground := .phase }, { on := 3, ground := .phase }, { on := 4, ground := .phase }, { on := 5, ground := .phase }, { on := 6, ground := .phase }, { on := 7, ground := .phase }, { on := 8, ground := .phase }, { on := 9, ground := .phase }, { on := 10, ground := .phase }, { on := 11, ground := .phase }, { on := 12, ground := .phase }, { on := 13, ground := .phase }, { on := 14, ground := .phase }, { on := 15, ground := .phase }, { on := 16, ground := .phase }], guard := none } : Oper)) (v := ?vt8_30_) rfl torn10_plain (by as_aux_lemma => kernel_rfl) (by as_aux_lemma => kernel_rfl) (fun _ _ _ h => h) (Or.inl ⟨by rfl, ?yt8_30_⟩) HB ?rt8_30_
          case yt8_30_ => (intro w hSw; (try dsimp only at hSw); go_simp; try with_reducible rfl)
          try simp only [Act.put, List.setIfInBounds_toArray, List.set_cons_zero, List.set_cons_succ]
          refine wpAnyH_done (by as_aux_lemma => kernel_rfl) ?_ _
          refine NoPanic.normal ?_
          go_wp2_with fail
          go_meet
          exact ⟨rfl, HB⟩
      · skip
        rw [if_pos (by rfl)]
        go_simp
        have hb := below1 w2 (.cells #[.int .i64 0, .int .i64 0, .int .i64 0] 23)
        have VA := Vr.new w2 #[.int .i64 0, .int .i64 0, .int .i64 0] 23
        have hga := HB.size
        obtain ⟨ga, hGA⟩ : ∃ g, g = w2.heap.size := ⟨_, rfl⟩
        rw [← hGA] at VA hga ⊢
        clear hGA
        obtain ⟨w3, hX⟩ : ∃ x, x = w2.alloc (.cells #[.int .i64 0, .int .i64 0, .int .i64 0] 23) := ⟨_, rfl⟩
        rw [← hX] at VA hb ⊢
        clear hX
        refine hK.out _ _ ?_ (fun hHeld => ?_)
        · exact belowT HB hb
        replace HB := hHeld; clear hHeld hK KK
        clear hb
        try simp only [Act.put, List.setIfInBounds_toArray, List.set_cons_zero, List.set_cons_succ]
        refine wpAnyH_ready (rs := [0]) (by as_aux_lemma => kernel_rfl) (by simp) ?_
        refine AllReadyH.cons (o := ({ dst := some 68, op := .buildSlice 25 0 #[], type := 25, pos := "law.go:66", after := #[], guard := none } : Oper)) rfl (fun KK hK => ?_) AllReadyH.nil
        rw [if_pos (by rfl)]
        go_simp
        have hb := below1 w3 (.cells #[] 5)
        have hv := (empty_bytes0 w3 _ rfl).low HB
        obtain ⟨gv, hgv⟩ : ∃ g, g = w3.heap.size := ⟨_, rfl⟩
        rw [← hgv] at hv ⊢
        clear hgv
        obtain ⟨w4, hX⟩ : ∃ x, x = w3.alloc (.cells #[] 5) := ⟨_, rfl⟩
        rw [← hX] at hv hb ⊢
        clear hX
        refine hK.out _ _ ?_ (fun hHeld => ?_)
        · exact belowT HB hb
        replace HB := hHeld; clear hHeld hK KK
        replace VA := VA.keep hb
        clear hb
        try simp only [Act.put, List.setIfInBounds_toArray, List.set_cons_zero, List.set_cons_succ]
        refine wpAnyH_ready (rs := [4]) (by as_aux_lemma => kernel_rfl) (by simp) ?_
        refine AllReadyH.cons (o := ({ dst := some 72, op := .call { callee := .builtin .append, args := #[.tmp 68, .tmp 71], argTypes := #[25, 25] }, type := 25, pos := "law.go:66", after := #[{ on := 0, ground := .data }, { on := 3, ground := .data }], guard := none } : Oper)) rfl (fun KK hK => ?_) AllReadyH.nil
        rw [if_pos (by rfl)]
        refine oper_append_cameV (v := .slice (some ⟨gv, 0, none⟩) 0 0) (m := P) (ba := b1) (c := cc1) rfl rfl hv (by rw [LX.out]; rfl) (CX.out.keep HB) (by rw [LX.out]; simp; omega) (fun v4 w5 hq HG => ?_)
        replace hq : Bytes0 W0.heap.size W0 w5 v4 P := hq
        have HN := hq.below
        refine hK.out _ _ ?_ (fun hHeld => ?_)
        · exact HN
        replace HB := hHeld; clear hHeld hK KK HN
        replace VA := HG VA (by decide)
        clear hv
        clear HG
        try simp only [Act.put, List.setIfInBounds_toArray, List.set_cons_zero, List.set_cons_succ]
        refine wpAnyH_ready (rs := [8]) (by as_aux_lemma => kernel_rfl) (by simp) ?_
        refine AllReadyH.cons (o := ({ dst := some 76, op := .call { callee := .builtin .append, args := #[.tmp 72, .tmp 75], argTypes := #[25, 25] }, type := 25, pos := "law.go:66", after := #[{ on := 4, ground := .data }, { on := 7, ground := .data }, { on := 4, ground := .chain }], guard := none } : Oper)) rfl (fun KK hK => ?_) AllReadyH.nil
        rw [if_pos (by rfl)]
        refine oper_append_cameV (v := v4) (m := S) (ba := b5) (c := c5) rfl rfl hq (by rw [LY.out]; rfl) (CY.out.keep HB) (by rw [LX.out, LY.out]; omega) (fun v7 w6 hr HG => ?_)
        rw [← HQ.out] at hr
        have HN := hr.below
        obtain ⟨b7, c7, rfl, C7⟩ := hr.bytes.came
        clear hr
        refine hK.out _ _ ?_ (fun hHeld => ?_)
        · exact HN
        replace HB := hHeld; clear hHeld hK KK HN
        replace VA := HG VA (by decide)
        clear hq
        clear HG
        try simp only [Act.put, List.setIfInBounds_toArray, List.set_cons_zero, List.set_cons_succ]
        refine wpAnyH_ready (rs := [9]) (by as_aux_lemma => kernel_rfl) (by simp) ?_
        refine AllReadyH.cons (o := ({ dst := some 77, op := .call { callee := .value (.func 9), args := #[.tmp 76], argTypes := #[25] }, type := 30, pos := "law.go:66", after := #[{ on := 8, ground := .data }, { on := 8, ground := .chain }], guard := none } : Oper)) rfl (fun KK hK => ?_) AllReadyH.nil
        rw [if_pos (by rfl)]
        go_simp
        go_at_call 9; refine ((show Calls Try.prog 9 #[.slice b7 Q.length c7] w6 (fun e w' => e = .returned (.tuple #[.agg #[.int .i64 0, .int .i64 0, .int .i64 0], .int .u32 0, .int .i64 3]) ∧ Below w6.heap.size w6 w') from by have k := O.read w6 b7 c7 _ C7 (by rw [LQ.out]; decide); rw [RT.out] at k; exact k)).mono ?_; rintro e w7 ⟨rfl, hb⟩
        go_wp2_with fail
        refine hK.out _ _ ?_ (fun hHeld => ?_)
        · exact belowT HB hb
        replace HB := hHeld; clear hHeld hK KK
        replace VA := VA.keep hb
        replace C7 := C7.keep hb
        clear hb
        try simp only [Act.put, List.setIfInBounds_toArray, List.set_cons_zero, List.set_cons_succ]
        refine wpAnyH_take (i := 10) (oi := ({ dst := some 67, op := .move (.tmp 77), type := 30, pos := "law.go:66", after := #[{ on := 9, ground := .data }], guard := none } : Oper)) (v := ?vt8_31_) rfl torn10_plain (by as_aux_lemma => kernel_rfl) (by as_aux_lemma => kernel_rfl) (fun _ _ _ h => h) (Or.inl ⟨by rfl, ?yt8_31_⟩) HB ?rt8_31_
        case yt8_31_ => (intro w hSw; (try dsimp only at hSw); go_simp; try with_reducible rfl)
        try simp only [Act.put, List.setIfInBounds_toArray, List.set_cons_zero, List.set_cons_succ]
        refine wpAnyH_take (i := 11) (oi := ({ dst := some 78, op := .extract (.tmp 67) 0, type := 23, pos := "law.go:66", after := #[{ on := 10, ground := .data }], guard := none } : Oper)) (v := ?vt8_32_) rfl torn10_plain (by as_aux_lemma => kernel_rfl) (by as_aux_lemma => kernel_rfl) (fun _ _ _ h => h) (Or.inl ⟨by rfl, ?yt8_32_⟩) HB ?rt8_32_
        case yt8_32_ => (intro w hSw; (try dsimp only at hSw); go_simp; try with_reducible rfl)
        try simp only [Act.put, List.setIfInBounds_toArray, List.set_cons_zero, List.set_cons_succ]
        refine wpAnyH_take (i := 12) (oi := ({ dst := some 79, op := .extract (.tmp 67) 1, type := 24, pos := "law.go:66", after := #[{ on := 10, ground := .data }, { on := 15, ground := .gcOnly Go.Departure.lateStores }], guard := none } : Oper)) (v := ?vt8_33_) rfl torn10_plain (by as_aux_lemma => kernel_rfl) (by as_aux_lemma => kernel_rfl) (fun _ _ _ h => h) (Or.inl ⟨by rfl, ?yt8_33_⟩) HB ?rt8_33_
        case yt8_33_ => (intro w hSw; (try dsimp only at hSw); go_simp; try with_reducible rfl)
        try simp only [Act.put, List.setIfInBounds_toArray, List.set_cons_zero, List.set_cons_succ]
        refine wpAnyH_take (i := 13) (oi := ({ dst := some 80, op := .extract (.tmp 67) 2, type := 27, pos := "law.go:66", after := #[{ on := 10, ground := .data }, { on := 16, ground := .gcOnly Go.Departure.lateStores }], guard := none } : Oper)) (v := ?vt8_34_) rfl torn10_plain (by as_aux_lemma => kernel_rfl) (by as_aux_lemma => kernel_rfl) (fun _ _ _ h => h) (Or.inl ⟨by rfl, ?yt8_34_⟩) HB ?rt8_34_
        case yt8_34_ => (intro w hSw; (try dsimp only at hSw); go_simp; try with_reducible rfl)
        try simp only [Act.put, List.setIfInBounds_toArray, List.set_cons_zero, List.set_cons_succ]
        refine wpAnyH_ready (rs := [15]) (by as_aux_lemma => kernel_rfl) (by simp) ?_
        refine AllReadyH.cons (o := ({ dst := none, op := .store 23 (.tmp 14) (.tmp 78), type := 0, pos := "law.go:66", after := #[{ on := 14, ground := .data }, { on := 11, ground := .data }, { on := 9, ground := .chain }, { on := 0, ground := .phase }, { on := 1, ground := .phase }, { on := 2, ground := .phase }, { on := 3, ground := .phase }, { on := 4, ground := .phase }, { on := 5, ground := .phase }, { on := 6, ground := .phase }, { on := 7, ground := .phase }, { on := 8, ground := .phase }, { on := 9, ground := .phase }, { on := 10, ground := .phase }, { on := 11, ground := .phase }, { on := 12, ground := .textOnly Go.Departure.lateStores }, { on := 13, ground := .textOnly Go.Departure.lateStores }, { on := 14, ground := .phase }], guard := none } : Oper)) rfl (fun KK hK => ?_) AllReadyH.nil
        rw [if_pos (by rfl)]
        have p0 := VA.at 0 rfl
        have p1 := VA.at 1 rfl
        have p2 := VA.at 2 rfl
        have f0 := VA.free 0
        have f1 := VA.free 1
        have f2 := VA.free 2
        go_simp
        have HN := ((HB.setCell (p := ⟨ga, 0, none⟩) hga (.int .i64 0)).setCell (p := ⟨ga, 1, none⟩) hga (.int .i64 0)).setCell (p := ⟨ga, 2, none⟩) hga (.int .i64 0)
        obtain ⟨w8, hX⟩ : ∃ x, x = ((w7.setCell ⟨ga, 0, none⟩ (.int .i64 0)).setCell ⟨ga, 1, none⟩ (.int .i64 0)).setCell ⟨ga, 2, none⟩ (.int .i64 0) := ⟨_, rfl⟩
        rw [← hX] at HN ⊢
        clear hX p0 p1 p2 f0 f1 f2
        have HG : Vr w7 ga #[.int .i64 0, .int .i64 0, .int .i64 0] 23 → (1 : Nat) = 1 → True := fun _ _ => trivial
        refine hK.out _ _ ?_ (fun hHeld => ?_)
        · exact HN
        replace HB := hHeld; clear hHeld hK KK HN
        replace VA := HG VA (by decide)
        clear C7
        clear HG
        try simp only [Act.put, List.setIfInBounds_toArray, List.set_cons_zero, List.set_cons_succ]
        refine wpAnyH_take (i := 16) (oi := ({ dst := some 15, op := .assign (.tmp 79), type := 24, pos := "law.go:66", after := #[{ on := 12, ground := .data }, { on := 15, ground := .chain }, { on := 0, ground := .phase }, { on := 1, ground := .phase }, { on := 2, ground := .phase }, { on := 3, ground := .phase }, { on := 4, ground := .phase }, { on := 5, ground := .phase }, { on := 6, ground := .phase }, { on := 7, ground := .phase }, { on := 8, ground := .phase }, { on := 9, ground := .phase }, { on := 10, ground := .phase }, { on := 11, ground := .phase }, { on := 12, ground := .phase }, { on := 13, ground := .textOnly Go.Departure.lateStores }, { on := 14, ground := .phase }, { on := 15, ground := .phase }], guard := none } : Oper)) (v := ?vt8_35_) rfl torn10_plain (by as_aux_lemma => kernel_rfl) (by as_aux_lemma => kernel_rfl) (fun _ _ _ h => h) (Or.inl ⟨by rfl, ?yt8_35_⟩) HB ?rt8_35_
        case yt8_35_ => (intro w hSw; (try dsimp only at hSw); go_simp; try with_reducible rfl)
        try simp only [Act.put, List.setIfInBounds_toArray, List.set_cons_zero, List.set_cons_succ]
        refine wpAnyH_take (i := 17) (oi := ({ dst := some 16, op := .assign (.tmp 80), type := 27, pos := "law.go:66", after := #[{ on := 13, ground := .data }, { on := 16, ground := .chain }, { on := 0, ground := .phase }, { on := 1, ground := .phase }, { on := 2, ground := .phase }, { on := 3, ground := .phase }, { on := 4, ground := .phase }, { on := 5, ground := .phase }, { on := 6, ground := .phase }, { on := 7, ground := .phase }, { on := 8, ground := .phase }, { on := 9, ground := .phase }, { on := 10, ground := .phase }, { on := 11, ground := .phase }, { on := 12, ground := .phase }, { on := 13, ground := .phase }, { on := 14, ground := .phase }, { on := 15, ground := .phase }, { on := 16, ground := .phase }], guard := none } : Oper)) (v := ?vt8_36_) rfl torn10_plain (by as_aux_lemma => kernel_rfl) (by as_aux_lemma => kernel_rfl) (fun _ _ _ h => h) (Or.inl ⟨by rfl, ?yt8_36_⟩) HB ?rt8_36_
        case yt8_36_ => (intro w hSw; (try dsimp only at hSw); go_simp; try with_reducible rfl)
        try simp only [Act.put, List.setIfInBounds_toArray, List.set_cons_zero, List.set_cons_succ]
        refine wpAnyH_done (by as_aux_lemma => kernel_rfl) ?_ _
        refine NoPanic.normal ?_
        go_wp2_with fail
        go_meet
        exact ⟨rfl, HB⟩
    case rest =>
      rename World => wx
      obtain ⟨rfl, hbx⟩ := hcut
      have HBX := Lib.hid (belowT HB2.out hbx)
      clear hbx HB2 X4 Y4
      go_wp2_with fail
      refine (AW.out _).mono ?_; rintro e w3 ⟨rfl, hb3⟩
      have HB3 := Lib.hid (belowT HBX.out hb3)
      clear hb3 HBX AW
      go_wp2
      go_ret
      exact ⟨rfl, HB3.out⟩
  case true.false =>
    rw [bytesN_ok (s + 2) ra] at OA
    rw [bytesN_no s rb] at OB
    rw [ra] at RA
    rw [rb] at RB
    simp only [la, List.length_nil] at OA OB
    clear TN la lb ra rb
    obtain ⟨x, y, z⟩ := a
    obtain ⟨p, q, r⟩ := b
    simp only [nv] at OA OB RA RB ⊢
    have S0 := Lib.hid ((((Sp.none w).more [.int .i64 x, .int .i64 y, .int .i64 z] 23).more [.int .i64 p, .int .i64 q, .int .i64 r] 23).more [.int .i64 i, .int .i64 m] 35)
    have B0 := Lib.hid (below3 w (.cells #[.int .i64 x, .int .i64 y, .int .i64 z] 23) (.cells #[.int .i64 p, .int .i64 q, .int .i64 r] 23) (.cells #[.int .i64 i, .int .i64 m] 35))
    go_enter Try.func5, Try.ntmps5
    go_wp2_with fail
    refine (OA.out _).mono ?_; rintro e w1 ⟨b1, cc1, rfl, _, hb1⟩
    have HB1 := Lib.hid (belowT B0.out hb1)
    have S1 := Lib.hid (S0.out.keep hb1)
    have q0 := S1.out.at 1 rfl 0 rfl; rw [heap1] at q0
    have q1 := S1.out.at 1 rfl 1 rfl; rw [heap1] at q1
    have q2 := S1.out.at 1 rfl 2 rfl; rw [heap1] at q2
    clear B0 S0 hb1 OA es c1 ej ek hj c2 c3
    go_wp2_with fail
    refine (OB.out _).mono ?_; rintro e w2 ⟨b2, cc2, rfl, _, hb2⟩
    have HB2 := Lib.hid (belowT HB1.out hb2)
    have S2 := Lib.hid (S1.out.keep hb2)
    clear q0 q1 q2
    have q0 := S2.out.at 0 rfl 0 rfl
    have q1 := S2.out.at 0 rfl 1 rfl
    have q2 := S2.out.at 0 rfl 2 rfl
    clear HB1 hb2 OB S1
    go_wp2_with fail
    refine (RA.out _).mono ?_; rintro e w3 ⟨rfl, hb3⟩
    have HB3 := Lib.hid (belowT HB2.out hb3)
    have S3 := S2.out.keep hb3
    clear q0 q1 q2
    have q0 := S3.at 1 rfl 0 rfl; rw [heap1] at q0
    have q1 := S3.at 1 rfl 1 rfl; rw [heap1] at q1
    have q2 := S3.at 1 rfl 2 rfl; rw [heap1] at q2
    clear HB2 hb3 RA S2 S3
    go_wp2_with fail
    refine (RB.out _).mono ?_; rintro e w4 ⟨rfl, hb4⟩
    have HB4 := Lib.hid (belowT HB3.out hb4)
    clear HB3 hb4 RB q0 q1 q2
    go_wp2_with fail
    refine (AW.out _).mono ?_; rintro e w5 ⟨rfl, hb5⟩
    have HB5 := Lib.hid (belowT HB4.out hb5)
    clear HB4 hb5 AW
    go_wp2
    go_ret
    exact ⟨rfl, HB5.out⟩
  case false.true =>
    rw [bytesN_no (s + 2) ra] at OA
    rw [bytesN_ok s rb] at OB
    rw [ra] at RA
    rw [rb] at RB
    simp only [lb, List.length_nil] at OA OB
    clear TN la lb ra rb
    obtain ⟨x, y, z⟩ := a
    obtain ⟨p, q, r⟩ := b
    simp only [nv] at OA OB RA RB ⊢
    have S0 := Lib.hid ((((Sp.none w).more [.int .i64 x, .int .i64 y, .int .i64 z] 23).more [.int .i64 p, .int .i64 q, .int .i64 r] 23).more [.int .i64 i, .int .i64 m] 35)
    have B0 := Lib.hid (below3 w (.cells #[.int .i64 x, .int .i64 y, .int .i64 z] 23) (.cells #[.int .i64 p, .int .i64 q, .int .i64 r] 23) (.cells #[.int .i64 i, .int .i64 m] 35))
    go_enter Try.func5, Try.ntmps5
    go_wp2_with fail
    refine (OA.out _).mono ?_; rintro e w1 ⟨b1, cc1, rfl, _, hb1⟩
    have HB1 := Lib.hid (belowT B0.out hb1)
    have S1 := Lib.hid (S0.out.keep hb1)
    have q0 := S1.out.at 1 rfl 0 rfl; rw [heap1] at q0
    have q1 := S1.out.at 1 rfl 1 rfl; rw [heap1] at q1
    have q2 := S1.out.at 1 rfl 2 rfl; rw [heap1] at q2
    clear B0 S0 hb1 OA es c1 ej ek hj c2 c3
    go_wp2_with fail
    refine (OB.out _).mono ?_; rintro e w2 ⟨b2, cc2, rfl, _, hb2⟩
    have HB2 := Lib.hid (belowT HB1.out hb2)
    have S2 := Lib.hid (S1.out.keep hb2)
    clear q0 q1 q2
    have q0 := S2.out.at 0 rfl 0 rfl
    have q1 := S2.out.at 0 rfl 1 rfl
    have q2 := S2.out.at 0 rfl 2 rfl
    clear HB1 hb2 OB S1
    go_wp2_with fail
    refine (RA.out _).mono ?_; rintro e w3 ⟨rfl, hb3⟩
    have HB3 := Lib.hid (belowT HB2.out hb3)
    have S3 := S2.out.keep hb3
    clear q0 q1 q2
    have q0 := S3.at 1 rfl 0 rfl; rw [heap1] at q0
    have q1 := S3.at 1 rfl 1 rfl; rw [heap1] at q1
    have q2 := S3.at 1 rfl 2 rfl; rw [heap1] at q2
    clear HB2 hb3 RA S2 S3
    go_wp2_with fail
    refine (AW.out _).mono ?_; rintro e w5 ⟨rfl, hb5⟩
    have HB5 := Lib.hid (belowT HB3.out hb5)
    clear HB3 hb5 AW
    go_wp2
    go_ret
    exact ⟨rfl, HB5.out⟩
  case false.false =>
    rw [bytesN_no (s + 2) ra] at OA
    rw [bytesN_no s rb] at OB
    rw [ra] at RA
    rw [rb] at RB
    simp only [List.length_nil] at OA OB
    clear TN la lb ra rb
    obtain ⟨x, y, z⟩ := a
    obtain ⟨p, q, r⟩ := b
    simp only [nv] at OA OB RA RB ⊢
    have S0 := Lib.hid ((((Sp.none w).more [.int .i64 x, .int .i64 y, .int .i64 z] 23).more [.int .i64 p, .int .i64 q, .int .i64 r] 23).more [.int .i64 i, .int .i64 m] 35)
    have B0 := Lib.hid (below3 w (.cells #[.int .i64 x, .int .i64 y, .int .i64 z] 23) (.cells #[.int .i64 p, .int .i64 q, .int .i64 r] 23) (.cells #[.int .i64 i, .int .i64 m] 35))
    go_enter Try.func5, Try.ntmps5
    go_wp2_with fail
    refine (OA.out _).mono ?_; rintro e w1 ⟨b1, cc1, rfl, _, hb1⟩
    have HB1 := Lib.hid (belowT B0.out hb1)
    have S1 := Lib.hid (S0.out.keep hb1)
    have q0 := S1.out.at 1 rfl 0 rfl; rw [heap1] at q0
    have q1 := S1.out.at 1 rfl 1 rfl; rw [heap1] at q1
    have q2 := S1.out.at 1 rfl 2 rfl; rw [heap1] at q2
    clear B0 S0 hb1 OA es c1 ej ek hj c2 c3
    go_wp2_with fail
    refine (OB.out _).mono ?_; rintro e w2 ⟨b2, cc2, rfl, _, hb2⟩
    have HB2 := Lib.hid (belowT HB1.out hb2)
    have S2 := Lib.hid (S1.out.keep hb2)
    clear q0 q1 q2
    have q0 := S2.out.at 0 rfl 0 rfl
    have q1 := S2.out.at 0 rfl 1 rfl
    have q2 := S2.out.at 0 rfl 2 rfl
    clear HB1 hb2 OB S1
    go_wp2_with fail
    refine (RA.out _).mono ?_; rintro e w3 ⟨rfl, hb3⟩
    have HB3 := Lib.hid (belowT HB2.out hb3)
    have S3 := S2.out.keep hb3
    clear q0 q1 q2
    have q0 := S3.at 1 rfl 0 rfl; rw [heap1] at q0
    have q1 := S3.at 1 rfl 1 rfl; rw [heap1] at q1
    have q2 := S3.at 1 rfl 2 rfl; rw [heap1] at q2
    clear HB2 hb3 RA S2 S3
    go_wp2_with fail
    refine (AW.out _).mono ?_; rintro e w5 ⟨rfl, hb5⟩
    have HB5 := Lib.hid (belowT HB3.out hb5)
    clear HB3 hb5 AW
    go_wp2
    go_ret
    exact ⟨rfl, HB5.out⟩

theorem Torn18_all (O : Own18) (a b : Nt) (i m : Int) (w : World) :
    Calls Try.prog 5 #[nv a, nv b, .agg #[.int .i64 i, .int .i64 m]] w fun e w' => e = .returned (.bool true) ∧ Below w.heap.size w w' := by
  obtain ⟨s, hs, es⟩ := seq_of i
  obtain ⟨j, hj, ej⟩ := umod m 11 (by decide) (by decide)
  exact torn_core O a b i m s j (1 + j) w hs es hj ej (by omega)
theorem u32_nat {a : Int} (h : (Lit.int .u32 a).wf = true) : ∃ s : Nat, a = s ∧ s < 4294967296 := by
  simp only [Lit.wf, Bool.and_eq_true, decide_eq_true_eq] at h
  rw [show IntKind.u32.min = 0 by decide, show IntKind.u32.max = 4294967295 by decide] at h
  exact ⟨a.toNat, by omega, by omega⟩
theorem Says18_int (O : Own18) (n : Nt) (a : Int) (wf : (Lit.int .u32 a).wf = true) (ba : Option Addr) (cap : Nat) (l : List UInt8) (w : World) (C : Came w ba cap l) :
    Calls Try.prog 3 #[nv n, .int .u32 a, .slice ba l.length cap] w fun e w' => e = .returned (.bool true) ∧ Below w.heap.size w w' := by
  obtain ⟨s, rfl, hs⟩ := u32_nat wf
  exact Says18_all O n s hs ba cap l w C
theorem Back18_int (O : Own18) (n : Nt) (a : Int) (wf : (Lit.int .u32 a).wf = true) (ba : Option Addr) (cap : Nat) (l : List UInt8) (w : World) (C : Came w ba cap l) :
    Calls Try.prog 4 #[nv n, .int .u32 a, .slice ba l.length cap] w fun e w' => e = .returned (.bool true) ∧ Below w.heap.size w w' := by
  obtain ⟨s, rfl, hs⟩ := u32_nat wf
  exact Back18_all O n s hs ba cap l w C
end Go.Proofs.Ytjhkmhegnlippaa
