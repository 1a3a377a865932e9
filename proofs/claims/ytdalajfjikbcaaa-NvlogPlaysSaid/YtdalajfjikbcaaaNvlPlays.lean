/- NvlogPlays over Own19. -/
import Derived.Test.YtdalajfjikbcaaaNvlTorn
namespace Go.Proofs.Ytdalajfjikbcaaa
open Go.RowKit

theorem save_length (m : List UInt8) (n : Nt) (most : Int) : (saveF m n most).1.length = m.length := by
  rcases write_cases m n with ⟨_, e⟩ | ⟨_, h24, hb, ht, e⟩
  · rw [e]
  · rw [e]
    show (putF m _ _).length = _
    rw [put_length (by rw [List.length_take]; rcases ht with k | k <;> rw [k] <;> omega)]

/-- The operations of a drawn region, as the translation has them. -/
def plays8 : Array Oper := #[
  { dst := some 38, op := .move (.tmp 5), type := 22, pos := "law.go:38", after := #[], guard := none },
  { dst := some 39, op := .fieldAddr 28 (.tmp 8) 2, type := 0, pos := "law.go:38", after := #[], guard := none },
  { dst := some 40, op := .load 3 (.tmp 39), type := 3, pos := "law.go:38", after := #[{ on := 1, ground := .data }], guard := none },
  { dst := some 41, op := .call { callee := .value (.func 7), args := #[.tmp 38, .tmp 40], argTypes := #[22, 3] }, type := 22, pos := "law.go:38", after := #[{ on := 0, ground := .data }, { on := 2, ground := .data }], guard := none },
  { dst := some 42, op := .move (.tmp 6), type := 22, pos := "law.go:38", after := #[], guard := none },
  { dst := some 43, op := .fieldAddr 28 (.tmp 8) 2, type := 0, pos := "law.go:38", after := #[], guard := none },
  { dst := some 44, op := .load 3 (.tmp 43), type := 3, pos := "law.go:38", after := #[{ on := 5, ground := .data }], guard := none },
  { dst := some 45, op := .call { callee := .value (.func 8), args := #[.tmp 42, .tmp 44], argTypes := #[22, 3] }, type := 22, pos := "law.go:38", after := #[{ on := 4, ground := .data }, { on := 6, ground := .data }, { on := 3, ground := .chain }], guard := none },
  { dst := some 5, op := .assign (.tmp 41), type := 22, pos := "law.go:38", after := #[{ on := 3, ground := .data }, { on := 7, ground := .chain }, { on := 0, ground := .phase }, { on := 1, ground := .phase }, { on := 2, ground := .phase }, { on := 3, ground := .phase }, { on := 4, ground := .textOnly Go.Departure.lateStores }, { on := 5, ground := .textOnly Go.Departure.lateStores }, { on := 6, ground := .textOnly Go.Departure.lateStores }, { on := 7, ground := .textOnly Go.Departure.lateStoresUnsure }], guard := none },
  { dst := some 6, op := .assign (.tmp 45), type := 22, pos := "law.go:38", after := #[{ on := 7, ground := .data }, { on := 8, ground := .chain }, { on := 0, ground := .phase }, { on := 1, ground := .phase }, { on := 2, ground := .phase }, { on := 3, ground := .phase }, { on := 4, ground := .phase }, { on := 5, ground := .phase }, { on := 6, ground := .phase }, { on := 7, ground := .phase }, { on := 8, ground := .phase }], guard := none }]
theorem plays8_plain : Region.noSelect plays8 = true := by kernel_rfl

/-- The operations of a drawn region, as the translation has them. -/
def plays23 : Array Oper := #[
  { dst := some 126, op := .call { callee := .value (.func 15), args := #[], argTypes := #[] }, type := 22, pos := "law.go:58", after := #[], guard := none },
  { dst := some 127, op := .convert 22 9 (.tmp 126), type := 9, pos := "law.go:58", after := #[{ on := 0, ground := .data }], guard := none },
  { dst := some 128, op := .call { callee := .value (.func 16), args := #[], argTypes := #[] }, type := 22, pos := "law.go:58", after := #[{ on := 0, ground := .chain }], guard := none },
  { dst := some 129, op := .convert 22 9 (.tmp 128), type := 9, pos := "law.go:58", after := #[{ on := 2, ground := .data }], guard := none },
  { dst := some 130, op := .binOp .eql 9 (.tmp 127) (.tmp 129) 9, type := 4, pos := "law.go:58", after := #[{ on := 1, ground := .data }, { on := 3, ground := .data }], guard := none },
  { dst := some 131, op := .move (.tmp 130), type := 4, pos := "law.go:58", after := #[{ on := 4, ground := .data }, { on := 2, ground := .chain }], guard := none },
  { dst := some 132, op := .call { callee := .value (.func 6), args := #[], argTypes := #[] }, type := 4, pos := "law.go:58", after := #[{ on := 5, ground := .chain }, { on := 5, ground := .guard }], guard := some (5, true) },
  { dst := some 133, op := .pick (.tmp 131) (.tmp 132) (.const (.bool false)), type := 4, pos := "law.go:58", after := #[{ on := 5, ground := .data }, { on := 6, ground := .data }], guard := none },
  { dst := some 4, op := .assign (.tmp 133), type := 4, pos := "law.go:58", after := #[{ on := 7, ground := .data }, { on := 6, ground := .chain }, { on := 0, ground := .phase }, { on := 1, ground := .phase }, { on := 2, ground := .phase }, { on := 3, ground := .phase }, { on := 4, ground := .phase }, { on := 5, ground := .phase }, { on := 6, ground := .phase }, { on := 7, ground := .phase }], guard := none }]
theorem plays23_plain : Region.noSelect plays23 = true := by kernel_rfl

set_option maxHeartbeats 16000000 in
set_option maxRecDepth 100000 in
theorem plays_core (O : Own19) {w : World} {ba bb : Option Addr} {ca cb : Nat} {ms : List UInt8} {l : List Nop} (D : Came w ba ca ms) (A : CameOps w bb cb l) (h0 : (ms.length : Int) ≤ 100) (h1 : (l.length : Int) ≤ 40) :
    Calls Try.prog 3 #[.slice ba ms.length ca, .slice bb l.length cb] w fun e w' => e = .returned (.bool true) ∧ Below w.heap.size w w' := by
  have AW := Lib.hid (awake_any O)
  have ON := Lib.hid O.new
  have RN := Lib.hid Ref19.New_any
  have LO := Lib.hid O.load
  have PO := Lib.hid O.spoil
  have WO := Lib.hid O.write
  have SO := Lib.hid O.save
  have HA := Lib.hid A
  have HD := Lib.hid D
  have HL0 := Lib.hid h0
  clear A D
  go_enter Try.func3, Try.ntmps3
  go_wp2
  go_loopw [5, 6, 32] (fun v u i wr => ∃ (j : Nat) (m : List UInt8) (b1 : Option Addr) (c1 : Nat) (b2 : Option Addr) (c2 : Nat), j ≤ l.length ∧ i = .int .i64 j ∧ v = .slice b1 m.length c1 ∧ u = .slice b2 m.length c2 ∧ (m.length : Int) ≤ 100 ∧ Came wr b1 c1 m ∧ Came wr b2 c2 m ∧ Below w.heap.size w wr) (fun _ _ i _ => l.length - (intOf i).toNat)
  case atStart => exact ⟨0, ms, ba, ca, ba, ca, Nat.zero_le _, rfl, rfl, rfl, HL0.out, HD.out, HD.out, Below.refl _ _⟩
  case round =>
    obtain ⟨j, m, b1, c1, b2, c2, hj, rfl, rfl, rfl, hm, hA, hB, hb⟩ := hrel
    have HM := Lib.hid hm
    by_cases hlt : (j : Int) < l.length
    · obtain ⟨bo, o, rfl, L⟩ := (HA.out.keep hb).lies (by omega)
      have L := L j (by omega)
      generalize l.getD j op0 = nop at *
      obtain ⟨sp, ⟨p, q, r⟩, mo⟩ := nop
      have k0 : wr.cell? ⟨bo, o + j * 5, none⟩ = some (.bool sp) := L 0 _ rfl
      have k1 : wr.cell? ⟨bo, o + j * 5 + 1, none⟩ = some (.int .i64 p) := L 1 _ rfl
      have k2 : wr.cell? ⟨bo, o + j * 5 + 2, none⟩ = some (.int .i64 q) := L 2 _ rfl
      have k3 : wr.cell? ⟨bo, o + j * 5 + 3, none⟩ = some (.int .i64 r) := L 3 _ rfl
      have k4 : wr.cell? ⟨bo, o + j * 5 + 4, none⟩ = some (.int .i64 mo) := L 4 _ rfl
      have hd : (j : Int) ≥ 0 := by omega
      have hba := below1 wr (.cells #[.bool sp, .int .i64 p, .int .i64 q, .int .i64 r, .int .i64 mo] 28)
      have HB1 := Lib.hid (belowT hb hba)
      have O1 := Lib.hid (hasl wr [.bool sp, .int .i64 p, .int .i64 q, .int .i64 r, .int .i64 mo] 28)
      have A1 := Lib.hid (hA.keep hba)
      have B1 := Lib.hid (hB.keep hba)
      clear L hA hB hb hba hm
      cases sp
      · obtain ⟨⟨wo, bs, er⟩, hw⟩ : ∃ r', r' = writeF m ⟨p, q, r⟩ := ⟨_, rfl⟩
        have X1 := WO.out _ b1 c1 m ⟨p, q, r⟩ A1.out (by have := HM.out; omega)
        have X2 := Lib.hid fun (w' : World) (C : Came w' b2 c2 m) => Ref19.Write_came C ⟨p, q, r⟩
        rw [← hw] at X1 X2
        have hsl := save_length m ⟨p, q, r⟩ mo
        obtain ⟨⟨K, es⟩, hs⟩ : ∃ r', r' = saveF m ⟨p, q, r⟩ mo := ⟨_, rfl⟩
        have X3 := Lib.hid fun (w' : World) (C : Came w' b1 c1 m) => SO.out w' b1 c1 m ⟨p, q, r⟩ mo C (by have := HM.out; omega)
        have X4 := Lib.hid fun (w' : World) (C : Came w' b2 c2 m) => Ref19.Save_came C ⟨p, q, r⟩ mo (by have := HM.out; omega)
        rw [← hs] at X3 X4 hsl
        simp only [nv] at X1 X2 X3 X4
        have LK := Lib.hid (show (K.length : Int) ≤ 100 by have := HM.out; have : K.length = m.length := hsl; omega)
        have X1 := Lib.hid X1
        clear hw hs hsl
        go_wp2_with fail
        refine X1.out.mono ?_; rintro e w2 ⟨b3, c3, rfl, D3, hb2⟩
        have HB2 := Lib.hid (belowT HB1.out hb2)
        have O2 := Lib.hid (O1.out.keep hb2)
        have A2 := Lib.hid (A1.out.keep hb2)
        have B2 := Lib.hid (B1.out.keep hb2)
        have E2 := Lib.hid D3
        have o1 := O2.out.at 1 rfl
        have o2 := O2.out.at 2 rfl
        have o3 := O2.out.at 3 rfl
        have X := Lib.hid (X2.out w2 B2.out)
        clear X1 X2 hb2 D3 HB1 O1 A1 B1 k0 k1 k2 k3 k4
        go_wp2_with fail
        refine X.out.mono ?_; rintro e w3 ⟨b4, c4, rfl, D4, hb3⟩
        have HB3 := Lib.hid (belowT HB2.out hb3)
        have O3 := Lib.hid (O2.out.keep hb3)
        have A3 := Lib.hid (A2.out.keep hb3)
        have B3 := Lib.hid (B2.out.keep hb3)
        have s1 := (E2.out.keep hb3).string
        have s2 := D4.string
        clear o1 o2 o3
        have o1 := O3.out.at 1 rfl
        have o2 := O3.out.at 2 rfl
        have o3 := O3.out.at 3 rfl
        have o4 := O3.out.at 4 rfl
        have X := Lib.hid (X3.out w3 A3.out)
        clear hb3 D4 HB2 O2 A2 B2 E2 X3
        go_wp2_with fail
        refine X.out.mono ?_; rintro e w4 ⟨b5, c5, rfl, D5, hb4⟩
        have HB4 := Lib.hid (belowT HB3.out hb4)
        have O4 := Lib.hid (O3.out.keep hb4)
        have B4a := Lib.hid (B3.out.keep hb4)
        have A4a := Lib.hid D5
        clear o1 o2 o3 o4 s1 s2
        have o1 := O4.out.at 1 rfl
        have o2 := O4.out.at 2 rfl
        have o3 := O4.out.at 3 rfl
        have o4 := O4.out.at 4 rfl
        have X := Lib.hid (X4.out w4 B4a.out)
        clear hb4 D5 HB3 O3 A3 B3 X4
        go_wp2_with fail
        refine X.out.mono ?_; rintro e w5 ⟨b6, c6, rfl, D6, hb5⟩
        have HB5 := Lib.hid (belowT HB4.out hb5)
        have A4 := Lib.hid (A4a.out.keep hb5)
        have B4 := Lib.hid D6
        clear X hb5 D6 HB4 O4 B4a A4a o1 o2 o3 o4
        have XL := Lib.hid (LO.out w5 b5 c5 K A4.out (by have := LK.out; omega))
        have XR := Lib.hid fun (w' : World) (C : Came w' b6 c6 K) => Ref19.Load_came C
        obtain ⟨nn, en⟩ : ∃ r', r' = loadF K := ⟨_, rfl⟩
        rw [← en] at XL XR
        obtain ⟨⟨x', y', z'⟩, ee⟩ := nn
        simp only [nv] at XL XR
        clear en
        go_wp2_with fail
        refine XL.out.mono ?_; rintro e v1 ⟨rfl, hb1⟩
        have hb1a := belowT hb1 (below1 v1 (.cells #[.int .i64 x', .int .i64 y', .int .i64 z'] 26))
        have HV1 := Lib.hid (belowT HB5.out hb1a)
        have A5 := Lib.hid (A4.out.keep hb1a)
        have B5 := Lib.hid (B4.out.keep hb1a)
        have U1 := Lib.hid (hasl v1 [.int .i64 x', .int .i64 y', .int .i64 z'] 26)
        have X := Lib.hid (XR.out _ B5.out)
        clear XL XR hb1 hb1a HB5 A4 B4
        go_wp2_with fail
        refine X.out.mono ?_; rintro e v2 ⟨rfl, hb2⟩
        have hb2a := belowT hb2 (below1 v2 (.cells #[.int .i64 x', .int .i64 y', .int .i64 z'] 26))
        have HV2 := Lib.hid (belowT HV1.out hb2a)
        have A6 := Lib.hid (A5.out.keep hb2a)
        have B6 := Lib.hid (B5.out.keep hb2a)
        have U2 := U1.out.keep hb2a
        have U3 := hasl v2 [.int .i64 x', .int .i64 y', .int .i64 z'] 26
        have s1 := A6.out.string
        have s2 := B6.out.string
        have u0 := U2.at 0 rfl
        have u1 := U2.at 1 rfl
        have u2 := U2.at 2 rfl
        have t0 := U3.at 0 rfl
        have t1 := U3.at 1 rfl
        have t2 := U3.at 2 rfl
        clear X hb2 hb2a HV1 A5 B5 U1 U2 U3
        go_wp2
        go_roundw
        case rel => exact ⟨j + 1, K, b5, c5, b6, c6, by omega, rfl, rfl, rfl, LK.out, A6.out, B6.out, HV2.out⟩
        case measure => simp [intOf]; omega
      · obtain ⟨K, hK⟩ : ∃ K, K = spoilF m mo := ⟨_, rfl⟩
        have hsl := spoil_length m mo
        have X1 := fun (w' : World) (C : Came w' b1 c1 m) => PO.out w' b1 c1 m mo C (by have := HM.out; omega)
        have X2 := Lib.hid fun (w' : World) (C : Came w' b2 c2 m) => Ref19.Spoil_came C mo (by have := HM.out; omega)
        rw [← hK] at X1 X2 hsl
        have LK := Lib.hid (show (K.length : Int) ≤ 100 by have := HM.out; omega)
        have X1 := Lib.hid X1
        clear hK hsl
        go_upto_region 8 with fail
        obtain ⟨W0, hW0⟩ : ∃ W, W = wr.alloc (.cells #[.bool true, .int .i64 p, .int .i64 q, .int .i64 r, .int .i64 mo] 28) := ⟨_, rfl⟩
        rw [← hW0]
        rw [← hW0] at A1 B1 O1 HB1
        clear hW0
        have r4 : ∀ w', Below W0.heap.size W0 w' → w'.cell? ⟨wr.heap.size, 4, none⟩ = some (.int .i64 mo) := fun w' h => (O1.out.keep h).at 4 rfl
        change (Code.region 8 plays8 true).wp Try.prog _ _ _
        refine wp_region_noPanic ?_
        refine wp_region_held_drew (S := fun w' => Below W0.heap.size W0 w') (by kernel_rfl) ((Below.refl _ _).drew) (fun hHeld => ?_)
        refine wpAnyH_take (i := 0) (oi := ({ dst := some 38, op := .move (.tmp 5), type := 22, pos := "law.go:38", after := #[], guard := none } : Oper)) (v := ?vs22_0) rfl plays8_plain (by as_aux_lemma => kernel_rfl) (by as_aux_lemma => kernel_rfl) (fun _ _ _ h => h) (Or.inl ⟨by rfl, ?ys22_0⟩) (by assumption) ?rs22_0
        case ys22_0 => (intro w hSw; (try dsimp only at hSw); go_simp; try with_reducible rfl)
        try simp only [Act.put, List.setIfInBounds_toArray, List.set_cons_zero, List.set_cons_succ]
        refine wpAnyH_take (i := 1) (oi := ({ dst := some 39, op := .fieldAddr 28 (.tmp 8) 2, type := 0, pos := "law.go:38", after := #[], guard := none } : Oper)) (v := ?vs22_1) rfl plays8_plain (by as_aux_lemma => kernel_rfl) (by as_aux_lemma => kernel_rfl) (fun _ _ _ h => h) (Or.inl ⟨by rfl, ?ys22_1⟩) (by assumption) ?rs22_1
        case ys22_1 => (intro w hSw; (try dsimp only at hSw); go_simp; try with_reducible rfl)
        try simp only [Act.put, List.setIfInBounds_toArray, List.set_cons_zero, List.set_cons_succ]
        refine wpAnyH_take (i := 2) (oi := ({ dst := some 40, op := .load 3 (.tmp 39), type := 3, pos := "law.go:38", after := #[{ on := 1, ground := .data }], guard := none } : Oper)) (v := ?vs22_2) rfl plays8_plain (by as_aux_lemma => kernel_rfl) (by as_aux_lemma => kernel_rfl) (fun _ _ _ h => h) (Or.inl ⟨by rfl, ?ys22_2⟩) (by assumption) ?rs22_2
        case ys22_2 => (intro w hSw; (try dsimp only at hSw); go_simp; try with_reducible rfl)
        try simp only [Act.put, List.setIfInBounds_toArray, List.set_cons_zero, List.set_cons_succ]
        refine wpAnyH_take (i := 4) (oi := ({ dst := some 42, op := .move (.tmp 6), type := 22, pos := "law.go:38", after := #[], guard := none } : Oper)) (v := ?vs22_4) rfl plays8_plain (by as_aux_lemma => kernel_rfl) (by as_aux_lemma => kernel_rfl) (fun _ _ _ h => h) (Or.inl ⟨by rfl, ?ys22_4⟩) (by assumption) ?rs22_4
        case ys22_4 => (intro w hSw; (try dsimp only at hSw); go_simp; try with_reducible rfl)
        try simp only [Act.put, List.setIfInBounds_toArray, List.set_cons_zero, List.set_cons_succ]
        refine wpAnyH_take (i := 5) (oi := ({ dst := some 43, op := .fieldAddr 28 (.tmp 8) 2, type := 0, pos := "law.go:38", after := #[], guard := none } : Oper)) (v := ?vs22_5) rfl plays8_plain (by as_aux_lemma => kernel_rfl) (by as_aux_lemma => kernel_rfl) (fun _ _ _ h => h) (Or.inl ⟨by rfl, ?ys22_5⟩) (by assumption) ?rs22_5
        case ys22_5 => (intro w hSw; (try dsimp only at hSw); go_simp; try with_reducible rfl)
        try simp only [Act.put, List.setIfInBounds_toArray, List.set_cons_zero, List.set_cons_succ]
        refine wpAnyH_take (i := 6) (oi := ({ dst := some 44, op := .load 3 (.tmp 43), type := 3, pos := "law.go:38", after := #[{ on := 5, ground := .data }], guard := none } : Oper)) (v := ?vs22_6) rfl plays8_plain (by as_aux_lemma => kernel_rfl) (by as_aux_lemma => kernel_rfl) (fun _ _ _ h => h) (Or.inl ⟨by rfl, ?ys22_6⟩) (by assumption) ?rs22_6
        case ys22_6 => (intro w hSw; (try dsimp only at hSw); go_simp; try with_reducible rfl)
        try simp only [Act.put, List.setIfInBounds_toArray, List.set_cons_zero, List.set_cons_succ]
        refine wpAnyH_ready (rs := [3]) (by as_aux_lemma => kernel_rfl) (by simp) ?_
        refine AllReadyH.cons (o := ({ dst := some 41, op := .call { callee := .value (.func 7), args := #[.tmp 38, .tmp 40], argTypes := #[22, 3] }, type := 22, pos := "law.go:38", after := #[{ on := 0, ground := .data }, { on := 2, ground := .data }], guard := none } : Oper)) rfl (fun KK hK => ?_) AllReadyH.nil
        rw [if_pos (by rfl)]
        go_simp
        go_at_call 7; refine (X1.out _ (A1.out.keep (by assumption))).mono ?_; rintro e w2 ⟨b5, c5, rfl, D5, hb2⟩
        have E5 := Lib.hid D5
        go_wp2_with fail
        refine hK.out _ _ ?_ (fun hHeld2 => ?_)
        · exact belowT (by assumption) hb2
        refine wpAnyH_rebase (S' := fun w' => Below w2.heap.size w2 w') (fun w' h => belowT hHeld2 h) _ _ _ _ ?_
        have hHeldR2 := Below.refl w2.heap.size w2
        clear hK KK
        try simp only [Act.put, List.setIfInBounds_toArray, List.set_cons_zero, List.set_cons_succ]
        refine wpAnyH_ready (rs := [7]) (by as_aux_lemma => kernel_rfl) (by simp) ?_
        refine AllReadyH.cons (o := ({ dst := some 45, op := .call { callee := .value (.func 8), args := #[.tmp 42, .tmp 44], argTypes := #[22, 3] }, type := 22, pos := "law.go:38", after := #[{ on := 4, ground := .data }, { on := 6, ground := .data }, { on := 3, ground := .chain }], guard := none } : Oper)) rfl (fun KK hK => ?_) AllReadyH.nil
        rw [if_pos (by rfl)]
        go_simp
        go_at_call 8; refine (X2.out _ (B1.out.keep (by assumption))).mono ?_; rintro e w3 ⟨b6, c6, rfl, D6, hb3⟩
        have E6 := Lib.hid D6
        go_wp2_with fail
        refine hK.out _ _ ?_ (fun hHeld3 => ?_)
        · exact belowT (by assumption) hb3
        refine wpAnyH_rebase (S' := fun w' => Below w3.heap.size w3 w') (fun w' h => belowT hHeld3 h) _ _ _ _ ?_
        have hHeldR3 := Below.refl w3.heap.size w3
        clear hK KK
        try simp only [Act.put, List.setIfInBounds_toArray, List.set_cons_zero, List.set_cons_succ]
        refine wpAnyH_take (i := 8) (oi := ({ dst := some 5, op := .assign (.tmp 41), type := 22, pos := "law.go:38", after := #[{ on := 3, ground := .data }, { on := 7, ground := .chain }, { on := 0, ground := .phase }, { on := 1, ground := .phase }, { on := 2, ground := .phase }, { on := 3, ground := .phase }, { on := 4, ground := .textOnly Go.Departure.lateStores }, { on := 5, ground := .textOnly Go.Departure.lateStores }, { on := 6, ground := .textOnly Go.Departure.lateStores }, { on := 7, ground := .textOnly Go.Departure.lateStoresUnsure }], guard := none } : Oper)) (v := ?vs22_8) rfl plays8_plain (by as_aux_lemma => kernel_rfl) (by as_aux_lemma => kernel_rfl) (fun _ _ _ h => h) (Or.inl ⟨by rfl, ?ys22_8⟩) (by assumption) ?rs22_8
        case ys22_8 => (intro w hSw; (try dsimp only at hSw); have hS0 := belowT hHeld3 hSw; have hS1 := belowT hHeld2 hS0; go_simp; try with_reducible rfl)
        try simp only [Act.put, List.setIfInBounds_toArray, List.set_cons_zero, List.set_cons_succ]
        refine wpAnyH_take (i := 9) (oi := ({ dst := some 6, op := .assign (.tmp 45), type := 22, pos := "law.go:38", after := #[{ on := 7, ground := .data }, { on := 8, ground := .chain }, { on := 0, ground := .phase }, { on := 1, ground := .phase }, { on := 2, ground := .phase }, { on := 3, ground := .phase }, { on := 4, ground := .phase }, { on := 5, ground := .phase }, { on := 6, ground := .phase }, { on := 7, ground := .phase }, { on := 8, ground := .phase }], guard := none } : Oper)) (v := ?vs22_9) rfl plays8_plain (by as_aux_lemma => kernel_rfl) (by as_aux_lemma => kernel_rfl) (fun _ _ _ h => h) (Or.inl ⟨by rfl, ?ys22_9⟩) (by assumption) ?rs22_9
        case ys22_9 => (intro w hSw; (try dsimp only at hSw); have hS0 := belowT hHeld3 hSw; have hS1 := belowT hHeld2 hS0; go_simp; try with_reducible rfl)
        try simp only [Act.put, List.setIfInBounds_toArray, List.set_cons_zero, List.set_cons_succ]
        refine wpAnyH_done (by as_aux_lemma => kernel_rfl) ?_ _
        refine NoPanic.normal ?_
        have HB3 := Lib.hid (belowT HB1.out (belowT hHeld2 hHeld3))
        have A4 := Lib.hid (E5.out.keep hHeld3)
        have B4 := Lib.hid E6.out
        clear r4 X1 X2 D5 D6 E5 E6 hHeld hHeld2 hHeld3 hHeldR2 hHeldR3 O1 A1 B1 HB1 k0 k1 k2 k3 k4
        have XL := Lib.hid (LO.out w3 b5 c5 K A4.out (by have := LK.out; omega))
        have XR := Lib.hid fun (w' : World) (C : Came w' b6 c6 K) => Ref19.Load_came C
        obtain ⟨nn, en⟩ : ∃ r', r' = loadF K := ⟨_, rfl⟩
        rw [← en] at XL XR
        obtain ⟨⟨x', y', z'⟩, ee⟩ := nn
        simp only [nv] at XL XR
        clear en
        go_wp2_with fail
        refine XL.out.mono ?_; rintro e v1 ⟨rfl, hb1⟩
        have hb1a := belowT hb1 (below1 v1 (.cells #[.int .i64 x', .int .i64 y', .int .i64 z'] 26))
        have HV1 := Lib.hid (belowT HB3.out hb1a)
        have A5 := Lib.hid (A4.out.keep hb1a)
        have B5 := Lib.hid (B4.out.keep hb1a)
        have U1 := Lib.hid (hasl v1 [.int .i64 x', .int .i64 y', .int .i64 z'] 26)
        have X := Lib.hid (XR.out _ B5.out)
        clear XL XR hb1 hb1a HB3 A4 B4
        go_wp2_with fail
        refine X.out.mono ?_; rintro e v2 ⟨rfl, hb2⟩
        have hb2a := belowT hb2 (below1 v2 (.cells #[.int .i64 x', .int .i64 y', .int .i64 z'] 26))
        have HV2 := Lib.hid (belowT HV1.out hb2a)
        have A6 := Lib.hid (A5.out.keep hb2a)
        have B6 := Lib.hid (B5.out.keep hb2a)
        have U2 := U1.out.keep hb2a
        have U3 := hasl v2 [.int .i64 x', .int .i64 y', .int .i64 z'] 26
        have s1 := A6.out.string
        have s2 := B6.out.string
        have u0 := U2.at 0 rfl
        have u1 := U2.at 1 rfl
        have u2 := U2.at 2 rfl
        have t0 := U3.at 0 rfl
        have t1 := U3.at 1 rfl
        have t2 := U3.at 2 rfl
        clear X hb2 hb2a HV1 A5 B5 U1 U2 U3
        go_wp2
        go_roundw
        case rel => exact ⟨j + 1, K, b5, c5, b6, c6, by omega, rfl, rfl, rfl, LK.out, A6.out, B6.out, HV2.out⟩
        case measure => simp [intOf]; omega
    · obtain rfl : j = l.length := by omega
      have HB := Lib.hid hb
      clear hA hB hb hm
      go_upto_region 23 with fail
      obtain ⟨W0, rfl⟩ : ∃ W0, W0 = wr := ⟨_, rfl⟩
      change (Code.region 23 plays23 true).wp Try.prog _ _ _
      refine wp_region_noPanic ?_
      refine wp_region_held_drew (S := fun w' => Below W0.heap.size W0 w') (by kernel_rfl) ((Below.refl _ _).drew) (fun hHeld => ?_)
      refine wpAnyH_ready (rs := [0]) (by as_aux_lemma => kernel_rfl) (by simp) ?_
      refine AllReadyH.cons (o := ({ dst := some 126, op := .call { callee := .value (.func 15), args := #[], argTypes := #[] }, type := 22, pos := "law.go:58", after := #[], guard := none } : Oper)) rfl (fun KK hK => ?_) AllReadyH.nil
      rw [if_pos (by rfl)]
      go_simp
      go_at_call 15; refine (ON.out _).mono ?_; rintro e w2 ⟨b5, c5, rfl, D5, hb2⟩
      have cv5 : ∀ w' : World, Below w2.heap.size w2 w' → (convert 22 9 (.slice b5 24 c5)).run Try.prog w' = .ok (.string ⟨zeroM.toArray⟩) w' := fun w' h => (D5.keep h).string
      go_wp2_with fail
      refine hK.out _ _ ?_ (fun hHeld2 => ?_)
      · exact belowT (by assumption) hb2
      refine wpAnyH_rebase (S' := fun w' => Below w2.heap.size w2 w') (fun w' h => belowT hHeld2 h) _ _ _ _ ?_
      have hHeldR2 := Below.refl w2.heap.size w2
      clear hK KK
      try simp only [Act.put, List.setIfInBounds_toArray, List.set_cons_zero, List.set_cons_succ]
      refine wpAnyH_take (i := 1) (oi := ({ dst := some 127, op := .convert 22 9 (.tmp 126), type := 9, pos := "law.go:58", after := #[{ on := 0, ground := .data }], guard := none } : Oper)) (v := ?vs23_1) rfl plays23_plain (by as_aux_lemma => kernel_rfl) (by as_aux_lemma => kernel_rfl) (fun _ _ _ h => h) (Or.inl ⟨by rfl, ?ys23_1⟩) (by assumption) ?rs23_1
      case ys23_1 => (intro w hSw; (try dsimp only at hSw); have hS0 := belowT hHeld2 hSw; go_simp; try with_reducible rfl)
      try simp only [Act.put, List.setIfInBounds_toArray, List.set_cons_zero, List.set_cons_succ]
      refine wpAnyH_ready (rs := [2]) (by as_aux_lemma => kernel_rfl) (by simp) ?_
      refine AllReadyH.cons (o := ({ dst := some 128, op := .call { callee := .value (.func 16), args := #[], argTypes := #[] }, type := 22, pos := "law.go:58", after := #[{ on := 0, ground := .chain }], guard := none } : Oper)) rfl (fun KK hK => ?_) AllReadyH.nil
      rw [if_pos (by rfl)]
      go_simp
      go_at_call 16; refine (RN.out _).mono ?_; rintro e w3 ⟨v6, rfl, D6⟩
      have hb3 := D6.below
      have cv6 := D6.bytes.string
      go_wp2_with fail
      refine hK.out _ _ ?_ (fun hHeld3 => ?_)
      · exact belowT (by assumption) hb3
      refine wpAnyH_rebase (S' := fun w' => Below w3.heap.size w3 w') (fun w' h => belowT hHeld3 h) _ _ _ _ ?_
      have hHeldR3 := Below.refl w3.heap.size w3
      clear hK KK
      try simp only [Act.put, List.setIfInBounds_toArray, List.set_cons_zero, List.set_cons_succ]
      refine wpAnyH_take (i := 3) (oi := ({ dst := some 129, op := .convert 22 9 (.tmp 128), type := 9, pos := "law.go:58", after := #[{ on := 2, ground := .data }], guard := none } : Oper)) (v := ?vs23_3) rfl plays23_plain (by as_aux_lemma => kernel_rfl) (by as_aux_lemma => kernel_rfl) (fun _ _ _ h => h) (Or.inl ⟨by rfl, ?ys23_3⟩) (by assumption) ?rs23_3
      case ys23_3 => (intro w hSw; (try dsimp only at hSw); have hS0 := belowT hHeld3 hSw; have hS1 := belowT hHeld2 hS0; go_simp; try with_reducible rfl)
      try simp only [Act.put, List.setIfInBounds_toArray, List.set_cons_zero, List.set_cons_succ]
      refine wpAnyH_take (i := 4) (oi := ({ dst := some 130, op := .binOp .eql 9 (.tmp 127) (.tmp 129) 9, type := 4, pos := "law.go:58", after := #[{ on := 1, ground := .data }, { on := 3, ground := .data }], guard := none } : Oper)) (v := ?vs23_4) rfl plays23_plain (by as_aux_lemma => kernel_rfl) (by as_aux_lemma => kernel_rfl) (fun _ _ _ h => h) (Or.inl ⟨by rfl, ?ys23_4⟩) (by assumption) ?rs23_4
      case ys23_4 => (intro w hSw; (try dsimp only at hSw); have hS0 := belowT hHeld3 hSw; have hS1 := belowT hHeld2 hS0; go_simp; try with_reducible rfl)
      try simp only [Act.put, List.setIfInBounds_toArray, List.set_cons_zero, List.set_cons_succ]
      refine wpAnyH_take (i := 5) (oi := ({ dst := some 131, op := .move (.tmp 130), type := 4, pos := "law.go:58", after := #[{ on := 4, ground := .data }, { on := 2, ground := .chain }], guard := none } : Oper)) (v := ?vs23_5) rfl plays23_plain (by as_aux_lemma => kernel_rfl) (by as_aux_lemma => kernel_rfl) (fun _ _ _ h => h) (Or.inl ⟨by rfl, ?ys23_5⟩) (by assumption) ?rs23_5
      case ys23_5 => (intro w hSw; (try dsimp only at hSw); have hS0 := belowT hHeld3 hSw; have hS1 := belowT hHeld2 hS0; go_simp; try with_reducible rfl)
      try simp only [Act.put, List.setIfInBounds_toArray, List.set_cons_zero, List.set_cons_succ]
      refine wpAnyH_ready (rs := [6]) (by as_aux_lemma => kernel_rfl) (by simp) ?_
      refine AllReadyH.cons (o := ({ dst := some 132, op := .call { callee := .value (.func 6), args := #[], argTypes := #[] }, type := 4, pos := "law.go:58", after := #[{ on := 5, ground := .chain }, { on := 5, ground := .guard }], guard := some (5, true) } : Oper)) rfl (fun KK hK => ?_) AllReadyH.nil
      rw [if_pos (by rfl)]
      go_simp
      go_at_call 6; refine (AW.out _).mono ?_; rintro e w4 ⟨rfl, hb4⟩
      go_wp2_with fail
      refine hK.out _ _ ?_ (fun hHeld4 => ?_)
      · exact belowT (by assumption) hb4
      clear hK KK hb4
      try simp only [Act.put, List.setIfInBounds_toArray, List.set_cons_zero, List.set_cons_succ]
      refine wpAnyH_take (i := 7) (oi := ({ dst := some 133, op := .pick (.tmp 131) (.tmp 132) (.const (.bool false)), type := 4, pos := "law.go:58", after := #[{ on := 5, ground := .data }, { on := 6, ground := .data }], guard := none } : Oper)) (v := ?vs23_7) rfl plays23_plain (by as_aux_lemma => kernel_rfl) (by as_aux_lemma => kernel_rfl) (fun _ _ _ h => h) (Or.inl ⟨by rfl, ?ys23_7⟩) (by assumption) ?rs23_7
      case ys23_7 => (intro w hSw; (try dsimp only at hSw); have hS0 := belowT hHeld3 hSw; have hS1 := belowT hHeld2 hS0; go_simp; try with_reducible rfl)
      try simp only [Act.put, List.setIfInBounds_toArray, List.set_cons_zero, List.set_cons_succ]
      refine wpAnyH_take (i := 8) (oi := ({ dst := some 4, op := .assign (.tmp 133), type := 4, pos := "law.go:58", after := #[{ on := 7, ground := .data }, { on := 6, ground := .chain }, { on := 0, ground := .phase }, { on := 1, ground := .phase }, { on := 2, ground := .phase }, { on := 3, ground := .phase }, { on := 4, ground := .phase }, { on := 5, ground := .phase }, { on := 6, ground := .phase }, { on := 7, ground := .phase }], guard := none } : Oper)) (v := ?vs23_8) rfl plays23_plain (by as_aux_lemma => kernel_rfl) (by as_aux_lemma => kernel_rfl) (fun _ _ _ h => h) (Or.inl ⟨by rfl, ?ys23_8⟩) (by assumption) ?rs23_8
      case ys23_8 => (intro w hSw; (try dsimp only at hSw); have hS0 := belowT hHeld3 hSw; have hS1 := belowT hHeld2 hS0; go_simp; try with_reducible rfl)
      try simp only [Act.put, List.setIfInBounds_toArray, List.set_cons_zero, List.set_cons_succ]
      refine wpAnyH_done (by as_aux_lemma => kernel_rfl) ?_ _
      refine NoPanic.normal ?_
      go_wp2_with fail
      go_ret
      exact ⟨rfl, belowT HB.out (belowT hHeld2 (belowT hHeld3 hHeld4))⟩

theorem plays_long (ba bb : Option Addr) (la ca lb cb : Nat) (w : World) (_h1 : (la : Int) ≤ 9223372036854775807) (_h2 : (lb : Int) ≤ 9223372036854775807) (hl : (100 : Int) < la ∨ (la : Int) ≤ 100 ∧ (40 : Int) < lb)
    (AW : Hid (∀ w, Calls Try.prog 6 #[] w fun e w' => e = .returned (.bool true) ∧ Below w.heap.size w w')) :
    Calls Try.prog 3 #[.slice ba la ca, .slice bb lb cb] w fun e w' => e = .returned (.bool true) ∧ Below w.heap.size w w' := by
  rcases hl with h | ⟨h, k⟩
  · go_enter Try.func3, Try.ntmps3
    go_wp2_with fail
    refine (AW.out _).mono ?_; rintro e w1 ⟨rfl, hb1⟩
    go_wp2_with fail
    go_ret
    exact ⟨rfl, hb1⟩
  · have hd : decide ((100 : Int) < la) = false := decide_eq_false (by omega)
    clear h
    go_enter Try.func3, Try.ntmps3
    go_wp2_with fail
    refine (AW.out _).mono ?_; rintro e w1 ⟨rfl, hb1⟩
    go_wp2_with fail
    go_ret
    exact ⟨rfl, hb1⟩

theorem Plays19_all (O : Own19) {w : World} {ba bb : Option Addr} {ca cb : Nat} {ms : List UInt8} {l : List Nop} (D : Came w ba ca ms) (A : CameOps w bb cb l) :
    Calls Try.prog 3 #[.slice ba ms.length ca, .slice bb l.length cb] w fun e w' => e = .returned (.bool true) ∧ Below w.heap.size w w' := by
  have a1 := A.le
  have a2 := A.max
  have d1 := D.le
  have d2 := D.max
  unfold maxLen at a2 d2
  by_cases h0 : (100 : Int) < ms.length
  · exact plays_long ba bb _ ca _ cb w (by omega) (by omega) (Or.inl h0) (Lib.hid (awake_any O))
  · by_cases h1 : (40 : Int) < l.length
    · exact plays_long ba bb _ ca _ cb w (by omega) (by omega) (Or.inr ⟨by omega, h1⟩) (Lib.hid (awake_any O))
    · exact plays_core O D A (by omega) (by omega)
end Go.Proofs.Ytdalajfjikbcaaa
