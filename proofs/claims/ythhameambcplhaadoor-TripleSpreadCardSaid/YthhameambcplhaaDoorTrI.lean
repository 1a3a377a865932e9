/- Layer 30's laws: their own examples. -/
import Derived.Test.YthhameambcplhaaDoorTrB
import Derived.Test.YthhameambcplhaaDoorTrC
import Derived.Test.YthhameambcplhaaDoorTrD
import Derived.Test.YthhameambcplhaaDoorTrCfg
import Derived.BigRegion
namespace Go.Proofs.YthhameambcplhaaDoor
open Go.RowKit Obs

def Obs.qAz : Qd := ⟨⟨0, 0, 0, 0, true⟩, ⟨0, 0, 0, 0, true⟩, ⟨0, 0, 0, 0, true⟩, ⟨0, 0, 0, 0, true⟩⟩
theorem oper_load_q {o : Oper} {a : Act} {w : World} {K : Act → World → Prop} {Q : Exit → Act → World → Prop} {x : Operand} (ho : o.op = .load 35 x)
    (b : Nat) (hx : a.eval x = .pointer (some ⟨b, 0, none⟩)) (q : Qd) (hc : w.rangeAt b 0 (qc q)) (h : K (a.put o.dst (qv q)) w) : Oper.wp Tryd.prog o a w K Q :=
  wp_load_mid 35 x ho b 0 hx (qc q) _ hc Tryd.underlying35 rfl (by rw [info_q]; rfl) h
theorem oper_put_q {o : Oper} {a : Act} {w : World} {K : Act → World → Prop} {Q : Exit → Act → World → Prop} {x y : Operand} (ho : o.op = .store 35 x y) {g : Nat} {q : Qd}
    (hx : a.eval x = .pointer (some ⟨g, 0, none⟩)) (hy : a.eval y = qv q) (T : w.there g 0 20) (h : K (a.put o.dst undef) (w.setCells g 0 (qc q))) : Oper.wp Tryd.prog o a w K Q :=
  wp_store_mid _ x y ho g 0 (qa q) hx hy T (info_qa q) (qa_one q) h

/-- The operations of a drawn region, as the translation has them. -/
def taw4 : Array Oper := #[
  { dst := some 8, op := .call { callee := .value (.func 21), args := #[], argTypes := #[] }, type := 25, pos := "law.go:19", after := #[], guard := none },
  { dst := some 9, op := .load 35 (.tmp 1), type := 35, pos := "law.go:19", after := #[], guard := none },
  { dst := some 10, op := .build 22 #[(0, .const (.int .i64 100)), (1, .const (.int .i64 300)), (2, .const (.int .i64 105))], type := 22, pos := "law.go:19", after := #[], guard := none },
  { dst := some 11, op := .build 23 #[(0, .const (.bool true)), (1, .const (.bool true)), (2, .const (.bool true))], type := 23, pos := "law.go:19", after := #[], guard := none },
  { dst := some 12, op := .call { callee := .value (.func 10), args := #[.tmp 8, .tmp 9, .tmp 10, .tmp 11], argTypes := #[25, 35, 22, 23] }, type := 35, pos := "law.go:19", after := #[{ on := 0, ground := .data }, { on := 1, ground := .data }, { on := 2, ground := .data }, { on := 3, ground := .data }, { on := 0, ground := .chain }], guard := none },
  { dst := none, op := .store 35 (.tmp 1) (.tmp 12), type := 0, pos := "law.go:19", after := #[{ on := 4, ground := .data }, { on := 4, ground := .chain }, { on := 0, ground := .phase }, { on := 1, ground := .phase }, { on := 2, ground := .phase }, { on := 3, ground := .phase }, { on := 4, ground := .phase }], guard := none }]
theorem taw4_plain : Region.noSelect taw4 = true := by kernel_rfl

set_option maxHeartbeats 40000000 in
set_option maxRecDepth 100000 in
theorem awake_core (a : Ai) (Q : Nat → Qd) (g : Qd) (hl hh zl zh : Int) (w : World)
    (SO : Hid (∀ w', Below w.heap.size w w' → Calls Tryd.prog 21 #[] w' fun e w'' => e = .returned (av a) ∧ Below w'.heap.size w' w''))
    (ST : Hid (∀ w', Below w.heap.size w w' → Calls Tryd.prog 8 #[av a] w' fun e w'' => e = .returned (qv (Q 0)) ∧ Below w'.heap.size w' w''))
    (SP : Hid (∀ j : Nat, j < 3 → ∀ w', Below w.heap.size w w' → Calls Tryd.prog 10 #[av a, qv (Q j), .agg #[.int .i64 100, .int .i64 300, .int .i64 105], .agg #[.bool true, .bool true, .bool true]] w' fun e w'' => e = .returned (qv (Q (j + 1))) ∧ Below w'.heap.size w' w''))
    (SG : Hid (∀ w', Below w.heap.size w w' → Calls Tryd.prog 10 #[av a, qv (Q 0), .agg #[.int .i64 100, .int .i64 101, .int .i64 105], .agg #[.bool true, .bool true, .bool true]] w' fun e w'' => e = .returned (qv g) ∧ Below w'.heap.size w' w''))
    (L1 : Hid (∀ w', Below w.heap.size w w' → Calls Tryd.prog 11 #[qv (Q 3)] w' fun e w'' => e = .returned (.int .i64 1) ∧ Below w'.heap.size w' w''))
    (L2 : Hid (∀ w', Below w.heap.size w w' → Calls Tryd.prog 13 #[qv (Q 3)] w' fun e w'' => e = .returned (.int .i64 1) ∧ Below w'.heap.size w' w''))
    (L3 : Hid (∀ w', Below w.heap.size w w' → Calls Tryd.prog 12 #[qv (Q 3)] w' fun e w'' => e = .returned (.int .i64 1) ∧ Below w'.heap.size w' w''))
    (L4 : Hid (∀ w', Below w.heap.size w w' → Calls Tryd.prog 15 #[qv (Q 3)] w' fun e w'' => e = .returned (sv hl hh) ∧ Below w'.heap.size w' w''))
    (L6 : Hid (∀ w', Below w.heap.size w w' → Calls Tryd.prog 11 #[qv g] w' fun e w'' => e = .returned (.int .i64 0) ∧ Below w'.heap.size w' w''))
    (L7 : Hid (∀ w', Below w.heap.size w w' → Calls Tryd.prog 13 #[qv g] w' fun e w'' => e = .returned (.int .i64 (-1)) ∧ Below w'.heap.size w' w''))
    (L8 : Hid (∀ w', Below w.heap.size w w' → Calls Tryd.prog 11 #[qv qAz] w' fun e w'' => e = .returned (.int .i64 2) ∧ Below w'.heap.size w' w''))
    (L9 : Hid (∀ w', Below w.heap.size w w' → Calls Tryd.prog 15 #[qv qAz] w' fun e w'' => e = .returned (sv zl zh) ∧ Below w'.heap.size w' w''))
    (L11 : Hid (∀ w', Below w.heap.size w w' → Calls Tryd.prog 13 #[qv qAz] w' fun e w'' => e = .returned (.int .i64 (-1)) ∧ Below w'.heap.size w' w''))
    (L5 : Hid (∀ w', Below w.heap.size w w' → Calls Tryd.prog 14 #[sv hl hh, .int .i64 100] w' fun e w'' => e = .returned (.bool true) ∧ Below w'.heap.size w' w''))
    (L10 : Hid (∀ w', Below w.heap.size w w' → Calls Tryd.prog 22 #[sv zl zh] w' fun e w'' => e = .returned (.bool true) ∧ Below w'.heap.size w' w''))
    (ST2 : Hid (∀ w', Below w.heap.size w w' → Calls Tryd.prog 8 #[av a] w' fun e w'' => e = .returned (qv (Q 0)) ∧ Below w'.heap.size w' w''))
    : Calls Tryd.prog 6 #[] w fun e w' => e = .returned (.bool true) ∧ Below w.heap.size w w' := by
  go_enter Tryd.func6, Tryd.ntmps6
  go_wp2_with fail
  refine (SO.out _ (Below.refl _ _)).mono ?_; rintro e w1 ⟨rfl, hb1⟩
  go_wp2_with fail
  refine (ST.out _ hb1).mono ?_; rintro e w2 ⟨rfl, hb2⟩
  have B2 := Lib.hid (belowT hb1 hb2)
  clear hb1 hb2 ST
  have hi := info_qa (Q 0)
  have h1 := qa_one (Q 0)
  go_upto_region 2 with (first | refine list_store_new rfl 35 _ _ rfl _ (qa (Q 0)) rfl rfl hi rfl h1 ?_)
  clear hi h1
  have hS1 := ((Sp.none w).keep B2.out).more (qc (Q 0)) 35
  have HS1 := Lib.hid (show Sp w [(w2.heap.size, (qc (Q 0)).map some)] (w2.alloc (.cells (qa (Q 0)) 35)) from hS1)
  clear hS1
  have hg := B2.out.size
  obtain ⟨b1, hb1⟩ : ∃ b, b = w2.heap.size := ⟨_, rfl⟩
  rw [← hb1] at HS1 hg ⊢
  clear hb1
  have HG := Lib.hid hg
  clear hg
  obtain ⟨w3, hX, hS⟩ := (HS1.out).named
  rw [← hX]
  clear hX HS1 B2
  have HS2 := Lib.hid hS
  clear hS
  go_wp2_with fail
  go_loopw [6] (fun i wr => ∃ j : Nat, j ≤ 3 ∧ i = .int .i64 j ∧ Sp w [(b1, (qc (Q j)).map some)] wr) (fun i _ => 3 - (intOf i).toNat)
  case atStart => exact ⟨0, by omega, rfl, HS2.out⟩
  case round =>
    clear HS2
    obtain ⟨j, hj, rfl, hS⟩ := hrel
    by_cases hc : (j : Int) < 3
    · have SPJ := Lib.hid (SP.out j (by omega))
      have HBW := Lib.hid hS.below
      have HK := hS
      clear hS
      obtain ⟨q2, hq2⟩ : ∃ q, q = Q (j + 1) := ⟨_, rfl⟩
      rw [← hq2] at SPJ
      have HQ2 := Lib.hid hq2
      clear hq2
      obtain ⟨q1, hq1⟩ : ∃ q, q = Q j := ⟨_, rfl⟩
      rw [← hq1] at SPJ HK
      clear hq1
      go_upto_region 4 with fail
      skip
      change (Code.region 4 taw4 true).wp Tryd.prog _ _ _
      refine wp_region_noPanic ?_
      refine wp_region_held_drew (S := fun w' => Below w.heap.size w w') (by kernel_rfl) (HBW.out.drew) (fun hHeld => ?_)
      obtain ⟨w20, hX⟩ : ∃ x, x = wr.drew := ⟨_, rfl⟩
      have hb : Below wr.heap.size wr w20 := hX ▸ (Below.refl _ _).drew
      rw [← hX] at hHeld ⊢
      have HB := hHeld; clear hHeld
      replace HK := HK.keep hb
      clear hb hX
      refine wpAnyH_take (i := 2) (oi := ({ dst := some 10, op := .build 22 #[(0, .const (.int .i64 100)), (1, .const (.int .i64 300)), (2, .const (.int .i64 105))], type := 22, pos := "law.go:19", after := #[], guard := none } : Oper)) (v := ?vt1_1_) rfl taw4_plain (by as_aux_lemma => kernel_rfl) (by as_aux_lemma => kernel_rfl) (fun _ _ _ h => h) (Or.inl ⟨by rfl, ?yt1_1_⟩) HB ?rt1_1_
      case yt1_1_ => (intro w hSw; (try dsimp only at hSw); go_simp; try with_reducible rfl)
      try simp only [Act.put, List.setIfInBounds_toArray, List.set_cons_zero, List.set_cons_succ]
      refine wpAnyH_take (i := 3) (oi := ({ dst := some 11, op := .build 23 #[(0, .const (.bool true)), (1, .const (.bool true)), (2, .const (.bool true))], type := 23, pos := "law.go:19", after := #[], guard := none } : Oper)) (v := ?vt1_2_) rfl taw4_plain (by as_aux_lemma => kernel_rfl) (by as_aux_lemma => kernel_rfl) (fun _ _ _ h => h) (Or.inl ⟨by rfl, ?yt1_2_⟩) HB ?rt1_2_
      case yt1_2_ => (intro w hSw; (try dsimp only at hSw); go_simp; try with_reducible rfl)
      try simp only [Act.put, List.setIfInBounds_toArray, List.set_cons_zero, List.set_cons_succ]
      refine wpAnyH_ready (rs := [0, 1]) (by as_aux_lemma => kernel_rfl) (by simp) ?_
      refine AllReadyH.cons (o := ({ dst := some 8, op := .call { callee := .value (.func 21), args := #[], argTypes := #[] }, type := 25, pos := "law.go:19", after := #[], guard := none } : Oper)) rfl (fun KK hK => ?_) (AllReadyH.cons (o := ({ dst := some 9, op := .load 35 (.tmp 1), type := 35, pos := "law.go:19", after := #[], guard := none } : Oper)) rfl (fun KK hK => ?_) AllReadyH.nil)
      · skip
        rw [if_pos (by rfl)]
        go_simp
        go_at_call 21; refine (SO.out _ HB).mono ?_; rintro e w21 ⟨rfl, hb⟩
        go_wp2_with fail
        refine hK.out _ _ ?_ (fun hHeld => ?_)
        · exact belowT HB hb
        replace HB := hHeld; clear hHeld hK KK
        replace HK := HK.keep hb
        clear hb
        try simp only [Act.put, List.setIfInBounds_toArray, List.set_cons_zero, List.set_cons_succ]
        refine wpAnyH_ready (rs := [1]) (by as_aux_lemma => kernel_rfl) (by simp) ?_
        refine AllReadyH.cons (o := ({ dst := some 9, op := .load 35 (.tmp 1), type := 35, pos := "law.go:19", after := #[], guard := none } : Oper)) rfl (fun KK hK => ?_) AllReadyH.nil
        rw [if_pos (by rfl)]
        refine oper_load_q rfl b1 rfl q1 (HK.range 0 (l := qc q1) rfl) ?_
        obtain ⟨w22, hX⟩ : ∃ x, x = w21 := ⟨_, rfl⟩
        have hb : Below w21.heap.size w21 w22 := (show w21 = w22 from hX.symm) ▸ Below.refl _ _
        rw [← hX]
        clear hX
        refine hK.out _ _ ?_ (fun hHeld => ?_)
        · exact belowT HB hb
        replace HB := hHeld; clear hHeld hK KK
        replace HK := HK.keep hb
        clear hb
        try simp only [Act.put, List.setIfInBounds_toArray, List.set_cons_zero, List.set_cons_succ]
        refine wpAnyH_ready (rs := [4]) (by as_aux_lemma => kernel_rfl) (by simp) ?_
        refine AllReadyH.cons (o := ({ dst := some 12, op := .call { callee := .value (.func 10), args := #[.tmp 8, .tmp 9, .tmp 10, .tmp 11], argTypes := #[25, 35, 22, 23] }, type := 35, pos := "law.go:19", after := #[{ on := 0, ground := .data }, { on := 1, ground := .data }, { on := 2, ground := .data }, { on := 3, ground := .data }, { on := 0, ground := .chain }], guard := none } : Oper)) rfl (fun KK hK => ?_) AllReadyH.nil
        rw [if_pos (by rfl)]
        go_simp
        go_at_call 10; refine (SPJ.out _ HB).mono ?_; rintro e w23 ⟨rfl, hb⟩
        go_wp2_with fail
        refine hK.out _ _ ?_ (fun hHeld => ?_)
        · exact belowT HB hb
        replace HB := hHeld; clear hHeld hK KK
        replace HK := HK.keep hb
        clear hb
        try simp only [Act.put, List.setIfInBounds_toArray, List.set_cons_zero, List.set_cons_succ]
        refine wpAnyH_ready (rs := [5]) (by as_aux_lemma => kernel_rfl) (by simp) ?_
        refine AllReadyH.cons (o := ({ dst := none, op := .store 35 (.tmp 1) (.tmp 12), type := 0, pos := "law.go:19", after := #[{ on := 4, ground := .data }, { on := 4, ground := .chain }, { on := 0, ground := .phase }, { on := 1, ground := .phase }, { on := 2, ground := .phase }, { on := 3, ground := .phase }, { on := 4, ground := .phase }], guard := none } : Oper)) rfl (fun KK hK => ?_) AllReadyH.nil
        rw [if_pos (by rfl)]
        refine oper_put_q (q := q2) rfl rfl rfl (HK.free_row 0 rfl (n := 20) rfl) ?_
        have HN := below_cells (b := b1) HG.out (qc q2) 0 _ HB
        have HF := HK.row 0 rfl (qc q2) rfl
        obtain ⟨w24, hX⟩ : ∃ x, x = w23.setCells b1 0 (qc q2) := ⟨_, rfl⟩
        rw [← hX] at HN HF ⊢
        clear hX HK
        refine hK.out _ _ ?_ (fun hHeld => ?_)
        · exact HN
        replace HB := hHeld; clear hHeld hK KK HN
        try simp only [Act.put]
        refine wpAnyH_done (by as_aux_lemma => kernel_rfl) ?_ _
        refine NoPanic.normal ?_
        go_wp2_with fail
        go_roundw
        case rel => first | exact ⟨j + 1, by omega, rfl, HQ2.out ▸ HF⟩ | ((repeat apply Exists.intro); exact ⟨⟨j + 1, by omega, rfl, HQ2.out ▸ HF⟩, rfl⟩)
        case measure => simp [intOf]; omega
      · skip
        rw [if_pos (by rfl)]
        refine oper_load_q rfl b1 rfl q1 (HK.range 0 (l := qc q1) rfl) ?_
        obtain ⟨w21, hX⟩ : ∃ x, x = w20 := ⟨_, rfl⟩
        have hb : Below w20.heap.size w20 w21 := (show w20 = w21 from hX.symm) ▸ Below.refl _ _
        rw [← hX]
        clear hX
        refine hK.out _ _ ?_ (fun hHeld => ?_)
        · exact belowT HB hb
        replace HB := hHeld; clear hHeld hK KK
        replace HK := HK.keep hb
        clear hb
        try simp only [Act.put, List.setIfInBounds_toArray, List.set_cons_zero, List.set_cons_succ]
        refine wpAnyH_ready (rs := [0]) (by as_aux_lemma => kernel_rfl) (by simp) ?_
        refine AllReadyH.cons (o := ({ dst := some 8, op := .call { callee := .value (.func 21), args := #[], argTypes := #[] }, type := 25, pos := "law.go:19", after := #[], guard := none } : Oper)) rfl (fun KK hK => ?_) AllReadyH.nil
        rw [if_pos (by rfl)]
        go_simp
        go_at_call 21; refine (SO.out _ HB).mono ?_; rintro e w22 ⟨rfl, hb⟩
        go_wp2_with fail
        refine hK.out _ _ ?_ (fun hHeld => ?_)
        · exact belowT HB hb
        replace HB := hHeld; clear hHeld hK KK
        replace HK := HK.keep hb
        clear hb
        try simp only [Act.put, List.setIfInBounds_toArray, List.set_cons_zero, List.set_cons_succ]
        refine wpAnyH_ready (rs := [4]) (by as_aux_lemma => kernel_rfl) (by simp) ?_
        refine AllReadyH.cons (o := ({ dst := some 12, op := .call { callee := .value (.func 10), args := #[.tmp 8, .tmp 9, .tmp 10, .tmp 11], argTypes := #[25, 35, 22, 23] }, type := 35, pos := "law.go:19", after := #[{ on := 0, ground := .data }, { on := 1, ground := .data }, { on := 2, ground := .data }, { on := 3, ground := .data }, { on := 0, ground := .chain }], guard := none } : Oper)) rfl (fun KK hK => ?_) AllReadyH.nil
        rw [if_pos (by rfl)]
        go_simp
        go_at_call 10; refine (SPJ.out _ HB).mono ?_; rintro e w23 ⟨rfl, hb⟩
        go_wp2_with fail
        refine hK.out _ _ ?_ (fun hHeld => ?_)
        · exact belowT HB hb
        replace HB := hHeld; clear hHeld hK KK
        replace HK := HK.keep hb
        clear hb
        try simp only [Act.put, List.setIfInBounds_toArray, List.set_cons_zero, List.set_cons_succ]
        refine wpAnyH_ready (rs := [5]) (by as_aux_lemma => kernel_rfl) (by simp) ?_
        refine AllReadyH.cons (o := ({ dst := none, op := .store 35 (.tmp 1) (.tmp 12), type := 0, pos := "law.go:19", after := #[{ on := 4, ground := .data }, { on := 4, ground := .chain }, { on := 0, ground := .phase }, { on := 1, ground := .phase }, { on := 2, ground := .phase }, { on := 3, ground := .phase }, { on := 4, ground := .phase }], guard := none } : Oper)) rfl (fun KK hK => ?_) AllReadyH.nil
        rw [if_pos (by rfl)]
        refine oper_put_q (q := q2) rfl rfl rfl (HK.free_row 0 rfl (n := 20) rfl) ?_
        have HN := below_cells (b := b1) HG.out (qc q2) 0 _ HB
        have HF := HK.row 0 rfl (qc q2) rfl
        obtain ⟨w24, hX⟩ : ∃ x, x = w23.setCells b1 0 (qc q2) := ⟨_, rfl⟩
        rw [← hX] at HN HF ⊢
        clear hX HK
        refine hK.out _ _ ?_ (fun hHeld => ?_)
        · exact HN
        replace HB := hHeld; clear hHeld hK KK HN
        try simp only [Act.put]
        refine wpAnyH_done (by as_aux_lemma => kernel_rfl) ?_ _
        refine NoPanic.normal ?_
        go_wp2_with fail
        go_roundw
        case rel => first | exact ⟨j + 1, by omega, rfl, HQ2.out ▸ HF⟩ | ((repeat apply Exists.intro); exact ⟨⟨j + 1, by omega, rfl, HQ2.out ▸ HF⟩, rfl⟩)
        case measure => simp [intOf]; omega
    · obtain rfl : j = 3 := by omega
      have HS2 := Lib.hid hS
      have B3 := Lib.hid hS.below
      clear hS hj hc SP
      go_wp2_with fail
      refine (SO.out _ B3.out).mono ?_; rintro e w4 ⟨rfl, hb4⟩
      have B4 := Lib.hid (belowT B3.out hb4)
      go_wp2_with fail
      refine (SO.out _ B4.out).mono ?_; rintro e w5 ⟨rfl, hb5⟩
      have B5 := Lib.hid (belowT B4.out hb5)
      go_wp2_with fail
      refine (ST2.out _ B5.out).mono ?_; rintro e w6 ⟨rfl, hb6⟩
      have B6 := Lib.hid (belowT B5.out hb6)
      go_wp2_with fail
      refine (SG.out _ B6.out).mono ?_; rintro e w7 ⟨rfl, hb7⟩
      have HS3 := Lib.hid ((((HS2.out.keep hb4).keep hb5).keep hb6).keep hb7)
      clear hb4 hb5 hb6 hb7 B3 B4 B5 B6 HS2 SG SO ST2
      have hi := info_qa g
      have h1 := qa_one g
      have hj := info_qa qAz
      go_upto_region 7 with (first | refine list_store_new rfl 35 _ _ rfl _ (qa g) rfl rfl hi rfl h1 ?_)
      have HS4 := Lib.hid (show Sp w [(b1, (qc (Q 3)).map some), (w7.heap.size, (qc g).map some)] (w7.alloc (.cells (qa g) 35)) from HS3.out.more (qc g) 35)
      obtain ⟨w8, hX, hS⟩ := (HS4.out).named
      rw [← hX]
      clear hX HS3 HS4
      have HS5 := Lib.hid hS
      clear hS
      have h2 := qa_one qAz
      go_upto_region 8 with (first | refine list_store_new rfl 35 _ _ rfl _ (qa qAz) rfl rfl hj rfl h2 ?_)
      have HS6 := Lib.hid (show Sp w [(b1, (qc (Q 3)).map some), (w7.heap.size, (qc g).map some), (w8.heap.size, (qc qAz).map some)] (w8.alloc (.cells (qa qAz) 35)) from HS5.out.more (qc qAz) 35)
      obtain ⟨w9, hX, hS⟩ := (HS6.out).named
      rw [← hX]
      clear hX HS6 HS5 h1 h2
      have HS7 := Lib.hid hS
      clear hS
      have hk := info_qa (Q 3)
      have HR := (HS7.out).range 0 (l := qc (Q 3)) rfl
      go_wp2_with (refine list_load_any rfl 35 _ rfl _ 0 rfl (qa (Q 3)) _ HR Tryd.underlying35 rfl hk ?_)
      clear HR
      refine (L1.out _ HS7.out.below).mono ?_; rintro e v0 ⟨rfl, hb⟩
      have HS8 := Lib.hid (HS7.out.keep hb)
      clear hb HS7 L1
      have HR := (HS8.out).range 0 (l := qc (Q 3)) rfl
      go_wp2_with (refine list_load_any rfl 35 _ rfl _ 0 rfl (qa (Q 3)) _ HR Tryd.underlying35 rfl hk ?_)
      clear HR
      refine (L2.out _ HS8.out.below).mono ?_; rintro e v1 ⟨rfl, hb⟩
      have HS9 := Lib.hid (HS8.out.keep hb)
      clear hb HS8 L2
      have HR := (HS9.out).range 0 (l := qc (Q 3)) rfl
      go_wp2_with (refine list_load_any rfl 35 _ rfl _ 0 rfl (qa (Q 3)) _ HR Tryd.underlying35 rfl hk ?_)
      clear HR
      refine (L3.out _ HS9.out.below).mono ?_; rintro e v2 ⟨rfl, hb⟩
      have HS10 := Lib.hid (HS9.out.keep hb)
      clear hb HS9 L3
      have HR := (HS10.out).range 0 (l := qc (Q 3)) rfl
      go_wp2_with (refine list_load_any rfl 35 _ rfl _ 0 rfl (qa (Q 3)) _ HR Tryd.underlying35 rfl hk ?_)
      clear HR
      refine (L4.out _ HS10.out.below).mono ?_; rintro e v3 ⟨rfl, hb⟩
      have HS11 := Lib.hid (HS10.out.keep hb)
      clear hb HS10 L4
      go_wp2_with fail
      refine (L5.out _ HS11.out.below).mono ?_; rintro e v4 ⟨rfl, hb⟩
      have HS12 := Lib.hid (HS11.out.keep hb)
      clear hb HS11 L5
      have HR := (HS12.out).range 1 (l := qc g) rfl
      go_wp2_with (refine list_load_any rfl 35 _ rfl _ 0 rfl (qa g) _ HR Tryd.underlying35 rfl hi ?_)
      clear HR
      refine (L6.out _ HS12.out.below).mono ?_; rintro e v5 ⟨rfl, hb⟩
      have HS13 := Lib.hid (HS12.out.keep hb)
      clear hb HS12 L6
      have HR := (HS13.out).range 1 (l := qc g) rfl
      go_wp2_with (refine list_load_any rfl 35 _ rfl _ 0 rfl (qa g) _ HR Tryd.underlying35 rfl hi ?_)
      clear HR
      refine (L7.out _ HS13.out.below).mono ?_; rintro e v6 ⟨rfl, hb⟩
      have HS14 := Lib.hid (HS13.out.keep hb)
      clear hb HS13 L7
      have HR := (HS14.out).range 2 (l := qc qAz) rfl
      go_wp2_with (refine list_load_any rfl 35 _ rfl _ 0 rfl (qa qAz) _ HR Tryd.underlying35 rfl hj ?_)
      clear HR
      refine (L8.out _ HS14.out.below).mono ?_; rintro e v7 ⟨rfl, hb⟩
      have HS15 := Lib.hid (HS14.out.keep hb)
      clear hb HS14 L8
      have HR := (HS15.out).range 2 (l := qc qAz) rfl
      go_wp2_with (refine list_load_any rfl 35 _ rfl _ 0 rfl (qa qAz) _ HR Tryd.underlying35 rfl hj ?_)
      clear HR
      refine (L9.out _ HS15.out.below).mono ?_; rintro e v8 ⟨rfl, hb⟩
      have HS16 := Lib.hid (HS15.out.keep hb)
      clear hb HS15 L9
      go_wp2_with fail
      refine (L10.out _ HS16.out.below).mono ?_; rintro e v9 ⟨rfl, hb⟩
      have HS17 := Lib.hid (HS16.out.keep hb)
      clear hb HS16 L10
      have HR := (HS17.out).range 2 (l := qc qAz) rfl
      go_wp2_with (refine list_load_any rfl 35 _ rfl _ 0 rfl (qa qAz) _ HR Tryd.underlying35 rfl hj ?_)
      clear HR
      refine (L11.out _ HS17.out.below).mono ?_; rintro e v10 ⟨rfl, hb⟩
      have HS18 := Lib.hid (HS17.out.keep hb)
      clear hb HS17 L11
      have BE := Lib.hid HS18.out.below
      clear HS18
      go_wp2_with fail
      go_ret
      exact ⟨rfl, BE.out⟩

namespace Obs
def qAw : Nat → Qd
  | 0 => qstart speed0
  | n + 1 => qstep speed0 (qAw n) 100 300 105 true true true
def qAg : Qd := qstep speed0 (qstart speed0) 100 101 105 true true true
theorem ar_speed : AR speed0 := ⟨by decide, by decide, by decide, by decide, by decide, by decide, by decide⟩
theorem lit_r6 {x : Int} (h : (decide (-9223372036854775808 ≤ x) && decide (x ≤ 9223372036854775807)) = true) : Sp.R6 x := by simpa [Sp.R6] using h
theorem qAw_r6 : ∀ n, QR (qAw n)
  | 0 => qstart_r6 (ra_of ar_speed)
  | n + 1 => qstep_r6 (ra_of ar_speed) (qAw_r6 n) (lit_r6 rfl) (lit_r6 rfl) (lit_r6 rfl)
end Obs
theorem awake_any (w : World) (n : NoneAt w) (c : ConeAt w) :
    Calls Tryd.prog 6 #[] w fun e w' => e = .returned (.bool true) ∧ Below w.heap.size w w' := by
  have ra := ra_of ar_speed
  have r := @lit_r6
  have e1 : status (qAw 3) = 1 := by decide +kernel
  have e2 : badQ (qAw 3) = 1 := by decide +kernel
  have e3 : alive (qAw 3) = 1 := by decide +kernel
  have e5 : Sp.has (hullQ (qAw 3)).1 (hullQ (qAw 3)).2 100 = true := by decide +kernel
  have e6 : status qAg = 0 := by decide +kernel
  have e7 : badQ qAg = -1 := by decide +kernel
  have e8 : status qAz = 2 := by decide +kernel
  have e10 : decide ((hullQ qAz).2 < (hullQ qAz).1) = true := by decide +kernel
  have e11 : badQ qAz = -1 := by decide +kernel
  have f1 := fun w => Status_any (qAw 3) w
  have f2 := fun w => Bad_any (qAw 3) w
  have f3 := fun w => Alive_any (qAw 3) w
  have f5 := fun w => Has_any (hullQ (qAw 3)).1 (hullQ (qAw 3)).2 100 w
  have f6 := fun w => Status_any qAg w
  have f7 := fun w => Bad_any qAg w
  have f8 := fun w => Status_any qAz w
  have f10 := fun w => Empty_any (hullQ qAz).1 (hullQ qAz).2 w
  have f11 := fun w => Bad_any qAz w
  rw [e1] at f1; rw [e2] at f2; rw [e3] at f3; rw [e5] at f5; rw [e6] at f6; rw [e7] at f7; rw [e8] at f8; rw [e10] at f10; rw [e11] at f11
  exact awake_core speed0 qAw qAg _ _ _ _ w (Lib.hid fun w' B => some_any w' (c.keep B)) (Lib.hid fun w' _ => TStart_any speed0 w' ra)
    (Lib.hid fun j _ w' B => TStep_any speed0 (qAw j) 100 300 105 true true true w' (n.keep B) ra (qAw_r6 j) (r rfl) (r rfl) (r rfl))
    (Lib.hid fun w' B => TStep_any speed0 (qstart speed0) 100 101 105 true true true w' (n.keep B) ra (qstart_r6 ra) (r rfl) (r rfl) (r rfl))
    (Lib.hid fun w' _ => f1 w') (Lib.hid fun w' _ => f2 w') (Lib.hid fun w' _ => f3 w') (Lib.hid fun w' B => HullQ_any (qAw 3) w' (n.keep B)) (Lib.hid fun w' _ => f6 w') (Lib.hid fun w' _ => f7 w') (Lib.hid fun w' _ => f8 w') (Lib.hid fun w' B => HullQ_any qAz w' (n.keep B)) (Lib.hid fun w' _ => f11 w')
    (Lib.hid fun w' _ => f5 w') (Lib.hid fun w' _ => f10 w') (Lib.hid fun w' _ => TStart_any speed0 w' ra)
end Go.Proofs.YthhameambcplhaaDoor
