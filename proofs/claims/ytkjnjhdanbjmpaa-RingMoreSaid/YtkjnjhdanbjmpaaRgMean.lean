/- The landed ring's Mean. -/
import Derived.Test.YtkjnjhdanbjmpaaRgLanA
import Derived.Test.YtkjnjhdanbjmpaaRgWide
import Derived.Test.YtkjnjhdanbjmpaaRgWD
import Derived.Test.YtkjnjhdanbjmpaaRgWN
import Derived.WalkMore
import Derived.Deep.RegionHeld3
namespace Go.Proofs.Ytkjnjhdanbjmpaa
open Go.RowKit

theorem below_ofW {w w' : World} (h : w = w') : Below w.heap.size w w' := h ▸ Below.refl _ _
/-- the mean that is told -/
def meanA (vs : List Int) : Int := if 0 < vs.length then meanV vs else 0
theorem sum_rm (i : Int) (l : List Rd) (h : l.length ≤ 1000) : Wd.Rm (sumV (vals27 i l)) := by
  obtain ⟨a, b⟩ := sum_between _ _ _ (vals_rm i l)
  have c := vals_len i l
  unfold Wd.Rm
  omega
theorem mean_r6 (i : Int) (l : List Rd) (h : 0 < (vals27 i l).length) : Wd.R6 (meanV (vals27 i l)) := mean_between _ _ _ h (vals_rm i l)

/-- The operations of a drawn region, as the translation has them. -/
def mean8 : Array Oper := #[
  { dst := some 30, op := .load 42 (.tmp 6), type := 42, pos := "ring.go:70", after := #[], guard := none },
  { dst := some 31, op := .move (.tmp 10), type := 2, pos := "ring.go:70", after := #[], guard := none },
  { dst := some 32, op := .call { callee := .value (.func 17), args := #[.tmp 31], argTypes := #[2] }, type := 42, pos := "ring.go:70", after := #[{ on := 1, ground := .data }], guard := none },
  { dst := some 33, op := .call { callee := .value (.func 16), args := #[.tmp 30, .tmp 32], argTypes := #[42, 42] }, type := 42, pos := "ring.go:70", after := #[{ on := 0, ground := .data }, { on := 2, ground := .data }, { on := 2, ground := .chain }], guard := none },
  { dst := none, op := .store 42 (.tmp 6) (.tmp 33), type := 0, pos := "ring.go:70", after := #[{ on := 3, ground := .data }, { on := 3, ground := .chain }, { on := 0, ground := .phase }, { on := 1, ground := .phase }, { on := 2, ground := .phase }, { on := 3, ground := .phase }], guard := none }]
theorem mean8_plain : Region.noSelect mean8 = true := by kernel_rfl

set_option maxHeartbeats 8000000 in
set_option maxRecDepth 100000 in
theorem Mean_any {w : World} {ba : Option Addr} {cap : Nat} {l : List Rd} (C : CameRd w ba cap l) (i : Int) (hsmall : l.length ≤ 1000) :
    Calls Try.prog 7 #[.slice ba l.length cap, .int .i64 i] w fun e w' => e = .returned (.tuple #[.int .i64 (meanA (vals27 i l)), .bool (decide (0 < (vals27 i l).length))]) ∧ Below w.heap.size w w' := by
  obtain ⟨mm, hmm⟩ : ∃ m, m = meanA (vals27 i l) := ⟨_, rfl⟩
  obtain ⟨tt, htt⟩ : ∃ t, t = decide (0 < (vals27 i l).length) := ⟨_, rfl⟩
  rw [← hmm, ← htt]
  have HM := Lib.hid hmm
  have HTT := Lib.hid htt
  have HC := Lib.hid C
  have hl : (l.length : Int) ≤ 1000 := by omega
  clear hmm htt
  have O0 := own2 w (.int .i64 0) (.int .u64 0) 42
  have B0 := below1 w (.cells #[.int .i64 0, .int .u64 0] 42)
  have HO0 := Lib.hid O0
  have HB0 := Lib.hid B0
  clear C O0 B0
  go_enter Try.func7, Try.ntmps7
  go_wp2
  go_loopw [7, 19] (fun v7 iv wr => ∃ j : Nat, j ≤ l.length ∧ iv = .int .i64 j ∧ v7 = .int .i64 ((vals27 i (l.take j)).length : Int) ∧
      Own2 wr w.heap.size (.int .i64 (Wd.hi (sumV (vals27 i (l.take j))))) (.int .u64 (Wd.lo (sumV (vals27 i (l.take j))))) ∧ Below w.heap.size w wr) (fun _ iv _ => l.length - (intOf iv).toNat)
  case atStart => exact ⟨0, Nat.zero_le _, rfl, rfl, HO0.out, HB0.out⟩
  case round =>
    obtain ⟨j, hj, rfl, rfl, hO, hB⟩ := hrel
    by_cases hc : (j : Int) < l.length
    · obtain ⟨b, o, rfl, L⟩ := (HC.out.keep hB).lies (by omega)
      have hx := L j (by omega)
      have hd : (j : Int) ≥ 0 := by omega
      have hv := vals_next i l j (by omega)
      have hvl := vals_len i (l.take j)
      rw [List.length_take] at hvl
      have hr6 : Wd.R6 (readV (l.getD j rd0) i) := readV_rm _ i
      generalize l.getD j rd0 = r at *
      have RD := Lib.hid (fun w => reading_any r i w)
      have HV := Lib.hid hv
      obtain ⟨vs, hvs⟩ : ∃ vs, vs = vals27 i (l.take j) := ⟨_, rfl⟩
      rw [← hvs] at hO HV hvl ⊢
      have hn : (vs.length : Int) + 1 ≤ 9223372036854775807 := by omega
      have HX := Lib.hid hx
      have HN := Lib.hid (RdAt.new wr r 27)
      have B1 := below1 wr (.cells (ra r) 27)
      have HO := Lib.hid (hO.keep B1)
      have HB := Lib.hid (hB.trans (B1.mono hB.size))
      clear L hx hv hvl hvs hO hB B1 HO0 HB0
      go_wp2_with (first | refine list_load_rd rfl _ rfl b (o + j * 24) rfl r HX.out ?_ | refine list_store_rd rfl _ _ rfl _ r rfl rfl rfl ?_ | refine list_load_rd rfl _ rfl wr.heap.size 0 rfl r HN.out ?_)
      refine (RD.out _).mono ?_
      rintro e w1 ⟨rfl, hb1⟩
      have O1 := HO.out.keep hb1
      have HB1 := Lib.hid (HB.out.trans (hb1.mono HB.out.size))
      clear RD HX HN HO HB hb1
      by_cases hq : readB r i = true
      · generalize readV r i = u at *
        rw [hq]
        rw [hq, if_pos rfl] at HV
        have OF := Lib.hid (fun w => Of_any u w hr6)
        have AD := Lib.hid (fun w => Add_any (sumV vs) u w)
        rw [← sumV_app] at AD
        generalize sumV vs = S at *
        generalize hS2 : sumV (vs ++ [u]) = S2 at *
        have HS2 := Lib.hid hS2
        clear hS2 hq hr6
        go_upto_region 8 with fail
        go_cut [] from 30 to 34 (fun wx => Own2 wx w.heap.size (.int .i64 (Wd.hi S2)) (.int .u64 (Wd.lo S2)) ∧ Below w.heap.size w wx)
        case first =>
          change (Code.region 8 mean8 true).wp Try.prog _ _ _
          refine wp_region_noPanic ?_
          refine wp_region_held_drew (S := fun w' => Below w.heap.size w w') (by kernel_rfl) (HB1.out.drew) (fun hHeld => ?_)
          obtain ⟨w10, hX⟩ : ∃ x, x = w1.drew := ⟨_, rfl⟩
          have hb : Below w1.heap.size w1 w10 := hX ▸ (Below.refl _ _).drew
          rw [← hX] at hHeld ⊢
          have HB := hHeld; clear hHeld
          replace O1 := O1.keep hb
          clear hb hX
          refine wpAnyH_take (i := 1) (oi := ({ dst := some 31, op := .move (.tmp 10), type := 2, pos := "ring.go:70", after := #[], guard := none } : Oper)) (v := ?vt6_1_) rfl mean8_plain (by as_aux_lemma => kernel_rfl) (by as_aux_lemma => kernel_rfl) (fun _ _ _ h => h) (Or.inl ⟨by rfl, ?yt6_1_⟩) HB ?rt6_1_
          case yt6_1_ => (intro w hSw; (try dsimp only at hSw); go_simp; try with_reducible rfl)
          try simp only [Act.put, List.setIfInBounds_toArray, List.set_cons_zero, List.set_cons_succ]
          refine wpAnyH_ready (rs := [0, 2]) (by as_aux_lemma => kernel_rfl) (by simp) ?_
          refine AllReadyH.cons (o := ({ dst := some 30, op := .load 42 (.tmp 6), type := 42, pos := "ring.go:70", after := #[], guard := none } : Oper)) rfl (fun KK hK => ?_) (AllReadyH.cons (o := ({ dst := some 32, op := .call { callee := .value (.func 17), args := #[.tmp 31], argTypes := #[2] }, type := 42, pos := "ring.go:70", after := #[{ on := 1, ground := .data }], guard := none } : Oper)) rfl (fun KK hK => ?_) AllReadyH.nil)
          · skip
            rw [if_pos (by rfl)]
            refine oper_load_w O1 rfl rfl ?_
            obtain ⟨w11, hX⟩ : ∃ x, x = w10 := ⟨_, rfl⟩
            have hb : Below w10.heap.size w10 w11 := below_ofW hX.symm
            rw [← hX]
            clear hX
            refine hK.out _ _ ?_ (fun hHeld => ?_)
            · exact belowT HB hb
            replace HB := hHeld; clear hHeld hK KK
            replace O1 := O1.keep hb
            clear hb
            try simp only [Act.put, List.setIfInBounds_toArray, List.set_cons_zero, List.set_cons_succ]
            refine wpAnyH_ready (rs := [2]) (by as_aux_lemma => kernel_rfl) (by simp) ?_
            refine AllReadyH.cons (o := ({ dst := some 32, op := .call { callee := .value (.func 17), args := #[.tmp 31], argTypes := #[2] }, type := 42, pos := "ring.go:70", after := #[{ on := 1, ground := .data }], guard := none } : Oper)) rfl (fun KK hK => ?_) AllReadyH.nil
            rw [if_pos (by rfl)]
            go_simp
            go_at_call 17; refine (OF.out w11).mono ?_; rintro e w12 ⟨rfl, hb⟩
            go_wp2_with fail
            refine hK.out _ _ ?_ (fun hHeld => ?_)
            · exact belowT HB hb
            replace HB := hHeld; clear hHeld hK KK
            replace O1 := O1.keep hb
            clear hb
            try simp only [Act.put, List.setIfInBounds_toArray, List.set_cons_zero, List.set_cons_succ]
            refine wpAnyH_ready (rs := [3]) (by as_aux_lemma => kernel_rfl) (by simp) ?_
            refine AllReadyH.cons (o := ({ dst := some 33, op := .call { callee := .value (.func 16), args := #[.tmp 30, .tmp 32], argTypes := #[42, 42] }, type := 42, pos := "ring.go:70", after := #[{ on := 0, ground := .data }, { on := 2, ground := .data }, { on := 2, ground := .chain }], guard := none } : Oper)) rfl (fun KK hK => ?_) AllReadyH.nil
            rw [if_pos (by rfl)]
            go_simp
            go_at_call 16; refine (AD.out w12).mono ?_; rintro e w13 ⟨rfl, hb⟩
            go_wp2_with fail
            refine hK.out _ _ ?_ (fun hHeld => ?_)
            · exact belowT HB hb
            replace HB := hHeld; clear hHeld hK KK
            replace O1 := O1.keep hb
            clear hb
            try simp only [Act.put, List.setIfInBounds_toArray, List.set_cons_zero, List.set_cons_succ]
            refine wpAnyH_ready (rs := [4]) (by as_aux_lemma => kernel_rfl) (by simp) ?_
            refine AllReadyH.cons (o := ({ dst := none, op := .store 42 (.tmp 6) (.tmp 33), type := 0, pos := "ring.go:70", after := #[{ on := 3, ground := .data }, { on := 3, ground := .chain }, { on := 0, ground := .phase }, { on := 1, ground := .phase }, { on := 2, ground := .phase }, { on := 3, ground := .phase }], guard := none } : Oper)) rfl (fun KK hK => ?_) AllReadyH.nil
            rw [if_pos (by rfl)]
            refine oper_put_w O1 rfl rfl rfl ?_
            intro w14 O2 hBB
            have HN := hBB _ _ (Nat.le_refl _) HB
            refine hK.out _ _ ?_ (fun hHeld => ?_)
            · exact HN
            replace HB := hHeld; clear hHeld hK KK HN
            try simp only [Act.put]
            refine wpAnyH_done (by as_aux_lemma => kernel_rfl) ?_ _
            refine NoPanic.normal ?_
            go_wp2_with fail
            go_meet
            exact ⟨O2, HB⟩
          · skip
            rw [if_pos (by rfl)]
            go_simp
            go_at_call 17; refine (OF.out w10).mono ?_; rintro e w11 ⟨rfl, hb⟩
            go_wp2_with fail
            refine hK.out _ _ ?_ (fun hHeld => ?_)
            · exact belowT HB hb
            replace HB := hHeld; clear hHeld hK KK
            replace O1 := O1.keep hb
            clear hb
            try simp only [Act.put, List.setIfInBounds_toArray, List.set_cons_zero, List.set_cons_succ]
            refine wpAnyH_ready (rs := [0]) (by as_aux_lemma => kernel_rfl) (by simp) ?_
            refine AllReadyH.cons (o := ({ dst := some 30, op := .load 42 (.tmp 6), type := 42, pos := "ring.go:70", after := #[], guard := none } : Oper)) rfl (fun KK hK => ?_) AllReadyH.nil
            rw [if_pos (by rfl)]
            refine oper_load_w O1 rfl rfl ?_
            obtain ⟨w12, hX⟩ : ∃ x, x = w11 := ⟨_, rfl⟩
            have hb : Below w11.heap.size w11 w12 := below_ofW hX.symm
            rw [← hX]
            clear hX
            refine hK.out _ _ ?_ (fun hHeld => ?_)
            · exact belowT HB hb
            replace HB := hHeld; clear hHeld hK KK
            replace O1 := O1.keep hb
            clear hb
            try simp only [Act.put, List.setIfInBounds_toArray, List.set_cons_zero, List.set_cons_succ]
            refine wpAnyH_ready (rs := [3]) (by as_aux_lemma => kernel_rfl) (by simp) ?_
            refine AllReadyH.cons (o := ({ dst := some 33, op := .call { callee := .value (.func 16), args := #[.tmp 30, .tmp 32], argTypes := #[42, 42] }, type := 42, pos := "ring.go:70", after := #[{ on := 0, ground := .data }, { on := 2, ground := .data }, { on := 2, ground := .chain }], guard := none } : Oper)) rfl (fun KK hK => ?_) AllReadyH.nil
            rw [if_pos (by rfl)]
            go_simp
            go_at_call 16; refine (AD.out w12).mono ?_; rintro e w13 ⟨rfl, hb⟩
            go_wp2_with fail
            refine hK.out _ _ ?_ (fun hHeld => ?_)
            · exact belowT HB hb
            replace HB := hHeld; clear hHeld hK KK
            replace O1 := O1.keep hb
            clear hb
            try simp only [Act.put, List.setIfInBounds_toArray, List.set_cons_zero, List.set_cons_succ]
            refine wpAnyH_ready (rs := [4]) (by as_aux_lemma => kernel_rfl) (by simp) ?_
            refine AllReadyH.cons (o := ({ dst := none, op := .store 42 (.tmp 6) (.tmp 33), type := 0, pos := "ring.go:70", after := #[{ on := 3, ground := .data }, { on := 3, ground := .chain }, { on := 0, ground := .phase }, { on := 1, ground := .phase }, { on := 2, ground := .phase }, { on := 3, ground := .phase }], guard := none } : Oper)) rfl (fun KK hK => ?_) AllReadyH.nil
            rw [if_pos (by rfl)]
            refine oper_put_w O1 rfl rfl rfl ?_
            intro w14 O2 hBB
            have HN := hBB _ _ (Nat.le_refl _) HB
            refine hK.out _ _ ?_ (fun hHeld => ?_)
            · exact HN
            replace HB := hHeld; clear hHeld hK KK HN
            try simp only [Act.put]
            refine wpAnyH_done (by as_aux_lemma => kernel_rfl) ?_ _
            refine NoPanic.normal ?_
            go_wp2_with fail
            go_meet
            exact ⟨O2, HB⟩
        case rest =>
          rename World => wx
          obtain ⟨hO2, hB2⟩ := hcut
          have HO2 := Lib.hid hO2
          have HB2 := Lib.hid hB2
          clear hO2 hB2 O1 OF AD HB1
          go_wp2
          go_roundw
          case rel => exact ⟨j + 1, by omega, rfl, by rw [HV.out]; simp, by rw [HV.out, HS2.out]; exact HO2.out, HB2.out⟩
          case measure => simp [intOf]; omega
      · rw [Bool.not_eq_true] at hq
        rw [hq]
        rw [hq, if_neg (by decide)] at HV
        have HO1 := Lib.hid O1
        clear O1 hq
        go_wp2
        go_roundw
        case rel => exact ⟨j + 1, by omega, rfl, by rw [HV.out], by rw [HV.out]; exact HO1.out, HB1.out⟩
        case measure => simp [intOf]; omega
    · obtain rfl : j = l.length := by omega
      rw [List.take_length] at hO ⊢
      have hrm := sum_rm i l hsmall
      have hvl := vals_len i l
      have hr6 := mean_r6 i l
      have hm : meanV (vals27 i l) = sumV (vals27 i l) / ((vals27 i l).length : Int) := rfl
      obtain ⟨vs, hvs⟩ : ∃ vs, vs = vals27 i l := ⟨_, rfl⟩
      rw [← hvs] at hO hrm hvl hr6 hm ⊢
      have HO := Lib.hid hO
      have HB := Lib.hid hB
      clear hO hB HO0 HB0 hj hc
      by_cases h0 : 0 < vs.length
      · have DV := Lib.hid (fun w => Div_any (sumV vs) vs.length w hrm (by omega) (by omega))
        rw [← hm] at DV
        have NW := Lib.hid (fun w => Narrow_in (meanV vs) w (hr6 h0))
        have HA := Lib.hid (show mm = meanV vs from by rw [HM.out, ← hvs]; exact if_pos h0)
        have HD := Lib.hid (show tt = true from by rw [HTT.out, ← hvs]; exact decide_eq_true h0)
        clear hvs
        generalize meanV vs = q at *
        generalize sumV vs = S at *
        generalize vs.length = N at *
        obtain ⟨c0, c1, f0, f1⟩ := HO.out
        clear hm hr6 hrm h0 HC
        go_wp2_with fail
        refine (DV.out _).mono ?_
        rintro e w1 ⟨rfl, hb1⟩
        have B1 := HB.out.trans (hb1.mono HB.out.size)
        have B2 := Lib.hid (B1.alloc B1.size (.cells #[.int .i64 (Wd.hi q), .int .u64 (Wd.lo q)] 42))
        clear DV hb1 B1 HO c0 c1 f0 f1 HB
        go_wp2_with fail
        refine (NW.out _).mono ?_
        rintro e w2 ⟨rfl, hb2⟩
        go_wp2_with fail
        go_ret2
        rw [HA.out, HD.out]
        exact ⟨rfl, B2.out.trans (hb2.mono B2.out.size)⟩
      · have h1 : vs.length = 0 := by omega
        have HA := Lib.hid (show mm = 0 from by rw [HM.out, ← hvs]; exact if_neg h0)
        have HD := Lib.hid (show tt = false from by rw [HTT.out, ← hvs]; exact decide_eq_false h0)
        have DV := Lib.hid (fun w => Div_arg (Wd.hi (sumV vs)) (Wd.lo (sumV vs)) 0 w (by decide))
        rw [h1]
        clear hvs
        generalize sumV vs = S at *
        obtain ⟨c0, c1, f0, f1⟩ := HO.out
        clear hm hr6 hrm h0 h1 HC hvl
        go_wp2_with fail
        refine (DV.out _).mono ?_
        rintro e w1 ⟨rfl, hb1⟩
        have B1 := HB.out.trans (hb1.mono HB.out.size)
        have B2 := Lib.hid (B1.alloc B1.size (.cells #[.int .i64 (Wd.hi 0), .int .u64 (Wd.lo 0)] 42))
        clear DV hb1 B1 HO c0 c1 f0 f1 HB
        go_wp2_with fail
        go_ret2
        rw [HA.out, HD.out]
        exact ⟨rfl, B2.out⟩
end Go.Proofs.Ytkjnjhdanbjmpaa
