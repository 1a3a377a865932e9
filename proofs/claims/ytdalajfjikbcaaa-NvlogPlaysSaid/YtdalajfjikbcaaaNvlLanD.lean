/- The landed nvlog's Save; all that the laws ask of it: Own19. -/
import Derived.Test.YtdalajfjikbcaaaNvlLanC
import Derived.Test.YtdalajfjikbcaaaNvlOwn
namespace Go.Proofs.Ytdalajfjikbcaaa
open Go.RowKit

/-- bytes copied to a part of what may be written, no longer than the part -/
theorem oper_copy_cut {o : Oper} {a : Act} {w : World} {K : Act → World → Prop} {Q : Exit → Act → World → Prop} {B : Nat} {W0 : World} {g cap : Nat} {l m : List UInt8} {d s : Operand} {ba : Option Addr} {c dl dc k : Nat}
    (ho : o.op = .call { callee := .builtin .copy, args := #[d, s], argTypes := #[22, 22] }) (hb : Bytes0 B W0 w (.slice (some ⟨g, 0, none⟩) l.length cap) l)
    (hd : a.eval d = .slice (some ⟨g, k, none⟩) dl dc) (hs : a.eval s = .slice ba m.length c) (C : Came w ba c m) (hdl : m.length ≤ dl) (hk : k + m.length ≤ l.length)
    (h : ∀ w', Bytes0 B W0 w' (.slice (some ⟨g, 0, none⟩) l.length cap) (putF l k m) → K (a.put o.dst (goInt m.length)) w') : Oper.wp Try.prog o a w K Q := by
  have hmin : m.length = Nat.min m.length dl := (Nat.min_eq_left hdl).symm
  by_cases h0 : 0 < m.length
  · obtain ⟨g2, o2, rfl, L⟩ := C.lies h0
    obtain ⟨e1, ⟨hv, _⟩ | ⟨g', cap', cur, hv, hB, hg, hle, hm, hsz, htk⟩⟩ := hb.1
    · cases hv
    injection hv with hv1 _ hv2
    injection hv1 with hv1
    injection hv1 with hv1
    subst hv1 hv2
    have hrun := run_copy_row (P := Try.prog) w 22 22 o.type 5 g k dl dc ⟨g2, o2, none⟩ m.length c cur 5 (vals m) Try.underlying22 size8 hg (by simp only [vals, List.length_map]; exact hmin) L.cellsA (by simp only [vals, List.length_map]; omega) (vals_oneA m)
    have hvl : (vals m).length = m.length := by simp [vals]
    rw [hvl] at hrun
    unfold Oper.wp execOp
    simp only [ho, resolve, invoke, builtin, Sem.run_bind, Sem.run_pure, Result.andThen_ok, List.map_toArray, List.map_cons, List.map_nil, hd, hs, hrun]
    have hpl := put_length hk
    refine h _ ⟨?_, below_setRow hb.2.1 hB _, ?_⟩
    · rw [hpl]
      refine ⟨by simp [vals, hpl], Or.inr ⟨g, cap, _, rfl, hB, setRow_heap w g cur _ _ _ hg, hle, hm, ?_, ?_⟩⟩
      · simp only [List.size_toArray, List.length_append, List.length_take, List.length_drop, Array.length_toList, hvl]; omega
      · simp only [Nat.mul_one] at htk hsz ⊢
        show List.take l.length (List.take k cur.toList ++ vals m ++ List.drop (k + m.length) cur.toList) = vals (putF l k m)
        have ec : vals l = List.take l.length cur.toList := htk.symm
        have e2 : vals (putF l k m) = (vals l).take k ++ vals m ++ (vals l).drop (k + m.length) := by
          unfold putF vals
          rw [List.map_append, List.map_append, List.map_take, List.map_drop]
        have hcl : cur.toList.length = cap := by rw [Array.length_toList]; omega
        have l1 : (List.take k cur.toList).length = k := by rw [List.length_take]; omega
        rw [e2, ec, List.take_take, Nat.min_eq_left (by omega), List.drop_take, List.take_append, List.take_of_length_le (by rw [List.length_append, l1, hvl]; omega), List.length_append, l1, hvl]
    · have e : (w.setRow g (List.take k cur.toList ++ vals m ++ List.drop (k + m.length) cur.toList).toArray).heap.size = w.heap.size := by simp [World.setRow]
      rw [e]; exact hb.2.2
  · obtain rfl : m = [] := List.length_eq_zero_iff.1 (by omega)
    have hrun := run_copy_none (P := Try.prog) w 22 22 o.type 5 (some ⟨g, k, none⟩) ba dl dc ([] : List UInt8).length c Try.underlying22 size8 (by rw [List.length_nil]; exact Nat.zero_min _)
    unfold Oper.wp execOp
    simp only [ho, resolve, invoke, builtin, Sem.run_bind, Sem.run_pure, Result.andThen_ok, List.map_toArray, List.map_cons, List.map_nil, hd, hs, hrun]
    exact h w (by rw [put_zero]; exact hb)

namespace Lan19
/-- The operations of a drawn region, as the translation has them. -/
def save5l : Array Oper := #[
  { dst := some 25, op := .move (.tmp 8), type := 22, pos := "nvlog.go:79", after := #[], guard := none },
  { dst := some 26, op := .move (.tmp 9), type := 3, pos := "nvlog.go:79", after := #[], guard := none },
  { dst := some 27, op := .call { callee := .value (.func 24), args := #[.tmp 25, .tmp 26], argTypes := #[22, 3] }, type := 22, pos := "nvlog.go:79", after := #[{ on := 0, ground := .data }, { on := 1, ground := .data }], guard := none },
  { dst := some 28, op := .move (.tmp 10), type := 22, pos := "nvlog.go:79", after := #[], guard := none },
  { dst := some 29, op := .move (.tmp 2), type := 3, pos := "nvlog.go:79", after := #[], guard := none },
  { dst := some 30, op := .call { callee := .builtin .max, args := #[.tmp 29, .const (.int .i64 0)], argTypes := #[3, 3] }, type := 3, pos := "nvlog.go:79", after := #[{ on := 4, ground := .data }], guard := none },
  { dst := some 31, op := .move (.tmp 10), type := 22, pos := "nvlog.go:79", after := #[], guard := none },
  { dst := some 32, op := .call { callee := .builtin .len, args := #[.tmp 31], argTypes := #[22] }, type := 3, pos := "nvlog.go:79", after := #[{ on := 6, ground := .data }], guard := none },
  { dst := some 33, op := .call { callee := .builtin .min, args := #[.tmp 30, .tmp 32], argTypes := #[3, 3] }, type := 3, pos := "nvlog.go:79", after := #[{ on := 5, ground := .data }, { on := 7, ground := .data }], guard := none },
  { dst := some 34, op := .slice 22 (.tmp 28) none (some (.tmp 33)) none, type := 22, pos := "nvlog.go:79", after := #[{ on := 3, ground := .data }, { on := 8, ground := .data }], guard := none },
  { dst := some 35, op := .call { callee := .builtin .copy, args := #[.tmp 27, .tmp 34], argTypes := #[22, 22] }, type := 3, pos := "nvlog.go:79", after := #[{ on := 2, ground := .data }, { on := 9, ground := .data }, { on := 2, ground := .chain }], guard := none }]
theorem save5l_plain : Region.noSelect save5l = true := by kernel_rfl

set_option maxHeartbeats 8000000 in
set_option maxRecDepth 100000 in
theorem Save_came {w : World} {ba : Option Addr} {cap : Nat} {l : List UInt8} (C : Came w ba cap l) (n : Nt) (most : Int) (hsmall : l.length ≤ 4000) :
    Calls Try.prog 11 #[.slice ba l.length cap, nv n, .int .i64 most] w fun e w' => ∃ b2 c2, e = .returned (.tuple #[.slice b2 (saveF l n most).1.length c2, .int .i64 (saveF l n most).2]) ∧ Came w' b2 c2 (saveF l n most).1 ∧ Below w.heap.size w w' := by
  have WC := Lib.hid fun (w' : World) (C : Came w' ba cap l) => Write_came C n
  have WR := write_cases l n
  have HC := Lib.hid C
  obtain ⟨sv, hsv⟩ : ∃ s, s = saveF l n := ⟨_, rfl⟩
  rw [← hsv] at WR
  have SVE : Hid (saveF l n most = sv most) := Lib.hid (by rw [hsv])
  generalize writeF l n = wf at *
  obtain ⟨wo, bs, er⟩ := wf
  simp only at WC WR
  clear C hsv
  obtain ⟨p, q, r⟩ := n
  simp only [nv] at WC ⊢
  have B0 := Lib.hid (below1 w (.cells #[.int .i64 p, .int .i64 q, .int .i64 r] 26))
  have H0 := Lib.hid (hasl w [.int .i64 p, .int .i64 q, .int .i64 r] 26)
  have CLN := Lib.hid (Clone_own (HC.out.keep B0.out) (by omega))
  go_enter Try.func11, Try.ntmps11
  go_wp2_with fail
  refine CLN.out.mono ?_; rintro e w1 ⟨v1, rfl, hv1⟩
  obtain ⟨wb, hwb⟩ : ∃ x, x = w.alloc (.cells #[.int .i64 p, .int .i64 q, .int .i64 r] 26) := ⟨_, rfl⟩
  rw [← hwb] at hv1 B0 H0
  have H1 := H0.out.keep hv1.below
  have q0 := H1.at 0 rfl
  have q1 := H1.at 1 rfl
  have q2 := H1.at 2 rfl
  have WCC := Lib.hid (WC.out w1 (HC.out.keep (belowT B0.out hv1.below)))
  have hv1 := Lib.hid hv1
  clear CLN WC HC H0 H1 hwb
  go_wp2_with fail
  refine WCC.out.mono ?_; rintro e w2 ⟨b2, c2, rfl, CP0, hb2⟩
  have hv2 := hv1.out.keep hb2
  clear WCC hb2 hv1 q0 q1 q2
  rcases WR with ⟨he, hsv⟩ | ⟨he, h24, hbl, hto, hsv⟩
  · have hq : (er != 0) = true := by simpa using he
    have SV : Hid (saveF l ⟨p, q, r⟩ most = (l, er)) := Lib.hid (by rw [SVE.out, hsv])
    obtain ⟨bo, co, rfl, CO⟩ := hv2.bytes.came
    have HB := Lib.hid (belowT B0.out hv2.below)
    have HC2 := Lib.hid CO
    clear hsv SVE hv2 CP0 CO he
    go_wp2
    refine bodyPost_ret (v := .tuple #[.slice bo l.length co, .int .i64 er]) (by simp [results, Try.results11, go_sem]) rfl ⟨bo, co, by rw [SV.out], by rw [SV.out]; exact HC2.out, HB.out⟩
  · subst he
    have HL := Lib.hid h24
    have HM := Lib.hid (show (mostF most : Int) = min (max most 0) 12 by unfold mostF; omega)
    have hkm : mostF most ≤ 12 := mostF_le most
    obtain ⟨k, hk⟩ : ∃ k, k = mostF most := ⟨_, rfl⟩
    rw [← hk] at HM hkm
    have ek : min (max most (0 : Int)) 12 = k := HM.out.symm
    have hs1 := came_head CP0 k (by omega)
    have CP := CP0.take k (by omega)
    have lp : (bs.take k).length = k := by rw [List.length_take]; omega
    obtain ⟨g, cap1, rfl, M⟩ := hv2.mine (by omega)
    have d1 : (24 : Int) ≤ cap1 := by have := M.le; omega
    have d2 : (cap1 : Int) ≤ 9223372036854775807 := by have := M.max; unfold maxLen at this; omega
    have d3 : cap1 ≤ maxLen := M.max
    unfold maxLen at d3
    have HB := Lib.hid hv2.below
    rcases hto with rfl | rfl
    · have SV : Hid (saveF l ⟨p, q, r⟩ most = (putF l 0 (bs.take k), 0)) := Lib.hid (by rw [SVE.out, hsv, hk])
      have HCUT : Hid (∀ w, Calls Try.prog 24 #[.slice (some ⟨g, 0, none⟩) 24 cap1, .int .i64 0] w fun e w' => e = .returned (.slice (some ⟨g, 0, none⟩) 12 12) ∧ w = w') := Lib.hid fun w => cut_at g 0 24 cap1 0 (by decide) (Nat.le_refl _) (by omega) (by unfold maxLen; omega) w
      generalize bs.take k = P at *
      have LP := Lib.hid lp
      rw [hbl] at hs1
      rw [hbl, HL.out]
      clear hsv SVE lp M h24 hk CP0 HM hbl
      go_upto_region 5 with fail
      obtain ⟨W0, rfl⟩ : ∃ W0, W0 = w2 := ⟨_, rfl⟩
      go_cut [] from 25 to 36 (fun wx => Bytes0 wb.heap.size wb wx (.slice (some ⟨g, 0, none⟩) l.length cap1) (putF l 0 P))
      case first =>
        have HB2 := Lib.hid hv2.below
        have hdl : P.length ≤ 12 := by rw [LP.out]; exact hkm
        have lpl : 0 + P.length ≤ l.length := by rw [HL.out]; omega
        have LPL := Lib.hid (And.intro lpl hdl)
        clear HB lpl hdl
        change (Code.region 5 save5l true).wp Try.prog _ _ _
        refine wp_region_noPanic ?_
        refine wp_region_held_drew (S := fun w' => Below wb.heap.size wb w') (by kernel_rfl) (HB2.out.drew) (fun hHeld => ?_)
        obtain ⟨w3, hX⟩ : ∃ x, x = W0.drew := ⟨_, rfl⟩
        have hb : Below W0.heap.size W0 w3 := hX ▸ (Below.refl _ _).drew
        rw [← hX] at hHeld ⊢
        have HB := hHeld; clear hHeld
        replace hv2 := hv2.keep hb
        replace CP := CP.keep hb
        clear hb hX
        refine wpAnyH_take (i := 0) (oi := ({ dst := some 25, op := .move (.tmp 8), type := 22, pos := "nvlog.go:79", after := #[], guard := none } : Oper)) (v := ?vt20_1_) rfl save5l_plain (by as_aux_lemma => kernel_rfl) (by as_aux_lemma => kernel_rfl) (fun _ _ _ h => h) (Or.inl ⟨by rfl, ?yt20_1_⟩) HB ?rt20_1_
        case yt20_1_ => (intro w hSw; (try dsimp only at hSw); go_simp; try with_reducible rfl)
        try simp only [Act.put, List.setIfInBounds_toArray, List.set_cons_zero, List.set_cons_succ]
        refine wpAnyH_take (i := 1) (oi := ({ dst := some 26, op := .move (.tmp 9), type := 3, pos := "nvlog.go:79", after := #[], guard := none } : Oper)) (v := ?vt20_2_) rfl save5l_plain (by as_aux_lemma => kernel_rfl) (by as_aux_lemma => kernel_rfl) (fun _ _ _ h => h) (Or.inl ⟨by rfl, ?yt20_2_⟩) HB ?rt20_2_
        case yt20_2_ => (intro w hSw; (try dsimp only at hSw); go_simp; try with_reducible rfl)
        try simp only [Act.put, List.setIfInBounds_toArray, List.set_cons_zero, List.set_cons_succ]
        refine wpAnyH_take (i := 3) (oi := ({ dst := some 28, op := .move (.tmp 10), type := 22, pos := "nvlog.go:79", after := #[], guard := none } : Oper)) (v := ?vt20_3_) rfl save5l_plain (by as_aux_lemma => kernel_rfl) (by as_aux_lemma => kernel_rfl) (fun _ _ _ h => h) (Or.inl ⟨by rfl, ?yt20_3_⟩) HB ?rt20_3_
        case yt20_3_ => (intro w hSw; (try dsimp only at hSw); go_simp; try with_reducible rfl)
        try simp only [Act.put, List.setIfInBounds_toArray, List.set_cons_zero, List.set_cons_succ]
        refine wpAnyH_take (i := 4) (oi := ({ dst := some 29, op := .move (.tmp 2), type := 3, pos := "nvlog.go:79", after := #[], guard := none } : Oper)) (v := ?vt20_4_) rfl save5l_plain (by as_aux_lemma => kernel_rfl) (by as_aux_lemma => kernel_rfl) (fun _ _ _ h => h) (Or.inl ⟨by rfl, ?yt20_4_⟩) HB ?rt20_4_
        case yt20_4_ => (intro w hSw; (try dsimp only at hSw); go_simp; try with_reducible rfl)
        try simp only [Act.put, List.setIfInBounds_toArray, List.set_cons_zero, List.set_cons_succ]
        refine wpAnyH_take (i := 5) (oi := ({ dst := some 30, op := .call { callee := .builtin .max, args := #[.tmp 29, .const (.int .i64 0)], argTypes := #[3, 3] }, type := 3, pos := "nvlog.go:79", after := #[{ on := 4, ground := .data }], guard := none } : Oper)) (v := ?vt20_5_) rfl save5l_plain (by as_aux_lemma => kernel_rfl) (by as_aux_lemma => kernel_rfl) (fun _ _ _ h => h) (Or.inl ⟨by rfl, ?yt20_5_⟩) HB ?rt20_5_
        case yt20_5_ => (intro w hSw; (try dsimp only at hSw); go_simp; try with_reducible rfl)
        try simp only [Act.put, List.setIfInBounds_toArray, List.set_cons_zero, List.set_cons_succ]
        refine wpAnyH_take (i := 6) (oi := ({ dst := some 31, op := .move (.tmp 10), type := 22, pos := "nvlog.go:79", after := #[], guard := none } : Oper)) (v := ?vt20_6_) rfl save5l_plain (by as_aux_lemma => kernel_rfl) (by as_aux_lemma => kernel_rfl) (fun _ _ _ h => h) (Or.inl ⟨by rfl, ?yt20_6_⟩) HB ?rt20_6_
        case yt20_6_ => (intro w hSw; (try dsimp only at hSw); go_simp; try with_reducible rfl)
        try simp only [Act.put, List.setIfInBounds_toArray, List.set_cons_zero, List.set_cons_succ]
        refine wpAnyH_take (i := 7) (oi := ({ dst := some 32, op := .call { callee := .builtin .len, args := #[.tmp 31], argTypes := #[22] }, type := 3, pos := "nvlog.go:79", after := #[{ on := 6, ground := .data }], guard := none } : Oper)) (v := ?vt20_7_) rfl save5l_plain (by as_aux_lemma => kernel_rfl) (by as_aux_lemma => kernel_rfl) (fun _ _ _ h => h) (Or.inl ⟨by rfl, ?yt20_7_⟩) HB ?rt20_7_
        case yt20_7_ => (intro w hSw; (try dsimp only at hSw); go_simp; try with_reducible rfl)
        try simp only [Act.put, List.setIfInBounds_toArray, List.set_cons_zero, List.set_cons_succ]
        refine wpAnyH_take (i := 8) (oi := ({ dst := some 33, op := .call { callee := .builtin .min, args := #[.tmp 30, .tmp 32], argTypes := #[3, 3] }, type := 3, pos := "nvlog.go:79", after := #[{ on := 5, ground := .data }, { on := 7, ground := .data }], guard := none } : Oper)) (v := ?vt20_8_) rfl save5l_plain (by as_aux_lemma => kernel_rfl) (by as_aux_lemma => kernel_rfl) (fun _ _ _ h => h) (Or.inl ⟨by rfl, ?yt20_8_⟩) HB ?rt20_8_
        case yt20_8_ => (intro w hSw; (try dsimp only at hSw); go_simp; try with_reducible rfl)
        try simp only [Act.put, List.setIfInBounds_toArray, List.set_cons_zero, List.set_cons_succ]
        refine wpAnyH_take (i := 9) (oi := ({ dst := some 34, op := .slice 22 (.tmp 28) none (some (.tmp 33)) none, type := 22, pos := "nvlog.go:79", after := #[{ on := 3, ground := .data }, { on := 8, ground := .data }], guard := none } : Oper)) (v := ?vt20_9_) rfl save5l_plain (by as_aux_lemma => kernel_rfl) (by as_aux_lemma => kernel_rfl) (fun _ _ _ h => h) (Or.inl ⟨by rfl, ?yt20_9_⟩) HB ?rt20_9_
        case yt20_9_ => (intro w hSw; (try dsimp only at hSw); go_simp; try with_reducible rfl)
        try simp only [Act.put, List.setIfInBounds_toArray, List.set_cons_zero, List.set_cons_succ]
        refine wpAnyH_ready (rs := [2]) (by as_aux_lemma => kernel_rfl) (by simp) ?_
        refine AllReadyH.cons (o := ({ dst := some 27, op := .call { callee := .value (.func 24), args := #[.tmp 25, .tmp 26], argTypes := #[22, 3] }, type := 22, pos := "nvlog.go:79", after := #[{ on := 0, ground := .data }, { on := 1, ground := .data }], guard := none } : Oper)) rfl (fun KK hK => ?_) AllReadyH.nil
        rw [if_pos (by rfl)]
        go_simp
        go_at_call 24; refine (HCUT.out w3).mono ?_; rintro e w4 ⟨rfl, hw⟩
        have hb : Below w3.heap.size w3 w4 := below_of hw
        clear hw
        go_wp2_with fail
        refine hK.out _ _ ?_ (fun hHeld => ?_)
        · exact belowT HB hb
        replace HB := hHeld; clear hHeld hK KK
        replace hv2 := hv2.keep hb
        replace CP := CP.keep hb
        clear hb
        try simp only [Act.put, List.setIfInBounds_toArray, List.set_cons_zero, List.set_cons_succ]
        refine wpAnyH_ready (rs := [10]) (by as_aux_lemma => kernel_rfl) (by simp) ?_
        refine AllReadyH.cons (o := ({ dst := some 35, op := .call { callee := .builtin .copy, args := #[.tmp 27, .tmp 34], argTypes := #[22, 22] }, type := 3, pos := "nvlog.go:79", after := #[{ on := 2, ground := .data }, { on := 9, ground := .data }, { on := 2, ground := .chain }], guard := none } : Oper)) rfl (fun KK hK => ?_) AllReadyH.nil
        rw [if_pos (by rfl)]
        refine oper_copy_cut (g := g) (cap := cap1) (l := l) (m := P) (k := 0) (dl := 12) (dc := 12) (ba := b2) (c := c2) rfl hv2 rfl (by rw [LP.out]; rfl) CP LPL.out.2 LPL.out.1 (fun w5 hq => ?_)
        have HN := hq.below
        refine hK.out _ _ ?_ (fun hHeld => ?_)
        · exact HN
        replace HB := hHeld; clear hHeld hK KK HN
        clear hv2 CP
        try simp only [Act.put, List.setIfInBounds_toArray, List.set_cons_zero, List.set_cons_succ]
        refine wpAnyH_done (by as_aux_lemma => kernel_rfl) ?_ _
        refine NoPanic.normal ?_
        go_wp2_with fail
        go_meet
        exact hq
      case rest =>
        rename World => wx
        have hl24 : (putF l 0 P).length = 24 := by rw [put_length (by rw [LP.out, HL.out]; omega), HL.out]
        obtain ⟨bo, co, ho, CO⟩ := hcut.bytes.came
        rw [hl24] at ho
        rw [HL.out] at ho
        have HO := Lib.hid ho
        have HC2 := Lib.hid CO
        have HB5 := Lib.hid (belowT B0.out hcut.below)
        clear hcut HB hv2 CP ho CO HCUT
        go_wp2
        refine bodyPost_ret (v := .tuple #[.slice (some ⟨g, 0, none⟩) 24 cap1, .int .i64 0]) (by simp [results, Try.results11, go_sem]) rfl ⟨bo, co, by rw [SV.out, hl24, HO.out], by rw [SV.out]; exact HC2.out, HB5.out⟩
    · have SV : Hid (saveF l ⟨p, q, r⟩ most = (putF l 12 (bs.take k), 0)) := Lib.hid (by rw [SVE.out, hsv, hk])
      have HCUT : Hid (∀ w, Calls Try.prog 24 #[.slice (some ⟨g, 0, none⟩) 24 cap1, .int .i64 1] w fun e w' => e = .returned (.slice (some ⟨g, 12, none⟩) 12 12) ∧ w = w') := Lib.hid fun w => cut_at g 0 24 cap1 1 (by decide) (Nat.le_refl _) (by omega) (by unfold maxLen; omega) w
      generalize bs.take k = P at *
      have LP := Lib.hid lp
      rw [hbl] at hs1
      rw [hbl, HL.out]
      clear hsv SVE lp M h24 hk CP0 HM hbl
      go_upto_region 5 with fail
      obtain ⟨W0, rfl⟩ : ∃ W0, W0 = w2 := ⟨_, rfl⟩
      go_cut [] from 25 to 36 (fun wx => Bytes0 wb.heap.size wb wx (.slice (some ⟨g, 0, none⟩) l.length cap1) (putF l 12 P))
      case first =>
        have HB2 := Lib.hid hv2.below
        have hdl : P.length ≤ 12 := by rw [LP.out]; exact hkm
        have lpl : 12 + P.length ≤ l.length := by rw [HL.out]; omega
        have LPL := Lib.hid (And.intro lpl hdl)
        clear HB lpl hdl
        change (Code.region 5 save5l true).wp Try.prog _ _ _
        refine wp_region_noPanic ?_
        refine wp_region_held_drew (S := fun w' => Below wb.heap.size wb w') (by kernel_rfl) (HB2.out.drew) (fun hHeld => ?_)
        obtain ⟨w3, hX⟩ : ∃ x, x = W0.drew := ⟨_, rfl⟩
        have hb : Below W0.heap.size W0 w3 := hX ▸ (Below.refl _ _).drew
        rw [← hX] at hHeld ⊢
        have HB := hHeld; clear hHeld
        replace hv2 := hv2.keep hb
        replace CP := CP.keep hb
        clear hb hX
        refine wpAnyH_take (i := 0) (oi := ({ dst := some 25, op := .move (.tmp 8), type := 22, pos := "nvlog.go:79", after := #[], guard := none } : Oper)) (v := ?vt21_1_) rfl save5l_plain (by as_aux_lemma => kernel_rfl) (by as_aux_lemma => kernel_rfl) (fun _ _ _ h => h) (Or.inl ⟨by rfl, ?yt21_1_⟩) HB ?rt21_1_
        case yt21_1_ => (intro w hSw; (try dsimp only at hSw); go_simp; try with_reducible rfl)
        try simp only [Act.put, List.setIfInBounds_toArray, List.set_cons_zero, List.set_cons_succ]
        refine wpAnyH_take (i := 1) (oi := ({ dst := some 26, op := .move (.tmp 9), type := 3, pos := "nvlog.go:79", after := #[], guard := none } : Oper)) (v := ?vt21_2_) rfl save5l_plain (by as_aux_lemma => kernel_rfl) (by as_aux_lemma => kernel_rfl) (fun _ _ _ h => h) (Or.inl ⟨by rfl, ?yt21_2_⟩) HB ?rt21_2_
        case yt21_2_ => (intro w hSw; (try dsimp only at hSw); go_simp; try with_reducible rfl)
        try simp only [Act.put, List.setIfInBounds_toArray, List.set_cons_zero, List.set_cons_succ]
        refine wpAnyH_take (i := 3) (oi := ({ dst := some 28, op := .move (.tmp 10), type := 22, pos := "nvlog.go:79", after := #[], guard := none } : Oper)) (v := ?vt21_3_) rfl save5l_plain (by as_aux_lemma => kernel_rfl) (by as_aux_lemma => kernel_rfl) (fun _ _ _ h => h) (Or.inl ⟨by rfl, ?yt21_3_⟩) HB ?rt21_3_
        case yt21_3_ => (intro w hSw; (try dsimp only at hSw); go_simp; try with_reducible rfl)
        try simp only [Act.put, List.setIfInBounds_toArray, List.set_cons_zero, List.set_cons_succ]
        refine wpAnyH_take (i := 4) (oi := ({ dst := some 29, op := .move (.tmp 2), type := 3, pos := "nvlog.go:79", after := #[], guard := none } : Oper)) (v := ?vt21_4_) rfl save5l_plain (by as_aux_lemma => kernel_rfl) (by as_aux_lemma => kernel_rfl) (fun _ _ _ h => h) (Or.inl ⟨by rfl, ?yt21_4_⟩) HB ?rt21_4_
        case yt21_4_ => (intro w hSw; (try dsimp only at hSw); go_simp; try with_reducible rfl)
        try simp only [Act.put, List.setIfInBounds_toArray, List.set_cons_zero, List.set_cons_succ]
        refine wpAnyH_take (i := 5) (oi := ({ dst := some 30, op := .call { callee := .builtin .max, args := #[.tmp 29, .const (.int .i64 0)], argTypes := #[3, 3] }, type := 3, pos := "nvlog.go:79", after := #[{ on := 4, ground := .data }], guard := none } : Oper)) (v := ?vt21_5_) rfl save5l_plain (by as_aux_lemma => kernel_rfl) (by as_aux_lemma => kernel_rfl) (fun _ _ _ h => h) (Or.inl ⟨by rfl, ?yt21_5_⟩) HB ?rt21_5_
        case yt21_5_ => (intro w hSw; (try dsimp only at hSw); go_simp; try with_reducible rfl)
        try simp only [Act.put, List.setIfInBounds_toArray, List.set_cons_zero, List.set_cons_succ]
        refine wpAnyH_take (i := 6) (oi := ({ dst := some 31, op := .move (.tmp 10), type := 22, pos := "nvlog.go:79", after := #[], guard := none } : Oper)) (v := ?vt21_6_) rfl save5l_plain (by as_aux_lemma => kernel_rfl) (by as_aux_lemma => kernel_rfl) (fun _ _ _ h => h) (Or.inl ⟨by rfl, ?yt21_6_⟩) HB ?rt21_6_
        case yt21_6_ => (intro w hSw; (try dsimp only at hSw); go_simp; try with_reducible rfl)
        try simp only [Act.put, List.setIfInBounds_toArray, List.set_cons_zero, List.set_cons_succ]
        refine wpAnyH_take (i := 7) (oi := ({ dst := some 32, op := .call { callee := .builtin .len, args := #[.tmp 31], argTypes := #[22] }, type := 3, pos := "nvlog.go:79", after := #[{ on := 6, ground := .data }], guard := none } : Oper)) (v := ?vt21_7_) rfl save5l_plain (by as_aux_lemma => kernel_rfl) (by as_aux_lemma => kernel_rfl) (fun _ _ _ h => h) (Or.inl ⟨by rfl, ?yt21_7_⟩) HB ?rt21_7_
        case yt21_7_ => (intro w hSw; (try dsimp only at hSw); go_simp; try with_reducible rfl)
        try simp only [Act.put, List.setIfInBounds_toArray, List.set_cons_zero, List.set_cons_succ]
        refine wpAnyH_take (i := 8) (oi := ({ dst := some 33, op := .call { callee := .builtin .min, args := #[.tmp 30, .tmp 32], argTypes := #[3, 3] }, type := 3, pos := "nvlog.go:79", after := #[{ on := 5, ground := .data }, { on := 7, ground := .data }], guard := none } : Oper)) (v := ?vt21_8_) rfl save5l_plain (by as_aux_lemma => kernel_rfl) (by as_aux_lemma => kernel_rfl) (fun _ _ _ h => h) (Or.inl ⟨by rfl, ?yt21_8_⟩) HB ?rt21_8_
        case yt21_8_ => (intro w hSw; (try dsimp only at hSw); go_simp; try with_reducible rfl)
        try simp only [Act.put, List.setIfInBounds_toArray, List.set_cons_zero, List.set_cons_succ]
        refine wpAnyH_take (i := 9) (oi := ({ dst := some 34, op := .slice 22 (.tmp 28) none (some (.tmp 33)) none, type := 22, pos := "nvlog.go:79", after := #[{ on := 3, ground := .data }, { on := 8, ground := .data }], guard := none } : Oper)) (v := ?vt21_9_) rfl save5l_plain (by as_aux_lemma => kernel_rfl) (by as_aux_lemma => kernel_rfl) (fun _ _ _ h => h) (Or.inl ⟨by rfl, ?yt21_9_⟩) HB ?rt21_9_
        case yt21_9_ => (intro w hSw; (try dsimp only at hSw); go_simp; try with_reducible rfl)
        try simp only [Act.put, List.setIfInBounds_toArray, List.set_cons_zero, List.set_cons_succ]
        refine wpAnyH_ready (rs := [2]) (by as_aux_lemma => kernel_rfl) (by simp) ?_
        refine AllReadyH.cons (o := ({ dst := some 27, op := .call { callee := .value (.func 24), args := #[.tmp 25, .tmp 26], argTypes := #[22, 3] }, type := 22, pos := "nvlog.go:79", after := #[{ on := 0, ground := .data }, { on := 1, ground := .data }], guard := none } : Oper)) rfl (fun KK hK => ?_) AllReadyH.nil
        rw [if_pos (by rfl)]
        go_simp
        go_at_call 24; refine (HCUT.out w3).mono ?_; rintro e w4 ⟨rfl, hw⟩
        have hb : Below w3.heap.size w3 w4 := below_of hw
        clear hw
        go_wp2_with fail
        refine hK.out _ _ ?_ (fun hHeld => ?_)
        · exact belowT HB hb
        replace HB := hHeld; clear hHeld hK KK
        replace hv2 := hv2.keep hb
        replace CP := CP.keep hb
        clear hb
        try simp only [Act.put, List.setIfInBounds_toArray, List.set_cons_zero, List.set_cons_succ]
        refine wpAnyH_ready (rs := [10]) (by as_aux_lemma => kernel_rfl) (by simp) ?_
        refine AllReadyH.cons (o := ({ dst := some 35, op := .call { callee := .builtin .copy, args := #[.tmp 27, .tmp 34], argTypes := #[22, 22] }, type := 3, pos := "nvlog.go:79", after := #[{ on := 2, ground := .data }, { on := 9, ground := .data }, { on := 2, ground := .chain }], guard := none } : Oper)) rfl (fun KK hK => ?_) AllReadyH.nil
        rw [if_pos (by rfl)]
        refine oper_copy_cut (g := g) (cap := cap1) (l := l) (m := P) (k := 12) (dl := 12) (dc := 12) (ba := b2) (c := c2) rfl hv2 rfl (by rw [LP.out]; rfl) CP LPL.out.2 LPL.out.1 (fun w5 hq => ?_)
        have HN := hq.below
        refine hK.out _ _ ?_ (fun hHeld => ?_)
        · exact HN
        replace HB := hHeld; clear hHeld hK KK HN
        clear hv2 CP
        try simp only [Act.put, List.setIfInBounds_toArray, List.set_cons_zero, List.set_cons_succ]
        refine wpAnyH_done (by as_aux_lemma => kernel_rfl) ?_ _
        refine NoPanic.normal ?_
        go_wp2_with fail
        go_meet
        exact hq
      case rest =>
        rename World => wx
        have hl24 : (putF l 12 P).length = 24 := by rw [put_length (by rw [LP.out, HL.out]; omega), HL.out]
        obtain ⟨bo, co, ho, CO⟩ := hcut.bytes.came
        rw [hl24] at ho
        rw [HL.out] at ho
        have HO := Lib.hid ho
        have HC2 := Lib.hid CO
        have HB5 := Lib.hid (belowT B0.out hcut.below)
        clear hcut HB hv2 CP ho CO HCUT
        go_wp2
        refine bodyPost_ret (v := .tuple #[.slice (some ⟨g, 0, none⟩) 24 cap1, .int .i64 0]) (by simp [results, Try.results11, go_sem]) rfl ⟨bo, co, by rw [SV.out, hl24, HO.out], by rw [SV.out]; exact HC2.out, HB5.out⟩

theorem ok : Own19 where
  right := Lan18.Right_any
  new := fun w => (New_any w).mono fun e w' hk => by
    obtain ⟨u, he, hu⟩ := hk
    obtain ⟨ba, cap, rfl, C⟩ := hu.bytes.came
    exact ⟨ba, cap, he, C, hu.below⟩
  load := fun _ _ _ _ C _ => Load_came C
  save := fun _ _ _ _ n most C h => Save_came C n most h
  write := fun _ _ _ _ n C _ => Write_came C n
  spoil := fun _ _ _ _ k C h => Spoil_came C k h
end Lan19
end Go.Proofs.Ytdalajfjikbcaaa
