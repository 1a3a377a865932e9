/- Save, Spoil of the document's own answers for layer 19. -/
import Derived.Test.YtdalajfjikbcaaaNvlRefB
namespace Go.Proofs.Ytdalajfjikbcaaa
open Go.RowKit

theorem write_cases (l : List UInt8) (n : Nt) : (writeF l n).2.2 ≠ 0 ∧ saveF l n = (fun _ => (l, (writeF l n).2.2)) ∨
    (writeF l n).2.2 = 0 ∧ l.length = 24 ∧ (writeF l n).2.1.length = 12 ∧ ((writeF l n).1 = 0 ∨ (writeF l n).1 = 1) ∧ saveF l n = fun most => (putF l (12 * (writeF l n).1) ((writeF l n).2.1.take (mostF most)), 0) := by
  by_cases h : (writeF l n).2.2 = 0
  · refine Or.inr ⟨h, ?_⟩
    have hs : saveF l n = fun most => (putF l (12 * (writeF l n).1) ((writeF l n).2.1.take (mostF most)), 0) := by
      funext most
      unfold saveF
      rw [if_neg (by omega)]
    refine ⟨?_, ?_, ?_, hs⟩
    all_goals
      unfold writeF at h
      try unfold writeF
      by_cases h1 : l.length ≠ 24
      · rw [if_pos h1] at h; exact absurd h (by decide)
      rw [if_neg h1] at h
      by_cases h2 : 2147483648 ≤ (newF l).2.2
      · rw [if_pos h2] at h; exact absurd h (by decide)
      rw [if_neg h2] at h
      by_cases h3 : rightN n = false
      · rw [if_pos h3] at h; exact absurd h (by decide)
      first
        | omega
        | (rw [if_neg h1, if_neg h2, if_neg h3]; exact slot_length _ _)
        | (rw [if_neg h1, if_neg h2, if_neg h3]; unfold toF; split <;> simp)
  · refine Or.inl ⟨h, ?_⟩
    funext most
    unfold saveF
    rw [if_pos h]

namespace Ref19
/-- The operations of a drawn region, as the translation has them. -/
def save5 : Array Oper := #[
  { dst := some 26, op := .move (.tmp 8), type := 22, pos := "ref.go:68", after := #[], guard := none },
  { dst := some 27, op := .move (.tmp 9), type := 3, pos := "ref.go:68", after := #[], guard := none },
  { dst := some 28, op := .binOp .mul 3 (.tmp 27) (.const (.int .i64 12)) 3, type := 3, pos := "ref.go:68", after := #[{ on := 1, ground := .data }], guard := none },
  { dst := some 29, op := .slice 22 (.tmp 26) (some (.tmp 28)) none none, type := 22, pos := "ref.go:68", after := #[{ on := 0, ground := .data }, { on := 2, ground := .data }], guard := none },
  { dst := some 30, op := .move (.tmp 10), type := 22, pos := "ref.go:68", after := #[], guard := none },
  { dst := some 31, op := .move (.tmp 2), type := 3, pos := "ref.go:68", after := #[], guard := none },
  { dst := some 32, op := .move (.tmp 10), type := 22, pos := "ref.go:68", after := #[], guard := none },
  { dst := some 33, op := .call { callee := .builtin .len, args := #[.tmp 32], argTypes := #[22] }, type := 3, pos := "ref.go:68", after := #[{ on := 6, ground := .data }], guard := none },
  { dst := some 34, op := .call { callee := .builtin .min, args := #[.tmp 31, .tmp 33], argTypes := #[3, 3] }, type := 3, pos := "ref.go:68", after := #[{ on := 5, ground := .data }, { on := 7, ground := .data }], guard := none },
  { dst := some 35, op := .call { callee := .builtin .max, args := #[.const (.int .i64 0), .tmp 34], argTypes := #[3, 3] }, type := 3, pos := "ref.go:68", after := #[{ on := 8, ground := .data }], guard := none },
  { dst := some 36, op := .slice 22 (.tmp 30) none (some (.tmp 35)) none, type := 22, pos := "ref.go:68", after := #[{ on := 4, ground := .data }, { on := 9, ground := .data }], guard := none },
  { dst := some 37, op := .call { callee := .builtin .copy, args := #[.tmp 29, .tmp 36], argTypes := #[22, 22] }, type := 3, pos := "ref.go:68", after := #[{ on := 3, ground := .data }, { on := 10, ground := .data }], guard := none }]
theorem save5_plain : Region.noSelect save5 = true := by kernel_rfl

set_option maxHeartbeats 8000000 in
set_option maxRecDepth 100000 in
theorem Save_came {w : World} {ba : Option Addr} {cap : Nat} {l : List UInt8} (C : Came w ba cap l) (n : Nt) (most : Int) (hsmall : l.length ≤ 4000) :
    Calls Try.prog 12 #[.slice ba l.length cap, nv n, .int .i64 most] w fun e w' => ∃ b2 c2, e = .returned (.tuple #[.slice b2 (saveF l n most).1.length c2, .int .i64 (saveF l n most).2]) ∧ Came w' b2 c2 (saveF l n most).1 ∧ Below w.heap.size w w' := by
  have WC := Lib.hid fun (w' : World) (C : Came w' ba cap l) => Write_came C n
  have WR := write_cases l n
  have HC := Lib.hid C
  obtain ⟨sv, hsv⟩ : ∃ s, s = saveF l n := ⟨_, rfl⟩
  rw [← hsv] at WR
  have SVE : Hid (saveF l n most = sv most) := Lib.hid (by rw [hsv])
  generalize writeF l n = wf at *
  obtain ⟨wo, bs, er⟩ := wf
  simp only at WC WR
  clear C hsv
  obtain ⟨p, q, r⟩ := n
  simp only [nv] at WC ⊢
  have B0 := Lib.hid (below1 w (.cells #[.int .i64 p, .int .i64 q, .int .i64 r] 26))
  have H0 := Lib.hid (hasl w [.int .i64 p, .int .i64 q, .int .i64 r] 26)
  have hb0 := empty_bytes0 (w.alloc (.cells #[.int .i64 p, .int .i64 q, .int .i64 r] 26)) 5 rfl
  rw [heap1] at hb0
  have CB := HC.out.keep (belowT B0.out (below1 _ (.cells #[] 5)))
  go_enter Try.func12, Try.ntmps12
  go_wp2_with (at_builtin; refine list_append_came0 (v := .slice (some ⟨w.heap.size + 1, 0, none⟩) 0 0) (m := l) (ba := ba) (c := cap) rfl rfl rfl hb0 rfl CB ?c1 ?_)
  case c1 => simp only [List.length_nil]; omega
  intro v1 w1 hv1
  replace hv1 : Bytes0 (w.heap.size + 1) (w.alloc (.cells #[.int .i64 p, .int .i64 q, .int .i64 r] 26)) w1 v1 l := hv1
  obtain ⟨wb, hwb⟩ : ∃ x, x = w.alloc (.cells #[.int .i64 p, .int .i64 q, .int .i64 r] 26) := ⟨_, rfl⟩
  have hbs : wb.heap.size = w.heap.size + 1 := by rw [hwb]; exact heap1 _ _
  rw [← hwb, ← hbs] at hv1
  rw [← hwb] at B0 H0
  have H1 := H0.out.keep hv1.below
  have q0 := H1.at 0 rfl
  have q1 := H1.at 1 rfl
  have q2 := H1.at 2 rfl
  have WCC := Lib.hid (WC.out w1 (HC.out.keep (belowT B0.out hv1.below)))
  have hv1 := Lib.hid hv1
  clear hb0 CB WC HC H0 H1 hwb hbs
  go_wp2_with fail
  refine WCC.out.mono ?_; rintro e w2 ⟨b2, c2, rfl, CP0, hb2⟩
  have hv2 := hv1.out.keep hb2
  clear WCC hb2 hv1 q0 q1 q2
  rcases WR with ⟨he, hsv⟩ | ⟨he, h24, hbl, hto, hsv⟩
  · have hq : (er == 0) = false := by simpa using he
    have SV : Hid (saveF l ⟨p, q, r⟩ most = (l, er)) := Lib.hid (by rw [SVE.out, hsv])
    obtain ⟨bo, co, rfl, CO⟩ := hv2.bytes.came
    have HB := Lib.hid (belowT B0.out hv2.below)
    have HC2 := Lib.hid CO
    clear hsv SVE hv2 CP0 CO he
    go_wp2
    refine bodyPost_ret (v := .tuple #[.slice bo l.length co, .int .i64 er]) (by simp [results, Try.results12, go_sem]) rfl ⟨bo, co, by rw [SV.out], by rw [SV.out]; exact HC2.out, HB.out⟩
  · subst he
    have HL := Lib.hid h24
    have HM := Lib.hid (show (mostF most : Int) = max 0 (min most 12) by unfold mostF; omega)
    have hkm : mostF most ≤ 12 := mostF_le most
    obtain ⟨k, hk⟩ : ∃ k, k = mostF most := ⟨_, rfl⟩
    rw [← hk] at HM hkm
    have ek : max (0 : Int) (min most 12) = k := HM.out.symm
    have hs1 := came_head CP0 k (by omega)
    have CP := CP0.take k (by omega)
    have lp : (bs.take k).length = k := by rw [List.length_take]; omega
    obtain ⟨g, cap1, rfl, M⟩ := hv2.mine (by omega)
    have d1 : (24 : Int) ≤ cap1 := by have := M.le; omega
    have d2 : (cap1 : Int) ≤ 9223372036854775807 := by have := M.max; unfold maxLen at this; omega
    have d3 : (12 : Int) ≤ cap1 := by omega
    have d4 : ¬ cap1 = 12 := by omega
    have z0 : IntKind.i64.wrap 0 = 0 := by decide
    have z12 : IntKind.i64.wrap 12 = 12 := by decide
    have HB := Lib.hid hv2.below
    rcases hto with rfl | rfl
    · have SV : Hid (saveF l ⟨p, q, r⟩ most = (putF l 0 (bs.take k), 0)) := Lib.hid (by rw [SVE.out, hsv, hk])
      generalize bs.take k = P at *
      have LP := Lib.hid lp
      rw [hbl] at hs1
      rw [hbl, HL.out]
      clear hsv SVE lp M h24 hk CP0 HM hbl
      go_upto_region 5 with fail
      obtain ⟨W0, rfl⟩ : ∃ W0, W0 = w2 := ⟨_, rfl⟩
      go_cut [] from 26 to 38 (fun wx => Bytes0 wb.heap.size wb wx (.slice (some ⟨g, 0, none⟩) l.length cap1) (putF l 0 P))
      case first =>
        have HB2 := Lib.hid hv2.below
        have lpl : 0 + P.length ≤ l.length := by rw [LP.out, HL.out]; omega
        have LPL := Lib.hid lpl
        clear HB lpl
        change (Code.region 5 save5 true).wp Try.prog _ _ _
        refine wp_region_noPanic ?_
        refine wp_region_held_drew (S := fun w' => Below wb.heap.size wb w') (by kernel_rfl) (HB2.out.drew) (fun hHeld => ?_)
        obtain ⟨w3, hX⟩ : ∃ x, x = W0.drew := ⟨_, rfl⟩
        have hb : Below W0.heap.size W0 w3 := hX ▸ (Below.refl _ _).drew
        rw [← hX] at hHeld ⊢
        have HB := hHeld; clear hHeld
        replace hv2 := hv2.keep hb
        replace CP := CP.keep hb
        clear hb hX
        refine wpAnyH_take (i := 0) (oi := ({ dst := some 26, op := .move (.tmp 8), type := 22, pos := "ref.go:68", after := #[], guard := none } : Oper)) (v := ?vt15_1_) rfl save5_plain (by as_aux_lemma => kernel_rfl) (by as_aux_lemma => kernel_rfl) (fun _ _ _ h => h) (Or.inl ⟨by rfl, ?yt15_1_⟩) HB ?rt15_1_
        case yt15_1_ => (intro w hSw; (try dsimp only at hSw); go_simp; try with_reducible rfl)
        try simp only [Act.put, List.setIfInBounds_toArray, List.set_cons_zero, List.set_cons_succ]
        refine wpAnyH_take (i := 1) (oi := ({ dst := some 27, op := .move (.tmp 9), type := 3, pos := "ref.go:68", after := #[], guard := none } : Oper)) (v := ?vt15_2_) rfl save5_plain (by as_aux_lemma => kernel_rfl) (by as_aux_lemma => kernel_rfl) (fun _ _ _ h => h) (Or.inl ⟨by rfl, ?yt15_2_⟩) HB ?rt15_2_
        case yt15_2_ => (intro w hSw; (try dsimp only at hSw); go_simp; try with_reducible rfl)
        try simp only [Act.put, List.setIfInBounds_toArray, List.set_cons_zero, List.set_cons_succ]
        refine wpAnyH_take (i := 2) (oi := ({ dst := some 28, op := .binOp .mul 3 (.tmp 27) (.const (.int .i64 12)) 3, type := 3, pos := "ref.go:68", after := #[{ on := 1, ground := .data }], guard := none } : Oper)) (v := ?vt15_3_) rfl save5_plain (by as_aux_lemma => kernel_rfl) (by as_aux_lemma => kernel_rfl) (fun _ _ _ h => h) (Or.inl ⟨by rfl, ?yt15_3_⟩) HB ?rt15_3_
        case yt15_3_ => (intro w hSw; (try dsimp only at hSw); go_simp; try with_reducible rfl)
        try simp only [Act.put, List.setIfInBounds_toArray, List.set_cons_zero, List.set_cons_succ]
        refine wpAnyH_take (i := 3) (oi := ({ dst := some 29, op := .slice 22 (.tmp 26) (some (.tmp 28)) none none, type := 22, pos := "ref.go:68", after := #[{ on := 0, ground := .data }, { on := 2, ground := .data }], guard := none } : Oper)) (v := ?vt15_4_) rfl save5_plain (by as_aux_lemma => kernel_rfl) (by as_aux_lemma => kernel_rfl) (fun _ _ _ h => h) (Or.inl ⟨by rfl, ?yt15_4_⟩) HB ?rt15_4_
        case yt15_4_ => (intro w hSw; (try dsimp only at hSw); go_simp; try with_reducible rfl)
        try simp only [Act.put, List.setIfInBounds_toArray, List.set_cons_zero, List.set_cons_succ]
        refine wpAnyH_take (i := 4) (oi := ({ dst := some 30, op := .move (.tmp 10), type := 22, pos := "ref.go:68", after := #[], guard := none } : Oper)) (v := ?vt15_5_) rfl save5_plain (by as_aux_lemma => kernel_rfl) (by as_aux_lemma => kernel_rfl) (fun _ _ _ h => h) (Or.inl ⟨by rfl, ?yt15_5_⟩) HB ?rt15_5_
        case yt15_5_ => (intro w hSw; (try dsimp only at hSw); go_simp; try with_reducible rfl)
        try simp only [Act.put, List.setIfInBounds_toArray, List.set_cons_zero, List.set_cons_succ]
        refine wpAnyH_take (i := 5) (oi := ({ dst := some 31, op := .move (.tmp 2), type := 3, pos := "ref.go:68", after := #[], guard := none } : Oper)) (v := ?vt15_6_) rfl save5_plain (by as_aux_lemma => kernel_rfl) (by as_aux_lemma => kernel_rfl) (fun _ _ _ h => h) (Or.inl ⟨by rfl, ?yt15_6_⟩) HB ?rt15_6_
        case yt15_6_ => (intro w hSw; (try dsimp only at hSw); go_simp; try with_reducible rfl)
        try simp only [Act.put, List.setIfInBounds_toArray, List.set_cons_zero, List.set_cons_succ]
        refine wpAnyH_take (i := 6) (oi := ({ dst := some 32, op := .move (.tmp 10), type := 22, pos := "ref.go:68", after := #[], guard := none } : Oper)) (v := ?vt15_7_) rfl save5_plain (by as_aux_lemma => kernel_rfl) (by as_aux_lemma => kernel_rfl) (fun _ _ _ h => h) (Or.inl ⟨by rfl, ?yt15_7_⟩) HB ?rt15_7_
        case yt15_7_ => (intro w hSw; (try dsimp only at hSw); go_simp; try with_reducible rfl)
        try simp only [Act.put, List.setIfInBounds_toArray, List.set_cons_zero, List.set_cons_succ]
        refine wpAnyH_take (i := 7) (oi := ({ dst := some 33, op := .call { callee := .builtin .len, args := #[.tmp 32], argTypes := #[22] }, type := 3, pos := "ref.go:68", after := #[{ on := 6, ground := .data }], guard := none } : Oper)) (v := ?vt15_8_) rfl save5_plain (by as_aux_lemma => kernel_rfl) (by as_aux_lemma => kernel_rfl) (fun _ _ _ h => h) (Or.inl ⟨by rfl, ?yt15_8_⟩) HB ?rt15_8_
        case yt15_8_ => (intro w hSw; (try dsimp only at hSw); go_simp; try with_reducible rfl)
        try simp only [Act.put, List.setIfInBounds_toArray, List.set_cons_zero, List.set_cons_succ]
        refine wpAnyH_take (i := 8) (oi := ({ dst := some 34, op := .call { callee := .builtin .min, args := #[.tmp 31, .tmp 33], argTypes := #[3, 3] }, type := 3, pos := "ref.go:68", after := #[{ on := 5, ground := .data }, { on := 7, ground := .data }], guard := none } : Oper)) (v := ?vt15_9_) rfl save5_plain (by as_aux_lemma => kernel_rfl) (by as_aux_lemma => kernel_rfl) (fun _ _ _ h => h) (Or.inl ⟨by rfl, ?yt15_9_⟩) HB ?rt15_9_
        case yt15_9_ => (intro w hSw; (try dsimp only at hSw); go_simp; try with_reducible rfl)
        try simp only [Act.put, List.setIfInBounds_toArray, List.set_cons_zero, List.set_cons_succ]
        refine wpAnyH_take (i := 9) (oi := ({ dst := some 35, op := .call { callee := .builtin .max, args := #[.const (.int .i64 0), .tmp 34], argTypes := #[3, 3] }, type := 3, pos := "ref.go:68", after := #[{ on := 8, ground := .data }], guard := none } : Oper)) (v := ?vt15_10_) rfl save5_plain (by as_aux_lemma => kernel_rfl) (by as_aux_lemma => kernel_rfl) (fun _ _ _ h => h) (Or.inl ⟨by rfl, ?yt15_10_⟩) HB ?rt15_10_
        case yt15_10_ => (intro w hSw; (try dsimp only at hSw); go_simp; try with_reducible rfl)
        try simp only [Act.put, List.setIfInBounds_toArray, List.set_cons_zero, List.set_cons_succ]
        refine wpAnyH_take (i := 10) (oi := ({ dst := some 36, op := .slice 22 (.tmp 30) none (some (.tmp 35)) none, type := 22, pos := "ref.go:68", after := #[{ on := 4, ground := .data }, { on := 9, ground := .data }], guard := none } : Oper)) (v := ?vt15_11_) rfl save5_plain (by as_aux_lemma => kernel_rfl) (by as_aux_lemma => kernel_rfl) (fun _ _ _ h => h) (Or.inl ⟨by rfl, ?yt15_11_⟩) HB ?rt15_11_
        case yt15_11_ => (intro w hSw; (try dsimp only at hSw); go_simp; try with_reducible rfl)
        try simp only [Act.put, List.setIfInBounds_toArray, List.set_cons_zero, List.set_cons_succ]
        refine wpAnyH_ready (rs := [11]) (by as_aux_lemma => kernel_rfl) (by simp) ?_
        refine AllReadyH.cons (o := ({ dst := some 37, op := .call { callee := .builtin .copy, args := #[.tmp 29, .tmp 36], argTypes := #[22, 22] }, type := 3, pos := "ref.go:68", after := #[{ on := 3, ground := .data }, { on := 10, ground := .data }], guard := none } : Oper)) rfl (fun KK hK => ?_) AllReadyH.nil
        rw [if_pos (by rfl)]
        refine oper_copy_own (g := g) (cap := cap1) (l := l) (m := P) (k := 0) (ba := b2) (c := c2) rfl hv2 (by rw [HL.out]; rfl) (by rw [LP.out]; rfl) CP LPL.out (fun w4 hq => ?_)
        have HN := hq.below
        refine hK.out _ _ ?_ (fun hHeld => ?_)
        · exact HN
        replace HB := hHeld; clear hHeld hK KK HN
        clear hv2 CP
        try simp only [Act.put, List.setIfInBounds_toArray, List.set_cons_zero, List.set_cons_succ]
        refine wpAnyH_done (by as_aux_lemma => kernel_rfl) ?_ _
        refine NoPanic.normal ?_
        go_wp2_with fail
        go_meet
        exact hq
      case rest =>
        rename World => wx
        have hl24 : (putF l 0 P).length = 24 := by rw [put_length (by rw [LP.out, HL.out]; omega), HL.out]
        obtain ⟨bo, co, ho, CO⟩ := hcut.bytes.came
        rw [hl24] at ho
        rw [HL.out] at ho
        have HO := Lib.hid ho
        have HC2 := Lib.hid CO
        have HB5 := Lib.hid (belowT B0.out hcut.below)
        clear hcut HB hv2 CP ho CO
        go_wp2
        refine bodyPost_ret (v := .tuple #[.slice (some ⟨g, 0, none⟩) 24 cap1, .int .i64 0]) (by simp [results, Try.results12, go_sem]) rfl ⟨bo, co, by rw [SV.out, hl24, HO.out], by rw [SV.out]; exact HC2.out, HB5.out⟩
    · have SV : Hid (saveF l ⟨p, q, r⟩ most = (putF l 12 (bs.take k), 0)) := Lib.hid (by rw [SVE.out, hsv, hk])
      generalize bs.take k = P at *
      have LP := Lib.hid lp
      rw [hbl] at hs1
      rw [hbl, HL.out]
      clear hsv SVE lp M h24 hk CP0 HM hbl
      go_upto_region 5 with fail
      obtain ⟨W0, rfl⟩ : ∃ W0, W0 = w2 := ⟨_, rfl⟩
      go_cut [] from 26 to 38 (fun wx => Bytes0 wb.heap.size wb wx (.slice (some ⟨g, 0, none⟩) l.length cap1) (putF l 12 P))
      case first =>
        have HB2 := Lib.hid hv2.below
        have lpl : 12 + P.length ≤ l.length := by rw [LP.out, HL.out]; omega
        have LPL := Lib.hid lpl
        clear HB lpl
        change (Code.region 5 save5 true).wp Try.prog _ _ _
        refine wp_region_noPanic ?_
        refine wp_region_held_drew (S := fun w' => Below wb.heap.size wb w') (by kernel_rfl) (HB2.out.drew) (fun hHeld => ?_)
        obtain ⟨w3, hX⟩ : ∃ x, x = W0.drew := ⟨_, rfl⟩
        have hb : Below W0.heap.size W0 w3 := hX ▸ (Below.refl _ _).drew
        rw [← hX] at hHeld ⊢
        have HB := hHeld; clear hHeld
        replace hv2 := hv2.keep hb
        replace CP := CP.keep hb
        clear hb hX
        refine wpAnyH_take (i := 0) (oi := ({ dst := some 26, op := .move (.tmp 8), type := 22, pos := "ref.go:68", after := #[], guard := none } : Oper)) (v := ?vt16_1_) rfl save5_plain (by as_aux_lemma => kernel_rfl) (by as_aux_lemma => kernel_rfl) (fun _ _ _ h => h) (Or.inl ⟨by rfl, ?yt16_1_⟩) HB ?rt16_1_
        case yt16_1_ => (intro w hSw; (try dsimp only at hSw); go_simp; try with_reducible rfl)
        try simp only [Act.put, List.setIfInBounds_toArray, List.set_cons_zero, List.set_cons_succ]
        refine wpAnyH_take (i := 1) (oi := ({ dst := some 27, op := .move (.tmp 9), type := 3, pos := "ref.go:68", after := #[], guard := none } : Oper)) (v := ?vt16_2_) rfl save5_plain (by as_aux_lemma => kernel_rfl) (by as_aux_lemma => kernel_rfl) (fun _ _ _ h => h) (Or.inl ⟨by rfl, ?yt16_2_⟩) HB ?rt16_2_
        case yt16_2_ => (intro w hSw; (try dsimp only at hSw); go_simp; try with_reducible rfl)
        try simp only [Act.put, List.setIfInBounds_toArray, List.set_cons_zero, List.set_cons_succ]
        refine wpAnyH_take (i := 2) (oi := ({ dst := some 28, op := .binOp .mul 3 (.tmp 27) (.const (.int .i64 12)) 3, type := 3, pos := "ref.go:68", after := #[{ on := 1, ground := .data }], guard := none } : Oper)) (v := ?vt16_3_) rfl save5_plain (by as_aux_lemma => kernel_rfl) (by as_aux_lemma => kernel_rfl) (fun _ _ _ h => h) (Or.inl ⟨by rfl, ?yt16_3_⟩) HB ?rt16_3_
        case yt16_3_ => (intro w hSw; (try dsimp only at hSw); go_simp; try with_reducible rfl)
        try simp only [Act.put, List.setIfInBounds_toArray, List.set_cons_zero, List.set_cons_succ]
        refine wpAnyH_take (i := 3) (oi := ({ dst := some 29, op := .slice 22 (.tmp 26) (some (.tmp 28)) none none, type := 22, pos := "ref.go:68", after := #[{ on := 0, ground := .data }, { on := 2, ground := .data }], guard := none } : Oper)) (v := ?vt16_4_) rfl save5_plain (by as_aux_lemma => kernel_rfl) (by as_aux_lemma => kernel_rfl) (fun _ _ _ h => h) (Or.inl ⟨by rfl, ?yt16_4_⟩) HB ?rt16_4_
        case yt16_4_ => (intro w hSw; (try dsimp only at hSw); go_simp; try with_reducible rfl)
        try simp only [Act.put, List.setIfInBounds_toArray, List.set_cons_zero, List.set_cons_succ]
        refine wpAnyH_take (i := 4) (oi := ({ dst := some 30, op := .move (.tmp 10), type := 22, pos := "ref.go:68", after := #[], guard := none } : Oper)) (v := ?vt16_5_) rfl save5_plain (by as_aux_lemma => kernel_rfl) (by as_aux_lemma => kernel_rfl) (fun _ _ _ h => h) (Or.inl ⟨by rfl, ?yt16_5_⟩) HB ?rt16_5_
        case yt16_5_ => (intro w hSw; (try dsimp only at hSw); go_simp; try with_reducible rfl)
        try simp only [Act.put, List.setIfInBounds_toArray, List.set_cons_zero, List.set_cons_succ]
        refine wpAnyH_take (i := 5) (oi := ({ dst := some 31, op := .move (.tmp 2), type := 3, pos := "ref.go:68", after := #[], guard := none } : Oper)) (v := ?vt16_6_) rfl save5_plain (by as_aux_lemma => kernel_rfl) (by as_aux_lemma => kernel_rfl) (fun _ _ _ h => h) (Or.inl ⟨by rfl, ?yt16_6_⟩) HB ?rt16_6_
        case yt16_6_ => (intro w hSw; (try dsimp only at hSw); go_simp; try with_reducible rfl)
        try simp only [Act.put, List.setIfInBounds_toArray, List.set_cons_zero, List.set_cons_succ]
        refine wpAnyH_take (i := 6) (oi := ({ dst := some 32, op := .move (.tmp 10), type := 22, pos := "ref.go:68", after := #[], guard := none } : Oper)) (v := ?vt16_7_) rfl save5_plain (by as_aux_lemma => kernel_rfl) (by as_aux_lemma => kernel_rfl) (fun _ _ _ h => h) (Or.inl ⟨by rfl, ?yt16_7_⟩) HB ?rt16_7_
        case yt16_7_ => (intro w hSw; (try dsimp only at hSw); go_simp; try with_reducible rfl)
        try simp only [Act.put, List.setIfInBounds_toArray, List.set_cons_zero, List.set_cons_succ]
        refine wpAnyH_take (i := 7) (oi := ({ dst := some 33, op := .call { callee := .builtin .len, args := #[.tmp 32], argTypes := #[22] }, type := 3, pos := "ref.go:68", after := #[{ on := 6, ground := .data }], guard := none } : Oper)) (v := ?vt16_8_) rfl save5_plain (by as_aux_lemma => kernel_rfl) (by as_aux_lemma => kernel_rfl) (fun _ _ _ h => h) (Or.inl ⟨by rfl, ?yt16_8_⟩) HB ?rt16_8_
        case yt16_8_ => (intro w hSw; (try dsimp only at hSw); go_simp; try with_reducible rfl)
        try simp only [Act.put, List.setIfInBounds_toArray, List.set_cons_zero, List.set_cons_succ]
        refine wpAnyH_take (i := 8) (oi := ({ dst := some 34, op := .call { callee := .builtin .min, args := #[.tmp 31, .tmp 33], argTypes := #[3, 3] }, type := 3, pos := "ref.go:68", after := #[{ on := 5, ground := .data }, { on := 7, ground := .data }], guard := none } : Oper)) (v := ?vt16_9_) rfl save5_plain (by as_aux_lemma => kernel_rfl) (by as_aux_lemma => kernel_rfl) (fun _ _ _ h => h) (Or.inl ⟨by rfl, ?yt16_9_⟩) HB ?rt16_9_
        case yt16_9_ => (intro w hSw; (try dsimp only at hSw); go_simp; try with_reducible rfl)
        try simp only [Act.put, List.setIfInBounds_toArray, List.set_cons_zero, List.set_cons_succ]
        refine wpAnyH_take (i := 9) (oi := ({ dst := some 35, op := .call { callee := .builtin .max, args := #[.const (.int .i64 0), .tmp 34], argTypes := #[3, 3] }, type := 3, pos := "ref.go:68", after := #[{ on := 8, ground := .data }], guard := none } : Oper)) (v := ?vt16_10_) rfl save5_plain (by as_aux_lemma => kernel_rfl) (by as_aux_lemma => kernel_rfl) (fun _ _ _ h => h) (Or.inl ⟨by rfl, ?yt16_10_⟩) HB ?rt16_10_
        case yt16_10_ => (intro w hSw; (try dsimp only at hSw); go_simp; try with_reducible rfl)
        try simp only [Act.put, List.setIfInBounds_toArray, List.set_cons_zero, List.set_cons_succ]
        refine wpAnyH_take (i := 10) (oi := ({ dst := some 36, op := .slice 22 (.tmp 30) none (some (.tmp 35)) none, type := 22, pos := "ref.go:68", after := #[{ on := 4, ground := .data }, { on := 9, ground := .data }], guard := none } : Oper)) (v := ?vt16_11_) rfl save5_plain (by as_aux_lemma => kernel_rfl) (by as_aux_lemma => kernel_rfl) (fun _ _ _ h => h) (Or.inl ⟨by rfl, ?yt16_11_⟩) HB ?rt16_11_
        case yt16_11_ => (intro w hSw; (try dsimp only at hSw); go_simp; try with_reducible rfl)
        try simp only [Act.put, List.setIfInBounds_toArray, List.set_cons_zero, List.set_cons_succ]
        refine wpAnyH_ready (rs := [11]) (by as_aux_lemma => kernel_rfl) (by simp) ?_
        refine AllReadyH.cons (o := ({ dst := some 37, op := .call { callee := .builtin .copy, args := #[.tmp 29, .tmp 36], argTypes := #[22, 22] }, type := 3, pos := "ref.go:68", after := #[{ on := 3, ground := .data }, { on := 10, ground := .data }], guard := none } : Oper)) rfl (fun KK hK => ?_) AllReadyH.nil
        rw [if_pos (by rfl)]
        refine oper_copy_own (g := g) (cap := cap1) (l := l) (m := P) (k := 12) (ba := b2) (c := c2) rfl hv2 (by rw [HL.out]; rfl) (by rw [LP.out]; rfl) CP LPL.out (fun w4 hq => ?_)
        have HN := hq.below
        refine hK.out _ _ ?_ (fun hHeld => ?_)
        · exact HN
        replace HB := hHeld; clear hHeld hK KK HN
        clear hv2 CP
        try simp only [Act.put, List.setIfInBounds_toArray, List.set_cons_zero, List.set_cons_succ]
        refine wpAnyH_done (by as_aux_lemma => kernel_rfl) ?_ _
        refine NoPanic.normal ?_
        go_wp2_with fail
        go_meet
        exact hq
      case rest =>
        rename World => wx
        have hl24 : (putF l 12 P).length = 24 := by rw [put_length (by rw [LP.out, HL.out]; omega), HL.out]
        obtain ⟨bo, co, ho, CO⟩ := hcut.bytes.came
        rw [hl24] at ho
        rw [HL.out] at ho
        have HO := Lib.hid ho
        have HC2 := Lib.hid CO
        have HB5 := Lib.hid (belowT B0.out hcut.below)
        clear hcut HB hv2 CP ho CO
        go_wp2
        refine bodyPost_ret (v := .tuple #[.slice (some ⟨g, 0, none⟩) 24 cap1, .int .i64 0]) (by simp [results, Try.results12, go_sem]) rfl ⟨bo, co, by rw [SV.out, hl24, HO.out], by rw [SV.out]; exact HC2.out, HB5.out⟩

set_option maxHeartbeats 4000000 in
set_option maxRecDepth 100000 in
theorem Spoil_came {w : World} {ba : Option Addr} {cap : Nat} {l : List UInt8} (C : Came w ba cap l) (k : Int) (hsmall : l.length ≤ 4000) :
    Calls Try.prog 8 #[.slice ba l.length cap, .int .i64 k] w fun e w' => ∃ b2 c2, e = .returned (.slice b2 (spoilF l k).length c2) ∧ Came w' b2 c2 (spoilF l k) ∧ Below w.heap.size w w' := by
  have hb0 := empty_bytes0 w 5 rfl
  have CB := C.keep (below1 w (.cells #[] 5))
  have hlen : (l.length : Int) ≤ 9223372036854775807 := by omega
  clear C
  go_enter Try.func8, Try.ntmps8
  go_wp2_with (at_builtin; refine list_append_came0 (v := .slice (some ⟨w.heap.size, 0, none⟩) 0 0) (m := l) (ba := ba) (c := cap) rfl rfl rfl hb0 rfl CB ?c1 ?_)
  case c1 => simp only [List.length_nil]; omega
  intro v1 w1 hv1
  replace hv1 : Bytes0 w.heap.size w w1 v1 l := hv1
  clear hb0 CB
  by_cases h : 0 ≤ k ∧ k < l.length
  · obtain ⟨j, rfl⟩ := Int.eq_ofNat_of_zero_le h.1
    have hj : (j : Int) < l.length := h.2
    have e : spoilF l (j : Int) = l.set j (l.getD j 0 ^^^ 85) := by
      unfold spoilF
      rw [if_pos h, Int.toNat_natCast]
    have HE := Lib.hid e
    obtain ⟨g, cp, rfl, M⟩ := hv1.mine (by omega)
    have q0 := M.lies j (by omega)
    have f0 := M.free j (by omega)
    rw [Nat.zero_add] at q0
    have M2 := M.set j (l.getD j 0 ^^^ 85)
    have ex : bits .xor .u8 ((l.getD j 0).toNat : Int) 85 = ((l.getD j 0 ^^^ 85).toNat : Int) := xor_u8 (l.getD j 0) 85
    have hj0 : (j : Int) ≥ 0 := by omega
    generalize l.getD j 0 ^^^ 85 = z at *
    generalize l.getD j 0 = y at *
    have HM := Lib.hid M2
    have hsl : (l.set j z).length = l.length := List.length_set
    have HSL := Lib.hid hsl
    clear M M2 hv1 e h hsl
    go_wp2
    go_ret
    exact ⟨some ⟨g, 0, none⟩, cp, by rw [HE.out, HSL.out]; rfl, by rw [HE.out]; exact HM.out.came, HM.out.below⟩
  · have e : spoilF l k = l := by
      unfold spoilF
      rw [if_neg h]
    have HE := Lib.hid e
    obtain ⟨bo, co, rfl, CO⟩ := hv1.bytes.came
    have HC := Lib.hid CO
    have HB := Lib.hid hv1.below
    clear e hv1 CO
    by_cases hk : k ≥ 0
    · have hd : decide (k < (l.length : Int)) = false := decide_eq_false (by omega)
      clear h
      go_wp2
      go_ret
      exact ⟨bo, co, by rw [HE.out]; rfl, by rw [HE.out]; exact HC.out, HB.out⟩
    · have hd : decide (k ≥ 0) = false := decide_eq_false hk
      clear h hk
      go_wp2
      go_ret
      exact ⟨bo, co, by rw [HE.out]; rfl, by rw [HE.out]; exact HC.out, HB.out⟩
end Ref19
end Go.Proofs.Ytdalajfjikbcaaa
