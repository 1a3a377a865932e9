/- RingOrder. -/
import Derived.Test.YtkjnjhdanbjmpaaRgAwake
namespace Go.Proofs.Ytkjnjhdanbjmpaa
open Go.RowKit

theorem CameRd.grown {w w' : World} {ba : Option Addr} {cap : Nat} {l : List Rd} {v : Value} (C : CameRd w ba cap l) (hg : w.grownBy w' v.ownBlock) (hO : ∀ g, v.ownBlock = some g → Off ba g) : CameRd w' ba cap l :=
  ⟨C.le, C.max, fun h => by
    obtain ⟨b, o, e, L⟩ := C.lies h
    refine ⟨b, o, e, fun j hj k u hu => hg.cell (L j hj k u hu) fun h2 => ?_⟩
    exact hO b h2.symm ⟨b, o, Option.none⟩ e rfl, C.nil⟩
theorem append_none_rd {w : World} (B : Nat) (ty e : TypeId) (i : TypeInfo) (size : Nat) (t : TypeId) (ht : Try.prog.underlying t = some (.slice e)) (hi : Try.prog.info? e = some i)
    (v : Value) (n : Nat) (xs : List Value) (hown : w.ownsRowF B e size v n xs) : (Builtin.append_ #[t, t] ty #[v, .slice none 0 0]).run Try.prog w = .ok v w := by
  rcases hown.2 with ⟨rfl, rfl⟩ | ⟨g, cap, cur, fz, rfl, _, _, _, hnc, _⟩
  · simp [Builtin.append_, run_underlying ht, sizeOf, typeInfo, hi, Builtin.lenOf, Builtin.firstCells]
  · simp [Builtin.append_, run_underlying ht, sizeOf, typeInfo, hi, Builtin.lenOf, Builtin.firstCells, hnc, storeCells]
/-- those that came in, or none, behind those of the call's own -/
theorem list_append_all {ops : Array Oper} {rest : List Oper} {o : Oper} {a : Act} {w : World} {Q : Exit → Act → World → Prop} {s x : Operand} {B : Nat} {W0 : World} {v : Value} {l m : List Rd} {ba : Option Addr} {c : Nat} (hgd : o.guard = none) (ho : o.op = .call { callee := .builtin .append, args := #[s, x], argTypes := #[22, 22] })
    (hs : a.eval s = v) (hb : Rds B W0 w v l) (hx : a.eval x = .slice ba m.length c) (C : CameRd w ba c m) (h0 : m = [] → ba = none) (hlen : l.length + m.length ≤ 1000000000000)
    (h : ∀ v' w', Rds B W0 w' v' (l ++ m) → wpList Try.prog ops Q rest (a.put o.dst v') w') : wpList Try.prog ops Q (o :: rest) a w := by
  by_cases hm : 0 < m.length
  · exact list_append_rds hgd ho hs hb hx C hm hlen fun v' w' k _ => h v' w' k
  · have e : m = [] := List.length_eq_zero_iff.1 (by omega)
    obtain rfl : ba = none := h0 e
    obtain ⟨_, rfl⟩ := C.nil rfl
    subst e
    rw [List.append_nil] at h
    obtain ⟨i, hi, _, _, _⟩ := infoRd_parts
    have hr := append_none_rd (w := w) B o.type 27 i 24 22 Try.underlying22 hi v l.length (rcs l) hb.1
    refine wpList_plain hgd fun K hK => ?_
    rw [List.length_nil] at hx
    unfold Oper.wp execOp
    simp only [ho, resolve, invoke, builtin, Sem.run_bind, Sem.run_pure, Result.andThen_ok, List.map_toArray, List.map_cons, List.map_nil, hs, hx, hr]
    exact hK _ _ (h v w hb)
theorem take_len (l : List Rd) (j : Nat) (h : j ≤ l.length) : (l.take j).length = j := by rw [List.length_take]; omega

/-- The operations of a drawn region, as the translation has them. -/
def order20 : Array Oper := #[
  { dst := some 60, op := .move (.tmp 10), type := 22, pos := "law.go:69", after := #[], guard := none },
  { dst := some 61, op := .move (.tmp 11), type := 3, pos := "law.go:69", after := #[], guard := none },
  { dst := some 62, op := .indexAddr 22 (.tmp 60) (.tmp 61), type := 0, pos := "law.go:69", after := #[{ on := 0, ground := .data }, { on := 1, ground := .data }], guard := none },
  { dst := some 63, op := .load 27 (.tmp 62), type := 27, pos := "law.go:69", after := #[{ on := 2, ground := .data }], guard := none },
  { dst := some 64, op := .move (.tmp 0), type := 22, pos := "law.go:69", after := #[], guard := none },
  { dst := some 65, op := .move (.tmp 11), type := 3, pos := "law.go:69", after := #[], guard := none },
  { dst := some 66, op := .indexAddr 22 (.tmp 64) (.tmp 65), type := 0, pos := "law.go:69", after := #[{ on := 4, ground := .data }, { on := 5, ground := .data }], guard := none },
  { dst := some 67, op := .load 27 (.tmp 66), type := 27, pos := "law.go:69", after := #[{ on := 6, ground := .data }], guard := none },
  { dst := some 68, op := .binOp .neq 27 (.tmp 63) (.tmp 67) 27, type := 4, pos := "law.go:69", after := #[{ on := 3, ground := .data }, { on := 7, ground := .data }], guard := none }]
theorem order20_plain : Region.noSelect order20 = true := by kernel_rfl

set_option maxHeartbeats 8000000 in
set_option maxRecDepth 100000 in
theorem order_core {w : World} {ba : Option Addr} {cap : Nat} {l : List Rd} (C : CameRd w ba cap l) (h60 : (l.length : Int) ≤ 60) :
    Calls Try.prog 3 #[.slice ba l.length cap] w fun e w' => e = .returned (.bool true) ∧ Below w.heap.size w w' := by
  have HC := Lib.hid C
  have AW := Lib.hid awake_any
  clear C
  go_enter Try.func3, Try.ntmps3
  go_wp2
  go_loopw [3, 4, 18] (fun v3 v4 i wr => ∃ j : Nat, j ≤ l.length ∧ i = .int .i64 j ∧ ∃ ba cap, v3 = .slice ba (keptR (l.take j)).length cap ∧ CameRd wr ba cap (keptR (l.take j)) ∧ Rds w.heap.size w wr v4 (goneR (l.take j)) ∧ (j = 0 → ba = none)) (fun _ _ i _ => l.length - (intOf i).toNat)
  case atStart => exact ⟨0, Nat.zero_le _, rfl, none, 0, rfl, CameRd.nought _, Rds.nil w, fun _ => rfl⟩
  case round =>
    obtain ⟨j, hj, rfl, ba1, cap1, rfl, C1, hG, hz⟩ := hrel
    by_cases hc : (j : Int) < l.length
    · obtain ⟨b, o, rfl, L⟩ := (HC.out.keep hG.below).lies (by omega)
      have hx := L j (by omega)
      have hd : (j : Int) ≥ 0 := by omega
      have htl := take_len l j hj
      have hlk : (keptR (l.take j)).length + 1 ≤ 1000000000000 := by rw [kept_len, htl]; omega
      obtain ⟨k1, k2, k3⟩ := push_kept (l.take j) (l.getD j rd0)
      rw [← kept_next l j (by omega)] at k1 k3
      rw [htl] at k2 k3
      have PU := Lib.hid (fun (w' : World) (C : CameRd w' ba1 cap1 (keptR (l.take j))) => Push_any C (l.getD j rd0) hlk)
      rw [k1, k2] at PU
      have n0 := kept_len (l.take j)
      have n1 := kept_len (l.take (j + 1))
      rw [htl] at n0
      rw [take_len l (j + 1) (by omega)] at n1
      have gl : (goneR (l.take j)).length + 1 ≤ 1000000000000 := by rw [gone_len, htl]; omega
      generalize (pushR (keptR (l.take j)) (l.getD j rd0)).2.1 = x at *
      generalize l.getD j rd0 = r at *
      clear hz
      have GE := Lib.hid k3
      generalize hkl : keptR (l.take j) = kl at *
      generalize hkn : keptR (l.take (j + 1)) = kn at *
      generalize hgl : goneR (l.take j) = gl0 at *
      have HX := Lib.hid (fun c : Array Value => (show (wr.alloc (.cells c 27)).rangeAt b (o + j * 24) (rc r) from range_keep hx (below1 wr _)))
      have HX0 := Lib.hid hx
      have C2 := Lib.hid (C1.keep (below1 wr (.cells (ra r) 27)))
      have HG := Lib.hid hG
      have HKN := Lib.hid hkn
      clear L hx k1 k2 k3 hlk C1 hG hkl hkn hgl htl
      by_cases h8 : 8 ≤ j
      · have e0 : kl.length = 8 := by omega
        have e1 : kn.length = 8 := by omega
        rw [e0] at PU ⊢
        rw [e1, decide_eq_true h8] at PU
        rw [if_pos h8] at GE
        have GL := Lib.hid gl
        clear n0 n1 gl h8
        have LN := Lib.hid e1
        clear e0 e1
        go_wp2_with (first | refine list_load_rd rfl _ rfl b (o + j * 24) rfl r HX0.out ?_ | refine list_store_rd rfl _ _ rfl _ r rfl rfl rfl ?_ | refine list_load_rd rfl _ rfl wr.heap.size 0 rfl r (RdAt.new wr r _) ?_)
        refine (PU.out _ C2.out).mono ?_; rintro e w2 ⟨ba2, cap2, rfl, hC2, hO2, hb2⟩
        have hb3 := belowT (belowT (below1 wr (.cells (ra r) 27)) hb2) (below1 w2 (.cells (ra x) 27))
        have G3 := HG.out.keep hb3
        have C3 := hC2.keep (below1 w2 (.cells (ra x) 27))
        have X3 := RdAt.new w2 x 27
        have hO : ∀ g, u4.ownBlock = some g → Off ba2 g := fun g hg => hO2 g (by have := (HG.out.1.lt g hg).2; rw [heap1]; omega)
        have hd := Lib.hid hO
        have GG := Lib.hid (G3.keep (below1 _ (.cells (ra x) 27)))
        have CC := Lib.hid (C3.keep (below1 _ (.cells (ra x) 27)))
        have X4 := Lib.hid X3
        have X5 := RdAt.new (w2.alloc (.cells (ra x) 27)) x 27
        rw [heap1] at X5
        have X6 := Lib.hid X5
        clear hb2 hb3 G3 hC2 hO2 C3 X3 hO PU C2 HX HX0 HG X5
        go_wp2_with (first | refine list_store_rd rfl _ _ rfl _ x rfl rfl rfl ?_ | refine list_load_rd rfl _ rfl w2.heap.size 0 rfl x X4.out ?_ | refine list_build_rd (r := x) rfl rfl rfl ?_ | (at_builtin; refine list_append_rd (v := u4) (g := w2.heap.size + 1) (f := x) rfl rfl rfl GG.out (by simp; rfl) X6.out GL.out ?_))
        intro v' w' hG' hg'
        have C9 := Lib.hid (CC.out.grown hg' hd.out)
        have G9 := Lib.hid hG'
        clear hG' hg' GG CC X4 X6 hd
        go_wp2
        go_roundw
        case rel => exact ⟨j + 1, by omega, rfl, ba2, cap2, by rw [HKN.out, LN.out], by rw [HKN.out]; exact C9.out, by rw [GE.out]; exact G9.out, fun h => by omega⟩
        case measure => simp [intOf]; omega
      · have e0 : kl.length = j := by omega
        have e1 : kn.length = j + 1 := by omega
        have h8n : (j : Int) + 1 ≤ 8 := by omega
        rw [e0] at PU ⊢
        rw [e1, decide_eq_false h8] at PU
        rw [if_neg h8] at GE
        clear n0 n1 gl h8
        have LN := Lib.hid e1
        clear e0 e1
        go_wp2_with (first | refine list_load_rd rfl _ rfl b (o + j * 24) rfl r HX0.out ?_ | refine list_store_rd rfl _ _ rfl _ r rfl rfl rfl ?_ | refine list_load_rd rfl _ rfl wr.heap.size 0 rfl r (RdAt.new wr r _) ?_)
        refine (PU.out _ C2.out).mono ?_; rintro e w2 ⟨ba2, cap2, rfl, hC2, hO2, hb2⟩
        have hb3 := belowT (belowT (below1 wr (.cells (ra r) 27)) hb2) (below1 w2 (.cells (ra x) 27))
        have G9 := Lib.hid (HG.out.keep hb3)
        have C9 := Lib.hid (hC2.keep (below1 w2 (.cells (ra x) 27)))
        clear hb2 hb3 hC2 hO2 PU C2 HX HX0 HG
        go_wp2_with (refine list_store_rd rfl _ _ rfl _ x rfl rfl rfl ?_)
        go_roundw
        case rel => exact ⟨j + 1, by omega, rfl, ba2, cap2, by rw [HKN.out, LN.out], by rw [HKN.out]; exact C9.out, by rw [GE.out]; exact G9.out, fun h => by omega⟩
        case measure => simp [intOf]; omega
    · obtain rfl : j = l.length := by omega
      rw [List.take_length] at C1 hG ⊢
      have hz2 : keptR l = [] → ba1 = none := fun e => hz (by have := kept_len l; rw [e, List.length_nil] at this; omega)
      have hgk := gone_kept l
      have hlen : (goneR l).length + (keptR l).length ≤ 1000000000000 := by
        have := congrArg List.length hgk
        rw [List.length_append] at this
        omega
      have HA := Lib.hid (fun (x y : List Rd) (h : x = keptR l) (g : y = goneR l) => (show y ++ x = l by rw [h, g]; exact hgk))
      generalize hkl : keptR l = kl at *
      generalize hgl : goneR l = gl at *
      have HE := Lib.hid hgk
      have H1 := Lib.hid C1
      have H2 := Lib.hid hG
      have H3 := Lib.hid hz2
      have H4 := Lib.hid hlen
      clear C1 hG hz hz2 hlen HA hkl hgl hgk hj hc
      go_wp2_with (at_builtin; refine list_append_all (v := u4) (m := kl) rfl rfl rfl H2.out rfl H1.out H3.out H4.out ?_)
      intro v' w1 hA
      rw [HE.out] at hA
      have HW := Lib.hid hA.below
      obtain ⟨b2, c2, rfl, A⟩ := hA.came
      have HC1 := Lib.hid (HC.out.keep hA.below)
      have HA := Lib.hid A
      clear hA A H1 H2 H3 H4 HE HC
      go_wp2
      go_loopw [57] (fun i wr => ∃ j : Nat, j ≤ l.length ∧ i = .int .i64 j ∧ Below w1.heap.size w1 wr) (fun i _ => l.length - (intOf i).toNat)
      case atStart => exact ⟨0, Nat.zero_le _, rfl, Below.refl _ _⟩
      case round =>
        obtain ⟨j, hj, rfl, hB⟩ := hrel
        by_cases hc : (j : Int) < l.length
        · obtain ⟨b, o, rfl, L⟩ := (HC1.out.keep hB).lies (by omega)
          obtain ⟨b2, o2, rfl, L2⟩ := (HA.out.keep hB).lies (by omega)
          have hx := L j (by omega)
          have hy := L2 j (by omega)
          have hd : (j : Int) ≥ 0 := by omega
          generalize l.getD j rd0 = r at *
          have E1 := rd_same r
          have RA : Hid (∀ w', Below wr.heap.size wr w' → w'.rangeAt b2 (o2 + j * 24) (ra r).toList) := Lib.hid fun w' h => range_keep hy h
          have RB : Hid (∀ w', Below wr.heap.size wr w' → w'.rangeAt b (o + j * 24) (ra r).toList) := Lib.hid fun w' h => range_keep hx h
          have I1 := Lib.hid (sizeRd r)
          have HB := Lib.hid hB
          clear L L2 hx hy hB HA HC1 HW
          go_upto_region 20 with fail
          change (Code.region 20 order20 true).wp Try.prog _ _ _
          refine wp_region_noPanic ?_
          refine wp_region_held_drew (S := fun w' => Below wr.heap.size wr w') (by kernel_rfl) ((Below.refl _ _).drew) (fun hHeld => ?_)
          refine wpAnyH_take (i := 0) (oi := ({ dst := some 60, op := .move (.tmp 10), type := 22, pos := "law.go:69", after := #[], guard := none } : Oper)) (v := ?vs5_0) rfl order20_plain (by as_aux_lemma => kernel_rfl) (by as_aux_lemma => kernel_rfl) (fun _ _ _ h => h) (Or.inl ⟨by rfl, ?ys5_0⟩) (by assumption) ?rs5_0
          case ys5_0 => (intro w hSw; (try dsimp only at hSw); go_simp; try with_reducible rfl)
          try simp only [Act.put, List.setIfInBounds_toArray, List.set_cons_zero, List.set_cons_succ]
          refine wpAnyH_take (i := 1) (oi := ({ dst := some 61, op := .move (.tmp 11), type := 3, pos := "law.go:69", after := #[], guard := none } : Oper)) (v := ?vs5_1) rfl order20_plain (by as_aux_lemma => kernel_rfl) (by as_aux_lemma => kernel_rfl) (fun _ _ _ h => h) (Or.inl ⟨by rfl, ?ys5_1⟩) (by assumption) ?rs5_1
          case ys5_1 => (intro w hSw; (try dsimp only at hSw); go_simp; try with_reducible rfl)
          try simp only [Act.put, List.setIfInBounds_toArray, List.set_cons_zero, List.set_cons_succ]
          refine wpAnyH_take (i := 2) (oi := ({ dst := some 62, op := .indexAddr 22 (.tmp 60) (.tmp 61), type := 0, pos := "law.go:69", after := #[{ on := 0, ground := .data }, { on := 1, ground := .data }], guard := none } : Oper)) (v := ?vs5_2) rfl order20_plain (by as_aux_lemma => kernel_rfl) (by as_aux_lemma => kernel_rfl) (fun _ _ _ h => h) (Or.inl ⟨by rfl, ?ys5_2⟩) (by assumption) ?rs5_2
          case ys5_2 => (intro w hSw; (try dsimp only at hSw); go_simp; try with_reducible rfl)
          try simp only [Act.put, List.setIfInBounds_toArray, List.set_cons_zero, List.set_cons_succ]
          refine wpAnyH_take (i := 3) (oi := ({ dst := some 63, op := .load 27 (.tmp 62), type := 27, pos := "law.go:69", after := #[{ on := 2, ground := .data }], guard := none } : Oper)) rfl order20_plain (by as_aux_lemma => kernel_rfl) (by as_aux_lemma => kernel_rfl) (fun _ _ _ h => h) (yields_load (by rfl) 27 _ rfl _ _ rfl _ _ RA.out Try.underlying27 rfl I1.out) (by assumption) ?_
          try simp only [Act.put, List.setIfInBounds_toArray, List.set_cons_zero, List.set_cons_succ]
          refine wpAnyH_take (i := 4) (oi := ({ dst := some 64, op := .move (.tmp 0), type := 22, pos := "law.go:69", after := #[], guard := none } : Oper)) (v := ?vs5_4) rfl order20_plain (by as_aux_lemma => kernel_rfl) (by as_aux_lemma => kernel_rfl) (fun _ _ _ h => h) (Or.inl ⟨by rfl, ?ys5_4⟩) (by assumption) ?rs5_4
          case ys5_4 => (intro w hSw; (try dsimp only at hSw); go_simp; try with_reducible rfl)
          try simp only [Act.put, List.setIfInBounds_toArray, List.set_cons_zero, List.set_cons_succ]
          refine wpAnyH_take (i := 5) (oi := ({ dst := some 65, op := .move (.tmp 11), type := 3, pos := "law.go:69", after := #[], guard := none } : Oper)) (v := ?vs5_5) rfl order20_plain (by as_aux_lemma => kernel_rfl) (by as_aux_lemma => kernel_rfl) (fun _ _ _ h => h) (Or.inl ⟨by rfl, ?ys5_5⟩) (by assumption) ?rs5_5
          case ys5_5 => (intro w hSw; (try dsimp only at hSw); go_simp; try with_reducible rfl)
          try simp only [Act.put, List.setIfInBounds_toArray, List.set_cons_zero, List.set_cons_succ]
          refine wpAnyH_take (i := 6) (oi := ({ dst := some 66, op := .indexAddr 22 (.tmp 64) (.tmp 65), type := 0, pos := "law.go:69", after := #[{ on := 4, ground := .data }, { on := 5, ground := .data }], guard := none } : Oper)) (v := ?vs5_6) rfl order20_plain (by as_aux_lemma => kernel_rfl) (by as_aux_lemma => kernel_rfl) (fun _ _ _ h => h) (Or.inl ⟨by rfl, ?ys5_6⟩) (by assumption) ?rs5_6
          case ys5_6 => (intro w hSw; (try dsimp only at hSw); go_simp; try with_reducible rfl)
          try simp only [Act.put, List.setIfInBounds_toArray, List.set_cons_zero, List.set_cons_succ]
          refine wpAnyH_take (i := 7) (oi := ({ dst := some 67, op := .load 27 (.tmp 66), type := 27, pos := "law.go:69", after := #[{ on := 6, ground := .data }], guard := none } : Oper)) rfl order20_plain (by as_aux_lemma => kernel_rfl) (by as_aux_lemma => kernel_rfl) (fun _ _ _ h => h) (yields_load (by rfl) 27 _ rfl _ _ rfl _ _ RB.out Try.underlying27 rfl I1.out) (by assumption) ?_
          try simp only [Act.put, List.setIfInBounds_toArray, List.set_cons_zero, List.set_cons_succ]
          refine wpAnyH_take (i := 8) (oi := ({ dst := some 68, op := .binOp .neq 27 (.tmp 63) (.tmp 67) 27, type := 4, pos := "law.go:69", after := #[{ on := 3, ground := .data }, { on := 7, ground := .data }], guard := none } : Oper)) (v := ?vs5_8) rfl order20_plain (by as_aux_lemma => kernel_rfl) (by as_aux_lemma => kernel_rfl) (fun _ _ _ h => h) (Or.inl ⟨by rfl, ?ys5_8⟩) (by assumption) ?rs5_8
          case ys5_8 => (intro w hSw; (try dsimp only at hSw); go_simp; try with_reducible rfl)
          try simp only [Act.put, List.setIfInBounds_toArray, List.set_cons_zero, List.set_cons_succ]
          refine wpAnyH_done (by as_aux_lemma => kernel_rfl) ?_ _
          refine NoPanic.normal ?_
          go_wp2
          go_roundw
          case rel => exact ⟨j + 1, by omega, rfl, HB.out.trans (Below.mono (by assumption) HB.out.size)⟩
          case measure => simp [intOf]; omega
        · obtain rfl : j = l.length := by omega
          have B2 := Lib.hid (HW.out.trans (hB.mono HW.out.size))
          clear HC1 HA HW hB
          go_wp2_with fail
          refine (AW.out _).mono ?_; rintro e w9 ⟨rfl, hb9⟩
          go_wp2_with fail
          go_ret
          exact ⟨rfl, B2.out.trans (hb9.mono B2.out.size)⟩

theorem order_long (ba : Option Addr) (len cap : Nat) (w : World) (_hl : (len : Int) ≤ 9223372036854775807) (h : (60 : Int) < len) (AW : Hid (∀ w, Calls Try.prog 5 #[] w fun e w' => e = .returned (.bool true) ∧ Below w.heap.size w w')) :
    Calls Try.prog 3 #[.slice ba len cap] w fun e w' => e = .returned (.bool true) ∧ Below w.heap.size w w' := by
  go_enter Try.func3, Try.ntmps3
  go_wp2_with fail
  refine (AW.out _).mono ?_; rintro e w1 ⟨rfl, hb1⟩
  go_wp2_with fail
  go_ret
  exact ⟨rfl, hb1⟩

theorem Order_all {w : World} {ba : Option Addr} {cap : Nat} {l : List Rd} (C : CameRd w ba cap l) :
    Calls Try.prog 3 #[.slice ba l.length cap] w fun e w' => e = .returned (.bool true) ∧ Below w.heap.size w w' := by
  have a1 := C.le
  have a2 := C.max
  unfold maxLen at a2
  by_cases h : (60 : Int) < l.length
  · exact order_long ba l.length cap w (by omega) h (Lib.hid awake_any)
  · exact order_core C (by omega)
end Go.Proofs.Ytkjnjhdanbjmpaa
