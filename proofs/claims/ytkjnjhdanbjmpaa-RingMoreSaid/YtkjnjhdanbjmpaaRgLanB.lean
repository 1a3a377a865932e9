/- The landed ring's Push. -/
import Derived.Test.YtkjnjhdanbjmpaaRgLanA
import Derived.WalkMore
import Derived.Deep.RegionHeld3
namespace Go.Proofs.Ytkjnjhdanbjmpaa
open Go.RowKit

/-- what Push answers: all, what goes, whether one goes -/
def pushR (l : List Rd) (r : Rd) : List Rd × Rd × Bool := if l.length < 8 then (l ++ [r], rd0, false) else ((l ++ [r]).drop 1, (l ++ [r]).getD 0 rd0, true)

/-- a block that a call has made itself, written over in whole -/
theorem below_setCells {B b : Nat} {W : World} (hb : B ≤ b) : ∀ (vs : List Value) (o : Nat) (w : World), Below B W w → Below B W (w.setCells b o vs)
  | [], _, _, h => h
  | v :: r, o, w, h => by
    rw [World.setCells]
    exact below_setCells hb r (o + 1) _ (h.setCell (p := ⟨b, o, none⟩) hb v)
theorem below_of {w w' : World} (h : w = w') : Below w.heap.size w w' := h ▸ Below.refl _ _
theorem results_push {fn : Func} {t p u : Tmp} {ty : TypeId} (h : fn.results = #[.tmp t, .cell p ty, .tmp u]) (tmps : Array Value) (P : Program) (w : World) :
    (results fn tmps).run P w =
      ((asAddr (tmps.getD p undef)).run P w).andThen fun a w₁ => ((loadVar ty a).run P w₁).andThen fun v w₂ => .ok (.tuple #[tmps.getD t undef, v, tmps.getD u undef]) w₂ := by
  simp only [results, h]
  simp [Sem.run_bind, Result.andThen]

/-- The operations of a drawn region, as the translation has them. -/
def push1 : Array Oper := #[
  { dst := some 8, op := .move (.tmp 0), type := 22, pos := "ring.go:14", after := #[], guard := none },
  { dst := some 9, op := .call { callee := .value (.func 14), args := #[.tmp 8, .const (.int .i64 0)], argTypes := #[22, 3] }, type := 22, pos := "ring.go:14", after := #[{ on := 0, ground := .data }], guard := none },
  { dst := some 10, op := .load 27 (.tmp 3), type := 27, pos := "ring.go:14", after := #[], guard := none },
  { dst := some 11, op := .buildSlice 22 1 #[(0, .tmp 10)], type := 22, pos := "ring.go:14", after := #[{ on := 2, ground := .data }], guard := none },
  { dst := some 12, op := .call { callee := .builtin .append, args := #[.tmp 9, .tmp 11], argTypes := #[22, 22] }, type := 22, pos := "ring.go:14", after := #[{ on := 1, ground := .data }, { on := 3, ground := .data }, { on := 1, ground := .chain }], guard := none },
  { dst := some 7, op := .assign (.tmp 12), type := 22, pos := "ring.go:14", after := #[{ on := 4, ground := .data }, { on := 4, ground := .chain }, { on := 0, ground := .phase }, { on := 1, ground := .phase }, { on := 2, ground := .phase }, { on := 3, ground := .phase }, { on := 4, ground := .phase }], guard := none }]
theorem push1_plain : Region.noSelect push1 = true := by kernel_rfl

/-- The operations of a drawn region, as the translation has them. -/
def push4 : Array Oper := #[
  { dst := some 18, op := .move (.tmp 7), type := 22, pos := "ring.go:18", after := #[], guard := none },
  { dst := some 19, op := .call { callee := .value (.func 14), args := #[.tmp 18, .const (.int .i64 1)], argTypes := #[22, 3] }, type := 22, pos := "ring.go:18", after := #[{ on := 0, ground := .data }], guard := none },
  { dst := some 20, op := .move (.tmp 7), type := 22, pos := "ring.go:18", after := #[{ on := 5, ground := .gcOnly Go.Departure.lateStores }], guard := none },
  { dst := some 21, op := .indexAddr 22 (.tmp 20) (.const (.int .i64 0)), type := 0, pos := "ring.go:18", after := #[{ on := 2, ground := .data }, { on := 5, ground := .gcOnly Go.Departure.lateStores }], guard := none },
  { dst := some 22, op := .load 27 (.tmp 21), type := 27, pos := "ring.go:18", after := #[{ on := 3, ground := .data }, { on := 5, ground := .gcOnly Go.Departure.lateStores }], guard := none },
  { dst := some 4, op := .assign (.tmp 19), type := 22, pos := "ring.go:18", after := #[{ on := 1, ground := .data }, { on := 1, ground := .chain }, { on := 0, ground := .phase }, { on := 1, ground := .phase }, { on := 2, ground := .textOnly Go.Departure.lateStores }, { on := 3, ground := .textOnly Go.Departure.lateStores }, { on := 4, ground := .textOnly Go.Departure.lateStores }], guard := none },
  { dst := none, op := .store 27 (.tmp 5) (.tmp 22), type := 0, pos := "ring.go:18", after := #[{ on := 4, ground := .data }, { on := 5, ground := .chain }, { on := 0, ground := .phase }, { on := 1, ground := .phase }, { on := 2, ground := .phase }, { on := 3, ground := .phase }, { on := 4, ground := .phase }, { on := 5, ground := .phase }], guard := none },
  { dst := some 6, op := .assign (.const (.bool true)), type := 4, pos := "ring.go:18", after := #[{ on := 6, ground := .chain }, { on := 0, ground := .phase }, { on := 1, ground := .phase }, { on := 2, ground := .phase }, { on := 3, ground := .phase }, { on := 4, ground := .phase }, { on := 5, ground := .phase }, { on := 6, ground := .phase }], guard := none }]
theorem push4_plain : Region.noSelect push4 = true := by kernel_rfl

set_option maxHeartbeats 4000000 in
set_option maxRecDepth 100000 in
theorem Push_few {w : World} {ba : Option Addr} {cap : Nat} {l : List Rd} (C : CameRd w ba cap l) (r : Rd) (h8 : l.length < 8) :
    Calls Try.prog 6 #[.slice ba l.length cap, rv r] w fun e w' => ∃ ba' cap', e = .returned (.tuple #[.slice ba' (l.length + 1) cap', rv rd0, .bool false]) ∧ CameRd w' ba' cap' (l ++ [r]) ∧ (∀ k, k < w.heap.size → Off ba' k) ∧ Below w.heap.size w w' := by
  have HC := Lib.hid C
  have HR0 := Lib.hid (RdAt.new w r 27)
  have h8' : ((l.length : Int) + 1) ≤ 8 := by omega
  have hlen : l.length + 1 ≤ 1000000000000 := by omega
  clear C h8
  unfold rv
  go_enter Try.func6, Try.ntmps6
  go_upto_region 1 with fail
  obtain ⟨W0, hW⟩ : ∃ W0, W0 = (w.alloc (.cells (ra r) 27)).alloc (.cells (ra rd0) 27) := ⟨_, rfl⟩
  have hB0 : Below w.heap.size w W0 := hW ▸ below2 w _ _
  have HR := Lib.hid (show RdAt W0 w.heap.size r from hW ▸ HR0.out.keep (below1 _ _))
  have HT : ThR W0 (w.heap.size + 1) := by
    have := ThR.new (w.alloc (.cells (ra r) 27)) (ra rd0) (ra_size rd0) 27
    rw [heap1] at this
    exact hW ▸ this
  have FC := Lib.hid (fun (w' : World) (h : Below W0.heap.size W0 w') => from_came ((HC.out.keep hB0).keep h) 0 (Nat.zero_le _))
  simp only [List.drop_zero] at FC
  have RL := Lib.hid (fun (w' : World) (h : Below W0.heap.size W0 w') => (HR.out.keep h : w'.rangeAt w.heap.size 0 (ra r).toList))
  have HB0 := Lib.hid hB0
  have HI := Lib.hid (sizeRd r)
  change Code.wp _ _ _ _ ((w.alloc (.cells (ra r) 27)).alloc (.cells (ra rd0) 27))
  rw [← hW]
  clear hW HR0 hB0 HC
  go_cut [7] from 8 to 13 (fun v wx => ∃ ba' cap', v = .slice ba' (l.length + 1) cap' ∧ CameRd wx ba' cap' (l ++ [r]) ∧ (∀ k, k < w.heap.size → Off ba' k) ∧ Off ba' (w.heap.size + 1) ∧ ThR wx (w.heap.size + 1) ∧ Below W0.heap.size W0 wx)
  case first =>
    change (Code.region 1 push1 true).wp Try.prog _ _ _
    refine wp_region_noPanic ?_
    refine wp_region_held_drew (S := fun w' => Below W0.heap.size W0 w') (by kernel_rfl) ((Below.refl _ _).drew) (fun hHeld => ?_)
    obtain ⟨w2, hX⟩ : ∃ x, x = W0.drew := ⟨_, rfl⟩
    have hb : Below W0.heap.size W0 w2 := hX ▸ (Below.refl _ _).drew
    rw [← hX] at hHeld ⊢
    have HB := hHeld; clear hHeld
    replace HT := HT.keep hb
    clear hb hX
    refine wpAnyH_take (i := 0) (oi := ({ dst := some 8, op := .move (.tmp 0), type := 22, pos := "ring.go:14", after := #[], guard := none } : Oper)) (v := ?vt1_1_) rfl push1_plain (by as_aux_lemma => kernel_rfl) (by as_aux_lemma => kernel_rfl) (fun _ _ _ h => h) (Or.inl ⟨by rfl, ?yt1_1_⟩) HB ?rt1_1_
    case yt1_1_ => (intro w hSw; (try dsimp only at hSw); go_simp; try with_reducible rfl)
    try simp only [Act.put, List.setIfInBounds_toArray, List.set_cons_zero, List.set_cons_succ]
    refine wpAnyH_take (i := 2) (oi := ({ dst := some 10, op := .load 27 (.tmp 3), type := 27, pos := "ring.go:14", after := #[], guard := none } : Oper)) rfl push1_plain (by as_aux_lemma => kernel_rfl) (by as_aux_lemma => kernel_rfl) (fun _ _ _ h => h) (yields_load (by rfl) 27 _ rfl _ _ rfl _ _ RL.out Try.underlying27 rfl HI.out) HB ?_
    try simp only [Act.put, List.setIfInBounds_toArray, List.set_cons_zero, List.set_cons_succ]
    refine wpAnyH_ready (rs := [1, 3]) (by as_aux_lemma => kernel_rfl) (by simp) ?_
    refine AllReadyH.cons (o := ({ dst := some 9, op := .call { callee := .value (.func 14), args := #[.tmp 8, .const (.int .i64 0)], argTypes := #[22, 3] }, type := 22, pos := "ring.go:14", after := #[{ on := 0, ground := .data }], guard := none } : Oper)) rfl (fun KK hK => ?_) (AllReadyH.cons (o := ({ dst := some 11, op := .buildSlice 22 1 #[(0, .tmp 10)], type := 22, pos := "ring.go:14", after := #[{ on := 2, ground := .data }], guard := none } : Oper)) rfl (fun KK hK => ?_) AllReadyH.nil)
    · skip
      rw [if_pos (by rfl)]
      go_simp
      go_at_call 14; refine (FC.out w2 HB).mono ?_; rintro e w3 ⟨ba1, rfl, hC1, _, hw⟩
      have hb := below_of hw
      replace hC1 : CameRd w3 ba1 l.length l := hw ▸ hC1
      clear hw
      go_wp2_with fail
      refine hK.out _ _ ?_ (fun hHeld => ?_)
      · exact belowT HB hb
      replace HB := hHeld; clear hHeld hK KK
      replace HT := HT.keep hb
      clear hb
      try simp only [Act.put, List.setIfInBounds_toArray, List.set_cons_zero, List.set_cons_succ]
      refine wpAnyH_ready (rs := [3]) (by as_aux_lemma => kernel_rfl) (by simp) ?_
      refine AllReadyH.cons (o := ({ dst := some 11, op := .buildSlice 22 1 #[(0, .tmp 10)], type := 22, pos := "ring.go:14", after := #[{ on := 2, ground := .data }], guard := none } : Oper)) rfl (fun KK hK => ?_) AllReadyH.nil
      rw [if_pos (by rfl)]
      refine oper_build_rd (r := r) rfl rfl ?_
      have hb := below1 w3 (.cells (ra r) 27)
      have hR := RdAt.new w3 r 27
      obtain ⟨gv, hgv⟩ : ∃ g, g = w3.heap.size := ⟨_, rfl⟩
      rw [← hgv] at hR ⊢
      clear hgv
      obtain ⟨w4, hX⟩ : ∃ x, x = w3.alloc (.cells (ra r) 27) := ⟨_, rfl⟩
      rw [← hX] at hR hb ⊢
      clear hX
      refine hK.out _ _ ?_ (fun hHeld => ?_)
      · exact belowT HB hb
      replace HB := hHeld; clear hHeld hK KK
      replace HT := HT.keep hb
      replace hC1 := hC1.keep hb
      clear hb
      try simp only [Act.put, List.setIfInBounds_toArray, List.set_cons_zero, List.set_cons_succ]
      refine wpAnyH_ready (rs := [4]) (by as_aux_lemma => kernel_rfl) (by simp) ?_
      refine AllReadyH.cons (o := ({ dst := some 12, op := .call { callee := .builtin .append, args := #[.tmp 9, .tmp 11], argTypes := #[22, 22] }, type := 22, pos := "ring.go:14", after := #[{ on := 1, ground := .data }, { on := 3, ground := .data }, { on := 1, ground := .chain }], guard := none } : Oper)) rfl (fun KK hK => ?_) AllReadyH.nil
      rw [if_pos (by rfl)]
      refine oper_append_full (l := l) rfl rfl hC1 rfl hR hlen (fun ba2 cap2 w5 hC2 hb hO2 => ?_)
      have hO := hO2 _ HT.lt
      have hO4 : ∀ k, k < w.heap.size → Off ba2 k := fun k hk => hO2 k (by have := HB.size; have := HB0.out.size; omega)
      refine hK.out _ _ ?_ (fun hHeld => ?_)
      · exact belowT HB hb
      replace HB := hHeld; clear hHeld hK KK
      replace HT := HT.keep hb
      replace hC1 := hC1.keep hb
      replace hR := hR.keep hb
      clear hb
      try simp only [Act.put, List.setIfInBounds_toArray, List.set_cons_zero, List.set_cons_succ]
      refine wpAnyH_take (i := 5) (oi := ({ dst := some 7, op := .assign (.tmp 12), type := 22, pos := "ring.go:14", after := #[{ on := 4, ground := .data }, { on := 4, ground := .chain }, { on := 0, ground := .phase }, { on := 1, ground := .phase }, { on := 2, ground := .phase }, { on := 3, ground := .phase }, { on := 4, ground := .phase }], guard := none } : Oper)) (v := ?vt1_3_) rfl push1_plain (by as_aux_lemma => kernel_rfl) (by as_aux_lemma => kernel_rfl) (fun _ _ _ h => h) (Or.inl ⟨by rfl, ?yt1_3_⟩) HB ?rt1_3_
      case yt1_3_ => (intro w hSw; (try dsimp only at hSw); go_simp; try with_reducible rfl)
      try simp only [Act.put, List.setIfInBounds_toArray, List.set_cons_zero, List.set_cons_succ]
      refine wpAnyH_done (by as_aux_lemma => kernel_rfl) ?_ _
      refine NoPanic.normal ?_
      go_wp2_with fail
      go_meet
      exact ⟨ba2, cap2, rfl, hC2, hO4, hO, HT, HB⟩
    · skip
      rw [if_pos (by rfl)]
      refine oper_build_rd (r := r) rfl rfl ?_
      have hb := below1 w2 (.cells (ra r) 27)
      have hR := RdAt.new w2 r 27
      obtain ⟨gv, hgv⟩ : ∃ g, g = w2.heap.size := ⟨_, rfl⟩
      rw [← hgv] at hR ⊢
      clear hgv
      obtain ⟨w3, hX⟩ : ∃ x, x = w2.alloc (.cells (ra r) 27) := ⟨_, rfl⟩
      rw [← hX] at hR hb ⊢
      clear hX
      refine hK.out _ _ ?_ (fun hHeld => ?_)
      · exact belowT HB hb
      replace HB := hHeld; clear hHeld hK KK
      replace HT := HT.keep hb
      clear hb
      try simp only [Act.put, List.setIfInBounds_toArray, List.set_cons_zero, List.set_cons_succ]
      refine wpAnyH_ready (rs := [1]) (by as_aux_lemma => kernel_rfl) (by simp) ?_
      refine AllReadyH.cons (o := ({ dst := some 9, op := .call { callee := .value (.func 14), args := #[.tmp 8, .const (.int .i64 0)], argTypes := #[22, 3] }, type := 22, pos := "ring.go:14", after := #[{ on := 0, ground := .data }], guard := none } : Oper)) rfl (fun KK hK => ?_) AllReadyH.nil
      rw [if_pos (by rfl)]
      go_simp
      go_at_call 14; refine (FC.out w3 HB).mono ?_; rintro e w4 ⟨ba1, rfl, hC1, _, hw⟩
      have hb := below_of hw
      replace hC1 : CameRd w4 ba1 l.length l := hw ▸ hC1
      clear hw
      go_wp2_with fail
      refine hK.out _ _ ?_ (fun hHeld => ?_)
      · exact belowT HB hb
      replace HB := hHeld; clear hHeld hK KK
      replace HT := HT.keep hb
      replace hR := hR.keep hb
      clear hb
      try simp only [Act.put, List.setIfInBounds_toArray, List.set_cons_zero, List.set_cons_succ]
      refine wpAnyH_ready (rs := [4]) (by as_aux_lemma => kernel_rfl) (by simp) ?_
      refine AllReadyH.cons (o := ({ dst := some 12, op := .call { callee := .builtin .append, args := #[.tmp 9, .tmp 11], argTypes := #[22, 22] }, type := 22, pos := "ring.go:14", after := #[{ on := 1, ground := .data }, { on := 3, ground := .data }, { on := 1, ground := .chain }], guard := none } : Oper)) rfl (fun KK hK => ?_) AllReadyH.nil
      rw [if_pos (by rfl)]
      refine oper_append_full (l := l) rfl rfl hC1 rfl hR hlen (fun ba2 cap2 w5 hC2 hb hO2 => ?_)
      have hO := hO2 _ HT.lt
      have hO4 : ∀ k, k < w.heap.size → Off ba2 k := fun k hk => hO2 k (by have := HB.size; have := HB0.out.size; omega)
      refine hK.out _ _ ?_ (fun hHeld => ?_)
      · exact belowT HB hb
      replace HB := hHeld; clear hHeld hK KK
      replace HT := HT.keep hb
      replace hR := hR.keep hb
      replace hC1 := hC1.keep hb
      clear hb
      try simp only [Act.put, List.setIfInBounds_toArray, List.set_cons_zero, List.set_cons_succ]
      refine wpAnyH_take (i := 5) (oi := ({ dst := some 7, op := .assign (.tmp 12), type := 22, pos := "ring.go:14", after := #[{ on := 4, ground := .data }, { on := 4, ground := .chain }, { on := 0, ground := .phase }, { on := 1, ground := .phase }, { on := 2, ground := .phase }, { on := 3, ground := .phase }, { on := 4, ground := .phase }], guard := none } : Oper)) (v := ?vt1_4_) rfl push1_plain (by as_aux_lemma => kernel_rfl) (by as_aux_lemma => kernel_rfl) (fun _ _ _ h => h) (Or.inl ⟨by rfl, ?yt1_4_⟩) HB ?rt1_4_
      case yt1_4_ => (intro w hSw; (try dsimp only at hSw); go_simp; try with_reducible rfl)
      try simp only [Act.put, List.setIfInBounds_toArray, List.set_cons_zero, List.set_cons_succ]
      refine wpAnyH_done (by as_aux_lemma => kernel_rfl) ?_ _
      refine NoPanic.normal ?_
      go_wp2_with fail
      go_meet
      exact ⟨ba2, cap2, rfl, hC2, hO4, hO, HT, HB⟩
  case rest =>
    rename World => wx
    obtain ⟨ba', cap', rfl, hC, hO4, hO, hT, hB⟩ := hcut
    have BB := HB0.out.trans (hB.mono HB0.out.size)
    have L1 := Lib.hid (load_rd (RdAt.put hT rd0))
    have HC := Lib.hid (hC.put hO rd0)
    have HP := Lib.hid (below_setCells (b := w.heap.size + 1) (Nat.le_succ _) (rc rd0) 0 _ BB)
    have HT := Lib.hid hT
    have HO := Lib.hid hO4
    clear hC hO hO4 hT hB BB HR RL FC HB0 HI
    go_wp2_with (refine list_put_rd (r := rd0) rfl rfl rfl rfl HT.out ?_)
    refine bodyPost_ret (v := .tuple #[.slice ba' (l.length + 1) cap', rv rd0, .bool false]) ?_ rfl ⟨_, _, rfl, HC.out, HO.out, HP.out⟩
    rw [results_push rfl]
    simp [asAddr, L1.out]

theorem from_len {w : World} {ba : Option Addr} {cap : Nat} {l : List Rd} (C : CameRd w ba cap l) (k : Nat) (hk : k ≤ l.length) (n m : Nat) (hn : l.length = n) (hm : n - k = m) :
    Calls Try.prog 14 #[.slice ba n cap, .int .i64 k] w fun e w' => ∃ ba', e = .returned (.slice ba' m m) ∧ CameRd w' ba' m (l.drop k) ∧ (∀ g, Off ba g → Off ba' g) ∧ w = w' := by
  subst hn
  have e : m = (l.drop k).length := by rw [List.length_drop]; omega
  rw [e]
  refine (from_came C k hk).mono ?_
  rintro e w' ⟨ba', h1, h2, h3, rfl⟩
  exact ⟨ba', h1, h2, h3, rfl⟩
theorem CameRd.first {w : World} {b o cap : Nat} {l : List Rd} (C : CameRd w (some ⟨b, o, Option.none⟩) cap l) (h : 0 < l.length) : w.rangeAt b o (rc (l.getD 0 rd0)) := by
  obtain ⟨b', o', e, L⟩ := C.lies h
  injection e with e
  injection e with e1 e2
  subst e1 e2
  have := L 0 h
  rwa [Nat.zero_mul, Nat.add_zero] at this
theorem oper_load_rd {o : Oper} {a : Act} {w : World} {K : Act → World → Prop} {Q : Exit → Act → World → Prop} {x : Operand} (ho : o.op = .load 27 x)
    (b off : Nat) (hx : a.eval x = .pointer (some ⟨b, off, none⟩)) (r : Rd) (hc : w.rangeAt b off (rc r)) (h : K (a.put o.dst (rv r)) w) : Oper.wp Try.prog o a w K Q :=
  wp_load_mid 27 x ho b off hx (rc r) _ hc Try.underlying27 rfl (by rw [sizeRd r, ra_size, rc_len]) h

set_option maxHeartbeats 4000000 in
set_option maxRecDepth 100000 in
theorem Push_many {w : World} {ba : Option Addr} {cap : Nat} {l : List Rd} (C : CameRd w ba cap l) (r : Rd) (h8 : 8 ≤ l.length) (hlen : l.length + 1 ≤ 1000000000000) :
    Calls Try.prog 6 #[.slice ba l.length cap, rv r] w fun e w' => ∃ ba' cap', e = .returned (.tuple #[.slice ba' l.length cap', rv ((l ++ [r]).getD 0 rd0), .bool true]) ∧ CameRd w' ba' cap' ((l ++ [r]).drop 1) ∧ (∀ k, k < w.heap.size → Off ba' k) ∧ Below w.heap.size w w' := by
  have hql : (l ++ [r]).length = l.length + 1 := by rw [List.length_append, List.length_singleton]
  obtain ⟨q, hq⟩ : ∃ q, q = l ++ [r] := ⟨_, rfl⟩
  obtain ⟨x0, hx0⟩ : ∃ x, x = q.getD 0 rd0 := ⟨_, rfl⟩
  rw [← hq] at hql ⊢
  rw [← hx0]
  have HQ := Lib.hid hql
  have HX := Lib.hid hx0
  have HE := Lib.hid hq
  clear hql hx0 hq
  have HC := Lib.hid C
  have HR0 := Lib.hid (RdAt.new w r 27)
  have h8' : decide (((l.length : Int) + 1) ≤ 8) = false := decide_eq_false (by omega)
  have h8n : ¬ ((l.length : Int) + 1) ≤ 8 := by omega
  have hl1 : (l.length : Int) + 1 ≤ 9223372036854775807 := by omega
  clear C h8
  unfold rv
  go_enter Try.func6, Try.ntmps6
  go_upto_region 1 with fail
  obtain ⟨W0, hW⟩ : ∃ W0, W0 = (w.alloc (.cells (ra r) 27)).alloc (.cells (ra rd0) 27) := ⟨_, rfl⟩
  have hB0 : Below w.heap.size w W0 := hW ▸ below2 w _ _
  have HR := Lib.hid (show RdAt W0 w.heap.size r from hW ▸ HR0.out.keep (below1 _ _))
  have HT : ThR W0 (w.heap.size + 1) := by
    have := ThR.new (w.alloc (.cells (ra r) 27)) (ra rd0) (ra_size rd0) 27
    rw [heap1] at this
    exact hW ▸ this
  have FC := Lib.hid (fun (w' : World) (h : Below W0.heap.size W0 w') => from_came ((HC.out.keep hB0).keep h) 0 (Nat.zero_le _))
  simp only [List.drop_zero] at FC
  have RL := Lib.hid (fun (w' : World) (h : Below W0.heap.size W0 w') => (HR.out.keep h : w'.rangeAt w.heap.size 0 (ra r).toList))
  have HB0 := Lib.hid hB0
  have HI := Lib.hid (sizeRd r)
  change Code.wp _ _ _ _ ((w.alloc (.cells (ra r) 27)).alloc (.cells (ra rd0) 27))
  rw [← hW]
  clear hW HR0 hB0 HC
  go_cut [7] from 8 to 13 (fun v wx => ∃ ba' cap', v = .slice ba' (l.length + 1) cap' ∧ CameRd wx ba' cap' q ∧ (∀ k, k < w.heap.size → Off ba' k) ∧ Off ba' (w.heap.size + 1) ∧ ThR wx (w.heap.size + 1) ∧ Below W0.heap.size W0 wx)
  case first =>
    change (Code.region 1 push1 true).wp Try.prog _ _ _
    refine wp_region_noPanic ?_
    refine wp_region_held_drew (S := fun w' => Below W0.heap.size W0 w') (by kernel_rfl) ((Below.refl _ _).drew) (fun hHeld => ?_)
    obtain ⟨w2, hX⟩ : ∃ x, x = W0.drew := ⟨_, rfl⟩
    have hb : Below W0.heap.size W0 w2 := hX ▸ (Below.refl _ _).drew
    rw [← hX] at hHeld ⊢
    have HB := hHeld; clear hHeld
    replace HT := HT.keep hb
    clear hb hX
    refine wpAnyH_take (i := 0) (oi := ({ dst := some 8, op := .move (.tmp 0), type := 22, pos := "ring.go:14", after := #[], guard := none } : Oper)) (v := ?vt2_1_) rfl push1_plain (by as_aux_lemma => kernel_rfl) (by as_aux_lemma => kernel_rfl) (fun _ _ _ h => h) (Or.inl ⟨by rfl, ?yt2_1_⟩) HB ?rt2_1_
    case yt2_1_ => (intro w hSw; (try dsimp only at hSw); go_simp; try with_reducible rfl)
    try simp only [Act.put, List.setIfInBounds_toArray, List.set_cons_zero, List.set_cons_succ]
    refine wpAnyH_take (i := 2) (oi := ({ dst := some 10, op := .load 27 (.tmp 3), type := 27, pos := "ring.go:14", after := #[], guard := none } : Oper)) rfl push1_plain (by as_aux_lemma => kernel_rfl) (by as_aux_lemma => kernel_rfl) (fun _ _ _ h => h) (yields_load (by rfl) 27 _ rfl _ _ rfl _ _ RL.out Try.underlying27 rfl HI.out) HB ?_
    try simp only [Act.put, List.setIfInBounds_toArray, List.set_cons_zero, List.set_cons_succ]
    refine wpAnyH_ready (rs := [1, 3]) (by as_aux_lemma => kernel_rfl) (by simp) ?_
    refine AllReadyH.cons (o := ({ dst := some 9, op := .call { callee := .value (.func 14), args := #[.tmp 8, .const (.int .i64 0)], argTypes := #[22, 3] }, type := 22, pos := "ring.go:14", after := #[{ on := 0, ground := .data }], guard := none } : Oper)) rfl (fun KK hK => ?_) (AllReadyH.cons (o := ({ dst := some 11, op := .buildSlice 22 1 #[(0, .tmp 10)], type := 22, pos := "ring.go:14", after := #[{ on := 2, ground := .data }], guard := none } : Oper)) rfl (fun KK hK => ?_) AllReadyH.nil)
    · skip
      rw [if_pos (by rfl)]
      go_simp
      go_at_call 14; refine (FC.out w2 HB).mono ?_; rintro e w3 ⟨ba1, rfl, hC1, _, hw⟩
      have hb := below_of hw
      replace hC1 : CameRd w3 ba1 l.length l := hw ▸ hC1
      clear hw
      go_wp2_with fail
      refine hK.out _ _ ?_ (fun hHeld => ?_)
      · exact belowT HB hb
      replace HB := hHeld; clear hHeld hK KK
      replace HT := HT.keep hb
      clear hb
      try simp only [Act.put, List.setIfInBounds_toArray, List.set_cons_zero, List.set_cons_succ]
      refine wpAnyH_ready (rs := [3]) (by as_aux_lemma => kernel_rfl) (by simp) ?_
      refine AllReadyH.cons (o := ({ dst := some 11, op := .buildSlice 22 1 #[(0, .tmp 10)], type := 22, pos := "ring.go:14", after := #[{ on := 2, ground := .data }], guard := none } : Oper)) rfl (fun KK hK => ?_) AllReadyH.nil
      rw [if_pos (by rfl)]
      refine oper_build_rd (r := r) rfl rfl ?_
      have hb := below1 w3 (.cells (ra r) 27)
      have hR := RdAt.new w3 r 27
      obtain ⟨gv, hgv⟩ : ∃ g, g = w3.heap.size := ⟨_, rfl⟩
      rw [← hgv] at hR ⊢
      clear hgv
      obtain ⟨w4, hX⟩ : ∃ x, x = w3.alloc (.cells (ra r) 27) := ⟨_, rfl⟩
      rw [← hX] at hR hb ⊢
      clear hX
      refine hK.out _ _ ?_ (fun hHeld => ?_)
      · exact belowT HB hb
      replace HB := hHeld; clear hHeld hK KK
      replace HT := HT.keep hb
      replace hC1 := hC1.keep hb
      clear hb
      try simp only [Act.put, List.setIfInBounds_toArray, List.set_cons_zero, List.set_cons_succ]
      refine wpAnyH_ready (rs := [4]) (by as_aux_lemma => kernel_rfl) (by simp) ?_
      refine AllReadyH.cons (o := ({ dst := some 12, op := .call { callee := .builtin .append, args := #[.tmp 9, .tmp 11], argTypes := #[22, 22] }, type := 22, pos := "ring.go:14", after := #[{ on := 1, ground := .data }, { on := 3, ground := .data }, { on := 1, ground := .chain }], guard := none } : Oper)) rfl (fun KK hK => ?_) AllReadyH.nil
      rw [if_pos (by rfl)]
      refine oper_append_full (l := l) rfl rfl hC1 rfl hR hlen (fun ba2 cap2 w5 hC2 hb hO2 => ?_)
      have hO := hO2 _ HT.lt
      have hO4 : ∀ k, k < w.heap.size → Off ba2 k := fun k hk => hO2 k (by have := HB.size; have := HB0.out.size; omega)
      refine hK.out _ _ ?_ (fun hHeld => ?_)
      · exact belowT HB hb
      replace HB := hHeld; clear hHeld hK KK
      replace HT := HT.keep hb
      replace hC1 := hC1.keep hb
      replace hR := hR.keep hb
      clear hb
      try simp only [Act.put, List.setIfInBounds_toArray, List.set_cons_zero, List.set_cons_succ]
      refine wpAnyH_take (i := 5) (oi := ({ dst := some 7, op := .assign (.tmp 12), type := 22, pos := "ring.go:14", after := #[{ on := 4, ground := .data }, { on := 4, ground := .chain }, { on := 0, ground := .phase }, { on := 1, ground := .phase }, { on := 2, ground := .phase }, { on := 3, ground := .phase }, { on := 4, ground := .phase }], guard := none } : Oper)) (v := ?vt2_3_) rfl push1_plain (by as_aux_lemma => kernel_rfl) (by as_aux_lemma => kernel_rfl) (fun _ _ _ h => h) (Or.inl ⟨by rfl, ?yt2_3_⟩) HB ?rt2_3_
      case yt2_3_ => (intro w hSw; (try dsimp only at hSw); go_simp; try with_reducible rfl)
      try simp only [Act.put, List.setIfInBounds_toArray, List.set_cons_zero, List.set_cons_succ]
      refine wpAnyH_done (by as_aux_lemma => kernel_rfl) ?_ _
      refine NoPanic.normal ?_
      go_wp2_with fail
      go_meet
      exact ⟨ba2, cap2, rfl, HE.out ▸ hC2, hO4, hO, HT, HB⟩
    · skip
      rw [if_pos (by rfl)]
      refine oper_build_rd (r := r) rfl rfl ?_
      have hb := below1 w2 (.cells (ra r) 27)
      have hR := RdAt.new w2 r 27
      obtain ⟨gv, hgv⟩ : ∃ g, g = w2.heap.size := ⟨_, rfl⟩
      rw [← hgv] at hR ⊢
      clear hgv
      obtain ⟨w3, hX⟩ : ∃ x, x = w2.alloc (.cells (ra r) 27) := ⟨_, rfl⟩
      rw [← hX] at hR hb ⊢
      clear hX
      refine hK.out _ _ ?_ (fun hHeld => ?_)
      · exact belowT HB hb
      replace HB := hHeld; clear hHeld hK KK
      replace HT := HT.keep hb
      clear hb
      try simp only [Act.put, List.setIfInBounds_toArray, List.set_cons_zero, List.set_cons_succ]
      refine wpAnyH_ready (rs := [1]) (by as_aux_lemma => kernel_rfl) (by simp) ?_
      refine AllReadyH.cons (o := ({ dst := some 9, op := .call { callee := .value (.func 14), args := #[.tmp 8, .const (.int .i64 0)], argTypes := #[22, 3] }, type := 22, pos := "ring.go:14", after := #[{ on := 0, ground := .data }], guard := none } : Oper)) rfl (fun KK hK => ?_) AllReadyH.nil
      rw [if_pos (by rfl)]
      go_simp
      go_at_call 14; refine (FC.out w3 HB).mono ?_; rintro e w4 ⟨ba1, rfl, hC1, _, hw⟩
      have hb := below_of hw
      replace hC1 : CameRd w4 ba1 l.length l := hw ▸ hC1
      clear hw
      go_wp2_with fail
      refine hK.out _ _ ?_ (fun hHeld => ?_)
      · exact belowT HB hb
      replace HB := hHeld; clear hHeld hK KK
      replace HT := HT.keep hb
      replace hR := hR.keep hb
      clear hb
      try simp only [Act.put, List.setIfInBounds_toArray, List.set_cons_zero, List.set_cons_succ]
      refine wpAnyH_ready (rs := [4]) (by as_aux_lemma => kernel_rfl) (by simp) ?_
      refine AllReadyH.cons (o := ({ dst := some 12, op := .call { callee := .builtin .append, args := #[.tmp 9, .tmp 11], argTypes := #[22, 22] }, type := 22, pos := "ring.go:14", after := #[{ on := 1, ground := .data }, { on := 3, ground := .data }, { on := 1, ground := .chain }], guard := none } : Oper)) rfl (fun KK hK => ?_) AllReadyH.nil
      rw [if_pos (by rfl)]
      refine oper_append_full (l := l) rfl rfl hC1 rfl hR hlen (fun ba2 cap2 w5 hC2 hb hO2 => ?_)
      have hO := hO2 _ HT.lt
      have hO4 : ∀ k, k < w.heap.size → Off ba2 k := fun k hk => hO2 k (by have := HB.size; have := HB0.out.size; omega)
      refine hK.out _ _ ?_ (fun hHeld => ?_)
      · exact belowT HB hb
      replace HB := hHeld; clear hHeld hK KK
      replace HT := HT.keep hb
      replace hR := hR.keep hb
      replace hC1 := hC1.keep hb
      clear hb
      try simp only [Act.put, List.setIfInBounds_toArray, List.set_cons_zero, List.set_cons_succ]
      refine wpAnyH_take (i := 5) (oi := ({ dst := some 7, op := .assign (.tmp 12), type := 22, pos := "ring.go:14", after := #[{ on := 4, ground := .data }, { on := 4, ground := .chain }, { on := 0, ground := .phase }, { on := 1, ground := .phase }, { on := 2, ground := .phase }, { on := 3, ground := .phase }, { on := 4, ground := .phase }], guard := none } : Oper)) (v := ?vt2_4_) rfl push1_plain (by as_aux_lemma => kernel_rfl) (by as_aux_lemma => kernel_rfl) (fun _ _ _ h => h) (Or.inl ⟨by rfl, ?yt2_4_⟩) HB ?rt2_4_
      case yt2_4_ => (intro w hSw; (try dsimp only at hSw); go_simp; try with_reducible rfl)
      try simp only [Act.put, List.setIfInBounds_toArray, List.set_cons_zero, List.set_cons_succ]
      refine wpAnyH_done (by as_aux_lemma => kernel_rfl) ?_ _
      refine NoPanic.normal ?_
      go_wp2_with fail
      go_meet
      exact ⟨ba2, cap2, rfl, HE.out ▸ hC2, hO4, hO, HT, HB⟩
  case rest =>
    rename World => wx
    obtain ⟨ba', cap', rfl, hC, hO4, hO, hT, hB⟩ := hcut
    have HO4 := Lib.hid hO4
    clear hO4
    have BB := Lib.hid (HB0.out.trans (hB.mono HB0.out.size))
    have hq := HQ.out
    have hd1 : (0 : Int) < (l.length : Int) + 1 := by omega
    have hd2 : 0 < l.length + 1 := by omega
    obtain ⟨b, o, rfl, _⟩ := hC.lies (by omega)
    have HQ0 : Hid (0 < q.length) := Lib.hid (by omega)
    have FD := Lib.hid (fun (w' : World) (h : CameRd w' (some ⟨b, o, none⟩) cap' q) => from_len h 1 HQ0.out (l.length + 1) l.length HQ.out (by omega))
    have HF := Lib.hid (fun (w' : World) (h : CameRd w' (some ⟨b, o, none⟩) cap' q) => (show w'.rangeAt b o (rc x0) from HX.out ▸ h.first HQ0.out))
    clear hq HR RL FC HB0 HI hB
    go_upto_region 4 with fail
    go_cut [4, 6] from 18 to 23 (fun v v6 wx => v6 = .bool true ∧ ∃ ba3 cap3, v = .slice ba3 l.length cap3 ∧ CameRd wx ba3 cap3 (q.drop 1) ∧ (∀ k, k < w.heap.size → Off ba3 k) ∧ RdAt wx (w.heap.size + 1) x0 ∧ Below w.heap.size w wx)
    case first =>
      change (Code.region 4 push4 true).wp Try.prog _ _ _
      refine wp_region_noPanic ?_
      refine wp_region_held_drew (S := fun w' => Below w.heap.size w w') (by kernel_rfl) (BB.out.drew) (fun hHeld => ?_)
      obtain ⟨w20, hX⟩ : ∃ x, x = wx.drew := ⟨_, rfl⟩
      have hb : Below wx.heap.size wx w20 := hX ▸ (Below.refl _ _).drew
      rw [← hX] at hHeld ⊢
      have HB := hHeld; clear hHeld
      replace hC := hC.keep hb
      replace hT := hT.keep hb
      clear hb hX
      refine wpAnyH_take (i := 0) (oi := ({ dst := some 18, op := .move (.tmp 7), type := 22, pos := "ring.go:18", after := #[], guard := none } : Oper)) (v := ?vt3_1_) rfl push4_plain (by as_aux_lemma => kernel_rfl) (by as_aux_lemma => kernel_rfl) (fun _ _ _ h => h) (Or.inl ⟨by rfl, ?yt3_1_⟩) HB ?rt3_1_
      case yt3_1_ => (intro w hSw; (try dsimp only at hSw); go_simp; try with_reducible rfl)
      try simp only [Act.put, List.setIfInBounds_toArray, List.set_cons_zero, List.set_cons_succ]
      refine wpAnyH_take (i := 2) (oi := ({ dst := some 20, op := .move (.tmp 7), type := 22, pos := "ring.go:18", after := #[{ on := 5, ground := .gcOnly Go.Departure.lateStores }], guard := none } : Oper)) (v := ?vt3_2_) rfl push4_plain (by as_aux_lemma => kernel_rfl) (by as_aux_lemma => kernel_rfl) (fun _ _ _ h => h) (Or.inl ⟨by rfl, ?yt3_2_⟩) HB ?rt3_2_
      case yt3_2_ => (intro w hSw; (try dsimp only at hSw); go_simp; try with_reducible rfl)
      try simp only [Act.put, List.setIfInBounds_toArray, List.set_cons_zero, List.set_cons_succ]
      refine wpAnyH_take (i := 3) (oi := ({ dst := some 21, op := .indexAddr 22 (.tmp 20) (.const (.int .i64 0)), type := 0, pos := "ring.go:18", after := #[{ on := 2, ground := .data }, { on := 5, ground := .gcOnly Go.Departure.lateStores }], guard := none } : Oper)) (v := ?vt3_3_) rfl push4_plain (by as_aux_lemma => kernel_rfl) (by as_aux_lemma => kernel_rfl) (fun _ _ _ h => h) (Or.inl ⟨by rfl, ?yt3_3_⟩) HB ?rt3_3_
      case yt3_3_ => (intro w hSw; (try dsimp only at hSw); go_simp; try with_reducible rfl)
      try simp only [Act.put, List.setIfInBounds_toArray, List.set_cons_zero, List.set_cons_succ]
      refine wpAnyH_ready (rs := [1, 4]) (by as_aux_lemma => kernel_rfl) (by simp) ?_
      refine AllReadyH.cons (o := ({ dst := some 19, op := .call { callee := .value (.func 14), args := #[.tmp 18, .const (.int .i64 1)], argTypes := #[22, 3] }, type := 22, pos := "ring.go:18", after := #[{ on := 0, ground := .data }], guard := none } : Oper)) rfl (fun KK hK => ?_) (AllReadyH.cons (o := ({ dst := some 22, op := .load 27 (.tmp 21), type := 27, pos := "ring.go:18", after := #[{ on := 3, ground := .data }, { on := 5, ground := .gcOnly Go.Departure.lateStores }], guard := none } : Oper)) rfl (fun KK hK => ?_) AllReadyH.nil)
      · skip
        rw [if_pos (by rfl)]
        go_simp
        go_at_call 14; refine (FD.out w20 hC).mono ?_; rintro e w21 ⟨ba1, rfl, hC1, hO1, hw⟩
        have hb := below_of hw
        have hO3 := hO1 _ hO
        have hO5 : ∀ k, k < w.heap.size → Off ba1 k := fun k hk => hO1 _ (HO4.out k hk)
        clear hw hO1
        go_wp2_with fail
        refine hK.out _ _ ?_ (fun hHeld => ?_)
        · exact belowT HB hb
        replace HB := hHeld; clear hHeld hK KK
        replace hC := hC.keep hb
        replace hT := hT.keep hb
        clear hb
        try simp only [Act.put, List.setIfInBounds_toArray, List.set_cons_zero, List.set_cons_succ]
        refine wpAnyH_take (i := 5) (oi := ({ dst := some 4, op := .assign (.tmp 19), type := 22, pos := "ring.go:18", after := #[{ on := 1, ground := .data }, { on := 1, ground := .chain }, { on := 0, ground := .phase }, { on := 1, ground := .phase }, { on := 2, ground := .textOnly Go.Departure.lateStores }, { on := 3, ground := .textOnly Go.Departure.lateStores }, { on := 4, ground := .textOnly Go.Departure.lateStores }], guard := none } : Oper)) (v := ?vt3_4_) rfl push4_plain (by as_aux_lemma => kernel_rfl) (by as_aux_lemma => kernel_rfl) (fun _ _ _ h => h) (Or.inl ⟨by rfl, ?yt3_4_⟩) HB ?rt3_4_
        case yt3_4_ => (intro w hSw; (try dsimp only at hSw); go_simp; try with_reducible rfl)
        try simp only [Act.put, List.setIfInBounds_toArray, List.set_cons_zero, List.set_cons_succ]
        refine wpAnyH_ready (rs := [4]) (by as_aux_lemma => kernel_rfl) (by simp) ?_
        refine AllReadyH.cons (o := ({ dst := some 22, op := .load 27 (.tmp 21), type := 27, pos := "ring.go:18", after := #[{ on := 3, ground := .data }, { on := 5, ground := .gcOnly Go.Departure.lateStores }], guard := none } : Oper)) rfl (fun KK hK => ?_) AllReadyH.nil
        rw [if_pos (by rfl)]
        refine oper_load_rd rfl b o rfl x0 (HF.out _ hC) ?_
        obtain ⟨w22, hX⟩ : ∃ x, x = w21 := ⟨_, rfl⟩
        have hb : Below w21.heap.size w21 w22 := below_of hX.symm
        rw [← hX]
        clear hX
        refine hK.out _ _ ?_ (fun hHeld => ?_)
        · exact belowT HB hb
        replace HB := hHeld; clear hHeld hK KK
        replace hC := hC.keep hb
        replace hT := hT.keep hb
        replace hC1 := hC1.keep hb
        clear hb
        try simp only [Act.put, List.setIfInBounds_toArray, List.set_cons_zero, List.set_cons_succ]
        refine wpAnyH_ready (rs := [6]) (by as_aux_lemma => kernel_rfl) (by simp) ?_
        refine AllReadyH.cons (o := ({ dst := none, op := .store 27 (.tmp 5) (.tmp 22), type := 0, pos := "ring.go:18", after := #[{ on := 4, ground := .data }, { on := 5, ground := .chain }, { on := 0, ground := .phase }, { on := 1, ground := .phase }, { on := 2, ground := .phase }, { on := 3, ground := .phase }, { on := 4, ground := .phase }, { on := 5, ground := .phase }], guard := none } : Oper)) rfl (fun KK hK => ?_) AllReadyH.nil
        rw [if_pos (by rfl)]
        refine oper_put_rd (r := x0) rfl rfl rfl hT ?_
        have hC3 := hC1.put hO3 x0
        have hL := RdAt.put hT x0
        have HN := below_setCells (b := w.heap.size + 1) (Nat.le_succ _) (rc x0) 0 _ HB
        obtain ⟨w23, hX⟩ : ∃ x, x = w22.setCells (w.heap.size + 1) 0 (rc x0) := ⟨_, rfl⟩
        rw [← hX] at hC3 hL HN ⊢
        clear hX
        refine hK.out _ _ ?_ (fun hHeld => ?_)
        · exact HN
        replace HB := hHeld; clear hHeld hK KK HN
        try simp only [Act.put]
        refine wpAnyH_take (i := 7) (oi := ({ dst := some 6, op := .assign (.const (.bool true)), type := 4, pos := "ring.go:18", after := #[{ on := 6, ground := .chain }, { on := 0, ground := .phase }, { on := 1, ground := .phase }, { on := 2, ground := .phase }, { on := 3, ground := .phase }, { on := 4, ground := .phase }, { on := 5, ground := .phase }, { on := 6, ground := .phase }], guard := none } : Oper)) (v := ?vt3_5_) rfl push4_plain (by as_aux_lemma => kernel_rfl) (by as_aux_lemma => kernel_rfl) (fun _ _ _ h => h) (Or.inl ⟨by rfl, ?yt3_5_⟩) HB ?rt3_5_
        case yt3_5_ => (intro w hSw; (try dsimp only at hSw); go_simp; try with_reducible rfl)
        try simp only [Act.put, List.setIfInBounds_toArray, List.set_cons_zero, List.set_cons_succ]
        refine wpAnyH_done (by as_aux_lemma => kernel_rfl) ?_ _
        refine NoPanic.normal ?_
        go_wp2_with fail
        go_meet
        exact ⟨rfl, ba1, _, rfl, hC3, hO5, hL, HB⟩
      · skip
        rw [if_pos (by rfl)]
        refine oper_load_rd rfl b o rfl x0 (HF.out _ hC) ?_
        obtain ⟨w21, hX⟩ : ∃ x, x = w20 := ⟨_, rfl⟩
        have hb : Below w20.heap.size w20 w21 := below_of hX.symm
        rw [← hX]
        clear hX
        refine hK.out _ _ ?_ (fun hHeld => ?_)
        · exact belowT HB hb
        replace HB := hHeld; clear hHeld hK KK
        replace hC := hC.keep hb
        replace hT := hT.keep hb
        clear hb
        try simp only [Act.put, List.setIfInBounds_toArray, List.set_cons_zero, List.set_cons_succ]
        refine wpAnyH_ready (rs := [1]) (by as_aux_lemma => kernel_rfl) (by simp) ?_
        refine AllReadyH.cons (o := ({ dst := some 19, op := .call { callee := .value (.func 14), args := #[.tmp 18, .const (.int .i64 1)], argTypes := #[22, 3] }, type := 22, pos := "ring.go:18", after := #[{ on := 0, ground := .data }], guard := none } : Oper)) rfl (fun KK hK => ?_) AllReadyH.nil
        rw [if_pos (by rfl)]
        go_simp
        go_at_call 14; refine (FD.out w21 hC).mono ?_; rintro e w22 ⟨ba1, rfl, hC1, hO1, hw⟩
        have hb := below_of hw
        have hO3 := hO1 _ hO
        have hO5 : ∀ k, k < w.heap.size → Off ba1 k := fun k hk => hO1 _ (HO4.out k hk)
        clear hw hO1
        go_wp2_with fail
        refine hK.out _ _ ?_ (fun hHeld => ?_)
        · exact belowT HB hb
        replace HB := hHeld; clear hHeld hK KK
        replace hC := hC.keep hb
        replace hT := hT.keep hb
        clear hb
        try simp only [Act.put, List.setIfInBounds_toArray, List.set_cons_zero, List.set_cons_succ]
        refine wpAnyH_take (i := 5) (oi := ({ dst := some 4, op := .assign (.tmp 19), type := 22, pos := "ring.go:18", after := #[{ on := 1, ground := .data }, { on := 1, ground := .chain }, { on := 0, ground := .phase }, { on := 1, ground := .phase }, { on := 2, ground := .textOnly Go.Departure.lateStores }, { on := 3, ground := .textOnly Go.Departure.lateStores }, { on := 4, ground := .textOnly Go.Departure.lateStores }], guard := none } : Oper)) (v := ?vt3_6_) rfl push4_plain (by as_aux_lemma => kernel_rfl) (by as_aux_lemma => kernel_rfl) (fun _ _ _ h => h) (Or.inl ⟨by rfl, ?yt3_6_⟩) HB ?rt3_6_
        case yt3_6_ => (intro w hSw; (try dsimp only at hSw); go_simp; try with_reducible rfl)
        try simp only [Act.put, List.setIfInBounds_toArray, List.set_cons_zero, List.set_cons_succ]
        refine wpAnyH_ready (rs := [6]) (by as_aux_lemma => kernel_rfl) (by simp) ?_
        refine AllReadyH.cons (o := ({ dst := none, op := .store 27 (.tmp 5) (.tmp 22), type := 0, pos := "ring.go:18", after := #[{ on := 4, ground := .data }, { on := 5, ground := .chain }, { on := 0, ground := .phase }, { on := 1, ground := .phase }, { on := 2, ground := .phase }, { on := 3, ground := .phase }, { on := 4, ground := .phase }, { on := 5, ground := .phase }], guard := none } : Oper)) rfl (fun KK hK => ?_) AllReadyH.nil
        rw [if_pos (by rfl)]
        refine oper_put_rd (r := x0) rfl rfl rfl hT ?_
        have hC3 := hC1.put hO3 x0
        have hL := RdAt.put hT x0
        have HN := below_setCells (b := w.heap.size + 1) (Nat.le_succ _) (rc x0) 0 _ HB
        obtain ⟨w23, hX⟩ : ∃ x, x = w22.setCells (w.heap.size + 1) 0 (rc x0) := ⟨_, rfl⟩
        rw [← hX] at hC3 hL HN ⊢
        clear hX
        refine hK.out _ _ ?_ (fun hHeld => ?_)
        · exact HN
        replace HB := hHeld; clear hHeld hK KK HN
        try simp only [Act.put]
        refine wpAnyH_take (i := 7) (oi := ({ dst := some 6, op := .assign (.const (.bool true)), type := 4, pos := "ring.go:18", after := #[{ on := 6, ground := .chain }, { on := 0, ground := .phase }, { on := 1, ground := .phase }, { on := 2, ground := .phase }, { on := 3, ground := .phase }, { on := 4, ground := .phase }, { on := 5, ground := .phase }, { on := 6, ground := .phase }], guard := none } : Oper)) (v := ?vt3_7_) rfl push4_plain (by as_aux_lemma => kernel_rfl) (by as_aux_lemma => kernel_rfl) (fun _ _ _ h => h) (Or.inl ⟨by rfl, ?yt3_7_⟩) HB ?rt3_7_
        case yt3_7_ => (intro w hSw; (try dsimp only at hSw); go_simp; try with_reducible rfl)
        try simp only [Act.put, List.setIfInBounds_toArray, List.set_cons_zero, List.set_cons_succ]
        refine wpAnyH_done (by as_aux_lemma => kernel_rfl) ?_ _
        refine NoPanic.normal ?_
        go_wp2_with fail
        go_meet
        exact ⟨rfl, ba1, _, rfl, hC3, hO5, hL, HB⟩
    case rest =>
      rename World => wy
      obtain ⟨rfl, ba3, cap3, rfl, hC3, hO3, hL3, hB3⟩ := hcut
      have L1 := Lib.hid (load_rd hL3)
      have H3 := Lib.hid hC3
      have HB3 := Lib.hid hB3
      have HO3 := Lib.hid hO3
      clear hC3 hO3 HO4 hL3 hB3 FD HF BB hC hT HX HE HQ HQ0
      go_wp2_with fail
      refine bodyPost_ret (v := .tuple #[.slice ba3 l.length cap3, rv x0, .bool true]) ?_ rfl ⟨_, _, rfl, by rw [← List.drop_one]; exact H3.out, HO3.out, HB3.out⟩
      rw [results_push rfl]
      simp [asAddr, L1.out]

/-- pushed behind what is kept of all that were pushed -/
theorem push_kept (p : List Rd) (r : Rd) : (pushR (keptR p) r).1 = keptR (p ++ [r]) ∧ (pushR (keptR p) r).2.2 = decide (8 ≤ p.length) ∧ goneR (p ++ [r]) = if 8 ≤ p.length then goneR p ++ [(pushR (keptR p) r).2.1] else goneR p := by
  unfold pushR
  by_cases h : p.length < 8
  · obtain ⟨e1, e2, e3⟩ := push_few p r h
    rw [if_pos e3, e1, e2, if_neg (by omega), decide_eq_false (by omega)]
    exact ⟨rfl, rfl, rfl⟩
  · obtain ⟨e1, e2, e3⟩ := push_many p r (by omega)
    rw [if_neg (by omega), e1, e2, if_pos (by omega), decide_eq_true (by omega)]
    exact ⟨rfl, rfl, rfl⟩
/-- Push, whatever came in -/
theorem Push_any {w : World} {ba : Option Addr} {cap : Nat} {l : List Rd} (C : CameRd w ba cap l) (r : Rd) (hlen : l.length + 1 ≤ 1000000000000) :
    Calls Try.prog 6 #[.slice ba l.length cap, rv r] w fun e w' => ∃ ba' cap', e = .returned (.tuple #[.slice ba' (pushR l r).1.length cap', rv (pushR l r).2.1, .bool (pushR l r).2.2]) ∧ CameRd w' ba' cap' (pushR l r).1 ∧ (∀ k, k < w.heap.size → Off ba' k) ∧ Below w.heap.size w w' := by
  by_cases h : l.length < 8
  · have e : pushR l r = (l ++ [r], rd0, false) := by unfold pushR; rw [if_pos h]
    rw [e]
    simp only [List.length_append, List.length_singleton]
    exact Push_few C r h
  · have e : pushR l r = ((l ++ [r]).drop 1, (l ++ [r]).getD 0 rd0, true) := by unfold pushR; rw [if_neg h]
    rw [e]
    simp only [List.length_drop, List.length_append, List.length_singleton, Nat.add_sub_cancel]
    exact Push_many C r (by omega) hlen
end Go.Proofs.Ytkjnjhdanbjmpaa
