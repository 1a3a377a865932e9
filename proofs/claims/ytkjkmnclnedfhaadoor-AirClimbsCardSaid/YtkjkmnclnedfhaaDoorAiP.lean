/- The landed air's Part. -/
import Derived.Test.YtkjkmnclnedfhaaDoorTrQ
import Derived.Test.YtkjkmnclnedfhaaDoorAiCfg
import Derived.Test.YtkjkmnclnedfhaaDoorRds
import Derived.Test.YtkjkmnclnedfhaaDoorObLanA
import Derived.BigRegion
import Derived.Laws.IdiomCopy
namespace Go.Proofs.YtkjkmnclnedfhaaDoor
open Go.RowKit Obs

theorem oper_copy_n {o : Oper} {a : Act} {w : World} {K : Act → World → Prop} {d s : Operand} {g b k dc sl sc : Nat} {cs : List Value} {Q : Exit → Act → World → Prop}
    (ho : o.op = .call { callee := .builtin .copy, args := #[d, s], argTypes := #[50, 50] }) (hd : a.eval d = .slice (some ⟨g, 0, none⟩) cs.length dc) (hs : a.eval s = .slice (some ⟨b, k, none⟩) sl sc)
    (hl : cs.length ≤ sl) (hsrc : w.rangeAt b k cs) (T : w.there g 0 cs.length) (h1 : ∀ v ∈ cs, v.oneCell' = true) (h : K (a.put o.dst (goInt cs.length)) (w.setCells g 0 cs)) : Oper.wp Tryd.prog o a w K Q := by
  have hrun := run_copy_cells (P := Tryd.prog) w 50 50 o.type 2 g 0 cs.length dc ⟨b, k, none⟩ sl sc cs Tryd.underlying50 (by kernel_rfl) (Nat.min_eq_right hl).symm (fun j v hj => by rw [Addr.add_lit]; exact hsrc j v hj) (fun j hj => (T j hj).1) (fun j hj => (T j hj).2) h1
  unfold Oper.wp execOp
  simp only [ho, resolve, invoke, builtin, Sem.run_bind, Sem.run_pure, Result.andThen_ok, List.map_toArray, List.map_cons, List.map_nil, hd, hs, hrun]
  exact h
theorem oper_copy_b {o : Oper} {a : Act} {w : World} {K : Act → World → Prop} {d s : Operand} {g b k dc sl sc : Nat} {cs : List Value} {Q : Exit → Act → World → Prop}
    (ho : o.op = .call { callee := .builtin .copy, args := #[d, s], argTypes := #[74, 74] }) (hd : a.eval d = .slice (some ⟨g, 0, none⟩) cs.length dc) (hs : a.eval s = .slice (some ⟨b, k, none⟩) sl sc)
    (hl : cs.length ≤ sl) (hsrc : w.rangeAt b k cs) (T : w.there g 0 cs.length) (h1 : ∀ v ∈ cs, v.oneCell' = true) (h : K (a.put o.dst (goInt cs.length)) (w.setCells g 0 cs)) : Oper.wp Tryd.prog o a w K Q := by
  have hrun := run_copy_cells (P := Tryd.prog) w 74 74 o.type 4 g 0 cs.length dc ⟨b, k, none⟩ sl sc cs Tryd.underlying74 (by kernel_rfl) (Nat.min_eq_right hl).symm (fun j v hj => by rw [Addr.add_lit]; exact hsrc j v hj) (fun j hj => (T j hj).1) (fun j hj => (T j hj).2) h1
  unfold Oper.wp execOp
  simp only [ho, resolve, invoke, builtin, Sem.run_bind, Sem.run_pure, Result.andThen_ok, List.map_toArray, List.map_cons, List.map_nil, hd, hs, hrun]
  exact h
/-- The operations of a drawn region, as the translation has them. -/
def apart5 : Array Oper := #[
  { dst := some 16, op := .slice 22 (.tmp 6) none none none, type := 50, pos := "air.go:38", after := #[], guard := none },
  { dst := some 17, op := .fieldAddr 55 (.tmp 2) 0, type := 0, pos := "air.go:38", after := #[], guard := none },
  { dst := some 18, op := .move (.tmp 1), type := 3, pos := "air.go:38", after := #[], guard := none },
  { dst := some 19, op := .slice 52 (.tmp 17) (some (.tmp 18)) none none, type := 50, pos := "air.go:38", after := #[{ on := 1, ground := .data }, { on := 2, ground := .data }], guard := none },
  { dst := some 20, op := .call { callee := .builtin .copy, args := #[.tmp 16, .tmp 19], argTypes := #[50, 50] }, type := 3, pos := "air.go:38", after := #[{ on := 0, ground := .data }, { on := 3, ground := .data }], guard := none }]
theorem apart5_plain : Region.noSelect apart5 = true := by kernel_rfl

/-- The operations of a drawn region, as the translation has them. -/
def apart6 : Array Oper := #[
  { dst := some 21, op := .slice 23 (.tmp 7) none none none, type := 74, pos := "air.go:39", after := #[], guard := none },
  { dst := some 22, op := .fieldAddr 55 (.tmp 2) 1, type := 0, pos := "air.go:39", after := #[], guard := none },
  { dst := some 23, op := .move (.tmp 1), type := 3, pos := "air.go:39", after := #[], guard := none },
  { dst := some 24, op := .slice 53 (.tmp 22) (some (.tmp 23)) none none, type := 74, pos := "air.go:39", after := #[{ on := 1, ground := .data }, { on := 2, ground := .data }], guard := none },
  { dst := some 25, op := .call { callee := .builtin .copy, args := #[.tmp 21, .tmp 24], argTypes := #[74, 74] }, type := 3, pos := "air.go:39", after := #[{ on := 0, ground := .data }, { on := 3, ground := .data }], guard := none }]
theorem apart6_plain : Region.noSelect apart6 = true := by kernel_rfl

/-- The operations of a drawn region, as the translation has them. -/
def apart7 : Array Oper := #[
  { dst := some 26, op := .load 22 (.tmp 6), type := 22, pos := "air.go:40", after := #[], guard := none },
  { dst := some 27, op := .load 23 (.tmp 7), type := 23, pos := "air.go:40", after := #[{ on := 2, ground := .gcOnly Go.Departure.lateStores }], guard := none },
  { dst := none, op := .store 22 (.tmp 4) (.tmp 26), type := 0, pos := "air.go:40", after := #[{ on := 0, ground := .data }, { on := 0, ground := .phase }, { on := 1, ground := .textOnly Go.Departure.lateStores }], guard := none },
  { dst := none, op := .store 23 (.tmp 5) (.tmp 27), type := 0, pos := "air.go:40", after := #[{ on := 1, ground := .data }, { on := 2, ground := .chain }, { on := 0, ground := .phase }, { on := 1, ground := .phase }, { on := 2, ground := .phase }], guard := none }]
theorem apart7_plain : Region.noSelect apart7 = true := by kernel_rfl

set_option maxHeartbeats 8000000 in
set_option maxRecDepth 100000 in
theorem Part_core6 (q : Array Value) (x0 x1 x2 : Int) (t0 t1 t2 : Bool) (w : World)
    (HX : Hid (∀ (W : World) b, W.rangeAt b 0 q.toList → W.rangeAt b 6 [.int .i64 x0, .int .i64 x1, .int .i64 x2])) (HT : Hid (∀ (W : World) b, W.rangeAt b 0 q.toList → W.rangeAt b 18 [.bool t0, .bool t1, .bool t2]))
    : Calls Tryd.prog 18 #[.agg q, .int .i64 6] w fun e w' => e = .returned (.tuple #[.agg #[.int .i64 x0, .int .i64 x1, .int .i64 x2], .agg #[.bool t0, .bool t1, .bool t2]]) ∧ Below w.heap.size w w' := by
  have hS1 := (((((Sp.none w).more q.toList 55).more [.int .i64 0, .int .i64 0, .int .i64 0] 22).more [.bool false, .bool false, .bool false] 23).more [.int .i64 0, .int .i64 0, .int .i64 0] 22).more [.bool false, .bool false, .bool false] 23
  simp only [heap1] at hS1
  have HS1 := Lib.hid (show Sp w [(w.heap.size, q.toList.map some), (w.heap.size + 1, [some (.int .i64 0), some (.int .i64 0), some (.int .i64 0)]), (w.heap.size + 1 + 1, [some (.bool false), some (.bool false), some (.bool false)]), (w.heap.size + 1 + 1 + 1, [some (.int .i64 0), some (.int .i64 0), some (.int .i64 0)]), (w.heap.size + 1 + 1 + 1 + 1, [some (.bool false), some (.bool false), some (.bool false)])] (((((w.alloc (.cells q 55)).alloc (.cells #[.int .i64 0, .int .i64 0, .int .i64 0] 22)).alloc (.cells #[.bool false, .bool false, .bool false] 23)).alloc (.cells #[.int .i64 0, .int .i64 0, .int .i64 0] 22)).alloc (.cells #[.bool false, .bool false, .bool false] 23)) from hS1)
  clear hS1
  go_enter Tryd.func18, Tryd.ntmps18
  go_upto_region 5 with fail
  obtain ⟨w1, hX, hS⟩ := (HS1.out).named
  rw [← hX]
  clear hX HS1
  have HS2 := Lib.hid hS
  clear hS
  obtain ⟨w2, hX, hS⟩ := (HS2.out).named
  rw [← hX]
  clear hX HS2
  have HK := hS
  have BK := Lib.hid hS.below
  clear hS
  go_cut [] from 16 to 21 (fun wx => Sp w [(w.heap.size, q.toList.map some), (w.heap.size + 1, [some (.int .i64 0), some (.int .i64 0), some (.int .i64 0)]), (w.heap.size + 1 + 1, [some (.bool false), some (.bool false), some (.bool false)]), (w.heap.size + 1 + 1 + 1, [some (.int .i64 x0), some (.int .i64 x1), some (.int .i64 x2)]), (w.heap.size + 1 + 1 + 1 + 1, [some (.bool false), some (.bool false), some (.bool false)])] wx)
  case first =>
    change (Code.region 5 apart5 true).wp Tryd.prog _ _ _
    refine wp_region_noPanic ?_
    refine wp_region_held_drew (S := fun w' => Below w.heap.size w w') (by kernel_rfl) (BK.out.drew) (fun hHeld => ?_)
    obtain ⟨w3, hX⟩ : ∃ x, x = w2.drew := ⟨_, rfl⟩
    have hb : Below w2.heap.size w2 w3 := hX ▸ (Below.refl _ _).drew
    rw [← hX] at hHeld ⊢
    have HB := hHeld; clear hHeld
    replace HK := HK.keep hb
    clear hb hX
    refine wpAnyH_take (i := 0) (oi := ({ dst := some 16, op := .slice 22 (.tmp 6) none none none, type := 50, pos := "air.go:38", after := #[], guard := none } : Oper)) (v := ?vt1_1_) rfl apart5_plain (by as_aux_lemma => kernel_rfl) (by as_aux_lemma => kernel_rfl) (fun _ _ _ h => h) (Or.inl ⟨by rfl, ?yt1_1_⟩) HB ?rt1_1_
    case yt1_1_ => (intro w hSw; (try dsimp only at hSw); go_simp; try with_reducible rfl)
    try simp only [Act.put, List.setIfInBounds_toArray, List.set_cons_zero, List.set_cons_succ]
    refine wpAnyH_take (i := 1) (oi := ({ dst := some 17, op := .fieldAddr 55 (.tmp 2) 0, type := 0, pos := "air.go:38", after := #[], guard := none } : Oper)) (v := ?vt1_2_) rfl apart5_plain (by as_aux_lemma => kernel_rfl) (by as_aux_lemma => kernel_rfl) (fun _ _ _ h => h) (Or.inl ⟨by rfl, ?yt1_2_⟩) HB ?rt1_2_
    case yt1_2_ => (intro w hSw; (try dsimp only at hSw); go_simp; try with_reducible rfl)
    try simp only [Act.put, List.setIfInBounds_toArray, List.set_cons_zero, List.set_cons_succ]
    refine wpAnyH_take (i := 2) (oi := ({ dst := some 18, op := .move (.tmp 1), type := 3, pos := "air.go:38", after := #[], guard := none } : Oper)) (v := ?vt1_3_) rfl apart5_plain (by as_aux_lemma => kernel_rfl) (by as_aux_lemma => kernel_rfl) (fun _ _ _ h => h) (Or.inl ⟨by rfl, ?yt1_3_⟩) HB ?rt1_3_
    case yt1_3_ => (intro w hSw; (try dsimp only at hSw); go_simp; try with_reducible rfl)
    try simp only [Act.put, List.setIfInBounds_toArray, List.set_cons_zero, List.set_cons_succ]
    refine wpAnyH_take (i := 3) (oi := ({ dst := some 19, op := .slice 52 (.tmp 17) (some (.tmp 18)) none none, type := 50, pos := "air.go:38", after := #[{ on := 1, ground := .data }, { on := 2, ground := .data }], guard := none } : Oper)) (v := ?vt1_4_) rfl apart5_plain (by as_aux_lemma => kernel_rfl) (by as_aux_lemma => kernel_rfl) (fun _ _ _ h => h) (Or.inl ⟨by rfl, ?yt1_4_⟩) HB ?rt1_4_
    case yt1_4_ => (intro w hSw; (try dsimp only at hSw); go_simp; try with_reducible rfl)
    try simp only [Act.put, List.setIfInBounds_toArray, List.set_cons_zero, List.set_cons_succ]
    refine wpAnyH_ready (rs := [4]) (by as_aux_lemma => kernel_rfl) (by simp) ?_
    refine AllReadyH.cons (o := ({ dst := some 20, op := .call { callee := .builtin .copy, args := #[.tmp 16, .tmp 19], argTypes := #[50, 50] }, type := 3, pos := "air.go:38", after := #[{ on := 0, ground := .data }, { on := 3, ground := .data }], guard := none } : Oper)) rfl (fun KK hK => ?_) AllReadyH.nil
    rw [if_pos (by rfl)]
    refine oper_copy_n (g := w.heap.size + 1 + 1 + 1) (b := w.heap.size) (k := 6) (cs := [.int .i64 x0, .int .i64 x1, .int .i64 x2]) rfl rfl rfl (show 3 ≤ _ by decide) (HX.out _ _ (HK.range 0 (l := q.toList) rfl)) (HK.free_row 3 rfl (n := 3) rfl) (by simp [Value.oneCell']) ?_
    have HN := below_cells (b := w.heap.size + 1 + 1 + 1) (by omega) [.int .i64 x0, .int .i64 x1, .int .i64 x2] 0 _ HB
    have HF := HK.row 3 rfl [.int .i64 x0, .int .i64 x1, .int .i64 x2] rfl
    obtain ⟨w4, hX⟩ : ∃ x, x = w3.setCells (w.heap.size + 1 + 1 + 1) 0 [.int .i64 x0, .int .i64 x1, .int .i64 x2] := ⟨_, rfl⟩
    rw [← hX] at HN HF ⊢
    clear hX HK
    refine hK.out _ _ ?_ (fun hHeld => ?_)
    · exact HN
    replace HB := hHeld; clear hHeld hK KK HN
    try simp only [Act.put]
    refine wpAnyH_done (by as_aux_lemma => kernel_rfl) ?_ _
    refine NoPanic.normal ?_
    go_wp2_with fail
    go_meet
    exact HF
  case rest =>
    rename World => w4
    have HS3 := Lib.hid hcut
    clear hcut BK HK
    go_upto_region 6 with fail
    obtain ⟨w5, hX, hS⟩ := (HS3.out).named
    rw [← hX]
    clear hX HS3
    have HK := hS
    have BK := Lib.hid hS.below
    clear hS
    go_cut [] from 21 to 26 (fun wx => Sp w [(w.heap.size, q.toList.map some), (w.heap.size + 1, [some (.int .i64 0), some (.int .i64 0), some (.int .i64 0)]), (w.heap.size + 1 + 1, [some (.bool false), some (.bool false), some (.bool false)]), (w.heap.size + 1 + 1 + 1, [some (.int .i64 x0), some (.int .i64 x1), some (.int .i64 x2)]), (w.heap.size + 1 + 1 + 1 + 1, [some (.bool t0), some (.bool t1), some (.bool t2)])] wx)
    case first =>
      change (Code.region 6 apart6 true).wp Tryd.prog _ _ _
      refine wp_region_noPanic ?_
      refine wp_region_held_drew (S := fun w' => Below w.heap.size w w') (by kernel_rfl) (BK.out.drew) (fun hHeld => ?_)
      obtain ⟨w6, hX⟩ : ∃ x, x = w5.drew := ⟨_, rfl⟩
      have hb : Below w5.heap.size w5 w6 := hX ▸ (Below.refl _ _).drew
      rw [← hX] at hHeld ⊢
      have HB := hHeld; clear hHeld
      replace HK := HK.keep hb
      clear hb hX
      refine wpAnyH_take (i := 0) (oi := ({ dst := some 21, op := .slice 23 (.tmp 7) none none none, type := 74, pos := "air.go:39", after := #[], guard := none } : Oper)) (v := ?vt2_1_) rfl apart6_plain (by as_aux_lemma => kernel_rfl) (by as_aux_lemma => kernel_rfl) (fun _ _ _ h => h) (Or.inl ⟨by rfl, ?yt2_1_⟩) HB ?rt2_1_
      case yt2_1_ => (intro w hSw; (try dsimp only at hSw); go_simp; try with_reducible rfl)
      try simp only [Act.put, List.setIfInBounds_toArray, List.set_cons_zero, List.set_cons_succ]
      refine wpAnyH_take (i := 1) (oi := ({ dst := some 22, op := .fieldAddr 55 (.tmp 2) 1, type := 0, pos := "air.go:39", after := #[], guard := none } : Oper)) (v := ?vt2_2_) rfl apart6_plain (by as_aux_lemma => kernel_rfl) (by as_aux_lemma => kernel_rfl) (fun _ _ _ h => h) (Or.inl ⟨by rfl, ?yt2_2_⟩) HB ?rt2_2_
      case yt2_2_ => (intro w hSw; (try dsimp only at hSw); go_simp; try with_reducible rfl)
      try simp only [Act.put, List.setIfInBounds_toArray, List.set_cons_zero, List.set_cons_succ]
      refine wpAnyH_take (i := 2) (oi := ({ dst := some 23, op := .move (.tmp 1), type := 3, pos := "air.go:39", after := #[], guard := none } : Oper)) (v := ?vt2_3_) rfl apart6_plain (by as_aux_lemma => kernel_rfl) (by as_aux_lemma => kernel_rfl) (fun _ _ _ h => h) (Or.inl ⟨by rfl, ?yt2_3_⟩) HB ?rt2_3_
      case yt2_3_ => (intro w hSw; (try dsimp only at hSw); go_simp; try with_reducible rfl)
      try simp only [Act.put, List.setIfInBounds_toArray, List.set_cons_zero, List.set_cons_succ]
      refine wpAnyH_take (i := 3) (oi := ({ dst := some 24, op := .slice 53 (.tmp 22) (some (.tmp 23)) none none, type := 74, pos := "air.go:39", after := #[{ on := 1, ground := .data }, { on := 2, ground := .data }], guard := none } : Oper)) (v := ?vt2_4_) rfl apart6_plain (by as_aux_lemma => kernel_rfl) (by as_aux_lemma => kernel_rfl) (fun _ _ _ h => h) (Or.inl ⟨by rfl, ?yt2_4_⟩) HB ?rt2_4_
      case yt2_4_ => (intro w hSw; (try dsimp only at hSw); go_simp; try with_reducible rfl)
      try simp only [Act.put, List.setIfInBounds_toArray, List.set_cons_zero, List.set_cons_succ]
      refine wpAnyH_ready (rs := [4]) (by as_aux_lemma => kernel_rfl) (by simp) ?_
      refine AllReadyH.cons (o := ({ dst := some 25, op := .call { callee := .builtin .copy, args := #[.tmp 21, .tmp 24], argTypes := #[74, 74] }, type := 3, pos := "air.go:39", after := #[{ on := 0, ground := .data }, { on := 3, ground := .data }], guard := none } : Oper)) rfl (fun KK hK => ?_) AllReadyH.nil
      rw [if_pos (by rfl)]
      refine oper_copy_b (g := w.heap.size + 1 + 1 + 1 + 1) (b := w.heap.size) (k := 18) (cs := [.bool t0, .bool t1, .bool t2]) rfl rfl rfl (show 3 ≤ _ by decide) (HT.out _ _ (HK.range 0 (l := q.toList) rfl)) (HK.free_row 4 rfl (n := 3) rfl) (by simp [Value.oneCell']) ?_
      have HN := below_cells (b := w.heap.size + 1 + 1 + 1 + 1) (by omega) [.bool t0, .bool t1, .bool t2] 0 _ HB
      have HF := HK.row 4 rfl [.bool t0, .bool t1, .bool t2] rfl
      obtain ⟨w7, hX⟩ : ∃ x, x = w6.setCells (w.heap.size + 1 + 1 + 1 + 1) 0 [.bool t0, .bool t1, .bool t2] := ⟨_, rfl⟩
      rw [← hX] at HN HF ⊢
      clear hX HK
      refine hK.out _ _ ?_ (fun hHeld => ?_)
      · exact HN
      replace HB := hHeld; clear hHeld hK KK HN
      try simp only [Act.put]
      refine wpAnyH_done (by as_aux_lemma => kernel_rfl) ?_ _
      refine NoPanic.normal ?_
      go_wp2_with fail
      go_meet
      exact HF
    case rest =>
      rename World => w7
      have HS4 := Lib.hid hcut
      clear hcut BK HK
      go_upto_region 7 with fail
      go_cut [] from 26 to 28 (fun wx => Sp w [(w.heap.size, q.toList.map some), (w.heap.size + 1, [some (.int .i64 x0), some (.int .i64 x1), some (.int .i64 x2)]), (w.heap.size + 1 + 1, [some (.bool t0), some (.bool t1), some (.bool t2)]), (w.heap.size + 1 + 1 + 1, [some (.int .i64 x0), some (.int .i64 x1), some (.int .i64 x2)]), (w.heap.size + 1 + 1 + 1 + 1, [some (.bool t0), some (.bool t1), some (.bool t2)])] wx)
      case first =>
        obtain ⟨w8, hX, HK⟩ := (HS4.out).named
        rw [← hX]
        clear hX
        have hT := ((((((HK).forget 1 rfl 0).forget 1 rfl 1).forget 1 rfl 2).forget 2 rfl 0).forget 2 rfl 1).forget 2 rfl 2
        obtain ⟨bs1, hbs⟩ : ∃ bs : List (Nat × List (Option Value)), bs = [(w.heap.size, q.toList.map some), (w.heap.size + 1, [none, none, none]), (w.heap.size + 1 + 1, [none, none, none]), (w.heap.size + 1 + 1 + 1, [some (.int .i64 x0), some (.int .i64 x1), some (.int .i64 x2)]), (w.heap.size + 1 + 1 + 1 + 1, [some (.bool t0), some (.bool t1), some (.bool t2)])] := ⟨_, rfl⟩
        replace hT : Sp w bs1 w8 := hbs ▸ hT
        have c3_0 : ∀ w', Sp w bs1 w' → w'.cell? ⟨w.heap.size + 1 + 1 + 1, 0, none⟩ = some (.int .i64 x0) := by rw [hbs]; exact fun w' h => h.at 3 rfl 0 rfl
        have c3_1 : ∀ w', Sp w bs1 w' → w'.cell? ⟨w.heap.size + 1 + 1 + 1, 1, none⟩ = some (.int .i64 x1) := by rw [hbs]; exact fun w' h => h.at 3 rfl 1 rfl
        have c3_2 : ∀ w', Sp w bs1 w' → w'.cell? ⟨w.heap.size + 1 + 1 + 1, 2, none⟩ = some (.int .i64 x2) := by rw [hbs]; exact fun w' h => h.at 3 rfl 2 rfl
        have c4_0 : ∀ w', Sp w bs1 w' → w'.cell? ⟨w.heap.size + 1 + 1 + 1 + 1, 0, none⟩ = some (.bool t0) := by rw [hbs]; exact fun w' h => h.at 4 rfl 0 rfl
        have c4_1 : ∀ w', Sp w bs1 w' → w'.cell? ⟨w.heap.size + 1 + 1 + 1 + 1, 1, none⟩ = some (.bool t1) := by rw [hbs]; exact fun w' h => h.at 4 rfl 1 rfl
        have c4_2 : ∀ w', Sp w bs1 w' → w'.cell? ⟨w.heap.size + 1 + 1 + 1 + 1, 2, none⟩ = some (.bool t2) := by rw [hbs]; exact fun w' h => h.at 4 rfl 2 rfl
        have kS : ∀ w1 w2, Sp w bs1 w1 → Below w1.heap.size w1 w2 → Sp w bs1 w2 := fun _ _ h hb => h.keep hb
        have s1_0 : ∀ w' z, Sp w bs1 w' → Sp w bs1 (w'.setCell ⟨w.heap.size + 1, 0, none⟩ z) := by rw [hbs]; exact fun w' z h => h.hit 1 rfl 0 rfl z
        have s1_1 : ∀ w' z, Sp w bs1 w' → Sp w bs1 (w'.setCell ⟨w.heap.size + 1, 1, none⟩ z) := by rw [hbs]; exact fun w' z h => h.hit 1 rfl 1 rfl z
        have s1_2 : ∀ w' z, Sp w bs1 w' → Sp w bs1 (w'.setCell ⟨w.heap.size + 1, 2, none⟩ z) := by rw [hbs]; exact fun w' z h => h.hit 1 rfl 2 rfl z
        have s2_0 : ∀ w' z, Sp w bs1 w' → Sp w bs1 (w'.setCell ⟨w.heap.size + 1 + 1, 0, none⟩ z) := by rw [hbs]; exact fun w' z h => h.hit 2 rfl 0 rfl z
        have s2_1 : ∀ w' z, Sp w bs1 w' → Sp w bs1 (w'.setCell ⟨w.heap.size + 1 + 1, 1, none⟩ z) := by rw [hbs]; exact fun w' z h => h.hit 2 rfl 1 rfl z
        have s2_2 : ∀ w' z, Sp w bs1 w' → Sp w bs1 (w'.setCell ⟨w.heap.size + 1 + 1, 2, none⟩ z) := by rw [hbs]; exact fun w' z h => h.hit 2 rfl 2 rfl z
        have nx0 : ∀ w', Sp w [(w.heap.size, q.toList.map some), (w.heap.size + 1, [some (.int .i64 0), some (.int .i64 0), some (.int .i64 0)]), (w.heap.size + 1 + 1, [some (.bool false), some (.bool false), some (.bool false)]), (w.heap.size + 1 + 1 + 1, [some (.int .i64 x0), some (.int .i64 x1), some (.int .i64 x2)]), (w.heap.size + 1 + 1 + 1 + 1, [some (.bool t0), some (.bool t1), some (.bool t2)])] w' → Sp w [(w.heap.size, q.toList.map some), (w.heap.size + 1, [some (.int .i64 x0), some (.int .i64 x1), some (.int .i64 x2)]), (w.heap.size + 1 + 1, [some (.bool false), some (.bool false), some (.bool false)]), (w.heap.size + 1 + 1 + 1, [some (.int .i64 x0), some (.int .i64 x1), some (.int .i64 x2)]), (w.heap.size + 1 + 1 + 1 + 1, [some (.bool t0), some (.bool t1), some (.bool t2)])] (((w'.setCell ⟨w.heap.size + 1, 0, none⟩ (.int .i64 x0)).setCell ⟨w.heap.size + 1, 1, none⟩ (.int .i64 x1)).setCell ⟨w.heap.size + 1, 2, none⟩ (.int .i64 x2)) := fun w' h => (((h.put 1 rfl 0 _).put 1 rfl 1 _).put 1 rfl 2 _)
        have nx1 : ∀ w', Sp w [(w.heap.size, q.toList.map some), (w.heap.size + 1, [some (.int .i64 x0), some (.int .i64 x1), some (.int .i64 x2)]), (w.heap.size + 1 + 1, [some (.bool false), some (.bool false), some (.bool false)]), (w.heap.size + 1 + 1 + 1, [some (.int .i64 x0), some (.int .i64 x1), some (.int .i64 x2)]), (w.heap.size + 1 + 1 + 1 + 1, [some (.bool t0), some (.bool t1), some (.bool t2)])] w' → Sp w [(w.heap.size, q.toList.map some), (w.heap.size + 1, [some (.int .i64 x0), some (.int .i64 x1), some (.int .i64 x2)]), (w.heap.size + 1 + 1, [some (.bool t0), some (.bool t1), some (.bool t2)]), (w.heap.size + 1 + 1 + 1, [some (.int .i64 x0), some (.int .i64 x1), some (.int .i64 x2)]), (w.heap.size + 1 + 1 + 1 + 1, [some (.bool t0), some (.bool t1), some (.bool t2)])] (((w'.setCell ⟨w.heap.size + 1 + 1, 0, none⟩ (.bool t0)).setCell ⟨w.heap.size + 1 + 1, 1, none⟩ (.bool t1)).setCell ⟨w.heap.size + 1 + 1, 2, none⟩ (.bool t2)) := fun w' h => (((h.put 2 rfl 0 _).put 2 rfl 1 _).put 2 rfl 2 _)
        clear hbs HS4
        change (Code.region 7 apart7 true).wp Tryd.prog _ _ _
        refine wp_region_noPanic ?_
        refine wp_region_held_drew (S := (Sp w bs1)) (by kernel_rfl) (hT.drew) (fun hHeld => ?_)
        obtain ⟨w9, hX⟩ : ∃ x, x = w8.drew := ⟨_, rfl⟩
        have hb : Below w8.heap.size w8 w9 := hX ▸ (Below.refl _ _).drew
        rw [← hX] at hHeld ⊢
        have HB := hHeld; clear hHeld
        replace HK := HK.keep hb
        clear hb hX
        refine wpAnyH_take (i := 0) (oi := ({ dst := some 26, op := .load 22 (.tmp 6), type := 22, pos := "air.go:40", after := #[], guard := none } : Oper)) (v := ?vt3_1_) rfl apart7_plain (by as_aux_lemma => kernel_rfl) (by as_aux_lemma => kernel_rfl) (fun _ _ _ h => h) (Or.inl ⟨by rfl, ?yt3_1_⟩) HB ?rt3_1_
        case yt3_1_ => (intro w hSw; (try dsimp only at hSw); go_simp; try with_reducible rfl)
        try simp only [Act.put, List.setIfInBounds_toArray, List.set_cons_zero, List.set_cons_succ]
        refine wpAnyH_take (i := 1) (oi := ({ dst := some 27, op := .load 23 (.tmp 7), type := 23, pos := "air.go:40", after := #[{ on := 2, ground := .gcOnly Go.Departure.lateStores }], guard := none } : Oper)) (v := ?vt3_2_) rfl apart7_plain (by as_aux_lemma => kernel_rfl) (by as_aux_lemma => kernel_rfl) (fun _ _ _ h => h) (Or.inl ⟨by rfl, ?yt3_2_⟩) HB ?rt3_2_
        case yt3_2_ => (intro w hSw; (try dsimp only at hSw); go_simp; try with_reducible rfl)
        try simp only [Act.put, List.setIfInBounds_toArray, List.set_cons_zero, List.set_cons_succ]
        refine wpAnyH_ready (rs := [2]) (by as_aux_lemma => kernel_rfl) (by simp) ?_
        refine AllReadyH.cons (o := ({ dst := none, op := .store 22 (.tmp 4) (.tmp 26), type := 0, pos := "air.go:40", after := #[{ on := 0, ground := .data }, { on := 0, ground := .phase }, { on := 1, ground := .textOnly Go.Departure.lateStores }], guard := none } : Oper)) rfl (fun KK hK => ?_) AllReadyH.nil
        rw [if_pos (by rfl)]
        obtain ⟨z1_0, l1_0, f1_0⟩ := HK.there 1 rfl 0 rfl
        obtain ⟨z1_1, l1_1, f1_1⟩ := HK.there 1 rfl 1 rfl
        obtain ⟨z1_2, l1_2, f1_2⟩ := HK.there 1 rfl 2 rfl
        have N1 := nx0 _ HK
        have HN := (s1_2 _ (.int .i64 x2) (s1_1 _ (.int .i64 x1) (s1_0 _ (.int .i64 x0) HB)))
        go_simp
        obtain ⟨w10, hX⟩ : ∃ x, x = (((w9.setCell ⟨w.heap.size + 1, 0, none⟩ (.int .i64 x0)).setCell ⟨w.heap.size + 1, 1, none⟩ (.int .i64 x1)).setCell ⟨w.heap.size + 1, 2, none⟩ (.int .i64 x2)) := ⟨_, rfl⟩
        rw [← hX] at HN N1 ⊢
        clear hX HK l1_0 f1_0 l1_1 f1_1 l1_2 f1_2
        have HK := N1
        clear N1
        refine hK.out _ _ ?_ (fun hHeld => ?_)
        · exact HN
        replace HB := hHeld; clear hHeld hK KK HN
        try simp only [Act.put]
        refine wpAnyH_ready (rs := [3]) (by as_aux_lemma => kernel_rfl) (by simp) ?_
        refine AllReadyH.cons (o := ({ dst := none, op := .store 23 (.tmp 5) (.tmp 27), type := 0, pos := "air.go:40", after := #[{ on := 1, ground := .data }, { on := 2, ground := .chain }, { on := 0, ground := .phase }, { on := 1, ground := .phase }, { on := 2, ground := .phase }], guard := none } : Oper)) rfl (fun KK hK => ?_) AllReadyH.nil
        rw [if_pos (by rfl)]
        obtain ⟨z2_0, l2_0, f2_0⟩ := HK.there 2 rfl 0 rfl
        obtain ⟨z2_1, l2_1, f2_1⟩ := HK.there 2 rfl 1 rfl
        obtain ⟨z2_2, l2_2, f2_2⟩ := HK.there 2 rfl 2 rfl
        have N1 := nx1 _ HK
        have HN := (s2_2 _ (.bool t2) (s2_1 _ (.bool t1) (s2_0 _ (.bool t0) HB)))
        go_simp
        obtain ⟨w11, hX⟩ : ∃ x, x = (((w10.setCell ⟨w.heap.size + 1 + 1, 0, none⟩ (.bool t0)).setCell ⟨w.heap.size + 1 + 1, 1, none⟩ (.bool t1)).setCell ⟨w.heap.size + 1 + 1, 2, none⟩ (.bool t2)) := ⟨_, rfl⟩
        rw [← hX] at HN N1 ⊢
        clear hX HK l2_0 f2_0 l2_1 f2_1 l2_2 f2_2
        refine hK.out _ _ ?_ (fun hHeld => ?_)
        · exact HN
        replace HB := hHeld; clear hHeld hK KK HN
        try simp only [Act.put]
        refine wpAnyH_done (by as_aux_lemma => kernel_rfl) ?_ _
        refine NoPanic.normal ?_
        go_wp2_with fail
        go_meet
        exact N1
      case rest =>
        rename World => w47
        have HS5 := Lib.hid hcut
        clear hcut HS4
        have k1_0 := (HS5.out).at 1 rfl 0 (v := .int .i64 x0) rfl
        have k1_1 := (HS5.out).at 1 rfl 1 (v := .int .i64 x1) rfl
        have k1_2 := (HS5.out).at 1 rfl 2 (v := .int .i64 x2) rfl
        have k2_0 := (HS5.out).at 2 rfl 0 (v := .bool t0) rfl
        have k2_1 := (HS5.out).at 2 rfl 1 (v := .bool t1) rfl
        have k2_2 := (HS5.out).at 2 rfl 2 (v := .bool t2) rfl
        have BH := Lib.hid HS5.out.below
        go_wp2_with fail
        exact bodyPost_ret (v := .tuple #[.agg #[.int .i64 x0, .int .i64 x1, .int .i64 x2], .agg #[.bool t0, .bool t1, .bool t2]]) (by simp [results, Tryd.results18, go_sem, *]) rfl ⟨rfl, BH.out⟩

set_option maxHeartbeats 8000000 in
set_option maxRecDepth 100000 in
theorem Part_core9 (q : Array Value) (x0 x1 x2 : Int) (t0 t1 t2 : Bool) (w : World)
    (HX : Hid (∀ (W : World) b, W.rangeAt b 0 q.toList → W.rangeAt b 9 [.int .i64 x0, .int .i64 x1, .int .i64 x2])) (HT : Hid (∀ (W : World) b, W.rangeAt b 0 q.toList → W.rangeAt b 21 [.bool t0, .bool t1, .bool t2]))
    : Calls Tryd.prog 18 #[.agg q, .int .i64 9] w fun e w' => e = .returned (.tuple #[.agg #[.int .i64 x0, .int .i64 x1, .int .i64 x2], .agg #[.bool t0, .bool t1, .bool t2]]) ∧ Below w.heap.size w w' := by
  have hS1 := (((((Sp.none w).more q.toList 55).more [.int .i64 0, .int .i64 0, .int .i64 0] 22).more [.bool false, .bool false, .bool false] 23).more [.int .i64 0, .int .i64 0, .int .i64 0] 22).more [.bool false, .bool false, .bool false] 23
  simp only [heap1] at hS1
  have HS1 := Lib.hid (show Sp w [(w.heap.size, q.toList.map some), (w.heap.size + 1, [some (.int .i64 0), some (.int .i64 0), some (.int .i64 0)]), (w.heap.size + 1 + 1, [some (.bool false), some (.bool false), some (.bool false)]), (w.heap.size + 1 + 1 + 1, [some (.int .i64 0), some (.int .i64 0), some (.int .i64 0)]), (w.heap.size + 1 + 1 + 1 + 1, [some (.bool false), some (.bool false), some (.bool false)])] (((((w.alloc (.cells q 55)).alloc (.cells #[.int .i64 0, .int .i64 0, .int .i64 0] 22)).alloc (.cells #[.bool false, .bool false, .bool false] 23)).alloc (.cells #[.int .i64 0, .int .i64 0, .int .i64 0] 22)).alloc (.cells #[.bool false, .bool false, .bool false] 23)) from hS1)
  clear hS1
  go_enter Tryd.func18, Tryd.ntmps18
  go_upto_region 5 with fail
  obtain ⟨w1, hX, hS⟩ := (HS1.out).named
  rw [← hX]
  clear hX HS1
  have HS2 := Lib.hid hS
  clear hS
  obtain ⟨w2, hX, hS⟩ := (HS2.out).named
  rw [← hX]
  clear hX HS2
  have HK := hS
  have BK := Lib.hid hS.below
  clear hS
  go_cut [] from 16 to 21 (fun wx => Sp w [(w.heap.size, q.toList.map some), (w.heap.size + 1, [some (.int .i64 0), some (.int .i64 0), some (.int .i64 0)]), (w.heap.size + 1 + 1, [some (.bool false), some (.bool false), some (.bool false)]), (w.heap.size + 1 + 1 + 1, [some (.int .i64 x0), some (.int .i64 x1), some (.int .i64 x2)]), (w.heap.size + 1 + 1 + 1 + 1, [some (.bool false), some (.bool false), some (.bool false)])] wx)
  case first =>
    change (Code.region 5 apart5 true).wp Tryd.prog _ _ _
    refine wp_region_noPanic ?_
    refine wp_region_held_drew (S := fun w' => Below w.heap.size w w') (by kernel_rfl) (BK.out.drew) (fun hHeld => ?_)
    obtain ⟨w3, hX⟩ : ∃ x, x = w2.drew := ⟨_, rfl⟩
    have hb : Below w2.heap.size w2 w3 := hX ▸ (Below.refl _ _).drew
    rw [← hX] at hHeld ⊢
    have HB := hHeld; clear hHeld
    replace HK := HK.keep hb
    clear hb hX
    refine wpAnyH_take (i := 0) (oi := ({ dst := some 16, op := .slice 22 (.tmp 6) none none none, type := 50, pos := "air.go:38", after := #[], guard := none } : Oper)) (v := ?vt4_1_) rfl apart5_plain (by as_aux_lemma => kernel_rfl) (by as_aux_lemma => kernel_rfl) (fun _ _ _ h => h) (Or.inl ⟨by rfl, ?yt4_1_⟩) HB ?rt4_1_
    case yt4_1_ => (intro w hSw; (try dsimp only at hSw); go_simp; try with_reducible rfl)
    try simp only [Act.put, List.setIfInBounds_toArray, List.set_cons_zero, List.set_cons_succ]
    refine wpAnyH_take (i := 1) (oi := ({ dst := some 17, op := .fieldAddr 55 (.tmp 2) 0, type := 0, pos := "air.go:38", after := #[], guard := none } : Oper)) (v := ?vt4_2_) rfl apart5_plain (by as_aux_lemma => kernel_rfl) (by as_aux_lemma => kernel_rfl) (fun _ _ _ h => h) (Or.inl ⟨by rfl, ?yt4_2_⟩) HB ?rt4_2_
    case yt4_2_ => (intro w hSw; (try dsimp only at hSw); go_simp; try with_reducible rfl)
    try simp only [Act.put, List.setIfInBounds_toArray, List.set_cons_zero, List.set_cons_succ]
    refine wpAnyH_take (i := 2) (oi := ({ dst := some 18, op := .move (.tmp 1), type := 3, pos := "air.go:38", after := #[], guard := none } : Oper)) (v := ?vt4_3_) rfl apart5_plain (by as_aux_lemma => kernel_rfl) (by as_aux_lemma => kernel_rfl) (fun _ _ _ h => h) (Or.inl ⟨by rfl, ?yt4_3_⟩) HB ?rt4_3_
    case yt4_3_ => (intro w hSw; (try dsimp only at hSw); go_simp; try with_reducible rfl)
    try simp only [Act.put, List.setIfInBounds_toArray, List.set_cons_zero, List.set_cons_succ]
    refine wpAnyH_take (i := 3) (oi := ({ dst := some 19, op := .slice 52 (.tmp 17) (some (.tmp 18)) none none, type := 50, pos := "air.go:38", after := #[{ on := 1, ground := .data }, { on := 2, ground := .data }], guard := none } : Oper)) (v := ?vt4_4_) rfl apart5_plain (by as_aux_lemma => kernel_rfl) (by as_aux_lemma => kernel_rfl) (fun _ _ _ h => h) (Or.inl ⟨by rfl, ?yt4_4_⟩) HB ?rt4_4_
    case yt4_4_ => (intro w hSw; (try dsimp only at hSw); go_simp; try with_reducible rfl)
    try simp only [Act.put, List.setIfInBounds_toArray, List.set_cons_zero, List.set_cons_succ]
    refine wpAnyH_ready (rs := [4]) (by as_aux_lemma => kernel_rfl) (by simp) ?_
    refine AllReadyH.cons (o := ({ dst := some 20, op := .call { callee := .builtin .copy, args := #[.tmp 16, .tmp 19], argTypes := #[50, 50] }, type := 3, pos := "air.go:38", after := #[{ on := 0, ground := .data }, { on := 3, ground := .data }], guard := none } : Oper)) rfl (fun KK hK => ?_) AllReadyH.nil
    rw [if_pos (by rfl)]
    refine oper_copy_n (g := w.heap.size + 1 + 1 + 1) (b := w.heap.size) (k := 9) (cs := [.int .i64 x0, .int .i64 x1, .int .i64 x2]) rfl rfl rfl (show 3 ≤ _ by decide) (HX.out _ _ (HK.range 0 (l := q.toList) rfl)) (HK.free_row 3 rfl (n := 3) rfl) (by simp [Value.oneCell']) ?_
    have HN := below_cells (b := w.heap.size + 1 + 1 + 1) (by omega) [.int .i64 x0, .int .i64 x1, .int .i64 x2] 0 _ HB
    have HF := HK.row 3 rfl [.int .i64 x0, .int .i64 x1, .int .i64 x2] rfl
    obtain ⟨w4, hX⟩ : ∃ x, x = w3.setCells (w.heap.size + 1 + 1 + 1) 0 [.int .i64 x0, .int .i64 x1, .int .i64 x2] := ⟨_, rfl⟩
    rw [← hX] at HN HF ⊢
    clear hX HK
    refine hK.out _ _ ?_ (fun hHeld => ?_)
    · exact HN
    replace HB := hHeld; clear hHeld hK KK HN
    try simp only [Act.put]
    refine wpAnyH_done (by as_aux_lemma => kernel_rfl) ?_ _
    refine NoPanic.normal ?_
    go_wp2_with fail
    go_meet
    exact HF
  case rest =>
    rename World => w4
    have HS3 := Lib.hid hcut
    clear hcut BK HK
    go_upto_region 6 with fail
    obtain ⟨w5, hX, hS⟩ := (HS3.out).named
    rw [← hX]
    clear hX HS3
    have HK := hS
    have BK := Lib.hid hS.below
    clear hS
    go_cut [] from 21 to 26 (fun wx => Sp w [(w.heap.size, q.toList.map some), (w.heap.size + 1, [some (.int .i64 0), some (.int .i64 0), some (.int .i64 0)]), (w.heap.size + 1 + 1, [some (.bool false), some (.bool false), some (.bool false)]), (w.heap.size + 1 + 1 + 1, [some (.int .i64 x0), some (.int .i64 x1), some (.int .i64 x2)]), (w.heap.size + 1 + 1 + 1 + 1, [some (.bool t0), some (.bool t1), some (.bool t2)])] wx)
    case first =>
      change (Code.region 6 apart6 true).wp Tryd.prog _ _ _
      refine wp_region_noPanic ?_
      refine wp_region_held_drew (S := fun w' => Below w.heap.size w w') (by kernel_rfl) (BK.out.drew) (fun hHeld => ?_)
      obtain ⟨w6, hX⟩ : ∃ x, x = w5.drew := ⟨_, rfl⟩
      have hb : Below w5.heap.size w5 w6 := hX ▸ (Below.refl _ _).drew
      rw [← hX] at hHeld ⊢
      have HB := hHeld; clear hHeld
      replace HK := HK.keep hb
      clear hb hX
      refine wpAnyH_take (i := 0) (oi := ({ dst := some 21, op := .slice 23 (.tmp 7) none none none, type := 74, pos := "air.go:39", after := #[], guard := none } : Oper)) (v := ?vt5_1_) rfl apart6_plain (by as_aux_lemma => kernel_rfl) (by as_aux_lemma => kernel_rfl) (fun _ _ _ h => h) (Or.inl ⟨by rfl, ?yt5_1_⟩) HB ?rt5_1_
      case yt5_1_ => (intro w hSw; (try dsimp only at hSw); go_simp; try with_reducible rfl)
      try simp only [Act.put, List.setIfInBounds_toArray, List.set_cons_zero, List.set_cons_succ]
      refine wpAnyH_take (i := 1) (oi := ({ dst := some 22, op := .fieldAddr 55 (.tmp 2) 1, type := 0, pos := "air.go:39", after := #[], guard := none } : Oper)) (v := ?vt5_2_) rfl apart6_plain (by as_aux_lemma => kernel_rfl) (by as_aux_lemma => kernel_rfl) (fun _ _ _ h => h) (Or.inl ⟨by rfl, ?yt5_2_⟩) HB ?rt5_2_
      case yt5_2_ => (intro w hSw; (try dsimp only at hSw); go_simp; try with_reducible rfl)
      try simp only [Act.put, List.setIfInBounds_toArray, List.set_cons_zero, List.set_cons_succ]
      refine wpAnyH_take (i := 2) (oi := ({ dst := some 23, op := .move (.tmp 1), type := 3, pos := "air.go:39", after := #[], guard := none } : Oper)) (v := ?vt5_3_) rfl apart6_plain (by as_aux_lemma => kernel_rfl) (by as_aux_lemma => kernel_rfl) (fun _ _ _ h => h) (Or.inl ⟨by rfl, ?yt5_3_⟩) HB ?rt5_3_
      case yt5_3_ => (intro w hSw; (try dsimp only at hSw); go_simp; try with_reducible rfl)
      try simp only [Act.put, List.setIfInBounds_toArray, List.set_cons_zero, List.set_cons_succ]
      refine wpAnyH_take (i := 3) (oi := ({ dst := some 24, op := .slice 53 (.tmp 22) (some (.tmp 23)) none none, type := 74, pos := "air.go:39", after := #[{ on := 1, ground := .data }, { on := 2, ground := .data }], guard := none } : Oper)) (v := ?vt5_4_) rfl apart6_plain (by as_aux_lemma => kernel_rfl) (by as_aux_lemma => kernel_rfl) (fun _ _ _ h => h) (Or.inl ⟨by rfl, ?yt5_4_⟩) HB ?rt5_4_
      case yt5_4_ => (intro w hSw; (try dsimp only at hSw); go_simp; try with_reducible rfl)
      try simp only [Act.put, List.setIfInBounds_toArray, List.set_cons_zero, List.set_cons_succ]
      refine wpAnyH_ready (rs := [4]) (by as_aux_lemma => kernel_rfl) (by simp) ?_
      refine AllReadyH.cons (o := ({ dst := some 25, op := .call { callee := .builtin .copy, args := #[.tmp 21, .tmp 24], argTypes := #[74, 74] }, type := 3, pos := "air.go:39", after := #[{ on := 0, ground := .data }, { on := 3, ground := .data }], guard := none } : Oper)) rfl (fun KK hK => ?_) AllReadyH.nil
      rw [if_pos (by rfl)]
      refine oper_copy_b (g := w.heap.size + 1 + 1 + 1 + 1) (b := w.heap.size) (k := 21) (cs := [.bool t0, .bool t1, .bool t2]) rfl rfl rfl (show 3 ≤ _ by decide) (HT.out _ _ (HK.range 0 (l := q.toList) rfl)) (HK.free_row 4 rfl (n := 3) rfl) (by simp [Value.oneCell']) ?_
      have HN := below_cells (b := w.heap.size + 1 + 1 + 1 + 1) (by omega) [.bool t0, .bool t1, .bool t2] 0 _ HB
      have HF := HK.row 4 rfl [.bool t0, .bool t1, .bool t2] rfl
      obtain ⟨w7, hX⟩ : ∃ x, x = w6.setCells (w.heap.size + 1 + 1 + 1 + 1) 0 [.bool t0, .bool t1, .bool t2] := ⟨_, rfl⟩
      rw [← hX] at HN HF ⊢
      clear hX HK
      refine hK.out _ _ ?_ (fun hHeld => ?_)
      · exact HN
      replace HB := hHeld; clear hHeld hK KK HN
      try simp only [Act.put]
      refine wpAnyH_done (by as_aux_lemma => kernel_rfl) ?_ _
      refine NoPanic.normal ?_
      go_wp2_with fail
      go_meet
      exact HF
    case rest =>
      rename World => w7
      have HS4 := Lib.hid hcut
      clear hcut BK HK
      go_upto_region 7 with fail
      go_cut [] from 26 to 28 (fun wx => Sp w [(w.heap.size, q.toList.map some), (w.heap.size + 1, [some (.int .i64 x0), some (.int .i64 x1), some (.int .i64 x2)]), (w.heap.size + 1 + 1, [some (.bool t0), some (.bool t1), some (.bool t2)]), (w.heap.size + 1 + 1 + 1, [some (.int .i64 x0), some (.int .i64 x1), some (.int .i64 x2)]), (w.heap.size + 1 + 1 + 1 + 1, [some (.bool t0), some (.bool t1), some (.bool t2)])] wx)
      case first =>
        obtain ⟨w8, hX, HK⟩ := (HS4.out).named
        rw [← hX]
        clear hX
        have hT := ((((((HK).forget 1 rfl 0).forget 1 rfl 1).forget 1 rfl 2).forget 2 rfl 0).forget 2 rfl 1).forget 2 rfl 2
        obtain ⟨bs1, hbs⟩ : ∃ bs : List (Nat × List (Option Value)), bs = [(w.heap.size, q.toList.map some), (w.heap.size + 1, [none, none, none]), (w.heap.size + 1 + 1, [none, none, none]), (w.heap.size + 1 + 1 + 1, [some (.int .i64 x0), some (.int .i64 x1), some (.int .i64 x2)]), (w.heap.size + 1 + 1 + 1 + 1, [some (.bool t0), some (.bool t1), some (.bool t2)])] := ⟨_, rfl⟩
        replace hT : Sp w bs1 w8 := hbs ▸ hT
        have c3_0 : ∀ w', Sp w bs1 w' → w'.cell? ⟨w.heap.size + 1 + 1 + 1, 0, none⟩ = some (.int .i64 x0) := by rw [hbs]; exact fun w' h => h.at 3 rfl 0 rfl
        have c3_1 : ∀ w', Sp w bs1 w' → w'.cell? ⟨w.heap.size + 1 + 1 + 1, 1, none⟩ = some (.int .i64 x1) := by rw [hbs]; exact fun w' h => h.at 3 rfl 1 rfl
        have c3_2 : ∀ w', Sp w bs1 w' → w'.cell? ⟨w.heap.size + 1 + 1 + 1, 2, none⟩ = some (.int .i64 x2) := by rw [hbs]; exact fun w' h => h.at 3 rfl 2 rfl
        have c4_0 : ∀ w', Sp w bs1 w' → w'.cell? ⟨w.heap.size + 1 + 1 + 1 + 1, 0, none⟩ = some (.bool t0) := by rw [hbs]; exact fun w' h => h.at 4 rfl 0 rfl
        have c4_1 : ∀ w', Sp w bs1 w' → w'.cell? ⟨w.heap.size + 1 + 1 + 1 + 1, 1, none⟩ = some (.bool t1) := by rw [hbs]; exact fun w' h => h.at 4 rfl 1 rfl
        have c4_2 : ∀ w', Sp w bs1 w' → w'.cell? ⟨w.heap.size + 1 + 1 + 1 + 1, 2, none⟩ = some (.bool t2) := by rw [hbs]; exact fun w' h => h.at 4 rfl 2 rfl
        have kS : ∀ w1 w2, Sp w bs1 w1 → Below w1.heap.size w1 w2 → Sp w bs1 w2 := fun _ _ h hb => h.keep hb
        have s1_0 : ∀ w' z, Sp w bs1 w' → Sp w bs1 (w'.setCell ⟨w.heap.size + 1, 0, none⟩ z) := by rw [hbs]; exact fun w' z h => h.hit 1 rfl 0 rfl z
        have s1_1 : ∀ w' z, Sp w bs1 w' → Sp w bs1 (w'.setCell ⟨w.heap.size + 1, 1, none⟩ z) := by rw [hbs]; exact fun w' z h => h.hit 1 rfl 1 rfl z
        have s1_2 : ∀ w' z, Sp w bs1 w' → Sp w bs1 (w'.setCell ⟨w.heap.size + 1, 2, none⟩ z) := by rw [hbs]; exact fun w' z h => h.hit 1 rfl 2 rfl z
        have s2_0 : ∀ w' z, Sp w bs1 w' → Sp w bs1 (w'.setCell ⟨w.heap.size + 1 + 1, 0, none⟩ z) := by rw [hbs]; exact fun w' z h => h.hit 2 rfl 0 rfl z
        have s2_1 : ∀ w' z, Sp w bs1 w' → Sp w bs1 (w'.setCell ⟨w.heap.size + 1 + 1, 1, none⟩ z) := by rw [hbs]; exact fun w' z h => h.hit 2 rfl 1 rfl z
        have s2_2 : ∀ w' z, Sp w bs1 w' → Sp w bs1 (w'.setCell ⟨w.heap.size + 1 + 1, 2, none⟩ z) := by rw [hbs]; exact fun w' z h => h.hit 2 rfl 2 rfl z
        have nx0 : ∀ w', Sp w [(w.heap.size, q.toList.map some), (w.heap.size + 1, [some (.int .i64 0), some (.int .i64 0), some (.int .i64 0)]), (w.heap.size + 1 + 1, [some (.bool false), some (.bool false), some (.bool false)]), (w.heap.size + 1 + 1 + 1, [some (.int .i64 x0), some (.int .i64 x1), some (.int .i64 x2)]), (w.heap.size + 1 + 1 + 1 + 1, [some (.bool t0), some (.bool t1), some (.bool t2)])] w' → Sp w [(w.heap.size, q.toList.map some), (w.heap.size + 1, [some (.int .i64 x0), some (.int .i64 x1), some (.int .i64 x2)]), (w.heap.size + 1 + 1, [some (.bool false), some (.bool false), some (.bool false)]), (w.heap.size + 1 + 1 + 1, [some (.int .i64 x0), some (.int .i64 x1), some (.int .i64 x2)]), (w.heap.size + 1 + 1 + 1 + 1, [some (.bool t0), some (.bool t1), some (.bool t2)])] (((w'.setCell ⟨w.heap.size + 1, 0, none⟩ (.int .i64 x0)).setCell ⟨w.heap.size + 1, 1, none⟩ (.int .i64 x1)).setCell ⟨w.heap.size + 1, 2, none⟩ (.int .i64 x2)) := fun w' h => (((h.put 1 rfl 0 _).put 1 rfl 1 _).put 1 rfl 2 _)
        have nx1 : ∀ w', Sp w [(w.heap.size, q.toList.map some), (w.heap.size + 1, [some (.int .i64 x0), some (.int .i64 x1), some (.int .i64 x2)]), (w.heap.size + 1 + 1, [some (.bool false), some (.bool false), some (.bool false)]), (w.heap.size + 1 + 1 + 1, [some (.int .i64 x0), some (.int .i64 x1), some (.int .i64 x2)]), (w.heap.size + 1 + 1 + 1 + 1, [some (.bool t0), some (.bool t1), some (.bool t2)])] w' → Sp w [(w.heap.size, q.toList.map some), (w.heap.size + 1, [some (.int .i64 x0), some (.int .i64 x1), some (.int .i64 x2)]), (w.heap.size + 1 + 1, [some (.bool t0), some (.bool t1), some (.bool t2)]), (w.heap.size + 1 + 1 + 1, [some (.int .i64 x0), some (.int .i64 x1), some (.int .i64 x2)]), (w.heap.size + 1 + 1 + 1 + 1, [some (.bool t0), some (.bool t1), some (.bool t2)])] (((w'.setCell ⟨w.heap.size + 1 + 1, 0, none⟩ (.bool t0)).setCell ⟨w.heap.size + 1 + 1, 1, none⟩ (.bool t1)).setCell ⟨w.heap.size + 1 + 1, 2, none⟩ (.bool t2)) := fun w' h => (((h.put 2 rfl 0 _).put 2 rfl 1 _).put 2 rfl 2 _)
        clear hbs HS4
        change (Code.region 7 apart7 true).wp Tryd.prog _ _ _
        refine wp_region_noPanic ?_
        refine wp_region_held_drew (S := (Sp w bs1)) (by kernel_rfl) (hT.drew) (fun hHeld => ?_)
        obtain ⟨w9, hX⟩ : ∃ x, x = w8.drew := ⟨_, rfl⟩
        have hb : Below w8.heap.size w8 w9 := hX ▸ (Below.refl _ _).drew
        rw [← hX] at hHeld ⊢
        have HB := hHeld; clear hHeld
        replace HK := HK.keep hb
        clear hb hX
        refine wpAnyH_take (i := 0) (oi := ({ dst := some 26, op := .load 22 (.tmp 6), type := 22, pos := "air.go:40", after := #[], guard := none } : Oper)) (v := ?vt6_1_) rfl apart7_plain (by as_aux_lemma => kernel_rfl) (by as_aux_lemma => kernel_rfl) (fun _ _ _ h => h) (Or.inl ⟨by rfl, ?yt6_1_⟩) HB ?rt6_1_
        case yt6_1_ => (intro w hSw; (try dsimp only at hSw); go_simp; try with_reducible rfl)
        try simp only [Act.put, List.setIfInBounds_toArray, List.set_cons_zero, List.set_cons_succ]
        refine wpAnyH_take (i := 1) (oi := ({ dst := some 27, op := .load 23 (.tmp 7), type := 23, pos := "air.go:40", after := #[{ on := 2, ground := .gcOnly Go.Departure.lateStores }], guard := none } : Oper)) (v := ?vt6_2_) rfl apart7_plain (by as_aux_lemma => kernel_rfl) (by as_aux_lemma => kernel_rfl) (fun _ _ _ h => h) (Or.inl ⟨by rfl, ?yt6_2_⟩) HB ?rt6_2_
        case yt6_2_ => (intro w hSw; (try dsimp only at hSw); go_simp; try with_reducible rfl)
        try simp only [Act.put, List.setIfInBounds_toArray, List.set_cons_zero, List.set_cons_succ]
        refine wpAnyH_ready (rs := [2]) (by as_aux_lemma => kernel_rfl) (by simp) ?_
        refine AllReadyH.cons (o := ({ dst := none, op := .store 22 (.tmp 4) (.tmp 26), type := 0, pos := "air.go:40", after := #[{ on := 0, ground := .data }, { on := 0, ground := .phase }, { on := 1, ground := .textOnly Go.Departure.lateStores }], guard := none } : Oper)) rfl (fun KK hK => ?_) AllReadyH.nil
        rw [if_pos (by rfl)]
        obtain ⟨z1_0, l1_0, f1_0⟩ := HK.there 1 rfl 0 rfl
        obtain ⟨z1_1, l1_1, f1_1⟩ := HK.there 1 rfl 1 rfl
        obtain ⟨z1_2, l1_2, f1_2⟩ := HK.there 1 rfl 2 rfl
        have N1 := nx0 _ HK
        have HN := (s1_2 _ (.int .i64 x2) (s1_1 _ (.int .i64 x1) (s1_0 _ (.int .i64 x0) HB)))
        go_simp
        obtain ⟨w10, hX⟩ : ∃ x, x = (((w9.setCell ⟨w.heap.size + 1, 0, none⟩ (.int .i64 x0)).setCell ⟨w.heap.size + 1, 1, none⟩ (.int .i64 x1)).setCell ⟨w.heap.size + 1, 2, none⟩ (.int .i64 x2)) := ⟨_, rfl⟩
        rw [← hX] at HN N1 ⊢
        clear hX HK l1_0 f1_0 l1_1 f1_1 l1_2 f1_2
        have HK := N1
        clear N1
        refine hK.out _ _ ?_ (fun hHeld => ?_)
        · exact HN
        replace HB := hHeld; clear hHeld hK KK HN
        try simp only [Act.put]
        refine wpAnyH_ready (rs := [3]) (by as_aux_lemma => kernel_rfl) (by simp) ?_
        refine AllReadyH.cons (o := ({ dst := none, op := .store 23 (.tmp 5) (.tmp 27), type := 0, pos := "air.go:40", after := #[{ on := 1, ground := .data }, { on := 2, ground := .chain }, { on := 0, ground := .phase }, { on := 1, ground := .phase }, { on := 2, ground := .phase }], guard := none } : Oper)) rfl (fun KK hK => ?_) AllReadyH.nil
        rw [if_pos (by rfl)]
        obtain ⟨z2_0, l2_0, f2_0⟩ := HK.there 2 rfl 0 rfl
        obtain ⟨z2_1, l2_1, f2_1⟩ := HK.there 2 rfl 1 rfl
        obtain ⟨z2_2, l2_2, f2_2⟩ := HK.there 2 rfl 2 rfl
        have N1 := nx1 _ HK
        have HN := (s2_2 _ (.bool t2) (s2_1 _ (.bool t1) (s2_0 _ (.bool t0) HB)))
        go_simp
        obtain ⟨w11, hX⟩ : ∃ x, x = (((w10.setCell ⟨w.heap.size + 1 + 1, 0, none⟩ (.bool t0)).setCell ⟨w.heap.size + 1 + 1, 1, none⟩ (.bool t1)).setCell ⟨w.heap.size + 1 + 1, 2, none⟩ (.bool t2)) := ⟨_, rfl⟩
        rw [← hX] at HN N1 ⊢
        clear hX HK l2_0 f2_0 l2_1 f2_1 l2_2 f2_2
        refine hK.out _ _ ?_ (fun hHeld => ?_)
        · exact HN
        replace HB := hHeld; clear hHeld hK KK HN
        try simp only [Act.put]
        refine wpAnyH_done (by as_aux_lemma => kernel_rfl) ?_ _
        refine NoPanic.normal ?_
        go_wp2_with fail
        go_meet
        exact N1
      case rest =>
        rename World => w47
        have HS5 := Lib.hid hcut
        clear hcut HS4
        have k1_0 := (HS5.out).at 1 rfl 0 (v := .int .i64 x0) rfl
        have k1_1 := (HS5.out).at 1 rfl 1 (v := .int .i64 x1) rfl
        have k1_2 := (HS5.out).at 1 rfl 2 (v := .int .i64 x2) rfl
        have k2_0 := (HS5.out).at 2 rfl 0 (v := .bool t0) rfl
        have k2_1 := (HS5.out).at 2 rfl 1 (v := .bool t1) rfl
        have k2_2 := (HS5.out).at 2 rfl 2 (v := .bool t2) rfl
        have BH := Lib.hid HS5.out.below
        go_wp2_with fail
        exact bodyPost_ret (v := .tuple #[.agg #[.int .i64 x0, .int .i64 x1, .int .i64 x2], .agg #[.bool t0, .bool t1, .bool t2]]) (by simp [results, Tryd.results18, go_sem, *]) rfl ⟨rfl, BH.out⟩

/-- The operations of a drawn region, as the translation has them. -/
def apart4 : Array Oper := #[
  { dst := some 14, op := .load 22 (.tmp 6), type := 22, pos := "air.go:36", after := #[], guard := none },
  { dst := some 15, op := .load 23 (.tmp 7), type := 23, pos := "air.go:36", after := #[{ on := 2, ground := .gcOnly Go.Departure.lateStores }], guard := none },
  { dst := none, op := .store 22 (.tmp 4) (.tmp 14), type := 0, pos := "air.go:36", after := #[{ on := 0, ground := .data }, { on := 0, ground := .phase }, { on := 1, ground := .textOnly Go.Departure.lateStores }], guard := none },
  { dst := none, op := .store 23 (.tmp 5) (.tmp 15), type := 0, pos := "air.go:36", after := #[{ on := 1, ground := .data }, { on := 2, ground := .chain }, { on := 0, ground := .phase }, { on := 1, ground := .phase }, { on := 2, ground := .phase }], guard := none }]
theorem apart4_plain : Region.noSelect apart4 = true := by kernel_rfl

set_option maxHeartbeats 8000000 in
set_option maxRecDepth 100000 in
theorem Part_none (q : Array Value) (k : Int) (w : World)
    (hk : 9 < k)
    : Calls Tryd.prog 18 #[.agg q, .int .i64 k] w fun e w' => e = .returned (.tuple #[.agg #[.int .i64 0, .int .i64 0, .int .i64 0], .agg #[.bool false, .bool false, .bool false]]) ∧ Below w.heap.size w w' := by
  have d9 : decide ((9 : Int) < k) = true := decide_eq_true hk
  have d0 : decide (k < 0) = false := decide_eq_false (by omega)
  clear hk
  have hS1 := (((((Sp.none w).more q.toList 55).more [.int .i64 0, .int .i64 0, .int .i64 0] 22).more [.bool false, .bool false, .bool false] 23).more [.int .i64 0, .int .i64 0, .int .i64 0] 22).more [.bool false, .bool false, .bool false] 23
  simp only [heap1] at hS1
  have HS1 := Lib.hid (show Sp w [(w.heap.size, q.toList.map some), (w.heap.size + 1, [some (.int .i64 0), some (.int .i64 0), some (.int .i64 0)]), (w.heap.size + 1 + 1, [some (.bool false), some (.bool false), some (.bool false)]), (w.heap.size + 1 + 1 + 1, [some (.int .i64 0), some (.int .i64 0), some (.int .i64 0)]), (w.heap.size + 1 + 1 + 1 + 1, [some (.bool false), some (.bool false), some (.bool false)])] (((((w.alloc (.cells q 55)).alloc (.cells #[.int .i64 0, .int .i64 0, .int .i64 0] 22)).alloc (.cells #[.bool false, .bool false, .bool false] 23)).alloc (.cells #[.int .i64 0, .int .i64 0, .int .i64 0] 22)).alloc (.cells #[.bool false, .bool false, .bool false] 23)) from hS1)
  clear hS1
  go_enter Tryd.func18, Tryd.ntmps18
  go_upto_region 4 with fail
  obtain ⟨w1, hX, hS⟩ := (HS1.out).named
  rw [← hX]
  clear hX HS1
  have HS2 := Lib.hid hS
  clear hS
  go_cut [] from 14 to 16 (fun wx => Sp w [(w.heap.size, q.toList.map some), (w.heap.size + 1, [some (.int .i64 0), some (.int .i64 0), some (.int .i64 0)]), (w.heap.size + 1 + 1, [some (.bool false), some (.bool false), some (.bool false)]), (w.heap.size + 1 + 1 + 1, [some (.int .i64 0), some (.int .i64 0), some (.int .i64 0)]), (w.heap.size + 1 + 1 + 1 + 1, [some (.bool false), some (.bool false), some (.bool false)])] wx)
  case first =>
    obtain ⟨w2, hX, HK⟩ := (HS2.out).named
    rw [← hX]
    clear hX
    have hT := ((((((HK).forget 1 rfl 0).forget 1 rfl 1).forget 1 rfl 2).forget 2 rfl 0).forget 2 rfl 1).forget 2 rfl 2
    obtain ⟨bs1, hbs⟩ : ∃ bs : List (Nat × List (Option Value)), bs = [(w.heap.size, q.toList.map some), (w.heap.size + 1, [none, none, none]), (w.heap.size + 1 + 1, [none, none, none]), (w.heap.size + 1 + 1 + 1, [some (.int .i64 0), some (.int .i64 0), some (.int .i64 0)]), (w.heap.size + 1 + 1 + 1 + 1, [some (.bool false), some (.bool false), some (.bool false)])] := ⟨_, rfl⟩
    replace hT : Sp w bs1 w2 := hbs ▸ hT
    have c3_0 : ∀ w', Sp w bs1 w' → w'.cell? ⟨w.heap.size + 1 + 1 + 1, 0, none⟩ = some (.int .i64 0) := by rw [hbs]; exact fun w' h => h.at 3 rfl 0 rfl
    have c3_1 : ∀ w', Sp w bs1 w' → w'.cell? ⟨w.heap.size + 1 + 1 + 1, 1, none⟩ = some (.int .i64 0) := by rw [hbs]; exact fun w' h => h.at 3 rfl 1 rfl
    have c3_2 : ∀ w', Sp w bs1 w' → w'.cell? ⟨w.heap.size + 1 + 1 + 1, 2, none⟩ = some (.int .i64 0) := by rw [hbs]; exact fun w' h => h.at 3 rfl 2 rfl
    have c4_0 : ∀ w', Sp w bs1 w' → w'.cell? ⟨w.heap.size + 1 + 1 + 1 + 1, 0, none⟩ = some (.bool false) := by rw [hbs]; exact fun w' h => h.at 4 rfl 0 rfl
    have c4_1 : ∀ w', Sp w bs1 w' → w'.cell? ⟨w.heap.size + 1 + 1 + 1 + 1, 1, none⟩ = some (.bool false) := by rw [hbs]; exact fun w' h => h.at 4 rfl 1 rfl
    have c4_2 : ∀ w', Sp w bs1 w' → w'.cell? ⟨w.heap.size + 1 + 1 + 1 + 1, 2, none⟩ = some (.bool false) := by rw [hbs]; exact fun w' h => h.at 4 rfl 2 rfl
    have kS : ∀ w1 w2, Sp w bs1 w1 → Below w1.heap.size w1 w2 → Sp w bs1 w2 := fun _ _ h hb => h.keep hb
    have s1_0 : ∀ w' z, Sp w bs1 w' → Sp w bs1 (w'.setCell ⟨w.heap.size + 1, 0, none⟩ z) := by rw [hbs]; exact fun w' z h => h.hit 1 rfl 0 rfl z
    have s1_1 : ∀ w' z, Sp w bs1 w' → Sp w bs1 (w'.setCell ⟨w.heap.size + 1, 1, none⟩ z) := by rw [hbs]; exact fun w' z h => h.hit 1 rfl 1 rfl z
    have s1_2 : ∀ w' z, Sp w bs1 w' → Sp w bs1 (w'.setCell ⟨w.heap.size + 1, 2, none⟩ z) := by rw [hbs]; exact fun w' z h => h.hit 1 rfl 2 rfl z
    have s2_0 : ∀ w' z, Sp w bs1 w' → Sp w bs1 (w'.setCell ⟨w.heap.size + 1 + 1, 0, none⟩ z) := by rw [hbs]; exact fun w' z h => h.hit 2 rfl 0 rfl z
    have s2_1 : ∀ w' z, Sp w bs1 w' → Sp w bs1 (w'.setCell ⟨w.heap.size + 1 + 1, 1, none⟩ z) := by rw [hbs]; exact fun w' z h => h.hit 2 rfl 1 rfl z
    have s2_2 : ∀ w' z, Sp w bs1 w' → Sp w bs1 (w'.setCell ⟨w.heap.size + 1 + 1, 2, none⟩ z) := by rw [hbs]; exact fun w' z h => h.hit 2 rfl 2 rfl z
    have nx0 : ∀ w', Sp w [(w.heap.size, q.toList.map some), (w.heap.size + 1, [some (.int .i64 0), some (.int .i64 0), some (.int .i64 0)]), (w.heap.size + 1 + 1, [some (.bool false), some (.bool false), some (.bool false)]), (w.heap.size + 1 + 1 + 1, [some (.int .i64 0), some (.int .i64 0), some (.int .i64 0)]), (w.heap.size + 1 + 1 + 1 + 1, [some (.bool false), some (.bool false), some (.bool false)])] w' → Sp w [(w.heap.size, q.toList.map some), (w.heap.size + 1, [some (.int .i64 0), some (.int .i64 0), some (.int .i64 0)]), (w.heap.size + 1 + 1, [some (.bool false), some (.bool false), some (.bool false)]), (w.heap.size + 1 + 1 + 1, [some (.int .i64 0), some (.int .i64 0), some (.int .i64 0)]), (w.heap.size + 1 + 1 + 1 + 1, [some (.bool false), some (.bool false), some (.bool false)])] (((w'.setCell ⟨w.heap.size + 1, 0, none⟩ (.int .i64 0)).setCell ⟨w.heap.size + 1, 1, none⟩ (.int .i64 0)).setCell ⟨w.heap.size + 1, 2, none⟩ (.int .i64 0)) := fun w' h => (((h.put 1 rfl 0 _).put 1 rfl 1 _).put 1 rfl 2 _)
    have nx1 : ∀ w', Sp w [(w.heap.size, q.toList.map some), (w.heap.size + 1, [some (.int .i64 0), some (.int .i64 0), some (.int .i64 0)]), (w.heap.size + 1 + 1, [some (.bool false), some (.bool false), some (.bool false)]), (w.heap.size + 1 + 1 + 1, [some (.int .i64 0), some (.int .i64 0), some (.int .i64 0)]), (w.heap.size + 1 + 1 + 1 + 1, [some (.bool false), some (.bool false), some (.bool false)])] w' → Sp w [(w.heap.size, q.toList.map some), (w.heap.size + 1, [some (.int .i64 0), some (.int .i64 0), some (.int .i64 0)]), (w.heap.size + 1 + 1, [some (.bool false), some (.bool false), some (.bool false)]), (w.heap.size + 1 + 1 + 1, [some (.int .i64 0), some (.int .i64 0), some (.int .i64 0)]), (w.heap.size + 1 + 1 + 1 + 1, [some (.bool false), some (.bool false), some (.bool false)])] (((w'.setCell ⟨w.heap.size + 1 + 1, 0, none⟩ (.bool false)).setCell ⟨w.heap.size + 1 + 1, 1, none⟩ (.bool false)).setCell ⟨w.heap.size + 1 + 1, 2, none⟩ (.bool false)) := fun w' h => (((h.put 2 rfl 0 _).put 2 rfl 1 _).put 2 rfl 2 _)
    clear hbs HS2
    change (Code.region 4 apart4 true).wp Tryd.prog _ _ _
    refine wp_region_noPanic ?_
    refine wp_region_held_drew (S := (Sp w bs1)) (by kernel_rfl) (hT.drew) (fun hHeld => ?_)
    obtain ⟨w3, hX⟩ : ∃ x, x = w2.drew := ⟨_, rfl⟩
    have hb : Below w2.heap.size w2 w3 := hX ▸ (Below.refl _ _).drew
    rw [← hX] at hHeld ⊢
    have HB := hHeld; clear hHeld
    replace HK := HK.keep hb
    clear hb hX
    refine wpAnyH_take (i := 0) (oi := ({ dst := some 14, op := .load 22 (.tmp 6), type := 22, pos := "air.go:36", after := #[], guard := none } : Oper)) (v := ?vt7_1_) rfl apart4_plain (by as_aux_lemma => kernel_rfl) (by as_aux_lemma => kernel_rfl) (fun _ _ _ h => h) (Or.inl ⟨by rfl, ?yt7_1_⟩) HB ?rt7_1_
    case yt7_1_ => (intro w hSw; (try dsimp only at hSw); go_simp; try with_reducible rfl)
    try simp only [Act.put, List.setIfInBounds_toArray, List.set_cons_zero, List.set_cons_succ]
    refine wpAnyH_take (i := 1) (oi := ({ dst := some 15, op := .load 23 (.tmp 7), type := 23, pos := "air.go:36", after := #[{ on := 2, ground := .gcOnly Go.Departure.lateStores }], guard := none } : Oper)) (v := ?vt7_2_) rfl apart4_plain (by as_aux_lemma => kernel_rfl) (by as_aux_lemma => kernel_rfl) (fun _ _ _ h => h) (Or.inl ⟨by rfl, ?yt7_2_⟩) HB ?rt7_2_
    case yt7_2_ => (intro w hSw; (try dsimp only at hSw); go_simp; try with_reducible rfl)
    try simp only [Act.put, List.setIfInBounds_toArray, List.set_cons_zero, List.set_cons_succ]
    refine wpAnyH_ready (rs := [2]) (by as_aux_lemma => kernel_rfl) (by simp) ?_
    refine AllReadyH.cons (o := ({ dst := none, op := .store 22 (.tmp 4) (.tmp 14), type := 0, pos := "air.go:36", after := #[{ on := 0, ground := .data }, { on := 0, ground := .phase }, { on := 1, ground := .textOnly Go.Departure.lateStores }], guard := none } : Oper)) rfl (fun KK hK => ?_) AllReadyH.nil
    rw [if_pos (by rfl)]
    obtain ⟨z1_0, l1_0, f1_0⟩ := HK.there 1 rfl 0 rfl
    obtain ⟨z1_1, l1_1, f1_1⟩ := HK.there 1 rfl 1 rfl
    obtain ⟨z1_2, l1_2, f1_2⟩ := HK.there 1 rfl 2 rfl
    have N1 := nx0 _ HK
    have HN := (s1_2 _ (.int .i64 0) (s1_1 _ (.int .i64 0) (s1_0 _ (.int .i64 0) HB)))
    go_simp
    obtain ⟨w4, hX⟩ : ∃ x, x = (((w3.setCell ⟨w.heap.size + 1, 0, none⟩ (.int .i64 0)).setCell ⟨w.heap.size + 1, 1, none⟩ (.int .i64 0)).setCell ⟨w.heap.size + 1, 2, none⟩ (.int .i64 0)) := ⟨_, rfl⟩
    rw [← hX] at HN N1 ⊢
    clear hX HK l1_0 f1_0 l1_1 f1_1 l1_2 f1_2
    have HK := N1
    clear N1
    refine hK.out _ _ ?_ (fun hHeld => ?_)
    · exact HN
    replace HB := hHeld; clear hHeld hK KK HN
    try simp only [Act.put]
    refine wpAnyH_ready (rs := [3]) (by as_aux_lemma => kernel_rfl) (by simp) ?_
    refine AllReadyH.cons (o := ({ dst := none, op := .store 23 (.tmp 5) (.tmp 15), type := 0, pos := "air.go:36", after := #[{ on := 1, ground := .data }, { on := 2, ground := .chain }, { on := 0, ground := .phase }, { on := 1, ground := .phase }, { on := 2, ground := .phase }], guard := none } : Oper)) rfl (fun KK hK => ?_) AllReadyH.nil
    rw [if_pos (by rfl)]
    obtain ⟨z2_0, l2_0, f2_0⟩ := HK.there 2 rfl 0 rfl
    obtain ⟨z2_1, l2_1, f2_1⟩ := HK.there 2 rfl 1 rfl
    obtain ⟨z2_2, l2_2, f2_2⟩ := HK.there 2 rfl 2 rfl
    have N1 := nx1 _ HK
    have HN := (s2_2 _ (.bool false) (s2_1 _ (.bool false) (s2_0 _ (.bool false) HB)))
    go_simp
    obtain ⟨w5, hX⟩ : ∃ x, x = (((w4.setCell ⟨w.heap.size + 1 + 1, 0, none⟩ (.bool false)).setCell ⟨w.heap.size + 1 + 1, 1, none⟩ (.bool false)).setCell ⟨w.heap.size + 1 + 1, 2, none⟩ (.bool false)) := ⟨_, rfl⟩
    rw [← hX] at HN N1 ⊢
    clear hX HK l2_0 f2_0 l2_1 f2_1 l2_2 f2_2
    refine hK.out _ _ ?_ (fun hHeld => ?_)
    · exact HN
    replace HB := hHeld; clear hHeld hK KK HN
    try simp only [Act.put]
    refine wpAnyH_done (by as_aux_lemma => kernel_rfl) ?_ _
    refine NoPanic.normal ?_
    go_wp2_with fail
    go_meet
    exact N1
  case rest =>
    rename World => w41
    have HS3 := Lib.hid hcut
    clear hcut HS2
    have k1_0 := (HS3.out).at 1 rfl 0 (v := .int .i64 0) rfl
    have k1_1 := (HS3.out).at 1 rfl 1 (v := .int .i64 0) rfl
    have k1_2 := (HS3.out).at 1 rfl 2 (v := .int .i64 0) rfl
    have k2_0 := (HS3.out).at 2 rfl 0 (v := .bool false) rfl
    have k2_1 := (HS3.out).at 2 rfl 1 (v := .bool false) rfl
    have k2_2 := (HS3.out).at 2 rfl 2 (v := .bool false) rfl
    have BH := Lib.hid HS3.out.below
    go_wp2_with fail
    exact bodyPost_ret (v := .tuple #[.agg #[.int .i64 0, .int .i64 0, .int .i64 0], .agg #[.bool false, .bool false, .bool false]]) (by simp [results, Tryd.results18, go_sem, *]) rfl ⟨rfl, BH.out⟩


/-- a reading's number, and whether it is there, from place k on -/
def Obs.pv (k j : Nat) (r : Rd) : Int := r.val.getD (k + j) 0
def Obs.pb (k j : Nat) (r : Rd) : Bool := r.there.getD (k + j) false
abbrev p3 (k : Nat) (r : Rd) : Value := .agg #[.int .i64 (pv k 0 r), .int .i64 (pv k 1 r), .int .i64 (pv k 2 r)]
abbrev t3 (k : Nat) (r : Rd) : Value := .agg #[.bool (pb k 0 r), .bool (pb k 1 r), .bool (pb k 2 r)]
theorem pv_r6 (k j : Nat) (r : Rd) : Sp.R6 (pv k j r) := by
  unfold pv
  rw [List.getD_eq_getElem?_getD]
  cases h : r.val[k + j]? with
  | none => exact r6 (by decide) (by decide)
  | some v => exact r.hr v (List.mem_of_getElem? h)
theorem part_val (r : Rd) (k : Nat) (hk : k ≤ 9) (W : World) (b : Nat) (h : W.rangeAt b 0 (ra r).toList) : W.rangeAt b k [.int .i64 (pv k 0 r), .int .i64 (pv k 1 r), .int .i64 (pv k 2 r)] := fun j v hv => by
  have hj : j < 3 := by simpa using (List.getElem?_eq_some_iff.1 hv).1
  have e : (ra r).toList[k + j]? = some v := by
    rw [ra_list, rc_val r (k + j) (by omega)]
    match j, hj with
    | 0, _ => exact hv
    | 1, _ => exact hv
    | 2, _ => exact hv
  have := h (k + j) v e
  rwa [Nat.zero_add] at this
theorem part_there (r : Rd) (k : Nat) (hk : k ≤ 9) (W : World) (b : Nat) (h : W.rangeAt b 0 (ra r).toList) : W.rangeAt b (12 + k) [.bool (pb k 0 r), .bool (pb k 1 r), .bool (pb k 2 r)] := fun j v hv => by
  have hj : j < 3 := by simpa using (List.getElem?_eq_some_iff.1 hv).1
  have e : (ra r).toList[12 + (k + j)]? = some v := by
    rw [ra_list, rc_there r (k + j) (by omega)]
    match j, hj with
    | 0, _ => exact hv
    | 1, _ => exact hv
    | 2, _ => exact hv
  have := h (12 + (k + j)) v e
  rwa [Nat.zero_add, ← Nat.add_assoc] at this
theorem Part_any6 (r : Rd) (w : World) : Calls Tryd.prog 18 #[rv r, .int .i64 6] w fun e w' => e = .returned (.tuple #[p3 6 r, t3 6 r]) ∧ Below w.heap.size w w' :=
  Part_core6 (ra r) _ _ _ _ _ _ w (Lib.hid (part_val r 6 (by decide))) (Lib.hid (part_there r 6 (by decide)))
theorem Part_any9 (r : Rd) (w : World) : Calls Tryd.prog 18 #[rv r, .int .i64 9] w fun e w' => e = .returned (.tuple #[p3 9 r, t3 9 r]) ∧ Below w.heap.size w w' :=
  Part_core9 (ra r) _ _ _ _ _ _ w (Lib.hid (part_val r 9 (by decide))) (Lib.hid (part_there r 9 (by decide)))
/-- the course of the four hypotheses over the readings from place k on -/
def Obs.stepR (a : Ai) (k : Nat) (q : Qd) (r : Rd) : Qd := qstep a q (pv k 0 r) (pv k 1 r) (pv k 2 r) (pb k 0 r) (pb k 1 r) (pb k 2 r)
def Obs.runQ (a : Ai) (k : Nat) (l : List Rd) : Qd := l.foldl (stepR a k) (qstart a)
theorem run_next (a : Ai) (k : Nat) (l : List Rd) (r : Rd) : runQ a k (l ++ [r]) = stepR a k (runQ a k l) r := by unfold runQ; rw [List.foldl_append]; rfl
theorem stepR_r6 {a : Ai} (h : RA a) (k : Nat) {q : Qd} (o : QR q) (r : Rd) : QR (stepR a k q r) := qstep_r6 h o (pv_r6 k 0 r) (pv_r6 k 1 r) (pv_r6 k 2 r)
theorem foldR_r6 {a : Ai} (h : RA a) (k : Nat) : ∀ (l : List Rd) (q : Qd), QR q → QR (l.foldl (stepR a k) q)
  | [], _, o => o
  | r :: l, q, o => foldR_r6 h k l (stepR a k q r) (stepR_r6 h k o r)
theorem run_r6 {a : Ai} (h : RA a) (k : Nat) (l : List Rd) : QR (runQ a k l) := foldR_r6 h k l (qstart a) (qstart_r6 h)
end Go.Proofs.YtkjkmnclnedfhaaDoor
