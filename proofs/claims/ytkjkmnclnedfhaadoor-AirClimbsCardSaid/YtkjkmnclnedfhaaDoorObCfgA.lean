/- The landed config's within and RightAir. -/
import Derived.Test.YtkjkmnclnedfhaaDoorObLanA
import Derived.Test.YtkjkmnclnedfhaaDoorSlI
import Derived.ArgAppend
import Derived.WalkMore
namespace Go.Proofs.YtkjkmnclnedfhaaDoor
open Go.RowKit Obs

def okN (n : Int) : Bool := decide (0 ≤ n) && decide (n ≤ 1048576)
def okM (n : Int) : Bool := decide (1 ≤ n) && decide (n ≤ 16777216)
/-- the numbers that RightAir goes through -/
def six (a : Ai) : List Int := [a.e0, a.e1, a.e2] ++ [a.bias, a.change, a.move]
def rightF (a : Ai) : Bool := (six a).all okN && okM a.most
theorem right_ar {a : Ai} (h : rightF a = true) : AR a := by
  have e : six a = [a.e0, a.e1, a.e2, a.bias, a.change, a.move] := rfl
  unfold rightF at h
  rw [e] at h
  simp only [List.all_cons, List.all_nil, Bool.and_true, okN, okM, Bool.and_eq_true, decide_eq_true_eq] at h
  obtain ⟨⟨h0, h1, h2, h3, h4, h5⟩, h6⟩ := h
  exact ⟨h0, h1, h2, h3, h4, h5, h6⟩

theorem within_any (n lo hi : Int) (b : Bool) (hb : (decide (lo ≤ n) && decide (n ≤ hi)) = b) (w : World) :
    Calls Tryd.prog 15 #[.int .i64 n, .int .i64 lo, .int .i64 hi] w fun e w' => e = .returned (.bool b) ∧ w = w' := by
  by_cases h0 : lo ≤ n
  · by_cases h1 : n ≤ hi
    · have e : b = true := by rw [← hb, decide_eq_true h0, decide_eq_true h1]; rfl
      rw [e]
      clear hb e
      go_enter Tryd.func15, Tryd.ntmps15
      go_wp2
      go_ret
      exact ⟨rfl, rfl⟩
    · have e : b = false := by rw [← hb, decide_eq_false h1, Bool.and_false]
      rw [e]
      have d1 : decide (n ≤ hi) = false := decide_eq_false h1
      clear hb e
      go_enter Tryd.func15, Tryd.ntmps15
      go_wp2
      go_ret
      exact ⟨rfl, rfl⟩
  · have e : b = false := by rw [← hb, decide_eq_false h0]; rfl
    rw [e]
    have d0 : decide (lo ≤ n) = false := decide_eq_false h0
    clear hb e
    go_enter Tryd.func15, Tryd.ntmps15
    go_wp2
    go_ret
    exact ⟨rfl, rfl⟩

/-- a slice literal of three -/
theorem build3 (x y z : Int) (w : World) : (Instr.buildSlice 50 3 #[(0, .int .i64 x), (1, .int .i64 y), (2, .int .i64 z)]).run Tryd.prog w = .ok (.slice (some ⟨w.heap.size, 0, none⟩) 3 3) (w.alloc (.cells #[.int .i64 x, .int .i64 y, .int .i64 z] 2)) := by kernel_rfl
theorem oper_build3 {o : Oper} {a : Act} {w : World} {K : Act → World → Prop} {Q : Exit → Act → World → Prop} {x y z : Operand} {u v t : Int} (ho : o.op = .buildSlice 50 3 #[(0, x), (1, y), (2, z)]) (hx : a.eval x = .int .i64 u) (hy : a.eval y = .int .i64 v) (hz : a.eval z = .int .i64 t)
    (h : K (a.put o.dst (.slice (some ⟨w.heap.size, 0, none⟩) 3 3)) (w.alloc (.cells #[.int .i64 u, .int .i64 v, .int .i64 t] 2))) : Oper.wp Tryd.prog o a w K Q := by
  have hb := build3 u v t w
  unfold Oper.wp execOp
  simp only [ho, List.map_toArray, List.map_cons, List.map_nil, hx, hy, hz, Sem.run_bind, hb, Result.andThen_ok, Sem.run_pure]
  exact h
/-- three more behind a full slice of three: new memory -/
theorem oper_append33 {o : Oper} {a : Act} {w : World} {K : Act → World → Prop} {Q : Exit → Act → World → Prop} {s x : Operand} {b g : Nat} {l m : List Int} (ho : o.op = .call { callee := .builtin .append, args := #[s, x], argTypes := #[50, 50] })
    (hs : a.eval s = .slice (some ⟨b, 0, none⟩) 3 3) (hx : a.eval x = .slice (some ⟨g, 0, none⟩) 3 3) (hl : l.length = 3) (hm : m.length = 3) (L : ∀ j v, (c64 l)[j]? = some v → w.cell? ⟨b, j, none⟩ = some v) (M : ∀ j v, (c64 m)[j]? = some v → w.cell? ⟨g, j, none⟩ = some v) (hr : Rooms (l ++ m))
    (h : ∀ ba cap w', Came6 w' ba cap (l ++ m) → Below w.heap.size w w' → K (a.put o.dst (.slice ba 6 cap)) w') : Oper.wp Tryd.prog o a w K Q := by
  obtain ⟨i, hi, hz, hsize, hby⟩ := info64_parts
  have ad : ∀ c j : Nat, (⟨c, 0, none⟩ : Addr).add j = ⟨c, j, none⟩ := fun c j => by unfold Addr.add; split <;> simp_all
  obtain ⟨v', w', hrun, r1, r2⟩ := run_append_arg_grows (P := Tryd.prog) w 50 o.type 2 i (.int .i64 0) 1 8 Tryd.underlying50 hi hz hsize hby rfl (by decide) ⟨b, 0, none⟩ 3 3 (c64 l) (by simp [c64, hl]) (fun j u hj => by rw [ad]; exact L j u hj) ⟨g, 0, none⟩ 3 3 (c64 m) (by simp [c64, hm]) (fun j u hj => by rw [ad]; exact M j u hj) (by omega) (by unfold maxLen; omega) (by omega)
  have hk : Own6s w.heap.size w w' v' (l ++ m) := by
    refine ⟨?_, (Below.refl _ _).grown r2 (Nat.le_refl _) (fun k hk => by cases hk), r2.size⟩
    rw [c64_app, List.length_append, hl, hm]
    exact ⟨r1.1, r1.2.elim .inl fun ⟨g, cap, cur, h1, h2, h3, h4, h5, h6, h7⟩ => .inr ⟨g, cap, cur, (0, 0), h1, h2, h3, Nat.zero_le _, h4, h5, h6, h7⟩⟩
  obtain ⟨ba', cap', rfl, hC⟩ := hk.came hr
  have e6 : (l ++ m).length = 6 := by rw [List.length_append, hl, hm]
  rw [e6] at hrun
  unfold Oper.wp execOp
  simp only [ho, resolve, invoke, builtin, Sem.run_bind, Sem.run_pure, Result.andThen_ok, List.map_toArray, List.map_cons, List.map_nil, hs, hx, hrun]
  exact h ba' cap' w' hC hk.below
theorem cells3 {w : World} {b : Nat} {x y z : Int} (h0 : w.cell? ⟨b, 0, none⟩ = some (.int .i64 x)) (h1 : w.cell? ⟨b, 1, none⟩ = some (.int .i64 y)) (h2 : w.cell? ⟨b, 2, none⟩ = some (.int .i64 z)) :
    ∀ j v, (c64 [x, y, z])[j]? = some v → w.cell? ⟨b, j, none⟩ = some v := fun j v hv => by
  match j, hv with
  | 0, hv => simp [c64] at hv; subst hv; exact h0
  | 1, hv => simp [c64] at hv; subst hv; exact h1
  | 2, hv => simp [c64] at hv; subst hv; exact h2
  | (k + 3), hv => simp [c64] at hv
theorem all_at {l : List Int} {n : Nat} (h : n < l.length) (k : okN (l.getD n 0) = false) : l.all okN = false := by
  rw [List.all_eq_false]
  refine ⟨l[n], List.getElem_mem h, ?_⟩
  rw [List.getD_eq_getElem?_getD, List.getElem?_eq_getElem h] at k
  simpa using k
theorem all_all {l : List Int} (h : ∀ k, k < l.length → okN (l.getD k 0) = true) : l.all okN = true := by
  rw [List.all_eq_true]
  intro x hx
  obtain ⟨n, hn, rfl⟩ := List.mem_iff_getElem.1 hx
  have := h n hn
  rwa [List.getD_eq_getElem?_getD, List.getElem?_eq_getElem hn] at this

/-- its numbers have room -/
structure AI (a : Ai) : Prop where
  e0 : Sp.R6 a.e0
  e1 : Sp.R6 a.e1
  e2 : Sp.R6 a.e2
  bias : Sp.R6 a.bias
  change : Sp.R6 a.change
  move : Sp.R6 a.move
  most : Sp.R6 a.most

/-- The operations of a drawn region, as the translation has them. -/
def oright : Array Oper := #[
  { dst := some 5, op := .fieldAddr 25 (.tmp 1) 0, type := 0, pos := "config.go:69", after := #[], guard := none },
  { dst := some 6, op := .slice 22 (.tmp 5) none none none, type := 50, pos := "config.go:69", after := #[{ on := 0, ground := .data }], guard := none },
  { dst := some 7, op := .fieldAddr 25 (.tmp 1) 2, type := 0, pos := "config.go:69", after := #[], guard := none },
  { dst := some 8, op := .load 2 (.tmp 7), type := 2, pos := "config.go:69", after := #[{ on := 2, ground := .data }], guard := none },
  { dst := some 9, op := .fieldAddr 25 (.tmp 1) 3, type := 0, pos := "config.go:69", after := #[], guard := none },
  { dst := some 10, op := .load 2 (.tmp 9), type := 2, pos := "config.go:69", after := #[{ on := 4, ground := .data }], guard := none },
  { dst := some 11, op := .fieldAddr 25 (.tmp 1) 4, type := 0, pos := "config.go:69", after := #[], guard := none },
  { dst := some 12, op := .load 2 (.tmp 11), type := 2, pos := "config.go:69", after := #[{ on := 6, ground := .data }], guard := none },
  { dst := some 13, op := .buildSlice 50 3 #[(0, .tmp 8), (1, .tmp 10), (2, .tmp 12)], type := 50, pos := "config.go:69", after := #[{ on := 3, ground := .data }, { on := 5, ground := .data }, { on := 7, ground := .data }], guard := none },
  { dst := some 14, op := .call { callee := .builtin .append, args := #[.tmp 6, .tmp 13], argTypes := #[50, 50] }, type := 50, pos := "config.go:69", after := #[{ on := 1, ground := .data }, { on := 8, ground := .data }], guard := none },
  { dst := some 15, op := .call { callee := .builtin .len, args := #[.tmp 14], argTypes := #[50] }, type := 3, pos := "config.go:69", after := #[{ on := 9, ground := .data }], guard := none },
  { dst := some 16, op := .move (.const (.int .i64 0)), type := 3, pos := "config.go:69", after := #[], guard := none }]
theorem oright_plain : Region.noSelect oright = true := by kernel_rfl

set_option maxHeartbeats 8000000 in
set_option maxRecDepth 100000 in
theorem RightAir_any (a : Ai) (h : AI a) (w : World) :
    Calls Tryd.prog 4 #[av a] w fun e w' => e = .returned (.bool (rightF a)) ∧ Below w.heap.size w w' := by
  have hroom : Rooms (six a) := fun x hx => by
    have e : six a = [a.e0, a.e1, a.e2, a.bias, a.change, a.move] := rfl
    rw [e] at hx
    simp only [List.mem_cons, List.not_mem_nil, or_false] at hx
    rcases hx with rfl | rfl | rfl | rfl | rfl | rfl
    · exact h.e0
    · exact h.e1
    · exact h.e2
    · exact h.bias
    · exact h.change
    · exact h.move
  have HR := Lib.hid hroom
  have h6 : (six a).length = 6 := rfl
  obtain ⟨l, hl⟩ : ∃ l, l = six a := ⟨_, rfl⟩
  have HL : Hid ([a.e0, a.e1, a.e2] ++ [a.bias, a.change, a.move] = l) := Lib.hid hl.symm
  have er : rightF a = (l.all okN && okM a.most) := by rw [hl]; rfl
  rw [er]
  rw [← hl] at HR h6
  have H6 := Lib.hid h6
  have WI := Lib.hid fun n b hb w => within_any n 0 1048576 b hb w
  have WM := Lib.hid fun w => within_any a.most 1 16777216 (okM a.most) rfl w
  obtain ⟨bm, hbm⟩ : ∃ b, b = okM a.most := ⟨_, rfl⟩
  rw [← hbm] at WM ⊢
  clear h hroom hl er h6 hbm
  have A0 := Lib.hid ((Sp.none w).more (al a) 25)
  obtain ⟨W0, hW⟩ : ∃ W0, W0 = w.alloc (.cells (al a).toArray 25) := ⟨_, rfl⟩
  have hS0 : Sp w [(w.heap.size, (al a).map some)] W0 := hW ▸ A0.out
  clear A0
  have e0 : ∀ w', Below W0.heap.size W0 w' → w'.cell? ⟨w.heap.size, 0, none⟩ = some (.int .i64 a.e0) := fun w' h => (hS0.keep h).at 0 rfl 0 rfl
  have e1 : ∀ w', Below W0.heap.size W0 w' → w'.cell? ⟨w.heap.size, 1, none⟩ = some (.int .i64 a.e1) := fun w' h => (hS0.keep h).at 0 rfl 1 rfl
  have e2 : ∀ w', Below W0.heap.size W0 w' → w'.cell? ⟨w.heap.size, 2, none⟩ = some (.int .i64 a.e2) := fun w' h => (hS0.keep h).at 0 rfl 2 rfl
  have EE := Lib.hid (And.intro e0 (And.intro e1 e2))
  have c6 : ∀ w', Below W0.heap.size W0 w' → w'.cell? ⟨w.heap.size, 6, none⟩ = some (.int .i64 a.bias) := fun w' h => (hS0.keep h).at 0 rfl 6 rfl
  have c7 : ∀ w', Below W0.heap.size W0 w' → w'.cell? ⟨w.heap.size, 7, none⟩ = some (.int .i64 a.change) := fun w' h => (hS0.keep h).at 0 rfl 7 rfl
  have c8 : ∀ w', Below W0.heap.size W0 w' → w'.cell? ⟨w.heap.size, 8, none⟩ = some (.int .i64 a.move) := fun w' h => (hS0.keep h).at 0 rfl 8 rfl
  have HS := Lib.hid hS0
  clear hS0 e0 e1 e2
  go_enter Tryd.func4, Tryd.ntmps4
  go_upto_region 1 with fail
  change Code.wp _ _ _ _ (w.alloc (.cells (al a).toArray 25))
  rw [← hW]
  clear hW
  change (Code.region 1 oright true).wp Tryd.prog _ _ _
  refine wp_region_noPanic ?_
  refine wp_region_held_drew (S := fun w' => Below W0.heap.size W0 w') (by kernel_rfl) ((Below.refl _ _).drew) (fun hHeld => ?_)
  obtain ⟨w2, hX⟩ : ∃ x, x = W0.drew := ⟨_, rfl⟩
  have hb : Below W0.heap.size W0 w2 := hX ▸ (Below.refl _ _).drew
  rw [← hX] at hHeld ⊢
  have HB := hHeld; clear hHeld
  clear hb hX
  refine wpAnyH_take (i := 0) (oi := ({ dst := some 5, op := .fieldAddr 25 (.tmp 1) 0, type := 0, pos := "config.go:69", after := #[], guard := none } : Oper)) (v := ?vt1_1_) rfl oright_plain (by as_aux_lemma => kernel_rfl) (by as_aux_lemma => kernel_rfl) (fun _ _ _ h => h) (Or.inl ⟨by rfl, ?yt1_1_⟩) HB ?rt1_1_
  case yt1_1_ => (intro w hSw; (try dsimp only at hSw); go_simp; try with_reducible rfl)
  try simp only [Act.put, List.setIfInBounds_toArray, List.set_cons_zero, List.set_cons_succ]
  refine wpAnyH_take (i := 1) (oi := ({ dst := some 6, op := .slice 22 (.tmp 5) none none none, type := 50, pos := "config.go:69", after := #[{ on := 0, ground := .data }], guard := none } : Oper)) (v := ?vt1_2_) rfl oright_plain (by as_aux_lemma => kernel_rfl) (by as_aux_lemma => kernel_rfl) (fun _ _ _ h => h) (Or.inl ⟨by rfl, ?yt1_2_⟩) HB ?rt1_2_
  case yt1_2_ => (intro w hSw; (try dsimp only at hSw); go_simp; try with_reducible rfl)
  try simp only [Act.put, List.setIfInBounds_toArray, List.set_cons_zero, List.set_cons_succ]
  refine wpAnyH_take (i := 2) (oi := ({ dst := some 7, op := .fieldAddr 25 (.tmp 1) 2, type := 0, pos := "config.go:69", after := #[], guard := none } : Oper)) (v := ?vt1_3_) rfl oright_plain (by as_aux_lemma => kernel_rfl) (by as_aux_lemma => kernel_rfl) (fun _ _ _ h => h) (Or.inl ⟨by rfl, ?yt1_3_⟩) HB ?rt1_3_
  case yt1_3_ => (intro w hSw; (try dsimp only at hSw); go_simp; try with_reducible rfl)
  try simp only [Act.put, List.setIfInBounds_toArray, List.set_cons_zero, List.set_cons_succ]
  refine wpAnyH_take (i := 3) (oi := ({ dst := some 8, op := .load 2 (.tmp 7), type := 2, pos := "config.go:69", after := #[{ on := 2, ground := .data }], guard := none } : Oper)) (v := ?vt1_4_) rfl oright_plain (by as_aux_lemma => kernel_rfl) (by as_aux_lemma => kernel_rfl) (fun _ _ _ h => h) (Or.inl ⟨by rfl, ?yt1_4_⟩) HB ?rt1_4_
  case yt1_4_ => (intro w hSw; (try dsimp only at hSw); go_simp; try with_reducible rfl)
  try simp only [Act.put, List.setIfInBounds_toArray, List.set_cons_zero, List.set_cons_succ]
  refine wpAnyH_take (i := 4) (oi := ({ dst := some 9, op := .fieldAddr 25 (.tmp 1) 3, type := 0, pos := "config.go:69", after := #[], guard := none } : Oper)) (v := ?vt1_5_) rfl oright_plain (by as_aux_lemma => kernel_rfl) (by as_aux_lemma => kernel_rfl) (fun _ _ _ h => h) (Or.inl ⟨by rfl, ?yt1_5_⟩) HB ?rt1_5_
  case yt1_5_ => (intro w hSw; (try dsimp only at hSw); go_simp; try with_reducible rfl)
  try simp only [Act.put, List.setIfInBounds_toArray, List.set_cons_zero, List.set_cons_succ]
  refine wpAnyH_take (i := 5) (oi := ({ dst := some 10, op := .load 2 (.tmp 9), type := 2, pos := "config.go:69", after := #[{ on := 4, ground := .data }], guard := none } : Oper)) (v := ?vt1_6_) rfl oright_plain (by as_aux_lemma => kernel_rfl) (by as_aux_lemma => kernel_rfl) (fun _ _ _ h => h) (Or.inl ⟨by rfl, ?yt1_6_⟩) HB ?rt1_6_
  case yt1_6_ => (intro w hSw; (try dsimp only at hSw); go_simp; try with_reducible rfl)
  try simp only [Act.put, List.setIfInBounds_toArray, List.set_cons_zero, List.set_cons_succ]
  refine wpAnyH_take (i := 6) (oi := ({ dst := some 11, op := .fieldAddr 25 (.tmp 1) 4, type := 0, pos := "config.go:69", after := #[], guard := none } : Oper)) (v := ?vt1_7_) rfl oright_plain (by as_aux_lemma => kernel_rfl) (by as_aux_lemma => kernel_rfl) (fun _ _ _ h => h) (Or.inl ⟨by rfl, ?yt1_7_⟩) HB ?rt1_7_
  case yt1_7_ => (intro w hSw; (try dsimp only at hSw); go_simp; try with_reducible rfl)
  try simp only [Act.put, List.setIfInBounds_toArray, List.set_cons_zero, List.set_cons_succ]
  refine wpAnyH_take (i := 7) (oi := ({ dst := some 12, op := .load 2 (.tmp 11), type := 2, pos := "config.go:69", after := #[{ on := 6, ground := .data }], guard := none } : Oper)) (v := ?vt1_8_) rfl oright_plain (by as_aux_lemma => kernel_rfl) (by as_aux_lemma => kernel_rfl) (fun _ _ _ h => h) (Or.inl ⟨by rfl, ?yt1_8_⟩) HB ?rt1_8_
  case yt1_8_ => (intro w hSw; (try dsimp only at hSw); go_simp; try with_reducible rfl)
  try simp only [Act.put, List.setIfInBounds_toArray, List.set_cons_zero, List.set_cons_succ]
  refine wpAnyH_take (i := 11) (oi := ({ dst := some 16, op := .move (.const (.int .i64 0)), type := 3, pos := "config.go:69", after := #[], guard := none } : Oper)) (v := ?vt1_9_) rfl oright_plain (by as_aux_lemma => kernel_rfl) (by as_aux_lemma => kernel_rfl) (fun _ _ _ h => h) (Or.inl ⟨by rfl, ?yt1_9_⟩) HB ?rt1_9_
  case yt1_9_ => (intro w hSw; (try dsimp only at hSw); go_simp; try with_reducible rfl)
  try simp only [Act.put, List.setIfInBounds_toArray, List.set_cons_zero, List.set_cons_succ]
  refine wpAnyH_ready (rs := [8]) (by as_aux_lemma => kernel_rfl) (by simp) ?_
  refine AllReadyH.cons (o := ({ dst := some 13, op := .buildSlice 50 3 #[(0, .tmp 8), (1, .tmp 10), (2, .tmp 12)], type := 50, pos := "config.go:69", after := #[{ on := 3, ground := .data }, { on := 5, ground := .data }, { on := 7, ground := .data }], guard := none } : Oper)) rfl (fun KK hK => ?_) AllReadyH.nil
  rw [if_pos (by rfl)]
  refine oper_build3 (u := a.bias) (v := a.change) (t := a.move) rfl rfl rfl rfl ?_
  have hb := below1 w2 (.cells #[.int .i64 a.bias, .int .i64 a.change, .int .i64 a.move] 2)
  obtain ⟨gv, hgv⟩ : ∃ g, g = w2.heap.size := ⟨_, rfl⟩
  obtain ⟨w3, hX⟩ : ∃ x, x = w2.alloc (.cells #[.int .i64 a.bias, .int .i64 a.change, .int .i64 a.move] 2) := ⟨_, rfl⟩
  have hM : ∀ j v, (c64 [a.bias, a.change, a.move])[j]? = some v → w3.cell? ⟨gv, j, none⟩ = some v := (by rw [hX, hgv]; exact cells3 (by simp) (by simp) (by simp))
  rw [← hgv]
  rw [← hX] at hb ⊢
  clear hX hgv
  refine hK.out _ _ ?_ (fun hHeld => ?_)
  · exact belowT HB hb
  replace HB := hHeld; clear hHeld hK KK
  clear hb
  try simp only [Act.put, List.setIfInBounds_toArray, List.set_cons_zero, List.set_cons_succ]
  refine wpAnyH_ready (rs := [9]) (by as_aux_lemma => kernel_rfl) (by simp) ?_
  refine AllReadyH.cons (o := ({ dst := some 14, op := .call { callee := .builtin .append, args := #[.tmp 6, .tmp 13], argTypes := #[50, 50] }, type := 50, pos := "config.go:69", after := #[{ on := 1, ground := .data }, { on := 8, ground := .data }], guard := none } : Oper)) rfl (fun KK hK => ?_) AllReadyH.nil
  rw [if_pos (by rfl)]
  refine oper_append33 (b := w.heap.size) (l := [a.e0, a.e1, a.e2]) (m := [a.bias, a.change, a.move]) rfl rfl rfl rfl rfl (cells3 (EE.out.1 _ HB) (EE.out.2.1 _ HB) (EE.out.2.2 _ HB)) hM (by rw [HL.out]; exact HR.out) (fun ba cap w4 hC hb => ?_)
  rw [HL.out] at hC
  clear hM
  refine hK.out _ _ ?_ (fun hHeld => ?_)
  · exact belowT HB hb
  replace HB := hHeld; clear hHeld hK KK
  clear hb
  try simp only [Act.put, List.setIfInBounds_toArray, List.set_cons_zero, List.set_cons_succ]
  refine wpAnyH_take (i := 10) (oi := ({ dst := some 15, op := .call { callee := .builtin .len, args := #[.tmp 14], argTypes := #[50] }, type := 3, pos := "config.go:69", after := #[{ on := 9, ground := .data }], guard := none } : Oper)) (v := ?vt1_10_) rfl oright_plain (by as_aux_lemma => kernel_rfl) (by as_aux_lemma => kernel_rfl) (fun _ _ _ h => h) (Or.inl ⟨by rfl, ?yt1_10_⟩) HB ?rt1_10_
  case yt1_10_ => (intro w hSw; (try dsimp only at hSw); go_simp; try with_reducible rfl)
  try simp only [Act.put, List.setIfInBounds_toArray, List.set_cons_zero, List.set_cons_succ]
  refine wpAnyH_done (by as_aux_lemma => kernel_rfl) ?_ _
  refine NoPanic.normal ?_
  skip
  have HC := Lib.hid hC
  have HB0 := Lib.hid (HS.out.keep HB)
  clear hC HB EE HR HL c6 c7 c8 HS
  rename World => w1
  go_wp2
  go_loopw [16] (fun i wr => ∃ j : Nat, j ≤ 6 ∧ i = .int .i64 j ∧ Below w1.heap.size w1 wr ∧ ∀ k, k < j → okN (l.getD k 0) = true) (fun i _ => 6 - (intOf i).toNat)
  case atStart => exact ⟨0, by omega, rfl, Below.refl _ _, fun k hk => absurd hk (Nat.not_lt_zero k)⟩
  case round =>
    obtain ⟨j, hj, rfl, hB, hok⟩ := hrel
    by_cases hc : (j : Int) < 6
    · obtain ⟨b, o, rfl, L⟩ := (HC.out.keep hB).lies (by rw [H6.out]; omega)
      have hx := L j (by rw [H6.out]; omega)
      have HJ := Lib.hid hok
      have HBB := Lib.hid hB
      obtain ⟨x, hxx⟩ : ∃ x, x = l.getD j 0 := ⟨_, rfl⟩
      rw [← hxx] at hx
      have HX := Lib.hid hxx
      have hd : (j : Int) ≥ 0 := by omega
      clear L hok hB hxx
      rcases Bool.eq_false_or_eq_true (okN x) with hv | hv
      · have W1 := Lib.hid fun w => WI.out x true hv w
        have HV := Lib.hid hv
        clear hv
        go_wp2_with fail
        refine (W1.out _).mono ?_; rintro e w2 ⟨rfl, rfl⟩
        go_wp2_with fail
        go_roundw
        case rel =>
          refine ⟨j + 1, by omega, rfl, HBB.out, fun k hk => ?_⟩
          by_cases hkj : k = j
          · rw [hkj, ← HX.out]; exact HV.out
          · exact HJ.out k (by omega)
        case measure => simp [intOf]; omega
      · have W1 := Lib.hid fun w => WI.out x false hv w
        have HV := Lib.hid hv
        have HA := Lib.hid (all_at (l := l) (n := j) (by rw [H6.out]; omega) (by rw [← HX.out]; exact hv))
        clear hv
        go_wp2_with fail
        refine (W1.out _).mono ?_; rintro e w2 ⟨rfl, rfl⟩
        have BE := Lib.hid (belowT HB0.out.below HBB.out)
        go_wp2_with fail
        go_ret
        exact ⟨by rw [HA.out, Bool.false_and]; rfl, BE.out⟩
    · obtain rfl : j = 6 := by omega
      have HA := Lib.hid (all_all (l := l) (fun k hk => hok k (by rw [H6.out] at hk; exact hk)))
      have HS2 := HB0.out.keep hB
      have c9 := HS2.at 0 rfl 9 (v := .int .i64 a.most) rfl
      have BE := Lib.hid HS2.below
      clear hok hB hc HS2 HB0 HC
      go_wp2_with fail
      refine (WM.out _).mono ?_; rintro e w2 ⟨rfl, rfl⟩
      go_wp2_with fail
      go_ret
      exact ⟨by rw [HA.out, Bool.true_and]; rfl, BE.out⟩
end Go.Proofs.YtkjkmnclnedfhaaDoor
