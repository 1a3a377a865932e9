/- ObserverHas. -/
import Derived.Test.YtfofcacjckdejaaDoorObAwake
import Derived.Test.YtfofcacjckdejaaDoorObRealB
import Derived.Test.YtfofcacjckdejaaDoorObCfgA
import Derived.Test.YtfofcacjckdejaaDoorYld
namespace Go.Proofs.YtfofcacjckdejaaDoor
open Go.RowKit Obs

/-- The operations of a drawn region, as the translation has them. -/
def ohas3 : Array Oper := #[
  { dst := some 25, op := .indexAddr 22 (.tmp 5) (.const (.int .i64 0)), type := 0, pos := "law.go:69", after := #[], guard := none },
  { dst := some 26, op := .load 2 (.tmp 25), type := 2, pos := "law.go:69", after := #[{ on := 0, ground := .data }], guard := none },
  { dst := some 27, op := .fieldAddr 25 (.tmp 3) 5, type := 0, pos := "law.go:69", after := #[], guard := none },
  { dst := some 28, op := .load 2 (.tmp 27), type := 2, pos := "law.go:69", after := #[{ on := 2, ground := .data }], guard := none },
  { dst := some 29, op := .call { callee := .value (.func 6), args := #[.tmp 26, .tmp 28], argTypes := #[2, 2] }, type := 2, pos := "law.go:69", after := #[{ on := 1, ground := .data }, { on := 3, ground := .data }], guard := none },
  { dst := some 30, op := .indexAddr 22 (.tmp 5) (.const (.int .i64 1)), type := 0, pos := "law.go:69", after := #[], guard := none },
  { dst := some 31, op := .load 2 (.tmp 30), type := 2, pos := "law.go:69", after := #[{ on := 5, ground := .data }], guard := none },
  { dst := some 32, op := .fieldAddr 25 (.tmp 3) 2, type := 0, pos := "law.go:69", after := #[], guard := none },
  { dst := some 33, op := .load 2 (.tmp 32), type := 2, pos := "law.go:69", after := #[{ on := 7, ground := .data }], guard := none },
  { dst := some 34, op := .call { callee := .value (.func 6), args := #[.tmp 31, .tmp 33], argTypes := #[2, 2] }, type := 2, pos := "law.go:69", after := #[{ on := 6, ground := .data }, { on := 8, ground := .data }, { on := 4, ground := .chain }], guard := none },
  { dst := some 35, op := .indexAddr 22 (.tmp 5) (.const (.int .i64 2)), type := 0, pos := "law.go:69", after := #[{ on := 17, ground := .gcOnly Go.Departure.lateStores }], guard := none },
  { dst := some 36, op := .load 2 (.tmp 35), type := 2, pos := "law.go:69", after := #[{ on := 10, ground := .data }, { on := 17, ground := .gcOnly Go.Departure.lateStores }], guard := none },
  { dst := some 37, op := .convert 2 30 (.tmp 36), type := 30, pos := "law.go:69", after := #[{ on := 11, ground := .data }, { on := 17, ground := .gcOnly Go.Departure.lateStores }], guard := none },
  { dst := some 38, op := .binOp .rem 30 (.tmp 37) (.const (.int .u64 4)) 30, type := 30, pos := "law.go:69", after := #[{ on := 12, ground := .data }, { on := 17, ground := .gcOnly Go.Departure.lateStores }], guard := none },
  { dst := some 39, op := .convert 30 3 (.tmp 38), type := 3, pos := "law.go:69", after := #[{ on := 13, ground := .data }, { on := 17, ground := .gcOnly Go.Departure.lateStores }], guard := none },
  { dst := some 40, op := .binOp .sub 3 (.tmp 39) (.const (.int .i64 1)) 3, type := 3, pos := "law.go:69", after := #[{ on := 14, ground := .data }, { on := 17, ground := .gcOnly Go.Departure.lateStores }], guard := none },
  { dst := some 7, op := .assign (.tmp 29), type := 2, pos := "law.go:69", after := #[{ on := 4, ground := .data }, { on := 9, ground := .chain }, { on := 0, ground := .phase }, { on := 1, ground := .phase }, { on := 2, ground := .phase }, { on := 3, ground := .phase }, { on := 4, ground := .phase }, { on := 5, ground := .textOnly Go.Departure.lateStores }, { on := 6, ground := .textOnly Go.Departure.lateStores }, { on := 7, ground := .textOnly Go.Departure.lateStores }, { on := 8, ground := .textOnly Go.Departure.lateStores }, { on := 9, ground := .textOnly Go.Departure.lateStoresUnsure }, { on := 10, ground := .textOnly Go.Departure.lateStores }, { on := 11, ground := .textOnly Go.Departure.lateStores }, { on := 12, ground := .textOnly Go.Departure.lateStores }, { on := 13, ground := .textOnly Go.Departure.lateStores }, { on := 14, ground := .textOnly Go.Departure.lateStores }, { on := 15, ground := .textOnly Go.Departure.lateStores }], guard := none },
  { dst := some 8, op := .assign (.tmp 34), type := 2, pos := "law.go:69", after := #[{ on := 9, ground := .data }, { on := 16, ground := .chain }, { on := 0, ground := .phase }, { on := 1, ground := .phase }, { on := 2, ground := .phase }, { on := 3, ground := .phase }, { on := 4, ground := .phase }, { on := 5, ground := .phase }, { on := 6, ground := .phase }, { on := 7, ground := .phase }, { on := 8, ground := .phase }, { on := 9, ground := .phase }, { on := 10, ground := .textOnly Go.Departure.lateStores }, { on := 11, ground := .textOnly Go.Departure.lateStores }, { on := 12, ground := .textOnly Go.Departure.lateStores }, { on := 13, ground := .textOnly Go.Departure.lateStores }, { on := 14, ground := .textOnly Go.Departure.lateStores }, { on := 15, ground := .textOnly Go.Departure.lateStores }, { on := 16, ground := .phase }], guard := none },
  { dst := some 9, op := .assign (.tmp 40), type := 3, pos := "law.go:69", after := #[{ on := 15, ground := .data }, { on := 17, ground := .chain }, { on := 0, ground := .phase }, { on := 1, ground := .phase }, { on := 2, ground := .phase }, { on := 3, ground := .phase }, { on := 4, ground := .phase }, { on := 5, ground := .phase }, { on := 6, ground := .phase }, { on := 7, ground := .phase }, { on := 8, ground := .phase }, { on := 9, ground := .phase }, { on := 10, ground := .phase }, { on := 11, ground := .phase }, { on := 12, ground := .phase }, { on := 13, ground := .phase }, { on := 14, ground := .phase }, { on := 15, ground := .phase }, { on := 16, ground := .phase }, { on := 17, ground := .phase }], guard := none }]
theorem ohas3_plain : Region.noSelect ohas3 = true := by kernel_rfl

/-- what holds ahead of each tick -/
structure St29 (a : Ai) (o : Ob) (v b : Int) : Prop where
  kn : Knows o v b
  ro : OR o
  v1 : -a.most ≤ v
  v2 : v ≤ a.most
  b1 : -a.bias ≤ b
  b2 : b ≤ a.bias
set_option maxHeartbeats 40000000 in
set_option maxRecDepth 100000 in
theorem has_core {w : World} {ba : Option Addr} {cap : Nat} {l : List Tk} (C : CameTk w ba cap l) (a : Ai) (n0 n1 n2 : Int) (n : NoneAt w) (c : ConeAt w) (ai : AI a) (hr : rightF a = true) (h : AR a) (h100 : ¬ (100 : Int) < l.length) :
    Calls Tryd.prog 3 #[av a, .slice ba l.length cap, .agg #[.int .i64 n0, .int .i64 n1, .int .i64 n2]] w fun e w' => e = .returned (.bool true) ∧ Below w.heap.size w w' := by
  have hlen := C.le; have hmax := C.max; unfold maxLen at hmax
  have d100 : decide ((100 : Int) < l.length) = false := decide_eq_false h100
  have HC := Lib.hid C
  have AWC := Lib.hid fun w' (B : Below w.heap.size w w') => awake_any w' (n.keep B) (c.keep B)
  have RA := Lib.hid fun w => RightAir_any a ai w
  rw [hr] at RA
  have WV := Lib.hid fun w => Within_b n0 a.most w (by have := h.most; omega) (by have := h.most; omega)
  have WB := Lib.hid fun w => Within_b n1 a.bias w h.bias.1 (by have := h.bias; omega)
  have SA := Lib.hid fun w => Start_any a w h
  have kx := wt_in n0 a.most (by have := h.most; omega)
  have ky := wt_in n1 a.bias h.bias.1
  have HST := Lib.hid (show St29 a (Obs.start a) (wt n0 a.most) (wt n1 a.bias) from ⟨start_knows kx.1 kx.2 ky.1 ky.2, start_r6 h, kx.1, kx.2, ky.1, ky.2⟩)
  obtain ⟨u, hu⟩ : ∃ u, IntKind.u64.wrap n2 = u := ⟨_, rfl⟩
  obtain ⟨q, hq⟩ : ∃ q, u.tmod 4 = q := ⟨_, rfl⟩
  have hu0 : 0 ≤ u := by rw [← hu, IntKind.wrap_u64]; omega
  have hq0 := Int.tmod_nonneg 4 hu0
  have hq1 := Int.tmod_lt_of_pos u (show (0 : Int) < 4 by decide)
  rw [hq] at hq0 hq1
  have hq2 : IntKind.i64.wrap q = q := (wrap_i64 _).trans (by omega)
  obtain ⟨bad, hbad⟩ : ∃ bad, IntKind.i64.wrap (q - 1) = bad := ⟨_, rfl⟩
  have NN := Lib.hid n
  have HH := Lib.hid h
  clear hu0 kx ky n c ai hr h h100 C
  generalize wt n0 a.most = x0 at *
  generalize wt n1 a.bias = y0 at *
  generalize Obs.start a = o0 at *
  have hS1 := ((Sp.none w).more [.int .i64 a.e0, .int .i64 a.e1, .int .i64 a.e2, .bool a.b0, .bool a.b1, .bool a.b2, .int .i64 a.bias, .int .i64 a.change, .int .i64 a.move, .int .i64 a.most] 25).more [.int .i64 n0, .int .i64 n1, .int .i64 n2] 22
  simp only [heap1] at hS1
  have HS1 := Lib.hid hS1
  clear hS1
  go_enter Tryd.func3, Tryd.ntmps3
  go_wp2_with fail
  refine (RA.out _).mono ?_; rintro e w1 ⟨rfl, hb1⟩
  have hS2 := (HS1.out).keep hb1
  have HS2 := Lib.hid hS2
  clear hS2 HS1
  clear hb1
  clear RA
  go_upto_region 3 with fail
  obtain ⟨bs1, hbs⟩ : ∃ bs : List (Nat × List (Option Value)), bs = [(w.heap.size, [some (.int .i64 a.e0), some (.int .i64 a.e1), some (.int .i64 a.e2), some (.bool a.b0), some (.bool a.b1), some (.bool a.b2), some (.int .i64 a.bias), some (.int .i64 a.change), some (.int .i64 a.move), some (.int .i64 a.most)]), (w.heap.size + 1, [some (.int .i64 n0), some (.int .i64 n1), some (.int .i64 n2)])] := ⟨_, rfl⟩
  have hT := (HS2.out).cast hbs
  have c1_0 : ∀ w', Sp w bs1 w' → w'.cell? ⟨w.heap.size + 1, 0, none⟩ = some (.int .i64 n0) := by rw [hbs]; exact fun w' h => h.at 1 rfl 0 rfl
  have c1_1 : ∀ w', Sp w bs1 w' → w'.cell? ⟨w.heap.size + 1, 1, none⟩ = some (.int .i64 n1) := by rw [hbs]; exact fun w' h => h.at 1 rfl 1 rfl
  have c1_2 : ∀ w', Sp w bs1 w' → w'.cell? ⟨w.heap.size + 1, 2, none⟩ = some (.int .i64 n2) := by rw [hbs]; exact fun w' h => h.at 1 rfl 2 rfl
  have c0_6 : ∀ w', Sp w bs1 w' → w'.cell? ⟨w.heap.size, 6, none⟩ = some (.int .i64 a.bias) := by rw [hbs]; exact fun w' h => h.at 0 rfl 6 rfl
  have c0_9 : ∀ w', Sp w bs1 w' → w'.cell? ⟨w.heap.size, 9, none⟩ = some (.int .i64 a.most) := by rw [hbs]; exact fun w' h => h.at 0 rfl 9 rfl
  have nx : ∀ w', Sp w bs1 w' → Sp w [(w.heap.size, [some (.int .i64 a.e0), some (.int .i64 a.e1), some (.int .i64 a.e2), some (.bool a.b0), some (.bool a.b1), some (.bool a.b2), some (.int .i64 a.bias), some (.int .i64 a.change), some (.int .i64 a.move), some (.int .i64 a.most)]), (w.heap.size + 1, [some (.int .i64 n0), some (.int .i64 n1), some (.int .i64 n2)])] w' := by rw [hbs]; exact fun w' h => h
  have kS : ∀ w1 w2, Sp w bs1 w1 → Below w1.heap.size w1 w2 → Sp w bs1 w2 := fun _ _ h hb => h.keep hb
  clear hbs HS2
  change (Code.region 3 ohas3 true).wp Tryd.prog _ _ _
  refine wp_region_noPanic ?_
  refine wp_region_held_drew (S := (Sp w bs1)) (by kernel_rfl) (hT.drew) (fun hHeld => ?_)
  refine wpAnyH_take (i := 0) (oi := ({ dst := some 25, op := .indexAddr 22 (.tmp 5) (.const (.int .i64 0)), type := 0, pos := "law.go:69", after := #[], guard := none } : Oper)) (v := ?vs1_0) rfl ohas3_plain (by as_aux_lemma => kernel_rfl) (by as_aux_lemma => kernel_rfl) (fun _ _ _ h => h) (Or.inl ⟨by rfl, ?ys1_0⟩) (by assumption) ?rs1_0
  case ys1_0 => (intro w hSw; (try dsimp only at hSw); go_simp; try with_reducible rfl)
  try simp only [Act.put, List.setIfInBounds_toArray, List.set_cons_zero, List.set_cons_succ]
  refine wpAnyH_take (i := 1) (oi := ({ dst := some 26, op := .load 2 (.tmp 25), type := 2, pos := "law.go:69", after := #[{ on := 0, ground := .data }], guard := none } : Oper)) (v := ?vs1_1) rfl ohas3_plain (by as_aux_lemma => kernel_rfl) (by as_aux_lemma => kernel_rfl) (fun _ _ _ h => h) (Or.inl ⟨by rfl, ?ys1_1⟩) (by assumption) ?rs1_1
  case ys1_1 => (intro w hSw; (try dsimp only at hSw); go_simp; try with_reducible rfl)
  try simp only [Act.put, List.setIfInBounds_toArray, List.set_cons_zero, List.set_cons_succ]
  refine wpAnyH_take (i := 2) (oi := ({ dst := some 27, op := .fieldAddr 25 (.tmp 3) 5, type := 0, pos := "law.go:69", after := #[], guard := none } : Oper)) (v := ?vs1_2) rfl ohas3_plain (by as_aux_lemma => kernel_rfl) (by as_aux_lemma => kernel_rfl) (fun _ _ _ h => h) (Or.inl ⟨by rfl, ?ys1_2⟩) (by assumption) ?rs1_2
  case ys1_2 => (intro w hSw; (try dsimp only at hSw); go_simp; try with_reducible rfl)
  try simp only [Act.put, List.setIfInBounds_toArray, List.set_cons_zero, List.set_cons_succ]
  refine wpAnyH_take (i := 3) (oi := ({ dst := some 28, op := .load 2 (.tmp 27), type := 2, pos := "law.go:69", after := #[{ on := 2, ground := .data }], guard := none } : Oper)) (v := ?vs1_3) rfl ohas3_plain (by as_aux_lemma => kernel_rfl) (by as_aux_lemma => kernel_rfl) (fun _ _ _ h => h) (Or.inl ⟨by rfl, ?ys1_3⟩) (by assumption) ?rs1_3
  case ys1_3 => (intro w hSw; (try dsimp only at hSw); go_simp; try with_reducible rfl)
  try simp only [Act.put, List.setIfInBounds_toArray, List.set_cons_zero, List.set_cons_succ]
  refine wpAnyH_take (i := 5) (oi := ({ dst := some 30, op := .indexAddr 22 (.tmp 5) (.const (.int .i64 1)), type := 0, pos := "law.go:69", after := #[], guard := none } : Oper)) (v := ?vs1_5) rfl ohas3_plain (by as_aux_lemma => kernel_rfl) (by as_aux_lemma => kernel_rfl) (fun _ _ _ h => h) (Or.inl ⟨by rfl, ?ys1_5⟩) (by assumption) ?rs1_5
  case ys1_5 => (intro w hSw; (try dsimp only at hSw); go_simp; try with_reducible rfl)
  try simp only [Act.put, List.setIfInBounds_toArray, List.set_cons_zero, List.set_cons_succ]
  refine wpAnyH_take (i := 6) (oi := ({ dst := some 31, op := .load 2 (.tmp 30), type := 2, pos := "law.go:69", after := #[{ on := 5, ground := .data }], guard := none } : Oper)) (v := ?vs1_6) rfl ohas3_plain (by as_aux_lemma => kernel_rfl) (by as_aux_lemma => kernel_rfl) (fun _ _ _ h => h) (Or.inl ⟨by rfl, ?ys1_6⟩) (by assumption) ?rs1_6
  case ys1_6 => (intro w hSw; (try dsimp only at hSw); go_simp; try with_reducible rfl)
  try simp only [Act.put, List.setIfInBounds_toArray, List.set_cons_zero, List.set_cons_succ]
  refine wpAnyH_take (i := 7) (oi := ({ dst := some 32, op := .fieldAddr 25 (.tmp 3) 2, type := 0, pos := "law.go:69", after := #[], guard := none } : Oper)) (v := ?vs1_7) rfl ohas3_plain (by as_aux_lemma => kernel_rfl) (by as_aux_lemma => kernel_rfl) (fun _ _ _ h => h) (Or.inl ⟨by rfl, ?ys1_7⟩) (by assumption) ?rs1_7
  case ys1_7 => (intro w hSw; (try dsimp only at hSw); go_simp; try with_reducible rfl)
  try simp only [Act.put, List.setIfInBounds_toArray, List.set_cons_zero, List.set_cons_succ]
  refine wpAnyH_take (i := 8) (oi := ({ dst := some 33, op := .load 2 (.tmp 32), type := 2, pos := "law.go:69", after := #[{ on := 7, ground := .data }], guard := none } : Oper)) (v := ?vs1_8) rfl ohas3_plain (by as_aux_lemma => kernel_rfl) (by as_aux_lemma => kernel_rfl) (fun _ _ _ h => h) (Or.inl ⟨by rfl, ?ys1_8⟩) (by assumption) ?rs1_8
  case ys1_8 => (intro w hSw; (try dsimp only at hSw); go_simp; try with_reducible rfl)
  try simp only [Act.put, List.setIfInBounds_toArray, List.set_cons_zero, List.set_cons_succ]
  refine wpAnyH_take (i := 10) (oi := ({ dst := some 35, op := .indexAddr 22 (.tmp 5) (.const (.int .i64 2)), type := 0, pos := "law.go:69", after := #[{ on := 17, ground := .gcOnly Go.Departure.lateStores }], guard := none } : Oper)) (v := ?vs1_10) rfl ohas3_plain (by as_aux_lemma => kernel_rfl) (by as_aux_lemma => kernel_rfl) (fun _ _ _ h => h) (Or.inl ⟨by rfl, ?ys1_10⟩) (by assumption) ?rs1_10
  case ys1_10 => (intro w hSw; (try dsimp only at hSw); go_simp; try with_reducible rfl)
  try simp only [Act.put, List.setIfInBounds_toArray, List.set_cons_zero, List.set_cons_succ]
  refine wpAnyH_take (i := 11) (oi := ({ dst := some 36, op := .load 2 (.tmp 35), type := 2, pos := "law.go:69", after := #[{ on := 10, ground := .data }, { on := 17, ground := .gcOnly Go.Departure.lateStores }], guard := none } : Oper)) (v := ?vs1_11) rfl ohas3_plain (by as_aux_lemma => kernel_rfl) (by as_aux_lemma => kernel_rfl) (fun _ _ _ h => h) (Or.inl ⟨by rfl, ?ys1_11⟩) (by assumption) ?rs1_11
  case ys1_11 => (intro w hSw; (try dsimp only at hSw); go_simp; try with_reducible rfl)
  try simp only [Act.put, List.setIfInBounds_toArray, List.set_cons_zero, List.set_cons_succ]
  refine wpAnyH_take (i := 12) (oi := ({ dst := some 37, op := .convert 2 30 (.tmp 36), type := 30, pos := "law.go:69", after := #[{ on := 11, ground := .data }, { on := 17, ground := .gcOnly Go.Departure.lateStores }], guard := none } : Oper)) (v := ?vs1_12) rfl ohas3_plain (by as_aux_lemma => kernel_rfl) (by as_aux_lemma => kernel_rfl) (fun _ _ _ h => h) (Or.inl ⟨by rfl, ?ys1_12⟩) (by assumption) ?rs1_12
  case ys1_12 => (intro w hSw; (try dsimp only at hSw); go_simp; try with_reducible rfl)
  try simp only [Act.put, List.setIfInBounds_toArray, List.set_cons_zero, List.set_cons_succ]
  refine wpAnyH_take (i := 13) (oi := ({ dst := some 38, op := .binOp .rem 30 (.tmp 37) (.const (.int .u64 4)) 30, type := 30, pos := "law.go:69", after := #[{ on := 12, ground := .data }, { on := 17, ground := .gcOnly Go.Departure.lateStores }], guard := none } : Oper)) (v := ?vs1_13) rfl ohas3_plain (by as_aux_lemma => kernel_rfl) (by as_aux_lemma => kernel_rfl) (fun _ _ _ h => h) (Or.inl ⟨by rfl, ?ys1_13⟩) (by assumption) ?rs1_13
  case ys1_13 => (intro w hSw; (try dsimp only at hSw); go_simp; try with_reducible rfl)
  try simp only [Act.put, List.setIfInBounds_toArray, List.set_cons_zero, List.set_cons_succ]
  refine wpAnyH_take (i := 14) (oi := ({ dst := some 39, op := .convert 30 3 (.tmp 38), type := 3, pos := "law.go:69", after := #[{ on := 13, ground := .data }, { on := 17, ground := .gcOnly Go.Departure.lateStores }], guard := none } : Oper)) (v := ?vs1_14) rfl ohas3_plain (by as_aux_lemma => kernel_rfl) (by as_aux_lemma => kernel_rfl) (fun _ _ _ h => h) (Or.inl ⟨by rfl, ?ys1_14⟩) (by assumption) ?rs1_14
  case ys1_14 => (intro w hSw; (try dsimp only at hSw); go_simp; try with_reducible rfl)
  try simp only [Act.put, List.setIfInBounds_toArray, List.set_cons_zero, List.set_cons_succ]
  refine wpAnyH_take (i := 15) (oi := ({ dst := some 40, op := .binOp .sub 3 (.tmp 39) (.const (.int .i64 1)) 3, type := 3, pos := "law.go:69", after := #[{ on := 14, ground := .data }, { on := 17, ground := .gcOnly Go.Departure.lateStores }], guard := none } : Oper)) (v := ?vs1_15) rfl ohas3_plain (by as_aux_lemma => kernel_rfl) (by as_aux_lemma => kernel_rfl) (fun _ _ _ h => h) (Or.inl ⟨by rfl, ?ys1_15⟩) (by assumption) ?rs1_15
  case ys1_15 => (intro w hSw; (try dsimp only at hSw); go_simp; try with_reducible rfl)
  try simp only [Act.put, List.setIfInBounds_toArray, List.set_cons_zero, List.set_cons_succ]
  refine wpAnyH_ready (rs := [4]) (by as_aux_lemma => kernel_rfl) (by simp) ?_
  refine AllReadyH.cons (o := ({ dst := some 29, op := .call { callee := .value (.func 6), args := #[.tmp 26, .tmp 28], argTypes := #[2, 2] }, type := 2, pos := "law.go:69", after := #[{ on := 1, ground := .data }, { on := 3, ground := .data }], guard := none } : Oper)) rfl (fun KK hK => ?_) AllReadyH.nil
  rw [if_pos (by rfl)]
  go_simp
  go_at_call 6; refine (WV.out _).mono ?_; rintro e w2 ⟨rfl, hb2⟩
  go_wp2_with fail
  refine hK.out _ _ ?_ (fun hHeld2 => ?_)
  · exact kS _ _ (by assumption) hb2
  clear hK KK hb2
  try simp only [Act.put, List.setIfInBounds_toArray, List.set_cons_zero, List.set_cons_succ]
  refine wpAnyH_ready (rs := [9]) (by as_aux_lemma => kernel_rfl) (by simp) ?_
  refine AllReadyH.cons (o := ({ dst := some 34, op := .call { callee := .value (.func 6), args := #[.tmp 31, .tmp 33], argTypes := #[2, 2] }, type := 2, pos := "law.go:69", after := #[{ on := 6, ground := .data }, { on := 8, ground := .data }, { on := 4, ground := .chain }], guard := none } : Oper)) rfl (fun KK hK => ?_) AllReadyH.nil
  rw [if_pos (by rfl)]
  go_simp
  go_at_call 6; refine (WB.out _).mono ?_; rintro e w3 ⟨rfl, hb3⟩
  go_wp2_with fail
  refine hK.out _ _ ?_ (fun hHeld3 => ?_)
  · exact kS _ _ (by assumption) hb3
  clear hK KK hb3 hHeld2
  try simp only [Act.put, List.setIfInBounds_toArray, List.set_cons_zero, List.set_cons_succ]
  refine wpAnyH_take (i := 16) (oi := ({ dst := some 7, op := .assign (.tmp 29), type := 2, pos := "law.go:69", after := #[{ on := 4, ground := .data }, { on := 9, ground := .chain }, { on := 0, ground := .phase }, { on := 1, ground := .phase }, { on := 2, ground := .phase }, { on := 3, ground := .phase }, { on := 4, ground := .phase }, { on := 5, ground := .textOnly Go.Departure.lateStores }, { on := 6, ground := .textOnly Go.Departure.lateStores }, { on := 7, ground := .textOnly Go.Departure.lateStores }, { on := 8, ground := .textOnly Go.Departure.lateStores }, { on := 9, ground := .textOnly Go.Departure.lateStoresUnsure }, { on := 10, ground := .textOnly Go.Departure.lateStores }, { on := 11, ground := .textOnly Go.Departure.lateStores }, { on := 12, ground := .textOnly Go.Departure.lateStores }, { on := 13, ground := .textOnly Go.Departure.lateStores }, { on := 14, ground := .textOnly Go.Departure.lateStores }, { on := 15, ground := .textOnly Go.Departure.lateStores }], guard := none } : Oper)) (v := ?vs1_16) rfl ohas3_plain (by as_aux_lemma => kernel_rfl) (by as_aux_lemma => kernel_rfl) (fun _ _ _ h => h) (Or.inl ⟨by rfl, ?ys1_16⟩) (by assumption) ?rs1_16
  case ys1_16 => (intro w hSw; (try dsimp only at hSw); go_simp; try with_reducible rfl)
  try simp only [Act.put, List.setIfInBounds_toArray, List.set_cons_zero, List.set_cons_succ]
  refine wpAnyH_take (i := 17) (oi := ({ dst := some 8, op := .assign (.tmp 34), type := 2, pos := "law.go:69", after := #[{ on := 9, ground := .data }, { on := 16, ground := .chain }, { on := 0, ground := .phase }, { on := 1, ground := .phase }, { on := 2, ground := .phase }, { on := 3, ground := .phase }, { on := 4, ground := .phase }, { on := 5, ground := .phase }, { on := 6, ground := .phase }, { on := 7, ground := .phase }, { on := 8, ground := .phase }, { on := 9, ground := .phase }, { on := 10, ground := .textOnly Go.Departure.lateStores }, { on := 11, ground := .textOnly Go.Departure.lateStores }, { on := 12, ground := .textOnly Go.Departure.lateStores }, { on := 13, ground := .textOnly Go.Departure.lateStores }, { on := 14, ground := .textOnly Go.Departure.lateStores }, { on := 15, ground := .textOnly Go.Departure.lateStores }, { on := 16, ground := .phase }], guard := none } : Oper)) (v := ?vs1_17) rfl ohas3_plain (by as_aux_lemma => kernel_rfl) (by as_aux_lemma => kernel_rfl) (fun _ _ _ h => h) (Or.inl ⟨by rfl, ?ys1_17⟩) (by assumption) ?rs1_17
  case ys1_17 => (intro w hSw; (try dsimp only at hSw); go_simp; try with_reducible rfl)
  try simp only [Act.put, List.setIfInBounds_toArray, List.set_cons_zero, List.set_cons_succ]
  refine wpAnyH_take (i := 18) (oi := ({ dst := some 9, op := .assign (.tmp 40), type := 3, pos := "law.go:69", after := #[{ on := 15, ground := .data }, { on := 17, ground := .chain }, { on := 0, ground := .phase }, { on := 1, ground := .phase }, { on := 2, ground := .phase }, { on := 3, ground := .phase }, { on := 4, ground := .phase }, { on := 5, ground := .phase }, { on := 6, ground := .phase }, { on := 7, ground := .phase }, { on := 8, ground := .phase }, { on := 9, ground := .phase }, { on := 10, ground := .phase }, { on := 11, ground := .phase }, { on := 12, ground := .phase }, { on := 13, ground := .phase }, { on := 14, ground := .phase }, { on := 15, ground := .phase }, { on := 16, ground := .phase }, { on := 17, ground := .phase }], guard := none } : Oper)) (v := ?vs1_18) rfl ohas3_plain (by as_aux_lemma => kernel_rfl) (by as_aux_lemma => kernel_rfl) (fun _ _ _ h => h) (Or.inl ⟨by rfl, ?ys1_18⟩) (by assumption) ?rs1_18
  case ys1_18 => (intro w hSw; (try dsimp only at hSw); go_simp; try with_reducible rfl)
  try simp only [Act.put, List.setIfInBounds_toArray, List.set_cons_zero, List.set_cons_succ]
  refine wpAnyH_done (by as_aux_lemma => kernel_rfl) ?_ _
  refine NoPanic.normal ?_
  have N1 := nx _ hHeld3
  have HS3 := Lib.hid N1
  clear c1_0 c1_1 c1_2 c0_6 c0_9 nx kS hT N1
  clear WV WB hu hq hq0 hq1 hq2 hbad d100
  go_upto_region 4 with fail
  have k0_0 := (HS3.out).at 0 rfl 0 (v := .int .i64 a.e0) rfl
  have k0_1 := (HS3.out).at 0 rfl 1 (v := .int .i64 a.e1) rfl
  have k0_2 := (HS3.out).at 0 rfl 2 (v := .int .i64 a.e2) rfl
  have k0_3 := (HS3.out).at 0 rfl 3 (v := .bool a.b0) rfl
  have k0_4 := (HS3.out).at 0 rfl 4 (v := .bool a.b1) rfl
  have k0_5 := (HS3.out).at 0 rfl 5 (v := .bool a.b2) rfl
  have k0_6 := (HS3.out).at 0 rfl 6 (v := .int .i64 a.bias) rfl
  have k0_7 := (HS3.out).at 0 rfl 7 (v := .int .i64 a.change) rfl
  have k0_8 := (HS3.out).at 0 rfl 8 (v := .int .i64 a.move) rfl
  have k0_9 := (HS3.out).at 0 rfl 9 (v := .int .i64 a.most) rfl
  go_wp2_with fail
  refine (SA.out _).mono ?_; rintro e w4 ⟨rfl, hb4⟩
  have hS4 := (HS3.out).keep hb4
  have HS4 := Lib.hid hS4
  clear hS4 HS3
  clear hb4
  clear SA k0_0 k0_1 k0_2 k0_3 k0_4 k0_5 k0_6 k0_7 k0_8 k0_9
  go_upto_region 5 with fail
  have hS5 := (HS4.out).more [.int .i64 o0.vL, .int .i64 o0.vH, .int .i64 o0.bL, .int .i64 o0.bH, .bool o0.ref] 34
  have HS5 := Lib.hid hS5
  clear hS5 HS4
  obtain ⟨w5, hX, hS⟩ := (HS5.out).named
  rw [← hX]
  clear hX HS5
  have HS6 := Lib.hid hS
  clear hS
  go_wp2_with fail
  go_loopw [7, 8, 45] (fun v y i wr => ∃ (j : Nat) (cv cb : Int) (o : Ob), j ≤ l.length ∧ v = .int .i64 cv ∧ y = .int .i64 cb ∧ i = .int .i64 j ∧ St29 a o cv cb ∧ Sp w [(w.heap.size, [some (.int .i64 a.e0), some (.int .i64 a.e1), some (.int .i64 a.e2), some (.bool a.b0), some (.bool a.b1), some (.bool a.b2), some (.int .i64 a.bias), some (.int .i64 a.change), some (.int .i64 a.move), some (.int .i64 a.most)]), (w.heap.size + 1, [some (.int .i64 n0), some (.int .i64 n1), some (.int .i64 n2)]), (w4.heap.size, [some (.int .i64 o.vL), some (.int .i64 o.vH), some (.int .i64 o.bL), some (.int .i64 o.bH), some (.bool o.ref)])] wr) (fun _ _ i _ => l.length - (intOf i).toNat)
  case atStart => exact ⟨0, x0, y0, o0, Nat.zero_le _, rfl, rfl, rfl, HST.out, HS6.out⟩
  case round =>
    clear HS6 HST
    obtain ⟨j, cv, cb, o, hj, rfl, rfl, rfl, hst, hS⟩ := hrel
    by_cases hc : (j : Int) < l.length
    · skip
      obtain ⟨b, ob, rfl, L⟩ := (HC.out.keep hS.below).lies (by omega)
      have hx := L j (by omega)
      obtain ⟨t, ht⟩ : ∃ t, t = l.getD j tk0 := ⟨_, rfl⟩
      rw [← ht] at hx
      clear ht L
      obtain ⟨kn, ko, v1, v2, b1, b2⟩ := hst
      have RE := Lib.hid fun w => Real_any a t cv cb bad w HH.out v1 v2 b1 b2
      have hg := real_goes (t := t) bad HH.out v1 v2 b1 b2
      generalize yF (nvF a t cv) (nbF a t cb) bad 0 t.o0 a.e0 a.b0 = z0 at *
      generalize yF (nvF a t cv) (nbF a t cb) bad 1 t.o1 a.e1 a.b1 = z1 at *
      generalize yF (nvF a t cv) (nbF a t cb) bad 2 t.o2 a.e2 a.b2 = z2 at *
      generalize nvF a t cv = nv at *
      generalize nbF a t cb = nb at *
      have kn2 := step_knows HH.out kn hg t.t0 t.t1 t.t2
      have q0 : Sp.R6 z0 := r6 (by have := hg.r0; omega) (by have := hg.r0; omega)
      have q1 : Sp.R6 z1 := r6 (by have := hg.r1; omega) (by have := hg.r1; omega)
      have q2 : Sp.R6 z2 := r6 (by have := hg.r2; omega) (by have := hg.r2; omega)
      have ko2 := step_r6 (bad := bad) (t0 := t.t0) (t1 := t.t1) (t2 := t.t2) HH.out ko q0 q1 q2
      have ST := Lib.hid fun w' (B : Below w.heap.size w w') => Step_any a o bad z0 z1 z2 t.t0 t.t1 t.t2 w' (NN.out.keep B) HH.out ko q0 q1 q2
      generalize Obs.step a o bad z0 z1 z2 t.t0 t.t1 t.t2 = o2 at *
      have HA := Lib.hid fun w => HasO_any o2 nv nb w kn2
      have HN := Lib.hid (show St29 a o2 nv nb from ⟨kn2, ko2, hg.v1, hg.v2, hg.b1, hg.b2⟩)
      clear kn ko v1 v2 b1 b2 hg kn2 q0 q1 q2 ko2
      have HX := Lib.hid hx
      clear hx
      have hd : (j : Int) ≥ 0 := by omega
      have HS7 := Lib.hid hS
      clear hS
      have h1 := tl_one t
      have hi := info_tk
      go_upto_region 8 with (first | refine list_load_any rfl 37 _ rfl b (ob + j * 8) rfl #[.int .i64 t.move, .int .i64 t.change, .int .i64 t.o0, .int .i64 t.o1, .int .i64 t.o2, .bool t.t0, .bool t.t1, .bool t.t2] _ HX.out Tryd.underlying37 rfl hi ?_ | refine list_store_new rfl 37 _ _ rfl _ #[.int .i64 t.move, .int .i64 t.change, .int .i64 t.o0, .int .i64 t.o1, .int .i64 t.o2, .bool t.t0, .bool t.t1, .bool t.t2] rfl rfl hi rfl h1 ?_)
      clear h1 hi HX
      have hS8 := (HS7.out).more [.int .i64 t.move, .int .i64 t.change, .int .i64 t.o0, .int .i64 t.o1, .int .i64 t.o2, .bool t.t0, .bool t.t1, .bool t.t2] 37
      have HS8 := Lib.hid hS8
      clear hS8 HS7
      obtain ⟨w6, hX, hS⟩ := (HS8.out).named
      rw [← hX]
      clear hX HS8
      have HS9 := Lib.hid hS
      clear hS
      have k0_0 := (HS9.out).at 0 rfl 0 (v := .int .i64 a.e0) rfl
      have k0_1 := (HS9.out).at 0 rfl 1 (v := .int .i64 a.e1) rfl
      have k0_2 := (HS9.out).at 0 rfl 2 (v := .int .i64 a.e2) rfl
      have k0_3 := (HS9.out).at 0 rfl 3 (v := .bool a.b0) rfl
      have k0_4 := (HS9.out).at 0 rfl 4 (v := .bool a.b1) rfl
      have k0_5 := (HS9.out).at 0 rfl 5 (v := .bool a.b2) rfl
      have k0_6 := (HS9.out).at 0 rfl 6 (v := .int .i64 a.bias) rfl
      have k0_7 := (HS9.out).at 0 rfl 7 (v := .int .i64 a.change) rfl
      have k0_8 := (HS9.out).at 0 rfl 8 (v := .int .i64 a.move) rfl
      have k0_9 := (HS9.out).at 0 rfl 9 (v := .int .i64 a.most) rfl
      have k3_0 := (HS9.out).at 3 rfl 0 (v := .int .i64 t.move) rfl
      have k3_1 := (HS9.out).at 3 rfl 1 (v := .int .i64 t.change) rfl
      have k3_2 := (HS9.out).at 3 rfl 2 (v := .int .i64 t.o0) rfl
      have k3_3 := (HS9.out).at 3 rfl 3 (v := .int .i64 t.o1) rfl
      have k3_4 := (HS9.out).at 3 rfl 4 (v := .int .i64 t.o2) rfl
      have k3_5 := (HS9.out).at 3 rfl 5 (v := .bool t.t0) rfl
      have k3_6 := (HS9.out).at 3 rfl 6 (v := .bool t.t1) rfl
      have k3_7 := (HS9.out).at 3 rfl 7 (v := .bool t.t2) rfl
      go_wp2_with fail
      refine (RE.out _).mono ?_; rintro e w7 ⟨rfl, hb7⟩
      have hS10 := (HS9.out).keep hb7
      have HS10 := Lib.hid hS10
      clear hS10 HS9
      clear hb7
      clear RE k0_0 k0_1 k0_2 k0_3 k0_4 k0_5 k0_6 k0_7 k0_8 k0_9 k3_0 k3_1 k3_2 k3_3 k3_4 k3_5 k3_6 k3_7
      go_upto_region 9 with fail
      have hS11 := (HS10.out).more [.int .i64 z0, .int .i64 z1, .int .i64 z2] 22
      have HS11 := Lib.hid hS11
      clear hS11 HS10
      obtain ⟨w8, hX, hS⟩ := (HS11.out).named
      rw [← hX]
      clear hX HS11
      have HS12 := Lib.hid hS
      clear hS
      have k0_0 := (HS12.out).at 0 rfl 0 (v := .int .i64 a.e0) rfl
      have k0_1 := (HS12.out).at 0 rfl 1 (v := .int .i64 a.e1) rfl
      have k0_2 := (HS12.out).at 0 rfl 2 (v := .int .i64 a.e2) rfl
      have k0_3 := (HS12.out).at 0 rfl 3 (v := .bool a.b0) rfl
      have k0_4 := (HS12.out).at 0 rfl 4 (v := .bool a.b1) rfl
      have k0_5 := (HS12.out).at 0 rfl 5 (v := .bool a.b2) rfl
      have k0_6 := (HS12.out).at 0 rfl 6 (v := .int .i64 a.bias) rfl
      have k0_7 := (HS12.out).at 0 rfl 7 (v := .int .i64 a.change) rfl
      have k0_8 := (HS12.out).at 0 rfl 8 (v := .int .i64 a.move) rfl
      have k0_9 := (HS12.out).at 0 rfl 9 (v := .int .i64 a.most) rfl
      have k2_0 := (HS12.out).at 2 rfl 0 (v := .int .i64 o.vL) rfl
      have k2_1 := (HS12.out).at 2 rfl 1 (v := .int .i64 o.vH) rfl
      have k2_2 := (HS12.out).at 2 rfl 2 (v := .int .i64 o.bL) rfl
      have k2_3 := (HS12.out).at 2 rfl 3 (v := .int .i64 o.bH) rfl
      have k2_4 := (HS12.out).at 2 rfl 4 (v := .bool o.ref) rfl
      have k4_0 := (HS12.out).at 4 rfl 0 (v := .int .i64 z0) rfl
      have k4_1 := (HS12.out).at 4 rfl 1 (v := .int .i64 z1) rfl
      have k4_2 := (HS12.out).at 4 rfl 2 (v := .int .i64 z2) rfl
      have k3_5 := (HS12.out).at 3 rfl 5 (v := .bool t.t0) rfl
      have k3_6 := (HS12.out).at 3 rfl 6 (v := .bool t.t1) rfl
      have k3_7 := (HS12.out).at 3 rfl 7 (v := .bool t.t2) rfl
      go_wp2_with fail
      refine (ST.out _ HS12.out.below).mono ?_; rintro e w9 ⟨rfl, hb9⟩
      have hS13 := (HS12.out).keep hb9
      have HS13 := Lib.hid hS13
      clear hS13 HS12
      clear hb9
      clear ST k0_0 k0_1 k0_2 k0_3 k0_4 k0_5 k0_6 k0_7 k0_8 k0_9 k2_0 k2_1 k2_2 k2_3 k2_4 k4_0 k4_1 k4_2 k3_5 k3_6 k3_7
      have k2_0 := (HS13.out).at 2 rfl 0 (v := .int .i64 o.vL) rfl
      have k2_1 := (HS13.out).at 2 rfl 1 (v := .int .i64 o.vH) rfl
      have k2_2 := (HS13.out).at 2 rfl 2 (v := .int .i64 o.bL) rfl
      have k2_3 := (HS13.out).at 2 rfl 3 (v := .int .i64 o.bH) rfl
      have k2_4 := (HS13.out).at 2 rfl 4 (v := .bool o.ref) rfl
      have f2_0 := (HS13.out).free 2 rfl 0 rfl
      have f2_1 := (HS13.out).free 2 rfl 1 rfl
      have f2_2 := (HS13.out).free 2 rfl 2 rfl
      have f2_3 := (HS13.out).free 2 rfl 3 rfl
      have f2_4 := (HS13.out).free 2 rfl 4 rfl
      have hS14 := (((((HS13.out).put 2 rfl 0 (.int .i64 o2.vL)).put 2 rfl 1 (.int .i64 o2.vH)).put 2 rfl 2 (.int .i64 o2.bL)).put 2 rfl 3 (.int .i64 o2.bH)).put 2 rfl 4 (.bool o2.ref)
      have HS14 := Lib.hid hS14
      clear hS14 HS13
      go_wp2_with fail
      refine (HA.out _).mono ?_; rintro e w10 ⟨rfl, hb10⟩
      have hS15 := (HS14.out).keep hb10
      have HS15 := Lib.hid hS15
      clear hS15 HS14
      clear hb10
      clear HA
      have HF := Lib.hid ((HS15.out).take 3)
      clear HS15 k2_0 k2_1 k2_2 k2_3 k2_4 f2_0 f2_1 f2_2 f2_3 f2_4
      go_wp2_with fail
      go_roundw
      case rel => exact ⟨j + 1, nv, nb, o2, by omega, rfl, rfl, rfl, HN.out, HF.out⟩
      case measure => simp [intOf]; omega
    · skip
      obtain rfl : j = l.length := by omega
      have AW1 := Lib.hid (AWC.out _ hS.below)
      have BH := Lib.hid hS.below
      clear hS hst hj hc AWC HC
      go_wp2_with fail
      refine AW1.out.mono ?_; rintro e wz ⟨rfl, hbz⟩
      have BE := Lib.hid (belowT BH.out hbz)
      clear hbz
      go_wp2_with fail
      go_ret
      exact ⟨rfl, BE.out⟩

set_option maxHeartbeats 4000000 in
set_option maxRecDepth 100000 in
theorem has_wrong (ba : Option Addr) (k cap : Nat) (a : Ai) (n0 n1 n2 : Int) (w : World) (RA : Hid (∀ w, Calls Tryd.prog 4 #[av a] w fun e w' => e = .returned (.bool false) ∧ Below w.heap.size w w'))
    (AW : Hid (∀ w', Below w.heap.size w w' → Calls Tryd.prog 5 #[] w' fun e w'' => e = .returned (.bool true) ∧ Below w'.heap.size w' w'')) :
    Calls Tryd.prog 3 #[av a, .slice ba k cap, .agg #[.int .i64 n0, .int .i64 n1, .int .i64 n2]] w fun e w' => e = .returned (.bool true) ∧ Below w.heap.size w w' := by
  go_enter Tryd.func3, Tryd.ntmps3
  go_wp2_with fail
  refine (RA.out _).mono ?_; rintro e w1 ⟨rfl, hb1⟩
  have B1 := belowT (below2 w _ _) hb1
  go_wp2_with fail
  refine (AW.out _ B1).mono ?_; rintro e w2 ⟨rfl, hb2⟩
  have B2 := Lib.hid (belowT B1 hb2)
  go_wp2_with fail
  go_ret
  exact ⟨rfl, B2.out⟩
set_option maxHeartbeats 4000000 in
set_option maxRecDepth 100000 in
theorem has_long (ba : Option Addr) (k cap : Nat) (a : Ai) (n0 n1 n2 : Int) (w : World) (hk : (100 : Int) < k) (_hm : (k : Int) ≤ 9223372036854775807) (RA : Hid (∀ w, Calls Tryd.prog 4 #[av a] w fun e w' => e = .returned (.bool true) ∧ Below w.heap.size w w'))
    (AW : Hid (∀ w', Below w.heap.size w w' → Calls Tryd.prog 5 #[] w' fun e w'' => e = .returned (.bool true) ∧ Below w'.heap.size w' w'')) :
    Calls Tryd.prog 3 #[av a, .slice ba k cap, .agg #[.int .i64 n0, .int .i64 n1, .int .i64 n2]] w fun e w' => e = .returned (.bool true) ∧ Below w.heap.size w w' := by
  go_enter Tryd.func3, Tryd.ntmps3
  go_wp2_with fail
  refine (RA.out _).mono ?_; rintro e w1 ⟨rfl, hb1⟩
  have B1 := belowT (below2 w _ _) hb1
  go_wp2_with fail
  refine (AW.out _ B1).mono ?_; rintro e w2 ⟨rfl, hb2⟩
  have B2 := Lib.hid (belowT B1 hb2)
  go_wp2_with fail
  go_ret
  exact ⟨rfl, B2.out⟩

theorem Has29_all {w : World} {ba : Option Addr} {cap : Nat} {l : List Tk} (C : CameTk w ba cap l) (a : Ai) (n0 n1 n2 : Int) (n : NoneAt w) (c : ConeAt w) (ai : AI a) :
    Calls Tryd.prog 3 #[av a, .slice ba l.length cap, .agg #[.int .i64 n0, .int .i64 n1, .int .i64 n2]] w fun e w' => e = .returned (.bool true) ∧ Below w.heap.size w w' := by
  have AW := Lib.hid fun w' (B : Below w.heap.size w w') => awake_any w' (n.keep B) (c.keep B)
  have RA := fun w => RightAir_any a ai w
  have h1 := C.le
  have h2 := C.max
  unfold maxLen at h2
  rcases Bool.eq_false_or_eq_true (rightF a) with hr | hr
  · by_cases h : (100 : Int) < l.length
    · rw [hr] at RA
      exact has_long ba l.length cap a n0 n1 n2 w h (by omega) (Lib.hid RA) AW
    · exact has_core C a n0 n1 n2 n c ai hr (right_ar hr) h
  · rw [hr] at RA
    exact has_wrong ba l.length cap a n0 n1 n2 w (Lib.hid RA) AW
end Go.Proofs.YtfofcacjckdejaaDoor
