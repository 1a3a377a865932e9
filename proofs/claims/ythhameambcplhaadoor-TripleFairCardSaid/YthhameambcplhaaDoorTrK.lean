/- TripleFair. -/
import Derived.Test.YthhameambcplhaaDoorTrI
import Derived.Test.YthhameambcplhaaDoorObRealB
import Derived.Test.YthhameambcplhaaDoorObCfgA
import Derived.Test.YthhameambcplhaaDoorYld
namespace Go.Proofs.YthhameambcplhaaDoor
open Go.RowKit Obs

/-- The operations of a drawn region, as the translation has them. -/
def tlfa3 : Array Oper := #[
  { dst := some 27, op := .indexAddr 22 (.tmp 5) (.const (.int .i64 0)), type := 0, pos := "law.go:48", after := #[], guard := none },
  { dst := some 28, op := .load 2 (.tmp 27), type := 2, pos := "law.go:48", after := #[{ on := 0, ground := .data }], guard := none },
  { dst := some 29, op := .fieldAddr 25 (.tmp 3) 5, type := 0, pos := "law.go:48", after := #[], guard := none },
  { dst := some 30, op := .load 2 (.tmp 29), type := 2, pos := "law.go:48", after := #[{ on := 2, ground := .data }], guard := none },
  { dst := some 31, op := .call { callee := .value (.func 7), args := #[.tmp 28, .tmp 30], argTypes := #[2, 2] }, type := 2, pos := "law.go:48", after := #[{ on := 1, ground := .data }, { on := 3, ground := .data }], guard := none },
  { dst := some 32, op := .indexAddr 22 (.tmp 5) (.const (.int .i64 1)), type := 0, pos := "law.go:48", after := #[], guard := none },
  { dst := some 33, op := .load 2 (.tmp 32), type := 2, pos := "law.go:48", after := #[{ on := 5, ground := .data }], guard := none },
  { dst := some 34, op := .fieldAddr 25 (.tmp 3) 2, type := 0, pos := "law.go:48", after := #[], guard := none },
  { dst := some 35, op := .load 2 (.tmp 34), type := 2, pos := "law.go:48", after := #[{ on := 7, ground := .data }], guard := none },
  { dst := some 36, op := .call { callee := .value (.func 7), args := #[.tmp 33, .tmp 35], argTypes := #[2, 2] }, type := 2, pos := "law.go:48", after := #[{ on := 6, ground := .data }, { on := 8, ground := .data }, { on := 4, ground := .chain }], guard := none },
  { dst := some 37, op := .indexAddr 22 (.tmp 5) (.const (.int .i64 2)), type := 0, pos := "law.go:48", after := #[{ on := 17, ground := .gcOnly Go.Departure.lateStores }], guard := none },
  { dst := some 38, op := .load 2 (.tmp 37), type := 2, pos := "law.go:48", after := #[{ on := 10, ground := .data }, { on := 17, ground := .gcOnly Go.Departure.lateStores }], guard := none },
  { dst := some 39, op := .convert 2 30 (.tmp 38), type := 30, pos := "law.go:48", after := #[{ on := 11, ground := .data }, { on := 17, ground := .gcOnly Go.Departure.lateStores }], guard := none },
  { dst := some 40, op := .binOp .rem 30 (.tmp 39) (.const (.int .u64 4)) 30, type := 30, pos := "law.go:48", after := #[{ on := 12, ground := .data }, { on := 17, ground := .gcOnly Go.Departure.lateStores }], guard := none },
  { dst := some 41, op := .convert 30 3 (.tmp 40), type := 3, pos := "law.go:48", after := #[{ on := 13, ground := .data }, { on := 17, ground := .gcOnly Go.Departure.lateStores }], guard := none },
  { dst := some 42, op := .binOp .sub 3 (.tmp 41) (.const (.int .i64 1)) 3, type := 3, pos := "law.go:48", after := #[{ on := 14, ground := .data }, { on := 17, ground := .gcOnly Go.Departure.lateStores }], guard := none },
  { dst := some 7, op := .assign (.tmp 31), type := 2, pos := "law.go:48", after := #[{ on := 4, ground := .data }, { on := 9, ground := .chain }, { on := 0, ground := .phase }, { on := 1, ground := .phase }, { on := 2, ground := .phase }, { on := 3, ground := .phase }, { on := 4, ground := .phase }, { on := 5, ground := .textOnly Go.Departure.lateStores }, { on := 6, ground := .textOnly Go.Departure.lateStores }, { on := 7, ground := .textOnly Go.Departure.lateStores }, { on := 8, ground := .textOnly Go.Departure.lateStores }, { on := 9, ground := .textOnly Go.Departure.lateStoresUnsure }, { on := 10, ground := .textOnly Go.Departure.lateStores }, { on := 11, ground := .textOnly Go.Departure.lateStores }, { on := 12, ground := .textOnly Go.Departure.lateStores }, { on := 13, ground := .textOnly Go.Departure.lateStores }, { on := 14, ground := .textOnly Go.Departure.lateStores }, { on := 15, ground := .textOnly Go.Departure.lateStores }], guard := none },
  { dst := some 8, op := .assign (.tmp 36), type := 2, pos := "law.go:48", after := #[{ on := 9, ground := .data }, { on := 16, ground := .chain }, { on := 0, ground := .phase }, { on := 1, ground := .phase }, { on := 2, ground := .phase }, { on := 3, ground := .phase }, { on := 4, ground := .phase }, { on := 5, ground := .phase }, { on := 6, ground := .phase }, { on := 7, ground := .phase }, { on := 8, ground := .phase }, { on := 9, ground := .phase }, { on := 10, ground := .textOnly Go.Departure.lateStores }, { on := 11, ground := .textOnly Go.Departure.lateStores }, { on := 12, ground := .textOnly Go.Departure.lateStores }, { on := 13, ground := .textOnly Go.Departure.lateStores }, { on := 14, ground := .textOnly Go.Departure.lateStores }, { on := 15, ground := .textOnly Go.Departure.lateStores }, { on := 16, ground := .phase }], guard := none },
  { dst := some 9, op := .assign (.tmp 42), type := 3, pos := "law.go:48", after := #[{ on := 15, ground := .data }, { on := 17, ground := .chain }, { on := 0, ground := .phase }, { on := 1, ground := .phase }, { on := 2, ground := .phase }, { on := 3, ground := .phase }, { on := 4, ground := .phase }, { on := 5, ground := .phase }, { on := 6, ground := .phase }, { on := 7, ground := .phase }, { on := 8, ground := .phase }, { on := 9, ground := .phase }, { on := 10, ground := .phase }, { on := 11, ground := .phase }, { on := 12, ground := .phase }, { on := 13, ground := .phase }, { on := 14, ground := .phase }, { on := 15, ground := .phase }, { on := 16, ground := .phase }, { on := 17, ground := .phase }], guard := none }]
theorem tlfa3_plain : Region.noSelect tlfa3 = true := by kernel_rfl

/-- The operations of a drawn region, as the translation has them. -/
def tlfa11 : Array Oper := #[
  { dst := some 69, op := .move (.tmp 9), type := 3, pos := "law.go:54", after := #[], guard := none },
  { dst := some 70, op := .binOp .add 3 (.tmp 69) (.const (.int .i64 1)) 3, type := 3, pos := "law.go:54", after := #[{ on := 0, ground := .data }], guard := none },
  { dst := some 71, op := .indexAddr 35 (.tmp 16) (.tmp 70), type := 0, pos := "law.go:54", after := #[{ on := 1, ground := .data }], guard := none },
  { dst := some 72, op := .fieldAddr 34 (.tmp 71) 2, type := 0, pos := "law.go:54", after := #[{ on := 2, ground := .data }], guard := none },
  { dst := some 73, op := .load 4 (.tmp 72), type := 4, pos := "law.go:54", after := #[{ on := 3, ground := .data }], guard := none },
  { dst := some 74, op := .move (.tmp 73), type := 4, pos := "law.go:54", after := #[{ on := 4, ground := .data }], guard := none },
  { dst := some 75, op := .load 35 (.tmp 16), type := 35, pos := "law.go:54", after := #[{ on := 5, ground := .guard }], guard := some (5, false) },
  { dst := some 76, op := .call { callee := .value (.func 11), args := #[.tmp 75], argTypes := #[35] }, type := 3, pos := "law.go:54", after := #[{ on := 6, ground := .data }, { on := 5, ground := .chain }, { on := 5, ground := .guard }], guard := some (5, false) },
  { dst := some 77, op := .binOp .eql 3 (.tmp 76) (.const (.int .i64 2)) 3, type := 4, pos := "law.go:54", after := #[{ on := 7, ground := .data }, { on := 5, ground := .guard }], guard := some (5, false) },
  { dst := some 78, op := .pick (.tmp 74) (.const (.bool true)) (.tmp 77), type := 4, pos := "law.go:54", after := #[{ on := 5, ground := .data }, { on := 8, ground := .data }], guard := none },
  { dst := some 79, op := .move (.tmp 78), type := 4, pos := "law.go:54", after := #[{ on := 9, ground := .data }, { on := 7, ground := .chain }], guard := none },
  { dst := some 80, op := .load 35 (.tmp 16), type := 35, pos := "law.go:54", after := #[{ on := 10, ground := .guard }], guard := some (10, false) },
  { dst := some 81, op := .call { callee := .value (.func 11), args := #[.tmp 80], argTypes := #[35] }, type := 3, pos := "law.go:54", after := #[{ on := 11, ground := .data }, { on := 10, ground := .chain }, { on := 10, ground := .guard }], guard := some (10, false) },
  { dst := some 82, op := .load 35 (.tmp 10), type := 35, pos := "law.go:54", after := #[{ on := 10, ground := .guard }], guard := some (10, false) },
  { dst := some 83, op := .call { callee := .value (.func 11), args := #[.tmp 82], argTypes := #[35] }, type := 3, pos := "law.go:54", after := #[{ on := 13, ground := .data }, { on := 12, ground := .chain }, { on := 10, ground := .guard }], guard := some (10, false) },
  { dst := some 84, op := .binOp .lss 3 (.tmp 81) (.tmp 83) 3, type := 4, pos := "law.go:54", after := #[{ on := 12, ground := .data }, { on := 14, ground := .data }, { on := 10, ground := .guard }], guard := some (10, false) },
  { dst := some 85, op := .pick (.tmp 79) (.const (.bool true)) (.tmp 84), type := 4, pos := "law.go:54", after := #[{ on := 10, ground := .data }, { on := 15, ground := .data }], guard := none },
  { dst := some 86, op := .move (.tmp 85), type := 4, pos := "law.go:54", after := #[{ on := 16, ground := .data }, { on := 14, ground := .chain }], guard := none },
  { dst := some 87, op := .load 35 (.tmp 16), type := 35, pos := "law.go:54", after := #[{ on := 17, ground := .guard }], guard := some (17, false) },
  { dst := some 88, op := .call { callee := .value (.func 12), args := #[.tmp 87], argTypes := #[35] }, type := 3, pos := "law.go:54", after := #[{ on := 18, ground := .data }, { on := 17, ground := .chain }, { on := 17, ground := .guard }], guard := some (17, false) },
  { dst := some 89, op := .load 35 (.tmp 10), type := 35, pos := "law.go:54", after := #[{ on := 17, ground := .guard }], guard := some (17, false) },
  { dst := some 90, op := .call { callee := .value (.func 12), args := #[.tmp 89], argTypes := #[35] }, type := 3, pos := "law.go:54", after := #[{ on := 20, ground := .data }, { on := 19, ground := .chain }, { on := 17, ground := .guard }], guard := some (17, false) },
  { dst := some 91, op := .binOp .gtr 3 (.tmp 88) (.tmp 90) 3, type := 4, pos := "law.go:54", after := #[{ on := 19, ground := .data }, { on := 21, ground := .data }, { on := 17, ground := .guard }], guard := some (17, false) },
  { dst := some 92, op := .pick (.tmp 86) (.const (.bool true)) (.tmp 91), type := 4, pos := "law.go:54", after := #[{ on := 17, ground := .data }, { on := 22, ground := .data }], guard := none }]
theorem tlfa11_plain : Region.noSelect tlfa11 = true := by kernel_rfl

/-- what holds ahead of each tick -/
structure St30 (a : Ai) (q : Qd) (v b : Int) (jb : Nat) : Prop where
  kn : Knows (qget q jb) v b
  ro : QR q
  v1 : -a.most ≤ v
  v2 : v ≤ a.most
  b1 : -a.bias ≤ b
  b2 : b ≤ a.bias
theorem qstart_get {a : Ai} : ∀ {j : Nat}, j < 4 → qget (qstart a) j = startG a
  | 0, _ => rfl
  | 1, _ => rfl
  | 2, _ => rfl
  | 3, _ => rfl
  | n + 4, h => absurd h (by omega)
set_option maxHeartbeats 40000000 in
set_option maxRecDepth 100000 in
theorem fair_core {w : World} {ba : Option Addr} {cap : Nat} {l : List Tk} (C : CameTk w ba cap l) (a : Ai) (n0 n1 n2 : Int) (n : NoneAt w) (c : ConeAt w) (ai : AI a) (hr : rightF a = true) (h : AR a) (h100 : ¬ (100 : Int) < l.length) :
    Calls Tryd.prog 3 #[av a, .slice ba l.length cap, .agg #[.int .i64 n0, .int .i64 n1, .int .i64 n2]] w fun e w' => e = .returned (.bool true) ∧ Below w.heap.size w w' := by
  have hlen := C.le; have hmax := C.max; unfold maxLen at hmax
  have d100 : decide ((100 : Int) < l.length) = false := decide_eq_false h100
  have HC := Lib.hid C
  have AWC := Lib.hid fun w' (B : Below w.heap.size w w') => awake_any w' (n.keep B) (c.keep B)
  have RA := Lib.hid fun w => RightAir_any a ai w
  rw [hr] at RA
  have WV := Lib.hid fun w => Within_b n0 a.most w (by have := h.most; omega) (by have := h.most; omega)
  have WB := Lib.hid fun w => Within_b n1 a.bias w h.bias.1 (by have := h.bias; omega)
  have SA := Lib.hid fun w => TStart_any a w (ra_of h)
  have kx := wt_in n0 a.most (by have := h.most; omega)
  have ky := wt_in n1 a.bias h.bias.1
  obtain ⟨u, hu⟩ : ∃ u, IntKind.u64.wrap n2 = u := ⟨_, rfl⟩
  have hu0 : 0 ≤ u := by rw [← hu, IntKind.wrap_u64]; omega
  obtain ⟨jb, hq⟩ : ∃ jb : Nat, u.tmod 4 = (jb : Int) := ⟨(u.tmod 4).toNat, by have := Int.tmod_nonneg 4 hu0; omega⟩
  have hq1 := Int.tmod_lt_of_pos u (show (0 : Int) < 4 by decide)
  rw [hq] at hq1
  have hjb : jb < 4 := by omega
  have hq2 : IntKind.i64.wrap (jb : Int) = jb := (wrap_i64 _).trans (by omega)
  obtain ⟨bad, hb⟩ : ∃ b : Int, b = (jb : Int) - 1 := ⟨_, rfl⟩
  have hbad : IntKind.i64.wrap ((jb : Int) - 1) = bad := (wrap_i64 _).trans (by omega)
  have hbj : IntKind.i64.wrap (bad + 1) = jb := (wrap_i64 _).trans (by omega)
  have HB := Lib.hid hb
  have HST := Lib.hid (show St30 a (qstart a) (wt n0 a.most) (wt n1 a.bias) jb from ⟨by rw [qstart_get hjb, startG_is h]; exact start_knows kx.1 kx.2 ky.1 ky.2, qstart_r6 (ra_of h), kx.1, kx.2, ky.1, ky.2⟩)
  have NN := Lib.hid n
  have HH := Lib.hid h
  have HI := Lib.hid info_qa
  have H1 := Lib.hid qa_one
  have HJB := Lib.hid hjb
  have HBJ := Lib.hid hbj
  clear hu0 hq1 kx ky n c ai hr h h100 C hb hjb hbj
  generalize wt n0 a.most = x0 at *
  generalize wt n1 a.bias = y0 at *
  generalize qstart a = qi at *
  have hS1 := ((Sp.none w).more [.int .i64 a.e0, .int .i64 a.e1, .int .i64 a.e2, .bool a.b0, .bool a.b1, .bool a.b2, .int .i64 a.bias, .int .i64 a.change, .int .i64 a.move, .int .i64 a.most] 25).more [.int .i64 n0, .int .i64 n1, .int .i64 n2] 22
  simp only [heap1] at hS1
  have HS1 := Lib.hid hS1
  clear hS1
  go_enter Tryd.func3, Tryd.ntmps3
  go_wp2_with fail
  refine (RA.out _).mono ?_; rintro e w1 ⟨rfl, hb1⟩
  have hS2 := (HS1.out).keep hb1
  have HS2 := Lib.hid hS2
  clear hS2 HS1
  clear hb1
  clear RA
  go_upto_region 3 with fail
  obtain ⟨bs1, hbs⟩ : ∃ bs : List (Nat × List (Option Value)), bs = [(w.heap.size, [some (.int .i64 a.e0), some (.int .i64 a.e1), some (.int .i64 a.e2), some (.bool a.b0), some (.bool a.b1), some (.bool a.b2), some (.int .i64 a.bias), some (.int .i64 a.change), some (.int .i64 a.move), some (.int .i64 a.most)]), (w.heap.size + 1, [some (.int .i64 n0), some (.int .i64 n1), some (.int .i64 n2)])] := ⟨_, rfl⟩
  have hT := (HS2.out).cast hbs
  have c1_0 : ∀ w', Sp w bs1 w' → w'.cell? ⟨w.heap.size + 1, 0, none⟩ = some (.int .i64 n0) := by rw [hbs]; exact fun w' h => h.at 1 rfl 0 rfl
  have c1_1 : ∀ w', Sp w bs1 w' → w'.cell? ⟨w.heap.size + 1, 1, none⟩ = some (.int .i64 n1) := by rw [hbs]; exact fun w' h => h.at 1 rfl 1 rfl
  have c1_2 : ∀ w', Sp w bs1 w' → w'.cell? ⟨w.heap.size + 1, 2, none⟩ = some (.int .i64 n2) := by rw [hbs]; exact fun w' h => h.at 1 rfl 2 rfl
  have c0_6 : ∀ w', Sp w bs1 w' → w'.cell? ⟨w.heap.size, 6, none⟩ = some (.int .i64 a.bias) := by rw [hbs]; exact fun w' h => h.at 0 rfl 6 rfl
  have c0_9 : ∀ w', Sp w bs1 w' → w'.cell? ⟨w.heap.size, 9, none⟩ = some (.int .i64 a.most) := by rw [hbs]; exact fun w' h => h.at 0 rfl 9 rfl
  have nx : ∀ w', Sp w bs1 w' → Sp w [(w.heap.size, [some (.int .i64 a.e0), some (.int .i64 a.e1), some (.int .i64 a.e2), some (.bool a.b0), some (.bool a.b1), some (.bool a.b2), some (.int .i64 a.bias), some (.int .i64 a.change), some (.int .i64 a.move), some (.int .i64 a.most)]), (w.heap.size + 1, [some (.int .i64 n0), some (.int .i64 n1), some (.int .i64 n2)])] w' := by rw [hbs]; exact fun w' h => h
  have kS : ∀ w1 w2, Sp w bs1 w1 → Below w1.heap.size w1 w2 → Sp w bs1 w2 := fun _ _ h hb => h.keep hb
  clear hbs HS2
  change (Code.region 3 tlfa3 true).wp Tryd.prog _ _ _
  refine wp_region_noPanic ?_
  refine wp_region_held_drew (S := (Sp w bs1)) (by kernel_rfl) (hT.drew) (fun hHeld => ?_)
  refine wpAnyH_take (i := 0) (oi := ({ dst := some 27, op := .indexAddr 22 (.tmp 5) (.const (.int .i64 0)), type := 0, pos := "law.go:48", after := #[], guard := none } : Oper)) (v := ?vs1_0) rfl tlfa3_plain (by as_aux_lemma => kernel_rfl) (by as_aux_lemma => kernel_rfl) (fun _ _ _ h => h) (Or.inl ⟨by rfl, ?ys1_0⟩) (by assumption) ?rs1_0
  case ys1_0 => (intro w hSw; (try dsimp only at hSw); go_simp; try with_reducible rfl)
  try simp only [Act.put, List.setIfInBounds_toArray, List.set_cons_zero, List.set_cons_succ]
  refine wpAnyH_take (i := 1) (oi := ({ dst := some 28, op := .load 2 (.tmp 27), type := 2, pos := "law.go:48", after := #[{ on := 0, ground := .data }], guard := none } : Oper)) (v := ?vs1_1) rfl tlfa3_plain (by as_aux_lemma => kernel_rfl) (by as_aux_lemma => kernel_rfl) (fun _ _ _ h => h) (Or.inl ⟨by rfl, ?ys1_1⟩) (by assumption) ?rs1_1
  case ys1_1 => (intro w hSw; (try dsimp only at hSw); go_simp; try with_reducible rfl)
  try simp only [Act.put, List.setIfInBounds_toArray, List.set_cons_zero, List.set_cons_succ]
  refine wpAnyH_take (i := 2) (oi := ({ dst := some 29, op := .fieldAddr 25 (.tmp 3) 5, type := 0, pos := "law.go:48", after := #[], guard := none } : Oper)) (v := ?vs1_2) rfl tlfa3_plain (by as_aux_lemma => kernel_rfl) (by as_aux_lemma => kernel_rfl) (fun _ _ _ h => h) (Or.inl ⟨by rfl, ?ys1_2⟩) (by assumption) ?rs1_2
  case ys1_2 => (intro w hSw; (try dsimp only at hSw); go_simp; try with_reducible rfl)
  try simp only [Act.put, List.setIfInBounds_toArray, List.set_cons_zero, List.set_cons_succ]
  refine wpAnyH_take (i := 3) (oi := ({ dst := some 30, op := .load 2 (.tmp 29), type := 2, pos := "law.go:48", after := #[{ on := 2, ground := .data }], guard := none } : Oper)) (v := ?vs1_3) rfl tlfa3_plain (by as_aux_lemma => kernel_rfl) (by as_aux_lemma => kernel_rfl) (fun _ _ _ h => h) (Or.inl ⟨by rfl, ?ys1_3⟩) (by assumption) ?rs1_3
  case ys1_3 => (intro w hSw; (try dsimp only at hSw); go_simp; try with_reducible rfl)
  try simp only [Act.put, List.setIfInBounds_toArray, List.set_cons_zero, List.set_cons_succ]
  refine wpAnyH_take (i := 5) (oi := ({ dst := some 32, op := .indexAddr 22 (.tmp 5) (.const (.int .i64 1)), type := 0, pos := "law.go:48", after := #[], guard := none } : Oper)) (v := ?vs1_5) rfl tlfa3_plain (by as_aux_lemma => kernel_rfl) (by as_aux_lemma => kernel_rfl) (fun _ _ _ h => h) (Or.inl ⟨by rfl, ?ys1_5⟩) (by assumption) ?rs1_5
  case ys1_5 => (intro w hSw; (try dsimp only at hSw); go_simp; try with_reducible rfl)
  try simp only [Act.put, List.setIfInBounds_toArray, List.set_cons_zero, List.set_cons_succ]
  refine wpAnyH_take (i := 6) (oi := ({ dst := some 33, op := .load 2 (.tmp 32), type := 2, pos := "law.go:48", after := #[{ on := 5, ground := .data }], guard := none } : Oper)) (v := ?vs1_6) rfl tlfa3_plain (by as_aux_lemma => kernel_rfl) (by as_aux_lemma => kernel_rfl) (fun _ _ _ h => h) (Or.inl ⟨by rfl, ?ys1_6⟩) (by assumption) ?rs1_6
  case ys1_6 => (intro w hSw; (try dsimp only at hSw); go_simp; try with_reducible rfl)
  try simp only [Act.put, List.setIfInBounds_toArray, List.set_cons_zero, List.set_cons_succ]
  refine wpAnyH_take (i := 7) (oi := ({ dst := some 34, op := .fieldAddr 25 (.tmp 3) 2, type := 0, pos := "law.go:48", after := #[], guard := none } : Oper)) (v := ?vs1_7) rfl tlfa3_plain (by as_aux_lemma => kernel_rfl) (by as_aux_lemma => kernel_rfl) (fun _ _ _ h => h) (Or.inl ⟨by rfl, ?ys1_7⟩) (by assumption) ?rs1_7
  case ys1_7 => (intro w hSw; (try dsimp only at hSw); go_simp; try with_reducible rfl)
  try simp only [Act.put, List.setIfInBounds_toArray, List.set_cons_zero, List.set_cons_succ]
  refine wpAnyH_take (i := 8) (oi := ({ dst := some 35, op := .load 2 (.tmp 34), type := 2, pos := "law.go:48", after := #[{ on := 7, ground := .data }], guard := none } : Oper)) (v := ?vs1_8) rfl tlfa3_plain (by as_aux_lemma => kernel_rfl) (by as_aux_lemma => kernel_rfl) (fun _ _ _ h => h) (Or.inl ⟨by rfl, ?ys1_8⟩) (by assumption) ?rs1_8
  case ys1_8 => (intro w hSw; (try dsimp only at hSw); go_simp; try with_reducible rfl)
  try simp only [Act.put, List.setIfInBounds_toArray, List.set_cons_zero, List.set_cons_succ]
  refine wpAnyH_take (i := 10) (oi := ({ dst := some 37, op := .indexAddr 22 (.tmp 5) (.const (.int .i64 2)), type := 0, pos := "law.go:48", after := #[{ on := 17, ground := .gcOnly Go.Departure.lateStores }], guard := none } : Oper)) (v := ?vs1_10) rfl tlfa3_plain (by as_aux_lemma => kernel_rfl) (by as_aux_lemma => kernel_rfl) (fun _ _ _ h => h) (Or.inl ⟨by rfl, ?ys1_10⟩) (by assumption) ?rs1_10
  case ys1_10 => (intro w hSw; (try dsimp only at hSw); go_simp; try with_reducible rfl)
  try simp only [Act.put, List.setIfInBounds_toArray, List.set_cons_zero, List.set_cons_succ]
  refine wpAnyH_take (i := 11) (oi := ({ dst := some 38, op := .load 2 (.tmp 37), type := 2, pos := "law.go:48", after := #[{ on := 10, ground := .data }, { on := 17, ground := .gcOnly Go.Departure.lateStores }], guard := none } : Oper)) (v := ?vs1_11) rfl tlfa3_plain (by as_aux_lemma => kernel_rfl) (by as_aux_lemma => kernel_rfl) (fun _ _ _ h => h) (Or.inl ⟨by rfl, ?ys1_11⟩) (by assumption) ?rs1_11
  case ys1_11 => (intro w hSw; (try dsimp only at hSw); go_simp; try with_reducible rfl)
  try simp only [Act.put, List.setIfInBounds_toArray, List.set_cons_zero, List.set_cons_succ]
  refine wpAnyH_take (i := 12) (oi := ({ dst := some 39, op := .convert 2 30 (.tmp 38), type := 30, pos := "law.go:48", after := #[{ on := 11, ground := .data }, { on := 17, ground := .gcOnly Go.Departure.lateStores }], guard := none } : Oper)) (v := ?vs1_12) rfl tlfa3_plain (by as_aux_lemma => kernel_rfl) (by as_aux_lemma => kernel_rfl) (fun _ _ _ h => h) (Or.inl ⟨by rfl, ?ys1_12⟩) (by assumption) ?rs1_12
  case ys1_12 => (intro w hSw; (try dsimp only at hSw); go_simp; try with_reducible rfl)
  try simp only [Act.put, List.setIfInBounds_toArray, List.set_cons_zero, List.set_cons_succ]
  refine wpAnyH_take (i := 13) (oi := ({ dst := some 40, op := .binOp .rem 30 (.tmp 39) (.const (.int .u64 4)) 30, type := 30, pos := "law.go:48", after := #[{ on := 12, ground := .data }, { on := 17, ground := .gcOnly Go.Departure.lateStores }], guard := none } : Oper)) (v := ?vs1_13) rfl tlfa3_plain (by as_aux_lemma => kernel_rfl) (by as_aux_lemma => kernel_rfl) (fun _ _ _ h => h) (Or.inl ⟨by rfl, ?ys1_13⟩) (by assumption) ?rs1_13
  case ys1_13 => (intro w hSw; (try dsimp only at hSw); go_simp; try with_reducible rfl)
  try simp only [Act.put, List.setIfInBounds_toArray, List.set_cons_zero, List.set_cons_succ]
  refine wpAnyH_take (i := 14) (oi := ({ dst := some 41, op := .convert 30 3 (.tmp 40), type := 3, pos := "law.go:48", after := #[{ on := 13, ground := .data }, { on := 17, ground := .gcOnly Go.Departure.lateStores }], guard := none } : Oper)) (v := ?vs1_14) rfl tlfa3_plain (by as_aux_lemma => kernel_rfl) (by as_aux_lemma => kernel_rfl) (fun _ _ _ h => h) (Or.inl ⟨by rfl, ?ys1_14⟩) (by assumption) ?rs1_14
  case ys1_14 => (intro w hSw; (try dsimp only at hSw); go_simp; try with_reducible rfl)
  try simp only [Act.put, List.setIfInBounds_toArray, List.set_cons_zero, List.set_cons_succ]
  refine wpAnyH_take (i := 15) (oi := ({ dst := some 42, op := .binOp .sub 3 (.tmp 41) (.const (.int .i64 1)) 3, type := 3, pos := "law.go:48", after := #[{ on := 14, ground := .data }, { on := 17, ground := .gcOnly Go.Departure.lateStores }], guard := none } : Oper)) (v := ?vs1_15) rfl tlfa3_plain (by as_aux_lemma => kernel_rfl) (by as_aux_lemma => kernel_rfl) (fun _ _ _ h => h) (Or.inl ⟨by rfl, ?ys1_15⟩) (by assumption) ?rs1_15
  case ys1_15 => (intro w hSw; (try dsimp only at hSw); go_simp; try with_reducible rfl)
  try simp only [Act.put, List.setIfInBounds_toArray, List.set_cons_zero, List.set_cons_succ]
  refine wpAnyH_ready (rs := [4]) (by as_aux_lemma => kernel_rfl) (by simp) ?_
  refine AllReadyH.cons (o := ({ dst := some 31, op := .call { callee := .value (.func 7), args := #[.tmp 28, .tmp 30], argTypes := #[2, 2] }, type := 2, pos := "law.go:48", after := #[{ on := 1, ground := .data }, { on := 3, ground := .data }], guard := none } : Oper)) rfl (fun KK hK => ?_) AllReadyH.nil
  rw [if_pos (by rfl)]
  go_simp
  go_at_call 7; refine (WV.out _).mono ?_; rintro e w2 ⟨rfl, hb2⟩
  go_wp2_with fail
  refine hK.out _ _ ?_ (fun hHeld2 => ?_)
  · exact kS _ _ (by assumption) hb2
  clear hK KK hb2
  try simp only [Act.put, List.setIfInBounds_toArray, List.set_cons_zero, List.set_cons_succ]
  refine wpAnyH_ready (rs := [9]) (by as_aux_lemma => kernel_rfl) (by simp) ?_
  refine AllReadyH.cons (o := ({ dst := some 36, op := .call { callee := .value (.func 7), args := #[.tmp 33, .tmp 35], argTypes := #[2, 2] }, type := 2, pos := "law.go:48", after := #[{ on := 6, ground := .data }, { on := 8, ground := .data }, { on := 4, ground := .chain }], guard := none } : Oper)) rfl (fun KK hK => ?_) AllReadyH.nil
  rw [if_pos (by rfl)]
  go_simp
  go_at_call 7; refine (WB.out _).mono ?_; rintro e w3 ⟨rfl, hb3⟩
  go_wp2_with fail
  refine hK.out _ _ ?_ (fun hHeld3 => ?_)
  · exact kS _ _ (by assumption) hb3
  clear hK KK hb3 hHeld2
  try simp only [Act.put, List.setIfInBounds_toArray, List.set_cons_zero, List.set_cons_succ]
  refine wpAnyH_take (i := 16) (oi := ({ dst := some 7, op := .assign (.tmp 31), type := 2, pos := "law.go:48", after := #[{ on := 4, ground := .data }, { on := 9, ground := .chain }, { on := 0, ground := .phase }, { on := 1, ground := .phase }, { on := 2, ground := .phase }, { on := 3, ground := .phase }, { on := 4, ground := .phase }, { on := 5, ground := .textOnly Go.Departure.lateStores }, { on := 6, ground := .textOnly Go.Departure.lateStores }, { on := 7, ground := .textOnly Go.Departure.lateStores }, { on := 8, ground := .textOnly Go.Departure.lateStores }, { on := 9, ground := .textOnly Go.Departure.lateStoresUnsure }, { on := 10, ground := .textOnly Go.Departure.lateStores }, { on := 11, ground := .textOnly Go.Departure.lateStores }, { on := 12, ground := .textOnly Go.Departure.lateStores }, { on := 13, ground := .textOnly Go.Departure.lateStores }, { on := 14, ground := .textOnly Go.Departure.lateStores }, { on := 15, ground := .textOnly Go.Departure.lateStores }], guard := none } : Oper)) (v := ?vs1_16) rfl tlfa3_plain (by as_aux_lemma => kernel_rfl) (by as_aux_lemma => kernel_rfl) (fun _ _ _ h => h) (Or.inl ⟨by rfl, ?ys1_16⟩) (by assumption) ?rs1_16
  case ys1_16 => (intro w hSw; (try dsimp only at hSw); go_simp; try with_reducible rfl)
  try simp only [Act.put, List.setIfInBounds_toArray, List.set_cons_zero, List.set_cons_succ]
  refine wpAnyH_take (i := 17) (oi := ({ dst := some 8, op := .assign (.tmp 36), type := 2, pos := "law.go:48", after := #[{ on := 9, ground := .data }, { on := 16, ground := .chain }, { on := 0, ground := .phase }, { on := 1, ground := .phase }, { on := 2, ground := .phase }, { on := 3, ground := .phase }, { on := 4, ground := .phase }, { on := 5, ground := .phase }, { on := 6, ground := .phase }, { on := 7, ground := .phase }, { on := 8, ground := .phase }, { on := 9, ground := .phase }, { on := 10, ground := .textOnly Go.Departure.lateStores }, { on := 11, ground := .textOnly Go.Departure.lateStores }, { on := 12, ground := .textOnly Go.Departure.lateStores }, { on := 13, ground := .textOnly Go.Departure.lateStores }, { on := 14, ground := .textOnly Go.Departure.lateStores }, { on := 15, ground := .textOnly Go.Departure.lateStores }, { on := 16, ground := .phase }], guard := none } : Oper)) (v := ?vs1_17) rfl tlfa3_plain (by as_aux_lemma => kernel_rfl) (by as_aux_lemma => kernel_rfl) (fun _ _ _ h => h) (Or.inl ⟨by rfl, ?ys1_17⟩) (by assumption) ?rs1_17
  case ys1_17 => (intro w hSw; (try dsimp only at hSw); go_simp; try with_reducible rfl)
  try simp only [Act.put, List.setIfInBounds_toArray, List.set_cons_zero, List.set_cons_succ]
  refine wpAnyH_take (i := 18) (oi := ({ dst := some 9, op := .assign (.tmp 42), type := 3, pos := "law.go:48", after := #[{ on := 15, ground := .data }, { on := 17, ground := .chain }, { on := 0, ground := .phase }, { on := 1, ground := .phase }, { on := 2, ground := .phase }, { on := 3, ground := .phase }, { on := 4, ground := .phase }, { on := 5, ground := .phase }, { on := 6, ground := .phase }, { on := 7, ground := .phase }, { on := 8, ground := .phase }, { on := 9, ground := .phase }, { on := 10, ground := .phase }, { on := 11, ground := .phase }, { on := 12, ground := .phase }, { on := 13, ground := .phase }, { on := 14, ground := .phase }, { on := 15, ground := .phase }, { on := 16, ground := .phase }, { on := 17, ground := .phase }], guard := none } : Oper)) (v := ?vs1_18) rfl tlfa3_plain (by as_aux_lemma => kernel_rfl) (by as_aux_lemma => kernel_rfl) (fun _ _ _ h => h) (Or.inl ⟨by rfl, ?ys1_18⟩) (by assumption) ?rs1_18
  case ys1_18 => (intro w hSw; (try dsimp only at hSw); go_simp; try with_reducible rfl)
  try simp only [Act.put, List.setIfInBounds_toArray, List.set_cons_zero, List.set_cons_succ]
  refine wpAnyH_done (by as_aux_lemma => kernel_rfl) ?_ _
  refine NoPanic.normal ?_
  have N1 := nx _ hHeld3
  have HS3 := Lib.hid N1
  clear c1_0 c1_1 c1_2 c0_6 c0_9 nx kS hT N1
  clear WV WB hu hq hq2 hbad d100
  go_upto_region 4 with fail
  have k0_0 := (HS3.out).at 0 rfl 0 (v := .int .i64 a.e0) rfl
  have k0_1 := (HS3.out).at 0 rfl 1 (v := .int .i64 a.e1) rfl
  have k0_2 := (HS3.out).at 0 rfl 2 (v := .int .i64 a.e2) rfl
  have k0_3 := (HS3.out).at 0 rfl 3 (v := .bool a.b0) rfl
  have k0_4 := (HS3.out).at 0 rfl 4 (v := .bool a.b1) rfl
  have k0_5 := (HS3.out).at 0 rfl 5 (v := .bool a.b2) rfl
  have k0_6 := (HS3.out).at 0 rfl 6 (v := .int .i64 a.bias) rfl
  have k0_7 := (HS3.out).at 0 rfl 7 (v := .int .i64 a.change) rfl
  have k0_8 := (HS3.out).at 0 rfl 8 (v := .int .i64 a.move) rfl
  have k0_9 := (HS3.out).at 0 rfl 9 (v := .int .i64 a.most) rfl
  go_wp2_with fail
  refine (SA.out _).mono ?_; rintro e w4 ⟨rfl, hb4⟩
  have hS4 := (HS3.out).keep hb4
  have HS4 := Lib.hid hS4
  clear hS4 HS3
  clear hb4
  clear SA k0_0 k0_1 k0_2 k0_3 k0_4 k0_5 k0_6 k0_7 k0_8 k0_9
  have hi := HI.out qi
  have h1 := H1.out qi
  go_upto_region 5 with (refine list_store_new rfl 35 _ _ rfl _ (qa qi) rfl rfl hi rfl h1 ?_)
  clear hi h1
  have hS5 := (show Sp w [(w.heap.size, [some (.int .i64 a.e0), some (.int .i64 a.e1), some (.int .i64 a.e2), some (.bool a.b0), some (.bool a.b1), some (.bool a.b2), some (.int .i64 a.bias), some (.int .i64 a.change), some (.int .i64 a.move), some (.int .i64 a.most)]), (w.heap.size + 1, [some (.int .i64 n0), some (.int .i64 n1), some (.int .i64 n2)]), (w4.heap.size, (qc qi).map some)] (w4.alloc (.cells (qa qi) 35)) from (HS4.out).more (qc qi) 35)
  have HS5 := Lib.hid hS5
  clear hS5 HS4
  obtain ⟨w5, hX, hS⟩ := (HS5.out).named
  rw [← hX]
  clear hX HS5
  have HS6 := Lib.hid hS
  clear hS
  go_wp2_with fail
  go_loopw [7, 8, 47] (fun v y i wr => ∃ (j : Nat) (cv cb : Int) (q : Qd), j ≤ l.length ∧ v = .int .i64 cv ∧ y = .int .i64 cb ∧ i = .int .i64 j ∧ St30 a q cv cb jb ∧ Sp w [(w.heap.size, [some (.int .i64 a.e0), some (.int .i64 a.e1), some (.int .i64 a.e2), some (.bool a.b0), some (.bool a.b1), some (.bool a.b2), some (.int .i64 a.bias), some (.int .i64 a.change), some (.int .i64 a.move), some (.int .i64 a.most)]), (w.heap.size + 1, [some (.int .i64 n0), some (.int .i64 n1), some (.int .i64 n2)]), (w4.heap.size, (qc q).map some)] wr) (fun _ _ i _ => l.length - (intOf i).toNat)
  case atStart => exact ⟨0, x0, y0, qi, Nat.zero_le _, rfl, rfl, rfl, HST.out, HS6.out⟩
  case round =>
    clear HS6 HST
    obtain ⟨j, cv, cb, q, hj, rfl, rfl, rfl, hst, hS⟩ := hrel
    by_cases hc : (j : Int) < l.length
    · skip
      obtain ⟨b, ob, rfl, L⟩ := (HC.out.keep hS.below).lies (by omega)
      have hx := L j (by omega)
      obtain ⟨t, ht⟩ : ∃ t, t = l.getD j tk0 := ⟨_, rfl⟩
      rw [← ht] at hx
      clear ht L
      obtain ⟨kn, ko, v1, v2, b1, b2⟩ := hst
      have RE := Lib.hid fun w => Real_any a t cv cb bad w HH.out v1 v2 b1 b2
      have hg := real_goes (t := t) bad HH.out v1 v2 b1 b2
      generalize yF (nvF a t cv) (nbF a t cb) bad 0 t.o0 a.e0 a.b0 = z0 at *
      generalize yF (nvF a t cv) (nbF a t cb) bad 1 t.o1 a.e1 a.b1 = z1 at *
      generalize yF (nvF a t cv) (nbF a t cb) bad 2 t.o2 a.e2 a.b2 = z2 at *
      generalize nvF a t cv = nv at *
      generalize nbF a t cb = nb at *
      rw [HB.out] at hg
      have kn2 := qstep_knows HH.out jb HJB.out kn hg t.t0 t.t1 t.t2
      have q0 : Sp.R6 z0 := r6 (by have := hg.r0; omega) (by have := hg.r0; omega)
      have q1 : Sp.R6 z1 := r6 (by have := hg.r1; omega) (by have := hg.r1; omega)
      have q2 : Sp.R6 z2 := r6 (by have := hg.r2; omega) (by have := hg.r2; omega)
      have ko2 := qstep_r6 (t0 := t.t0) (t1 := t.t1) (t2 := t.t2) (ra_of HH.out) ko q0 q1 q2
      have ST := Lib.hid fun w' (B : Below w.heap.size w w') => TStep_any a q z0 z1 z2 t.t0 t.t1 t.t2 w' (NN.out.keep B) (ra_of HH.out) ko q0 q1 q2
      have hla := qstep_later a q z0 z1 z2 t.t0 t.t1 t.t2
      have ds1 := later_status hla
      have da1 := later_alive hla
      obtain ⟨qn, hqn⟩ : ∃ z, z = qstep a q z0 z1 z2 t.t0 t.t1 t.t2 := ⟨_, rfl⟩
      rw [← hqn] at ST kn2 ko2 ds1 da1
      clear hqn hla
      have hs2 := status_not jb HJB.out kn2.ref
      have hbn := bad_not jb HJB.out kn2.ref
      have hin := hullQ_has jb HJB.out kn2
      have href := kn2.ref
      rw [← HB.out] at hbn
      have HN := Lib.hid (show St30 a qn nv nb jb from ⟨kn2, ko2, hg.v1, hg.v2, hg.b1, hg.b2⟩)
      have FS := Lib.hid fun w => Status_any qn w
      have FO := Lib.hid fun w => Status_any q w
      have FA := Lib.hid fun w => Alive_any qn w
      have FB := Lib.hid fun w => Alive_any q w
      have FD := Lib.hid fun w => Bad_any qn w
      have FH := Lib.hid fun w' (B : Below w.heap.size w w') => HullQ_any qn w' (NN.out.keep B)
      have FN := Lib.hid fun w => Has_any (hullQ qn).1 (hullQ qn).2 nv w
      rw [show Sp.has (hullQ qn).1 (hullQ qn).2 nv = true from decide_eq_true hin] at FN
      generalize status qn = sn at *
      generalize status q = sq at *
      generalize alive qn = an at *
      generalize alive q = aq at *
      generalize badQ qn = kb at *
      generalize (hullQ qn).1 = hl at *
      generalize (hullQ qn).2 = hh at *
      have d1 : (sn == 2) = false := by rw [beq_eq_false_iff_ne]; omega
      have d2 : decide (sn < sq) = false := decide_eq_false (by omega)
      have d3 : decide (aq < an) = false := decide_eq_false (by omega)
      have HBN := Lib.hid hbn
      have HRF := Lib.hid href
      clear kn ko v1 v2 b1 b2 hg kn2 q0 q1 q2 ko2 ds1 da1 hs2 hbn hin href
      have HX := Lib.hid hx
      clear hx
      have hd : (j : Int) ≥ 0 := by omega
      have HS7 := Lib.hid hS
      clear hS
      have h1 := tl_one t
      have hi := info_tk
      go_upto_region 8 with (first | refine list_load_any rfl 38 _ rfl b (ob + j * 8) rfl #[.int .i64 t.move, .int .i64 t.change, .int .i64 t.o0, .int .i64 t.o1, .int .i64 t.o2, .bool t.t0, .bool t.t1, .bool t.t2] _ HX.out Tryd.underlying38 rfl hi ?_ | refine list_store_new rfl 38 _ _ rfl _ #[.int .i64 t.move, .int .i64 t.change, .int .i64 t.o0, .int .i64 t.o1, .int .i64 t.o2, .bool t.t0, .bool t.t1, .bool t.t2] rfl rfl hi rfl h1 ?_)
      clear h1 hi HX
      have hS8 := (HS7.out).more [.int .i64 t.move, .int .i64 t.change, .int .i64 t.o0, .int .i64 t.o1, .int .i64 t.o2, .bool t.t0, .bool t.t1, .bool t.t2] 38
      have HS8 := Lib.hid hS8
      clear hS8 HS7
      obtain ⟨w6, hX, hS⟩ := (HS8.out).named
      rw [← hX]
      clear hX HS8
      have HS9 := Lib.hid hS
      clear hS
      have k0_0 := (HS9.out).at 0 rfl 0 (v := .int .i64 a.e0) rfl
      have k0_1 := (HS9.out).at 0 rfl 1 (v := .int .i64 a.e1) rfl
      have k0_2 := (HS9.out).at 0 rfl 2 (v := .int .i64 a.e2) rfl
      have k0_3 := (HS9.out).at 0 rfl 3 (v := .bool a.b0) rfl
      have k0_4 := (HS9.out).at 0 rfl 4 (v := .bool a.b1) rfl
      have k0_5 := (HS9.out).at 0 rfl 5 (v := .bool a.b2) rfl
      have k0_6 := (HS9.out).at 0 rfl 6 (v := .int .i64 a.bias) rfl
      have k0_7 := (HS9.out).at 0 rfl 7 (v := .int .i64 a.change) rfl
      have k0_8 := (HS9.out).at 0 rfl 8 (v := .int .i64 a.move) rfl
      have k0_9 := (HS9.out).at 0 rfl 9 (v := .int .i64 a.most) rfl
      have k3_0 := (HS9.out).at 3 rfl 0 (v := .int .i64 t.move) rfl
      have k3_1 := (HS9.out).at 3 rfl 1 (v := .int .i64 t.change) rfl
      have k3_2 := (HS9.out).at 3 rfl 2 (v := .int .i64 t.o0) rfl
      have k3_3 := (HS9.out).at 3 rfl 3 (v := .int .i64 t.o1) rfl
      have k3_4 := (HS9.out).at 3 rfl 4 (v := .int .i64 t.o2) rfl
      have k3_5 := (HS9.out).at 3 rfl 5 (v := .bool t.t0) rfl
      have k3_6 := (HS9.out).at 3 rfl 6 (v := .bool t.t1) rfl
      have k3_7 := (HS9.out).at 3 rfl 7 (v := .bool t.t2) rfl
      go_wp2_with fail
      refine (RE.out _).mono ?_; rintro e w7 ⟨rfl, hb7⟩
      have hS10 := (HS9.out).keep hb7
      have HS10 := Lib.hid hS10
      clear hS10 HS9
      clear hb7
      clear RE k0_0 k0_1 k0_2 k0_3 k0_4 k0_5 k0_6 k0_7 k0_8 k0_9 k3_0 k3_1 k3_2 k3_3 k3_4 k3_5 k3_6 k3_7
      go_upto_region 9 with fail
      have hS11 := (HS10.out).more [.int .i64 z0, .int .i64 z1, .int .i64 z2] 22
      have HS11 := Lib.hid hS11
      clear hS11 HS10
      obtain ⟨w8, hX, hS⟩ := (HS11.out).named
      rw [← hX]
      clear hX HS11
      have HS12 := Lib.hid hS
      clear hS
      go_upto_region 10 with fail
      have k0_0 := (HS12.out).at 0 rfl 0 (v := .int .i64 a.e0) rfl
      have k0_1 := (HS12.out).at 0 rfl 1 (v := .int .i64 a.e1) rfl
      have k0_2 := (HS12.out).at 0 rfl 2 (v := .int .i64 a.e2) rfl
      have k0_3 := (HS12.out).at 0 rfl 3 (v := .bool a.b0) rfl
      have k0_4 := (HS12.out).at 0 rfl 4 (v := .bool a.b1) rfl
      have k0_5 := (HS12.out).at 0 rfl 5 (v := .bool a.b2) rfl
      have k0_6 := (HS12.out).at 0 rfl 6 (v := .int .i64 a.bias) rfl
      have k0_7 := (HS12.out).at 0 rfl 7 (v := .int .i64 a.change) rfl
      have k0_8 := (HS12.out).at 0 rfl 8 (v := .int .i64 a.move) rfl
      have k0_9 := (HS12.out).at 0 rfl 9 (v := .int .i64 a.most) rfl
      have k4_0 := (HS12.out).at 4 rfl 0 (v := .int .i64 z0) rfl
      have k4_1 := (HS12.out).at 4 rfl 1 (v := .int .i64 z1) rfl
      have k4_2 := (HS12.out).at 4 rfl 2 (v := .int .i64 z2) rfl
      have k3_5 := (HS12.out).at 3 rfl 5 (v := .bool t.t0) rfl
      have k3_6 := (HS12.out).at 3 rfl 6 (v := .bool t.t1) rfl
      have k3_7 := (HS12.out).at 3 rfl 7 (v := .bool t.t2) rfl
      have HR := (HS12.out).range 2 (l := qc q) rfl
      have hi := HI.out q
      go_wp2_with (refine list_load_any rfl 35 _ rfl _ 0 rfl (qa q) _ HR Tryd.underlying35 rfl hi ?_)
      refine (ST.out _ HS12.out.below).mono ?_; rintro e w9 ⟨rfl, hb9⟩
      have hS13 := (HS12.out).keep hb9
      have HS13 := Lib.hid hS13
      clear hS13 HS12
      clear hb9
      clear ST HR k0_0 k0_1 k0_2 k0_3 k0_4 k0_5 k0_6 k0_7 k0_8 k0_9 k4_0 k4_1 k4_2 k3_5 k3_6 k3_7
      have hn := HI.out qn
      have h1 := H1.out qn
      go_upto_region 11 with (refine list_store_new rfl 35 _ _ rfl _ (qa qn) rfl rfl hn rfl h1 ?_)
      have hS14 := (show Sp w [(w.heap.size, [some (.int .i64 a.e0), some (.int .i64 a.e1), some (.int .i64 a.e2), some (.bool a.b0), some (.bool a.b1), some (.bool a.b2), some (.int .i64 a.bias), some (.int .i64 a.change), some (.int .i64 a.move), some (.int .i64 a.most)]), (w.heap.size + 1, [some (.int .i64 n0), some (.int .i64 n1), some (.int .i64 n2)]), (w4.heap.size, (qc q).map some), (wr.heap.size, [some (.int .i64 t.move), some (.int .i64 t.change), some (.int .i64 t.o0), some (.int .i64 t.o1), some (.int .i64 t.o2), some (.bool t.t0), some (.bool t.t1), some (.bool t.t2)]), (w7.heap.size, [some (.int .i64 z0), some (.int .i64 z1), some (.int .i64 z2)]), (w9.heap.size, (qc qn).map some)] (w9.alloc (.cells (qa qn) 35)) from (HS13.out).more (qc qn) 35)
      have HS14 := Lib.hid hS14
      clear hS14 HS13
      obtain ⟨w10, hX, hS⟩ := (HS14.out).named
      rw [← hX]
      clear hX HS14
      have HS15 := Lib.hid hS
      clear hS
      have hjb := HJB.out
      have hbj := HBJ.out
      have hj4 : (jb : Int) < 4 := by omega
      obtain ⟨bs2, hbs⟩ : ∃ bs : List (Nat × List (Option Value)), bs = [(w.heap.size, [some (.int .i64 a.e0), some (.int .i64 a.e1), some (.int .i64 a.e2), some (.bool a.b0), some (.bool a.b1), some (.bool a.b2), some (.int .i64 a.bias), some (.int .i64 a.change), some (.int .i64 a.move), some (.int .i64 a.most)]), (w.heap.size + 1, [some (.int .i64 n0), some (.int .i64 n1), some (.int .i64 n2)]), (w4.heap.size, (qc q).map some), (wr.heap.size, [some (.int .i64 t.move), some (.int .i64 t.change), some (.int .i64 t.o0), some (.int .i64 t.o1), some (.int .i64 t.o2), some (.bool t.t0), some (.bool t.t1), some (.bool t.t2)]), (w7.heap.size, [some (.int .i64 z0), some (.int .i64 z1), some (.int .i64 z2)]), (w9.heap.size, (qc qn).map some)] := ⟨_, rfl⟩
      have kref : ∀ w', Sp w bs2 w' → w'.cell? ⟨w9.heap.size, jb * 5 + 4, none⟩ = some (.bool false) := by
        rw [hbs]; intro w' h; have e := h.at 5 rfl (jb * 5 + 4) (v := .bool false) (by rw [List.getElem?_map, Nat.mul_comm, qc_refuted qn jb hjb, HRF.out]; rfl); exact e
      have hT := (HS15.out).cast hbs
      have RL0 : ∀ w', Sp w bs2 w' → w'.rangeAt (w9.heap.size) 0 (qa qn).toList := by rw [hbs]; exact fun w' h => h.range 5 (l := qc qn) rfl
      have RL1 : ∀ w', Sp w bs2 w' → w'.rangeAt (w4.heap.size) 0 (qa q).toList := by rw [hbs]; exact fun w' h => h.range 2 (l := qc q) rfl
      have nx : ∀ w', Sp w bs2 w' → Sp w [(w.heap.size, [some (.int .i64 a.e0), some (.int .i64 a.e1), some (.int .i64 a.e2), some (.bool a.b0), some (.bool a.b1), some (.bool a.b2), some (.int .i64 a.bias), some (.int .i64 a.change), some (.int .i64 a.move), some (.int .i64 a.most)]), (w.heap.size + 1, [some (.int .i64 n0), some (.int .i64 n1), some (.int .i64 n2)]), (w4.heap.size, (qc q).map some), (wr.heap.size, [some (.int .i64 t.move), some (.int .i64 t.change), some (.int .i64 t.o0), some (.int .i64 t.o1), some (.int .i64 t.o2), some (.bool t.t0), some (.bool t.t1), some (.bool t.t2)]), (w7.heap.size, [some (.int .i64 z0), some (.int .i64 z1), some (.int .i64 z2)]), (w9.heap.size, (qc qn).map some)] w' := by rw [hbs]; exact fun w' h => h
      have kS : ∀ w1 w2, Sp w bs2 w1 → Below w1.heap.size w1 w2 → Sp w bs2 w2 := fun _ _ h hb => h.keep hb
      clear hbs HS15
      change (Code.region 11 tlfa11 true).wp Tryd.prog _ _ _
      refine wp_region_noPanic ?_
      refine wp_region_held_drew (S := (Sp w bs2)) (by kernel_rfl) (hT.drew) (fun hHeld => ?_)
      refine wpAnyH_take (i := 0) (oi := ({ dst := some 69, op := .move (.tmp 9), type := 3, pos := "law.go:54", after := #[], guard := none } : Oper)) (v := ?vs2_0) rfl tlfa11_plain (by as_aux_lemma => kernel_rfl) (by as_aux_lemma => kernel_rfl) (fun _ _ _ h => h) (Or.inl ⟨by rfl, ?ys2_0⟩) (by assumption) ?rs2_0
      case ys2_0 => (intro w hSw; (try dsimp only at hSw); go_simp; try with_reducible rfl)
      try simp only [Act.put, List.setIfInBounds_toArray, List.set_cons_zero, List.set_cons_succ]
      refine wpAnyH_take (i := 1) (oi := ({ dst := some 70, op := .binOp .add 3 (.tmp 69) (.const (.int .i64 1)) 3, type := 3, pos := "law.go:54", after := #[{ on := 0, ground := .data }], guard := none } : Oper)) (v := ?vs2_1) rfl tlfa11_plain (by as_aux_lemma => kernel_rfl) (by as_aux_lemma => kernel_rfl) (fun _ _ _ h => h) (Or.inl ⟨by rfl, ?ys2_1⟩) (by assumption) ?rs2_1
      case ys2_1 => (intro w hSw; (try dsimp only at hSw); go_simp; try with_reducible rfl)
      try simp only [Act.put, List.setIfInBounds_toArray, List.set_cons_zero, List.set_cons_succ]
      refine wpAnyH_take (i := 2) (oi := ({ dst := some 71, op := .indexAddr 35 (.tmp 16) (.tmp 70), type := 0, pos := "law.go:54", after := #[{ on := 1, ground := .data }], guard := none } : Oper)) (v := ?vs2_2) rfl tlfa11_plain (by as_aux_lemma => kernel_rfl) (by as_aux_lemma => kernel_rfl) (fun _ _ _ h => h) (Or.inl ⟨by rfl, ?ys2_2⟩) (by assumption) ?rs2_2
      case ys2_2 => (intro w hSw; (try dsimp only at hSw); go_simp; try with_reducible rfl)
      try simp only [Act.put, List.setIfInBounds_toArray, List.set_cons_zero, List.set_cons_succ]
      refine wpAnyH_take (i := 3) (oi := ({ dst := some 72, op := .fieldAddr 34 (.tmp 71) 2, type := 0, pos := "law.go:54", after := #[{ on := 2, ground := .data }], guard := none } : Oper)) (v := ?vs2_3) rfl tlfa11_plain (by as_aux_lemma => kernel_rfl) (by as_aux_lemma => kernel_rfl) (fun _ _ _ h => h) (Or.inl ⟨by rfl, ?ys2_3⟩) (by assumption) ?rs2_3
      case ys2_3 => (intro w hSw; (try dsimp only at hSw); go_simp; try with_reducible rfl)
      try simp only [Act.put, List.setIfInBounds_toArray, List.set_cons_zero, List.set_cons_succ]
      refine wpAnyH_take (i := 4) (oi := ({ dst := some 73, op := .load 4 (.tmp 72), type := 4, pos := "law.go:54", after := #[{ on := 3, ground := .data }], guard := none } : Oper)) (v := ?vs2_4) rfl tlfa11_plain (by as_aux_lemma => kernel_rfl) (by as_aux_lemma => kernel_rfl) (fun _ _ _ h => h) (Or.inl ⟨by rfl, ?ys2_4⟩) (by assumption) ?rs2_4
      case ys2_4 => (intro w hSw; (try dsimp only at hSw); go_simp; try with_reducible rfl)
      try simp only [Act.put, List.setIfInBounds_toArray, List.set_cons_zero, List.set_cons_succ]
      refine wpAnyH_take (i := 5) (oi := ({ dst := some 74, op := .move (.tmp 73), type := 4, pos := "law.go:54", after := #[{ on := 4, ground := .data }], guard := none } : Oper)) (v := ?vs2_5) rfl tlfa11_plain (by as_aux_lemma => kernel_rfl) (by as_aux_lemma => kernel_rfl) (fun _ _ _ h => h) (Or.inl ⟨by rfl, ?ys2_5⟩) (by assumption) ?rs2_5
      case ys2_5 => (intro w hSw; (try dsimp only at hSw); go_simp; try with_reducible rfl)
      try simp only [Act.put, List.setIfInBounds_toArray, List.set_cons_zero, List.set_cons_succ]
      refine wpAnyH_take (i := 6) (oi := ({ dst := some 75, op := .load 35 (.tmp 16), type := 35, pos := "law.go:54", after := #[{ on := 5, ground := .guard }], guard := some (5, false) } : Oper)) rfl tlfa11_plain (by as_aux_lemma => kernel_rfl) (by as_aux_lemma => kernel_rfl) (fun _ _ _ h => h) (yields_load (by rfl) 35 _ rfl _ _ rfl _ _ RL0 Tryd.underlying35 rfl hn) (by assumption) ?_
      try simp only [Act.put, List.setIfInBounds_toArray, List.set_cons_zero, List.set_cons_succ]
      refine wpAnyH_ready (rs := [7]) (by as_aux_lemma => kernel_rfl) (by simp) ?_
      refine AllReadyH.cons (o := ({ dst := some 76, op := .call { callee := .value (.func 11), args := #[.tmp 75], argTypes := #[35] }, type := 3, pos := "law.go:54", after := #[{ on := 6, ground := .data }, { on := 5, ground := .chain }, { on := 5, ground := .guard }], guard := some (5, false) } : Oper)) rfl (fun KK hK => ?_) AllReadyH.nil
      rw [if_pos (by rfl)]
      go_simp
      go_at_call 11; refine (FS.out _).mono ?_; rintro e w11 ⟨rfl, hb11⟩
      go_wp2_with fail
      refine hK.out _ _ ?_ (fun hHeld11 => ?_)
      · exact kS _ _ (by assumption) hb11
      clear hK KK hb11
      try simp only [Act.put, List.setIfInBounds_toArray, List.set_cons_zero, List.set_cons_succ]
      refine wpAnyH_take (i := 8) (oi := ({ dst := some 77, op := .binOp .eql 3 (.tmp 76) (.const (.int .i64 2)) 3, type := 4, pos := "law.go:54", after := #[{ on := 7, ground := .data }, { on := 5, ground := .guard }], guard := some (5, false) } : Oper)) (v := ?vs2_8) rfl tlfa11_plain (by as_aux_lemma => kernel_rfl) (by as_aux_lemma => kernel_rfl) (fun _ _ _ h => h) (Or.inl ⟨by rfl, ?ys2_8⟩) (by assumption) ?rs2_8
      case ys2_8 => (intro w hSw; (try dsimp only at hSw); go_simp; try with_reducible rfl)
      try simp only [Act.put, List.setIfInBounds_toArray, List.set_cons_zero, List.set_cons_succ]
      refine wpAnyH_take (i := 9) (oi := ({ dst := some 78, op := .pick (.tmp 74) (.const (.bool true)) (.tmp 77), type := 4, pos := "law.go:54", after := #[{ on := 5, ground := .data }, { on := 8, ground := .data }], guard := none } : Oper)) (v := ?vs2_9) rfl tlfa11_plain (by as_aux_lemma => kernel_rfl) (by as_aux_lemma => kernel_rfl) (fun _ _ _ h => h) (Or.inl ⟨by rfl, ?ys2_9⟩) (by assumption) ?rs2_9
      case ys2_9 => (intro w hSw; (try dsimp only at hSw); go_simp; try with_reducible rfl)
      try simp only [Act.put, List.setIfInBounds_toArray, List.set_cons_zero, List.set_cons_succ]
      refine wpAnyH_take (i := 10) (oi := ({ dst := some 79, op := .move (.tmp 78), type := 4, pos := "law.go:54", after := #[{ on := 9, ground := .data }, { on := 7, ground := .chain }], guard := none } : Oper)) (v := ?vs2_10) rfl tlfa11_plain (by as_aux_lemma => kernel_rfl) (by as_aux_lemma => kernel_rfl) (fun _ _ _ h => h) (Or.inl ⟨by rfl, ?ys2_10⟩) (by assumption) ?rs2_10
      case ys2_10 => (intro w hSw; (try dsimp only at hSw); go_simp; try with_reducible rfl)
      try simp only [Act.put, List.setIfInBounds_toArray, List.set_cons_zero, List.set_cons_succ]
      refine wpAnyH_take (i := 11) (oi := ({ dst := some 80, op := .load 35 (.tmp 16), type := 35, pos := "law.go:54", after := #[{ on := 10, ground := .guard }], guard := some (10, false) } : Oper)) rfl tlfa11_plain (by as_aux_lemma => kernel_rfl) (by as_aux_lemma => kernel_rfl) (fun _ _ _ h => h) (yields_load (by rfl) 35 _ rfl _ _ rfl _ _ RL0 Tryd.underlying35 rfl hn) (by assumption) ?_
      try simp only [Act.put, List.setIfInBounds_toArray, List.set_cons_zero, List.set_cons_succ]
      refine wpAnyH_take (i := 13) (oi := ({ dst := some 82, op := .load 35 (.tmp 10), type := 35, pos := "law.go:54", after := #[{ on := 10, ground := .guard }], guard := some (10, false) } : Oper)) rfl tlfa11_plain (by as_aux_lemma => kernel_rfl) (by as_aux_lemma => kernel_rfl) (fun _ _ _ h => h) (yields_load (by rfl) 35 _ rfl _ _ rfl _ _ RL1 Tryd.underlying35 rfl hi) (by assumption) ?_
      try simp only [Act.put, List.setIfInBounds_toArray, List.set_cons_zero, List.set_cons_succ]
      refine wpAnyH_ready (rs := [12]) (by as_aux_lemma => kernel_rfl) (by simp) ?_
      refine AllReadyH.cons (o := ({ dst := some 81, op := .call { callee := .value (.func 11), args := #[.tmp 80], argTypes := #[35] }, type := 3, pos := "law.go:54", after := #[{ on := 11, ground := .data }, { on := 10, ground := .chain }, { on := 10, ground := .guard }], guard := some (10, false) } : Oper)) rfl (fun KK hK => ?_) AllReadyH.nil
      rw [if_pos (by rfl)]
      go_simp
      go_at_call 11; refine (FS.out _).mono ?_; rintro e w12 ⟨rfl, hb12⟩
      go_wp2_with fail
      refine hK.out _ _ ?_ (fun hHeld12 => ?_)
      · exact kS _ _ (by assumption) hb12
      clear hK KK hb12 hHeld11
      try simp only [Act.put, List.setIfInBounds_toArray, List.set_cons_zero, List.set_cons_succ]
      refine wpAnyH_ready (rs := [14]) (by as_aux_lemma => kernel_rfl) (by simp) ?_
      refine AllReadyH.cons (o := ({ dst := some 83, op := .call { callee := .value (.func 11), args := #[.tmp 82], argTypes := #[35] }, type := 3, pos := "law.go:54", after := #[{ on := 13, ground := .data }, { on := 12, ground := .chain }, { on := 10, ground := .guard }], guard := some (10, false) } : Oper)) rfl (fun KK hK => ?_) AllReadyH.nil
      rw [if_pos (by rfl)]
      go_simp
      go_at_call 11; refine (FO.out _).mono ?_; rintro e w13 ⟨rfl, hb13⟩
      go_wp2_with fail
      refine hK.out _ _ ?_ (fun hHeld13 => ?_)
      · exact kS _ _ (by assumption) hb13
      clear hK KK hb13 hHeld12
      try simp only [Act.put, List.setIfInBounds_toArray, List.set_cons_zero, List.set_cons_succ]
      refine wpAnyH_take (i := 15) (oi := ({ dst := some 84, op := .binOp .lss 3 (.tmp 81) (.tmp 83) 3, type := 4, pos := "law.go:54", after := #[{ on := 12, ground := .data }, { on := 14, ground := .data }, { on := 10, ground := .guard }], guard := some (10, false) } : Oper)) (v := ?vs2_15) rfl tlfa11_plain (by as_aux_lemma => kernel_rfl) (by as_aux_lemma => kernel_rfl) (fun _ _ _ h => h) (Or.inl ⟨by rfl, ?ys2_15⟩) (by assumption) ?rs2_15
      case ys2_15 => (intro w hSw; (try dsimp only at hSw); go_simp; try with_reducible rfl)
      try simp only [Act.put, List.setIfInBounds_toArray, List.set_cons_zero, List.set_cons_succ]
      refine wpAnyH_take (i := 16) (oi := ({ dst := some 85, op := .pick (.tmp 79) (.const (.bool true)) (.tmp 84), type := 4, pos := "law.go:54", after := #[{ on := 10, ground := .data }, { on := 15, ground := .data }], guard := none } : Oper)) (v := ?vs2_16) rfl tlfa11_plain (by as_aux_lemma => kernel_rfl) (by as_aux_lemma => kernel_rfl) (fun _ _ _ h => h) (Or.inl ⟨by rfl, ?ys2_16⟩) (by assumption) ?rs2_16
      case ys2_16 => (intro w hSw; (try dsimp only at hSw); go_simp; try with_reducible rfl)
      try simp only [Act.put, List.setIfInBounds_toArray, List.set_cons_zero, List.set_cons_succ]
      refine wpAnyH_take (i := 17) (oi := ({ dst := some 86, op := .move (.tmp 85), type := 4, pos := "law.go:54", after := #[{ on := 16, ground := .data }, { on := 14, ground := .chain }], guard := none } : Oper)) (v := ?vs2_17) rfl tlfa11_plain (by as_aux_lemma => kernel_rfl) (by as_aux_lemma => kernel_rfl) (fun _ _ _ h => h) (Or.inl ⟨by rfl, ?ys2_17⟩) (by assumption) ?rs2_17
      case ys2_17 => (intro w hSw; (try dsimp only at hSw); go_simp; try with_reducible rfl)
      try simp only [Act.put, List.setIfInBounds_toArray, List.set_cons_zero, List.set_cons_succ]
      refine wpAnyH_take (i := 18) (oi := ({ dst := some 87, op := .load 35 (.tmp 16), type := 35, pos := "law.go:54", after := #[{ on := 17, ground := .guard }], guard := some (17, false) } : Oper)) rfl tlfa11_plain (by as_aux_lemma => kernel_rfl) (by as_aux_lemma => kernel_rfl) (fun _ _ _ h => h) (yields_load (by rfl) 35 _ rfl _ _ rfl _ _ RL0 Tryd.underlying35 rfl hn) (by assumption) ?_
      try simp only [Act.put, List.setIfInBounds_toArray, List.set_cons_zero, List.set_cons_succ]
      refine wpAnyH_take (i := 20) (oi := ({ dst := some 89, op := .load 35 (.tmp 10), type := 35, pos := "law.go:54", after := #[{ on := 17, ground := .guard }], guard := some (17, false) } : Oper)) rfl tlfa11_plain (by as_aux_lemma => kernel_rfl) (by as_aux_lemma => kernel_rfl) (fun _ _ _ h => h) (yields_load (by rfl) 35 _ rfl _ _ rfl _ _ RL1 Tryd.underlying35 rfl hi) (by assumption) ?_
      try simp only [Act.put, List.setIfInBounds_toArray, List.set_cons_zero, List.set_cons_succ]
      refine wpAnyH_ready (rs := [19]) (by as_aux_lemma => kernel_rfl) (by simp) ?_
      refine AllReadyH.cons (o := ({ dst := some 88, op := .call { callee := .value (.func 12), args := #[.tmp 87], argTypes := #[35] }, type := 3, pos := "law.go:54", after := #[{ on := 18, ground := .data }, { on := 17, ground := .chain }, { on := 17, ground := .guard }], guard := some (17, false) } : Oper)) rfl (fun KK hK => ?_) AllReadyH.nil
      rw [if_pos (by rfl)]
      go_simp
      go_at_call 12; refine (FA.out _).mono ?_; rintro e w14 ⟨rfl, hb14⟩
      go_wp2_with fail
      refine hK.out _ _ ?_ (fun hHeld14 => ?_)
      · exact kS _ _ (by assumption) hb14
      clear hK KK hb14 hHeld13
      try simp only [Act.put, List.setIfInBounds_toArray, List.set_cons_zero, List.set_cons_succ]
      refine wpAnyH_ready (rs := [21]) (by as_aux_lemma => kernel_rfl) (by simp) ?_
      refine AllReadyH.cons (o := ({ dst := some 90, op := .call { callee := .value (.func 12), args := #[.tmp 89], argTypes := #[35] }, type := 3, pos := "law.go:54", after := #[{ on := 20, ground := .data }, { on := 19, ground := .chain }, { on := 17, ground := .guard }], guard := some (17, false) } : Oper)) rfl (fun KK hK => ?_) AllReadyH.nil
      rw [if_pos (by rfl)]
      go_simp
      go_at_call 12; refine (FB.out _).mono ?_; rintro e w15 ⟨rfl, hb15⟩
      go_wp2_with fail
      refine hK.out _ _ ?_ (fun hHeld15 => ?_)
      · exact kS _ _ (by assumption) hb15
      clear hK KK hb15 hHeld14
      try simp only [Act.put, List.setIfInBounds_toArray, List.set_cons_zero, List.set_cons_succ]
      refine wpAnyH_take (i := 22) (oi := ({ dst := some 91, op := .binOp .gtr 3 (.tmp 88) (.tmp 90) 3, type := 4, pos := "law.go:54", after := #[{ on := 19, ground := .data }, { on := 21, ground := .data }, { on := 17, ground := .guard }], guard := some (17, false) } : Oper)) (v := ?vs2_22) rfl tlfa11_plain (by as_aux_lemma => kernel_rfl) (by as_aux_lemma => kernel_rfl) (fun _ _ _ h => h) (Or.inl ⟨by rfl, ?ys2_22⟩) (by assumption) ?rs2_22
      case ys2_22 => (intro w hSw; (try dsimp only at hSw); go_simp; try with_reducible rfl)
      try simp only [Act.put, List.setIfInBounds_toArray, List.set_cons_zero, List.set_cons_succ]
      refine wpAnyH_take (i := 23) (oi := ({ dst := some 92, op := .pick (.tmp 86) (.const (.bool true)) (.tmp 91), type := 4, pos := "law.go:54", after := #[{ on := 17, ground := .data }, { on := 22, ground := .data }], guard := none } : Oper)) (v := ?vs2_23) rfl tlfa11_plain (by as_aux_lemma => kernel_rfl) (by as_aux_lemma => kernel_rfl) (fun _ _ _ h => h) (Or.inl ⟨by rfl, ?ys2_23⟩) (by assumption) ?rs2_23
      case ys2_23 => (intro w hSw; (try dsimp only at hSw); go_simp; try with_reducible rfl)
      try simp only [Act.put, List.setIfInBounds_toArray, List.set_cons_zero, List.set_cons_succ]
      refine wpAnyH_done (by as_aux_lemma => kernel_rfl) ?_ _
      refine NoPanic.normal ?_
      have N1 := nx _ hHeld15
      have HS16 := Lib.hid N1
      clear RL0 RL1 nx kS hT N1
      clear FS FO FA FB d1 d2 d3 hbj hj4 hjb kref
      have HR := (HS16.out).range 5 (l := qc qn) rfl
      go_wp2_with (refine list_load_any rfl 35 _ rfl _ 0 rfl (qa qn) _ HR Tryd.underlying35 rfl hn ?_)
      refine (FD.out _).mono ?_; rintro e w16 ⟨rfl, hb16⟩
      have hS17 := (HS16.out).keep hb16
      have HS17 := Lib.hid hS17
      clear hS17 HS16
      clear hb16
      clear FD HR
      rcases (show kb = -1 ∨ kb = bad ∧ (bad == -1) = false by rcases HBN.out with h | h; exact Or.inl h; by_cases z : bad = -1; exact Or.inl (h.trans z); exact Or.inr ⟨h, by rw [beq_eq_false_iff_ne]; exact z⟩) with hk | ⟨hk, hz⟩
      · skip
        subst hk
        have HR := (HS17.out).range 5 (l := qc qn) rfl
        go_wp2_with (refine list_load_any rfl 35 _ rfl _ 0 rfl (qa qn) _ HR Tryd.underlying35 rfl hn ?_)
        refine (FH.out _ HS17.out.below).mono ?_; rintro e w17 ⟨rfl, hb17⟩
        have hS18 := (HS17.out).keep hb17
        have HS18 := Lib.hid hS18
        clear hS18 HS17
        clear hb17
        clear FH HR
        go_wp2_with fail
        refine (FN.out _).mono ?_; rintro e w18 ⟨rfl, hb18⟩
        have hS19 := (HS18.out).keep hb18
        have HS19 := Lib.hid hS19
        clear hS19 HS18
        clear hb18
        clear FN
        have HR := (HS19.out).range 5 (l := qc qn) rfl
        have HT := (HS19.out).free_row 2 rfl (n := 20) rfl
        have HF := Lib.hid (show Sp w [(w.heap.size, [some (.int .i64 a.e0), some (.int .i64 a.e1), some (.int .i64 a.e2), some (.bool a.b0), some (.bool a.b1), some (.bool a.b2), some (.int .i64 a.bias), some (.int .i64 a.change), some (.int .i64 a.move), some (.int .i64 a.most)]), (w.heap.size + 1, [some (.int .i64 n0), some (.int .i64 n1), some (.int .i64 n2)]), (w4.heap.size, (qc qn).map some)] (w18.setCells (w4.heap.size) 0 (qa qn).toList) from ((HS19.out).row 2 rfl (qc qn) rfl).take 3)
        clear HS19
        go_upto_region 16 with fail
        go_upto_region 17 with (first | (refine list_load_any rfl 35 _ rfl _ 0 rfl (qa qn) _ HR Tryd.underlying35 rfl hn ?_) | (refine wpList_store_mid rfl 35 _ _ rfl (w4.heap.size) 0 (qa qn) rfl rfl HT hn h1 ?_))
        clear HR HT hn h1
        go_wp2_with fail
        go_roundw
        case rel => first | exact ⟨j + 1, nv, nb, qn, by omega, rfl, rfl, rfl, HN.out, HF.out⟩ | ((repeat apply Exists.intro); exact ⟨⟨j + 1, nv, nb, qn, by omega, rfl, rfl, rfl, HN.out, HF.out⟩, rfl⟩)
        case measure => simp [intOf]; omega
      · skip
        subst hk
        have hz1 : ¬ kb = -1 := by simpa using hz
        have hz2 : (kb != -1) = true := by simpa using hz1
        have hz3 : decide (kb = -1) = false := decide_eq_false hz1
        have HR := (HS17.out).range 5 (l := qc qn) rfl
        go_wp2_with (refine list_load_any rfl 35 _ rfl _ 0 rfl (qa qn) _ HR Tryd.underlying35 rfl hn ?_)
        refine (FH.out _ HS17.out.below).mono ?_; rintro e w19 ⟨rfl, hb19⟩
        have hS18 := (HS17.out).keep hb19
        have HS18 := Lib.hid hS18
        clear hS18 HS17
        clear hb19
        clear FH HR
        go_wp2_with fail
        refine (FN.out _).mono ?_; rintro e w20 ⟨rfl, hb20⟩
        have hS19 := (HS18.out).keep hb20
        have HS19 := Lib.hid hS19
        clear hS19 HS18
        clear hb20
        clear FN
        have HR := (HS19.out).range 5 (l := qc qn) rfl
        have HT := (HS19.out).free_row 2 rfl (n := 20) rfl
        have HF := Lib.hid (show Sp w [(w.heap.size, [some (.int .i64 a.e0), some (.int .i64 a.e1), some (.int .i64 a.e2), some (.bool a.b0), some (.bool a.b1), some (.bool a.b2), some (.int .i64 a.bias), some (.int .i64 a.change), some (.int .i64 a.move), some (.int .i64 a.most)]), (w.heap.size + 1, [some (.int .i64 n0), some (.int .i64 n1), some (.int .i64 n2)]), (w4.heap.size, (qc qn).map some)] (w20.setCells (w4.heap.size) 0 (qa qn).toList) from ((HS19.out).row 2 rfl (qc qn) rfl).take 3)
        clear HS19
        go_upto_region 16 with fail
        go_upto_region 17 with (first | (refine list_load_any rfl 35 _ rfl _ 0 rfl (qa qn) _ HR Tryd.underlying35 rfl hn ?_) | (refine wpList_store_mid rfl 35 _ _ rfl (w4.heap.size) 0 (qa qn) rfl rfl HT hn h1 ?_))
        clear HR HT hn h1
        go_wp2_with fail
        go_roundw
        case rel => first | exact ⟨j + 1, nv, nb, qn, by omega, rfl, rfl, rfl, HN.out, HF.out⟩ | ((repeat apply Exists.intro); exact ⟨⟨j + 1, nv, nb, qn, by omega, rfl, rfl, rfl, HN.out, HF.out⟩, rfl⟩)
        case measure => simp [intOf]; omega
    · skip
      obtain rfl : j = l.length := by omega
      have AW1 := Lib.hid (AWC.out _ hS.below)
      have BH := Lib.hid hS.below
      clear hS hst hj hc AWC HC
      go_wp2_with fail
      refine AW1.out.mono ?_; rintro e wz ⟨rfl, hbz⟩
      have BE := Lib.hid (belowT BH.out hbz)
      clear hbz
      go_wp2_with fail
      go_ret
      exact ⟨rfl, BE.out⟩

set_option maxHeartbeats 4000000 in
set_option maxRecDepth 100000 in
theorem fair_wrong (ba : Option Addr) (k cap : Nat) (a : Ai) (n0 n1 n2 : Int) (w : World) (RA : Hid (∀ w, Calls Tryd.prog 5 #[av a] w fun e w' => e = .returned (.bool false) ∧ Below w.heap.size w w'))
    (AW : Hid (∀ w', Below w.heap.size w w' → Calls Tryd.prog 6 #[] w' fun e w'' => e = .returned (.bool true) ∧ Below w'.heap.size w' w'')) :
    Calls Tryd.prog 3 #[av a, .slice ba k cap, .agg #[.int .i64 n0, .int .i64 n1, .int .i64 n2]] w fun e w' => e = .returned (.bool true) ∧ Below w.heap.size w w' := by
  go_enter Tryd.func3, Tryd.ntmps3
  go_wp2_with fail
  refine (RA.out _).mono ?_; rintro e w1 ⟨rfl, hb1⟩
  have B1 := belowT (below2 w _ _) hb1
  go_wp2_with fail
  refine (AW.out _ B1).mono ?_; rintro e w2 ⟨rfl, hb2⟩
  have B2 := Lib.hid (belowT B1 hb2)
  go_wp2_with fail
  go_ret
  exact ⟨rfl, B2.out⟩

set_option maxHeartbeats 4000000 in
set_option maxRecDepth 100000 in
theorem fair_long (ba : Option Addr) (k cap : Nat) (a : Ai) (n0 n1 n2 : Int) (w : World) (hk : (100 : Int) < k) (_hm : (k : Int) ≤ 9223372036854775807) (RA : Hid (∀ w, Calls Tryd.prog 5 #[av a] w fun e w' => e = .returned (.bool true) ∧ Below w.heap.size w w'))
    (AW : Hid (∀ w', Below w.heap.size w w' → Calls Tryd.prog 6 #[] w' fun e w'' => e = .returned (.bool true) ∧ Below w'.heap.size w' w'')) :
    Calls Tryd.prog 3 #[av a, .slice ba k cap, .agg #[.int .i64 n0, .int .i64 n1, .int .i64 n2]] w fun e w' => e = .returned (.bool true) ∧ Below w.heap.size w w' := by
  go_enter Tryd.func3, Tryd.ntmps3
  go_wp2_with fail
  refine (RA.out _).mono ?_; rintro e w1 ⟨rfl, hb1⟩
  have B1 := belowT (below2 w _ _) hb1
  go_wp2_with fail
  refine (AW.out _ B1).mono ?_; rintro e w2 ⟨rfl, hb2⟩
  have B2 := Lib.hid (belowT B1 hb2)
  go_wp2_with fail
  go_ret
  exact ⟨rfl, B2.out⟩

theorem Fair30_all {w : World} {ba : Option Addr} {cap : Nat} {l : List Tk} (C : CameTk w ba cap l) (a : Ai) (n0 n1 n2 : Int) (n : NoneAt w) (c : ConeAt w) (ai : AI a) :
    Calls Tryd.prog 3 #[av a, .slice ba l.length cap, .agg #[.int .i64 n0, .int .i64 n1, .int .i64 n2]] w fun e w' => e = .returned (.bool true) ∧ Below w.heap.size w w' := by
  have AW := Lib.hid fun w' (B : Below w.heap.size w w') => awake_any w' (n.keep B) (c.keep B)
  have RA := fun w => RightAir_any a ai w
  have h1 := C.le
  have h2 := C.max
  unfold maxLen at h2
  rcases Bool.eq_false_or_eq_true (rightF a) with hr | hr
  · by_cases h : (100 : Int) < l.length
    · rw [hr] at RA
      exact fair_long ba l.length cap a n0 n1 n2 w h (by omega) (Lib.hid RA) AW
    · exact fair_core C a n0 n1 n2 n c ai hr (right_ar hr) h
  · rw [hr] at RA
    exact fair_wrong ba l.length cap a n0 n1 n2 w (Lib.hid RA) AW
end Go.Proofs.YthhameambcplhaaDoor
