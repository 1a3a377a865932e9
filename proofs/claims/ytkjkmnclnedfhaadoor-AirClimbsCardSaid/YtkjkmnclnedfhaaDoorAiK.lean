/- AirClimbs. -/
import Derived.Test.YtkjkmnclnedfhaaDoorAiV
import Derived.Test.YtkjkmnclnedfhaaDoorAiB
import Derived.Test.YtkjkmnclnedfhaaDoorObRealB
import Derived.Test.YtkjkmnclnedfhaaDoorObCfgA
import Derived.Test.YtkjkmnclnedfhaaDoorYld
namespace Go.Proofs.YtkjkmnclnedfhaaDoor
open Go.RowKit Obs

/-- The operations of a drawn region, as the translation has them. -/
def tlcl3 : Array Oper := #[
  { dst := some 29, op := .indexAddr 22 (.tmp 5) (.const (.int .i64 0)), type := 0, pos := "law.go:91", after := #[], guard := none },
  { dst := some 30, op := .load 2 (.tmp 29), type := 2, pos := "law.go:91", after := #[{ on := 0, ground := .data }], guard := none },
  { dst := some 31, op := .fieldAddr 25 (.tmp 3) 5, type := 0, pos := "law.go:91", after := #[], guard := none },
  { dst := some 32, op := .load 2 (.tmp 31), type := 2, pos := "law.go:91", after := #[{ on := 2, ground := .data }], guard := none },
  { dst := some 33, op := .call { callee := .value (.func 6), args := #[.tmp 30, .tmp 32], argTypes := #[2, 2] }, type := 2, pos := "law.go:91", after := #[{ on := 1, ground := .data }, { on := 3, ground := .data }], guard := none },
  { dst := some 34, op := .indexAddr 22 (.tmp 5) (.const (.int .i64 1)), type := 0, pos := "law.go:91", after := #[], guard := none },
  { dst := some 35, op := .load 2 (.tmp 34), type := 2, pos := "law.go:91", after := #[{ on := 5, ground := .data }], guard := none },
  { dst := some 36, op := .fieldAddr 25 (.tmp 3) 2, type := 0, pos := "law.go:91", after := #[], guard := none },
  { dst := some 37, op := .load 2 (.tmp 36), type := 2, pos := "law.go:91", after := #[{ on := 7, ground := .data }], guard := none },
  { dst := some 38, op := .call { callee := .value (.func 6), args := #[.tmp 35, .tmp 37], argTypes := #[2, 2] }, type := 2, pos := "law.go:91", after := #[{ on := 6, ground := .data }, { on := 8, ground := .data }, { on := 4, ground := .chain }], guard := none },
  { dst := some 39, op := .indexAddr 22 (.tmp 5) (.const (.int .i64 2)), type := 0, pos := "law.go:91", after := #[{ on := 17, ground := .gcOnly Go.Departure.lateStores }], guard := none },
  { dst := some 40, op := .load 2 (.tmp 39), type := 2, pos := "law.go:91", after := #[{ on := 10, ground := .data }, { on := 17, ground := .gcOnly Go.Departure.lateStores }], guard := none },
  { dst := some 41, op := .convert 2 30 (.tmp 40), type := 30, pos := "law.go:91", after := #[{ on := 11, ground := .data }, { on := 17, ground := .gcOnly Go.Departure.lateStores }], guard := none },
  { dst := some 42, op := .binOp .rem 30 (.tmp 41) (.const (.int .u64 4)) 30, type := 30, pos := "law.go:91", after := #[{ on := 12, ground := .data }, { on := 17, ground := .gcOnly Go.Departure.lateStores }], guard := none },
  { dst := some 43, op := .convert 30 3 (.tmp 42), type := 3, pos := "law.go:91", after := #[{ on := 13, ground := .data }, { on := 17, ground := .gcOnly Go.Departure.lateStores }], guard := none },
  { dst := some 44, op := .binOp .sub 3 (.tmp 43) (.const (.int .i64 1)) 3, type := 3, pos := "law.go:91", after := #[{ on := 14, ground := .data }, { on := 17, ground := .gcOnly Go.Departure.lateStores }], guard := none },
  { dst := some 7, op := .assign (.tmp 33), type := 2, pos := "law.go:91", after := #[{ on := 4, ground := .data }, { on := 9, ground := .chain }, { on := 0, ground := .phase }, { on := 1, ground := .phase }, { on := 2, ground := .phase }, { on := 3, ground := .phase }, { on := 4, ground := .phase }, { on := 5, ground := .textOnly Go.Departure.lateStores }, { on := 6, ground := .textOnly Go.Departure.lateStores }, { on := 7, ground := .textOnly Go.Departure.lateStores }, { on := 8, ground := .textOnly Go.Departure.lateStores }, { on := 9, ground := .textOnly Go.Departure.lateStoresUnsure }, { on := 10, ground := .textOnly Go.Departure.lateStores }, { on := 11, ground := .textOnly Go.Departure.lateStores }, { on := 12, ground := .textOnly Go.Departure.lateStores }, { on := 13, ground := .textOnly Go.Departure.lateStores }, { on := 14, ground := .textOnly Go.Departure.lateStores }, { on := 15, ground := .textOnly Go.Departure.lateStores }], guard := none },
  { dst := some 8, op := .assign (.tmp 38), type := 2, pos := "law.go:91", after := #[{ on := 9, ground := .data }, { on := 16, ground := .chain }, { on := 0, ground := .phase }, { on := 1, ground := .phase }, { on := 2, ground := .phase }, { on := 3, ground := .phase }, { on := 4, ground := .phase }, { on := 5, ground := .phase }, { on := 6, ground := .phase }, { on := 7, ground := .phase }, { on := 8, ground := .phase }, { on := 9, ground := .phase }, { on := 10, ground := .textOnly Go.Departure.lateStores }, { on := 11, ground := .textOnly Go.Departure.lateStores }, { on := 12, ground := .textOnly Go.Departure.lateStores }, { on := 13, ground := .textOnly Go.Departure.lateStores }, { on := 14, ground := .textOnly Go.Departure.lateStores }, { on := 15, ground := .textOnly Go.Departure.lateStores }, { on := 16, ground := .phase }], guard := none },
  { dst := some 9, op := .assign (.tmp 44), type := 3, pos := "law.go:91", after := #[{ on := 15, ground := .data }, { on := 17, ground := .chain }, { on := 0, ground := .phase }, { on := 1, ground := .phase }, { on := 2, ground := .phase }, { on := 3, ground := .phase }, { on := 4, ground := .phase }, { on := 5, ground := .phase }, { on := 6, ground := .phase }, { on := 7, ground := .phase }, { on := 8, ground := .phase }, { on := 9, ground := .phase }, { on := 10, ground := .phase }, { on := 11, ground := .phase }, { on := 12, ground := .phase }, { on := 13, ground := .phase }, { on := 14, ground := .phase }, { on := 15, ground := .phase }, { on := 16, ground := .phase }, { on := 17, ground := .phase }], guard := none }]
theorem tlcl3_plain : Region.noSelect tlcl3 = true := by kernel_rfl

/-- The operations of a drawn region, as the translation has them. -/
def tlcl15 : Array Oper := #[
  { dst := some 78, op := .move (.tmp 11), type := 37, pos := "law.go:101", after := #[], guard := none },
  { dst := some 79, op := .move (.tmp 13), type := 3, pos := "law.go:101", after := #[], guard := none },
  { dst := some 80, op := .binOp .sub 3 (.tmp 79) (.const (.int .i64 1)) 3, type := 3, pos := "law.go:101", after := #[{ on := 1, ground := .data }], guard := none },
  { dst := some 81, op := .indexAddr 37 (.tmp 78) (.tmp 80), type := 0, pos := "law.go:101", after := #[{ on := 0, ground := .data }, { on := 2, ground := .data }], guard := none },
  { dst := some 82, op := .load 32 (.tmp 81), type := 32, pos := "law.go:101", after := #[{ on := 3, ground := .data }], guard := none },
  { dst := some 83, op := .move (.tmp 11), type := 37, pos := "law.go:101", after := #[], guard := none },
  { dst := some 84, op := .move (.tmp 13), type := 3, pos := "law.go:101", after := #[], guard := none },
  { dst := some 85, op := .indexAddr 37 (.tmp 83) (.tmp 84), type := 0, pos := "law.go:101", after := #[{ on := 5, ground := .data }, { on := 6, ground := .data }], guard := none },
  { dst := some 86, op := .load 32 (.tmp 85), type := 32, pos := "law.go:101", after := #[{ on := 7, ground := .data }], guard := none },
  { dst := some 87, op := .fieldAddr 25 (.tmp 3) 4, type := 0, pos := "law.go:101", after := #[], guard := none },
  { dst := some 88, op := .load 2 (.tmp 87), type := 2, pos := "law.go:101", after := #[{ on := 9, ground := .data }], guard := none },
  { dst := some 89, op := .call { callee := .value (.func 12), args := #[.tmp 82, .tmp 86, .tmp 88], argTypes := #[32, 32, 2] }, type := 32, pos := "law.go:101", after := #[{ on := 4, ground := .data }, { on := 8, ground := .data }, { on := 10, ground := .data }], guard := none },
  { dst := some 90, op := .move (.tmp 15), type := 2, pos := "law.go:101", after := #[], guard := none },
  { dst := some 91, op := .move (.tmp 7), type := 2, pos := "law.go:101", after := #[], guard := none },
  { dst := some 92, op := .binOp .sub 2 (.tmp 90) (.tmp 91) 2, type := 2, pos := "law.go:101", after := #[{ on := 12, ground := .data }, { on := 13, ground := .data }], guard := none },
  { dst := some 93, op := .call { callee := .value (.func 11), args := #[.tmp 89, .tmp 92], argTypes := #[32, 2] }, type := 4, pos := "law.go:101", after := #[{ on := 11, ground := .data }, { on := 14, ground := .data }, { on := 11, ground := .chain }], guard := none },
  { dst := some 94, op := .unOp .not 4 (.tmp 93), type := 4, pos := "law.go:101", after := #[{ on := 15, ground := .data }], guard := none }]
theorem tlcl15_plain : Region.noSelect tlcl15 = true := by kernel_rfl


/-- what holds ahead of each tick -/
structure St31 (a : Ai) (q : Qd) (v b : Int) (jb j : Nat) (hs : List (Int × Int)) (f : Int) : Prop where
  kn : Knows (qget q jb) v b
  ro : QR q
  v1 : -a.most ≤ v
  v2 : v ≤ a.most
  b1 : -a.bias ≤ b
  b2 : b ≤ a.bias
  len : hs.length = j
  sr : ∀ k, k < j → SR (hs.getD k (0, 0))
  path : 0 < j → Path a.move a.most hs f v
theorem qstart_get {a : Ai} : ∀ {j : Nat}, j < 4 → qget (qstart a) j = startG a
  | 0, _ => rfl
  | 1, _ => rfl
  | 2, _ => rfl
  | 3, _ => rfl
  | n + 4, h => absurd h (by omega)
theorem getD_old (l : List (Int × Int)) (p : Int × Int) (k : Nat) (h : k < l.length) : (l ++ [p]).getD k (0, 0) = l.getD k (0, 0) := by
  simp only [List.getD]
  rw [List.getElem?_append_left h]
theorem getD_new (l : List (Int × Int)) (p : Int × Int) (k : Nat) (h : l.length = k) : (l ++ [p]).getD k (0, 0) = p := by
  simp only [List.getD]
  rw [List.getElem?_append_right (by omega), h, Nat.sub_self]
  rfl
theorem St31.next {a : Ai} {q qn : Qd} {v b nv nb bad z0 z1 z2 f : Int} {jb j : Nat} {hs : List (Int × Int)} {p : Int × Int} (h : St31 a q v b jb j hs f) (kn : Knows (qget qn jb) nv nb) (ro : QR qn) (g : Goes a v b nv nb bad z0 z1 z2) (hp : inS p nv) (sp : SR p) :
    St31 a qn nv nb jb (j + 1) (hs ++ [p]) (if j = 0 then nv else f) := by
  refine ⟨kn, ro, g.v1, g.v2, g.b1, g.b2, by simp [h.len], fun k hk => ?_, fun _ => ?_⟩
  · by_cases e : k < j
    · rw [getD_old hs p k (by rw [h.len]; exact e)]; exact h.sr k e
    · rw [getD_new hs p k (by rw [h.len]; omega)]; exact sp
  · by_cases e : j = 0
    · have hl : hs = [] := List.length_eq_zero_iff.1 (by rw [h.len]; exact e)
      rw [hl, if_pos e]
      exact .one p nv hp g.v1 g.v2
    · rw [if_neg e]
      exact .more hs p f v nv (h.path (by omega)) hp g.dv1 g.dv2 g.v1 g.v2
/-- the blocks, and the spans of the call's own -/
def SpP (W : World) (bs : List (Nat × List (Option Value))) (B : Nat) (u : Value) (hs : List (Int × Int)) (w' : World) : Prop := Sp W bs w' ∧ Sps B w' u hs
theorem SpP.drew {W w : World} {bs : List (Nat × List (Option Value))} {B : Nat} {u : Value} {hs : List (Int × Int)} (h : SpP W bs B u hs w) : SpP W bs B u hs w.drew := ⟨h.1.drew, h.2.keep (Below.refl _ _).drew⟩
theorem SpP.below {W w : World} {bs : List (Nat × List (Option Value))} {B : Nat} {u : Value} {hs : List (Int × Int)} (h : SpP W bs B u hs w) : Below W.heap.size W w := h.1.below
theorem Sps.slice {B : Nat} {w : World} {v : Value} {l : List (Int × Int)} (h : Sps B w v l) (hl : 0 < l.length) : ∃ g cap, v = .slice (some ⟨g, 0, none⟩) l.length cap ∧ l.length ≤ cap ∧ cap ≤ maxLen := by
  obtain ⟨_, h0 | ⟨g, cap, cur, hv, _, _, hle, hm, _, _⟩⟩ := h.1
  · have := h0.2; omega
  · exact ⟨g, cap, hv, hle, hm⟩
theorem Sps.cells {B n cap : Nat} {w : World} {g : Nat} {l : List (Int × Int)} (h : Sps B w (.slice (some ⟨g, 0, none⟩) n cap) l) (j : Nat) (hj : j < l.length) {p : Int × Int} (hp : l.getD j (0, 0) = p) :
    w.cell? ⟨g, j * 2, none⟩ = some (.int .i64 p.1) ∧ w.cell? ⟨g, j * 2 + 1, none⟩ = some (.int .i64 p.2) := by
  obtain ⟨ba, cap', e, C⟩ := h.came
  obtain ⟨b, o, e2, L⟩ := C.lies (by omega)
  have h1 := L.at j hj
  have h0 := World.ownsRow.cells h.1 (g := g) rfl (j * 2) (.int .i64 p.1) (by rw [show j * 2 = j * 2 + 0 from rfl, scs_get l j 0 hj (by decide), hp]; rfl)
  have h1 := World.ownsRow.cells h.1 (g := g) rfl (j * 2 + 1) (.int .i64 p.2) (by rw [scs_get l j 1 hj (by decide), hp]; rfl)
  rw [Go.WideShapes.add_plain, Nat.zero_add] at h0 h1
  exact ⟨h0, h1⟩
set_option maxHeartbeats 40000000 in
set_option maxRecDepth 100000 in
theorem climbs_core {w : World} {ba : Option Addr} {cap : Nat} {l : List Tk} (C : CameTk w ba cap l) (a : Ai) (n0 n1 n2 : Int) (n : NoneAt w) (c : ConeAt w) (ai : AI a) (hr : rightF a = true) (h : AR a) (h60 : ¬ (60 : Int) < l.length) :
    Calls Tryd.prog 3 #[av a, .slice ba l.length cap, .agg #[.int .i64 n0, .int .i64 n1, .int .i64 n2]] w fun e w' => e = .returned (.bool true) ∧ Below w.heap.size w w' := by
  have hlen := C.le; have hmax := C.max; unfold maxLen at hmax
  have d60 : decide ((60 : Int) < l.length) = false := decide_eq_false h60
  have hl60 : (l.length : Int) ≤ 60 := by omega
  have HC := Lib.hid C
  have HL60 := Lib.hid hl60
  have AWC := Lib.hid fun w' (B : Below w.heap.size w w') => awake_any w' (n.keep B) (c.keep B)
  have RA := Lib.hid fun w => RightAir_any a ai w
  rw [hr] at RA
  have WV := Lib.hid fun w => Within_b n0 a.most w (by have := h.most; omega) (by have := h.most; omega)
  have WB := Lib.hid fun w => Within_b n1 a.bias w h.bias.1 (by have := h.bias; omega)
  have SA := Lib.hid fun w => TStart_any a w (ra_of h)
  have kx := wt_in n0 a.most (by have := h.most; omega)
  have ky := wt_in n1 a.bias h.bias.1
  obtain ⟨u, hu⟩ : ∃ u, IntKind.u64.wrap n2 = u := ⟨_, rfl⟩
  have hu0 : 0 ≤ u := by rw [← hu, IntKind.wrap_u64]; omega
  obtain ⟨jb, hq⟩ : ∃ jb : Nat, u.tmod 4 = (jb : Int) := ⟨(u.tmod 4).toNat, by have := Int.tmod_nonneg 4 hu0; omega⟩
  have hq1 := Int.tmod_lt_of_pos u (show (0 : Int) < 4 by decide)
  rw [hq] at hq1
  have hjb : jb < 4 := by omega
  have hq2 : IntKind.i64.wrap (jb : Int) = jb := (wrap_i64 _).trans (by omega)
  obtain ⟨bad, hb⟩ : ∃ b : Int, b = (jb : Int) - 1 := ⟨_, rfl⟩
  have hbad : IntKind.i64.wrap ((jb : Int) - 1) = bad := (wrap_i64 _).trans (by omega)
  have HB := Lib.hid hb
  have HST := Lib.hid (show St31 a (qstart a) (wt n0 a.most) (wt n1 a.bias) jb 0 [] 0 from ⟨by rw [qstart_get hjb, startG_is h]; exact start_knows kx.1 kx.2 ky.1 ky.2, qstart_r6 (ra_of h), kx.1, kx.2, ky.1, ky.2, rfl, fun k hk => absurd hk (by omega), fun hk => absurd hk (by decide)⟩)
  have NN := Lib.hid n
  have HH := Lib.hid h
  have HI := Lib.hid info_qa
  have H1 := Lib.hid qa_one
  have HJB := Lib.hid hjb
  clear hu0 hq1 kx ky n c ai hr h h60 C hb hjb hl60
  generalize wt n0 a.most = x0 at *
  generalize wt n1 a.bias = y0 at *
  generalize qstart a = qi at *
  have hS1 := ((Sp.none w).more [.int .i64 a.e0, .int .i64 a.e1, .int .i64 a.e2, .bool a.b0, .bool a.b1, .bool a.b2, .int .i64 a.bias, .int .i64 a.change, .int .i64 a.move, .int .i64 a.most] 25).more [.int .i64 n0, .int .i64 n1, .int .i64 n2] 22
  simp only [heap1] at hS1
  have HS1 := Lib.hid hS1
  clear hS1
  go_enter Tryd.func3, Tryd.ntmps3
  go_wp2_with fail
  refine (RA.out _).mono ?_; rintro e w1 ⟨rfl, hb1⟩
  have hS2 := (HS1.out).keep hb1
  have HS2 := Lib.hid hS2
  clear hS2 HS1
  clear hb1
  clear RA
  go_upto_region 3 with fail
  obtain ⟨bs1, hbs⟩ : ∃ bs : List (Nat × List (Option Value)), bs = [(w.heap.size, [some (.int .i64 a.e0), some (.int .i64 a.e1), some (.int .i64 a.e2), some (.bool a.b0), some (.bool a.b1), some (.bool a.b2), some (.int .i64 a.bias), some (.int .i64 a.change), some (.int .i64 a.move), some (.int .i64 a.most)]), (w.heap.size + 1, [some (.int .i64 n0), some (.int .i64 n1), some (.int .i64 n2)])] := ⟨_, rfl⟩
  have hT := (HS2.out).cast hbs
  have c1_0 : ∀ w', Sp w bs1 w' → w'.cell? ⟨w.heap.size + 1, 0, none⟩ = some (.int .i64 n0) := by rw [hbs]; exact fun w' h => h.at 1 rfl 0 rfl
  have c1_1 : ∀ w', Sp w bs1 w' → w'.cell? ⟨w.heap.size + 1, 1, none⟩ = some (.int .i64 n1) := by rw [hbs]; exact fun w' h => h.at 1 rfl 1 rfl
  have c1_2 : ∀ w', Sp w bs1 w' → w'.cell? ⟨w.heap.size + 1, 2, none⟩ = some (.int .i64 n2) := by rw [hbs]; exact fun w' h => h.at 1 rfl 2 rfl
  have c0_6 : ∀ w', Sp w bs1 w' → w'.cell? ⟨w.heap.size, 6, none⟩ = some (.int .i64 a.bias) := by rw [hbs]; exact fun w' h => h.at 0 rfl 6 rfl
  have c0_9 : ∀ w', Sp w bs1 w' → w'.cell? ⟨w.heap.size, 9, none⟩ = some (.int .i64 a.most) := by rw [hbs]; exact fun w' h => h.at 0 rfl 9 rfl
  have nx : ∀ w', Sp w bs1 w' → Sp w [(w.heap.size, [some (.int .i64 a.e0), some (.int .i64 a.e1), some (.int .i64 a.e2), some (.bool a.b0), some (.bool a.b1), some (.bool a.b2), some (.int .i64 a.bias), some (.int .i64 a.change), some (.int .i64 a.move), some (.int .i64 a.most)]), (w.heap.size + 1, [some (.int .i64 n0), some (.int .i64 n1), some (.int .i64 n2)])] w' := by rw [hbs]; exact fun w' h => h
  have kS : ∀ w1 w2, Sp w bs1 w1 → Below w1.heap.size w1 w2 → Sp w bs1 w2 := fun _ _ h hb => h.keep hb
  clear hbs HS2
  change (Code.region 3 tlcl3 true).wp Tryd.prog _ _ _
  refine wp_region_noPanic ?_
  refine wp_region_held_drew (S := (Sp w bs1)) (by kernel_rfl) (hT.drew) (fun hHeld => ?_)
  refine wpAnyH_take (i := 0) (oi := ({ dst := some 29, op := .indexAddr 22 (.tmp 5) (.const (.int .i64 0)), type := 0, pos := "law.go:91", after := #[], guard := none } : Oper)) (v := ?vs1_0) rfl tlcl3_plain (by as_aux_lemma => kernel_rfl) (by as_aux_lemma => kernel_rfl) (fun _ _ _ h => h) (Or.inl ⟨by rfl, ?ys1_0⟩) (by assumption) ?rs1_0
  case ys1_0 => (intro w hSw; (try dsimp only at hSw); go_simp; try with_reducible rfl)
  try simp only [Act.put, List.setIfInBounds_toArray, List.set_cons_zero, List.set_cons_succ]
  refine wpAnyH_take (i := 1) (oi := ({ dst := some 30, op := .load 2 (.tmp 29), type := 2, pos := "law.go:91", after := #[{ on := 0, ground := .data }], guard := none } : Oper)) (v := ?vs1_1) rfl tlcl3_plain (by as_aux_lemma => kernel_rfl) (by as_aux_lemma => kernel_rfl) (fun _ _ _ h => h) (Or.inl ⟨by rfl, ?ys1_1⟩) (by assumption) ?rs1_1
  case ys1_1 => (intro w hSw; (try dsimp only at hSw); go_simp; try with_reducible rfl)
  try simp only [Act.put, List.setIfInBounds_toArray, List.set_cons_zero, List.set_cons_succ]
  refine wpAnyH_take (i := 2) (oi := ({ dst := some 31, op := .fieldAddr 25 (.tmp 3) 5, type := 0, pos := "law.go:91", after := #[], guard := none } : Oper)) (v := ?vs1_2) rfl tlcl3_plain (by as_aux_lemma => kernel_rfl) (by as_aux_lemma => kernel_rfl) (fun _ _ _ h => h) (Or.inl ⟨by rfl, ?ys1_2⟩) (by assumption) ?rs1_2
  case ys1_2 => (intro w hSw; (try dsimp only at hSw); go_simp; try with_reducible rfl)
  try simp only [Act.put, List.setIfInBounds_toArray, List.set_cons_zero, List.set_cons_succ]
  refine wpAnyH_take (i := 3) (oi := ({ dst := some 32, op := .load 2 (.tmp 31), type := 2, pos := "law.go:91", after := #[{ on := 2, ground := .data }], guard := none } : Oper)) (v := ?vs1_3) rfl tlcl3_plain (by as_aux_lemma => kernel_rfl) (by as_aux_lemma => kernel_rfl) (fun _ _ _ h => h) (Or.inl ⟨by rfl, ?ys1_3⟩) (by assumption) ?rs1_3
  case ys1_3 => (intro w hSw; (try dsimp only at hSw); go_simp; try with_reducible rfl)
  try simp only [Act.put, List.setIfInBounds_toArray, List.set_cons_zero, List.set_cons_succ]
  refine wpAnyH_take (i := 5) (oi := ({ dst := some 34, op := .indexAddr 22 (.tmp 5) (.const (.int .i64 1)), type := 0, pos := "law.go:91", after := #[], guard := none } : Oper)) (v := ?vs1_5) rfl tlcl3_plain (by as_aux_lemma => kernel_rfl) (by as_aux_lemma => kernel_rfl) (fun _ _ _ h => h) (Or.inl ⟨by rfl, ?ys1_5⟩) (by assumption) ?rs1_5
  case ys1_5 => (intro w hSw; (try dsimp only at hSw); go_simp; try with_reducible rfl)
  try simp only [Act.put, List.setIfInBounds_toArray, List.set_cons_zero, List.set_cons_succ]
  refine wpAnyH_take (i := 6) (oi := ({ dst := some 35, op := .load 2 (.tmp 34), type := 2, pos := "law.go:91", after := #[{ on := 5, ground := .data }], guard := none } : Oper)) (v := ?vs1_6) rfl tlcl3_plain (by as_aux_lemma => kernel_rfl) (by as_aux_lemma => kernel_rfl) (fun _ _ _ h => h) (Or.inl ⟨by rfl, ?ys1_6⟩) (by assumption) ?rs1_6
  case ys1_6 => (intro w hSw; (try dsimp only at hSw); go_simp; try with_reducible rfl)
  try simp only [Act.put, List.setIfInBounds_toArray, List.set_cons_zero, List.set_cons_succ]
  refine wpAnyH_take (i := 7) (oi := ({ dst := some 36, op := .fieldAddr 25 (.tmp 3) 2, type := 0, pos := "law.go:91", after := #[], guard := none } : Oper)) (v := ?vs1_7) rfl tlcl3_plain (by as_aux_lemma => kernel_rfl) (by as_aux_lemma => kernel_rfl) (fun _ _ _ h => h) (Or.inl ⟨by rfl, ?ys1_7⟩) (by assumption) ?rs1_7
  case ys1_7 => (intro w hSw; (try dsimp only at hSw); go_simp; try with_reducible rfl)
  try simp only [Act.put, List.setIfInBounds_toArray, List.set_cons_zero, List.set_cons_succ]
  refine wpAnyH_take (i := 8) (oi := ({ dst := some 37, op := .load 2 (.tmp 36), type := 2, pos := "law.go:91", after := #[{ on := 7, ground := .data }], guard := none } : Oper)) (v := ?vs1_8) rfl tlcl3_plain (by as_aux_lemma => kernel_rfl) (by as_aux_lemma => kernel_rfl) (fun _ _ _ h => h) (Or.inl ⟨by rfl, ?ys1_8⟩) (by assumption) ?rs1_8
  case ys1_8 => (intro w hSw; (try dsimp only at hSw); go_simp; try with_reducible rfl)
  try simp only [Act.put, List.setIfInBounds_toArray, List.set_cons_zero, List.set_cons_succ]
  refine wpAnyH_take (i := 10) (oi := ({ dst := some 39, op := .indexAddr 22 (.tmp 5) (.const (.int .i64 2)), type := 0, pos := "law.go:91", after := #[{ on := 17, ground := .gcOnly Go.Departure.lateStores }], guard := none } : Oper)) (v := ?vs1_10) rfl tlcl3_plain (by as_aux_lemma => kernel_rfl) (by as_aux_lemma => kernel_rfl) (fun _ _ _ h => h) (Or.inl ⟨by rfl, ?ys1_10⟩) (by assumption) ?rs1_10
  case ys1_10 => (intro w hSw; (try dsimp only at hSw); go_simp; try with_reducible rfl)
  try simp only [Act.put, List.setIfInBounds_toArray, List.set_cons_zero, List.set_cons_succ]
  refine wpAnyH_take (i := 11) (oi := ({ dst := some 40, op := .load 2 (.tmp 39), type := 2, pos := "law.go:91", after := #[{ on := 10, ground := .data }, { on := 17, ground := .gcOnly Go.Departure.lateStores }], guard := none } : Oper)) (v := ?vs1_11) rfl tlcl3_plain (by as_aux_lemma => kernel_rfl) (by as_aux_lemma => kernel_rfl) (fun _ _ _ h => h) (Or.inl ⟨by rfl, ?ys1_11⟩) (by assumption) ?rs1_11
  case ys1_11 => (intro w hSw; (try dsimp only at hSw); go_simp; try with_reducible rfl)
  try simp only [Act.put, List.setIfInBounds_toArray, List.set_cons_zero, List.set_cons_succ]
  refine wpAnyH_take (i := 12) (oi := ({ dst := some 41, op := .convert 2 30 (.tmp 40), type := 30, pos := "law.go:91", after := #[{ on := 11, ground := .data }, { on := 17, ground := .gcOnly Go.Departure.lateStores }], guard := none } : Oper)) (v := ?vs1_12) rfl tlcl3_plain (by as_aux_lemma => kernel_rfl) (by as_aux_lemma => kernel_rfl) (fun _ _ _ h => h) (Or.inl ⟨by rfl, ?ys1_12⟩) (by assumption) ?rs1_12
  case ys1_12 => (intro w hSw; (try dsimp only at hSw); go_simp; try with_reducible rfl)
  try simp only [Act.put, List.setIfInBounds_toArray, List.set_cons_zero, List.set_cons_succ]
  refine wpAnyH_take (i := 13) (oi := ({ dst := some 42, op := .binOp .rem 30 (.tmp 41) (.const (.int .u64 4)) 30, type := 30, pos := "law.go:91", after := #[{ on := 12, ground := .data }, { on := 17, ground := .gcOnly Go.Departure.lateStores }], guard := none } : Oper)) (v := ?vs1_13) rfl tlcl3_plain (by as_aux_lemma => kernel_rfl) (by as_aux_lemma => kernel_rfl) (fun _ _ _ h => h) (Or.inl ⟨by rfl, ?ys1_13⟩) (by assumption) ?rs1_13
  case ys1_13 => (intro w hSw; (try dsimp only at hSw); go_simp; try with_reducible rfl)
  try simp only [Act.put, List.setIfInBounds_toArray, List.set_cons_zero, List.set_cons_succ]
  refine wpAnyH_take (i := 14) (oi := ({ dst := some 43, op := .convert 30 3 (.tmp 42), type := 3, pos := "law.go:91", after := #[{ on := 13, ground := .data }, { on := 17, ground := .gcOnly Go.Departure.lateStores }], guard := none } : Oper)) (v := ?vs1_14) rfl tlcl3_plain (by as_aux_lemma => kernel_rfl) (by as_aux_lemma => kernel_rfl) (fun _ _ _ h => h) (Or.inl ⟨by rfl, ?ys1_14⟩) (by assumption) ?rs1_14
  case ys1_14 => (intro w hSw; (try dsimp only at hSw); go_simp; try with_reducible rfl)
  try simp only [Act.put, List.setIfInBounds_toArray, List.set_cons_zero, List.set_cons_succ]
  refine wpAnyH_take (i := 15) (oi := ({ dst := some 44, op := .binOp .sub 3 (.tmp 43) (.const (.int .i64 1)) 3, type := 3, pos := "law.go:91", after := #[{ on := 14, ground := .data }, { on := 17, ground := .gcOnly Go.Departure.lateStores }], guard := none } : Oper)) (v := ?vs1_15) rfl tlcl3_plain (by as_aux_lemma => kernel_rfl) (by as_aux_lemma => kernel_rfl) (fun _ _ _ h => h) (Or.inl ⟨by rfl, ?ys1_15⟩) (by assumption) ?rs1_15
  case ys1_15 => (intro w hSw; (try dsimp only at hSw); go_simp; try with_reducible rfl)
  try simp only [Act.put, List.setIfInBounds_toArray, List.set_cons_zero, List.set_cons_succ]
  refine wpAnyH_ready (rs := [4]) (by as_aux_lemma => kernel_rfl) (by simp) ?_
  refine AllReadyH.cons (o := ({ dst := some 33, op := .call { callee := .value (.func 6), args := #[.tmp 30, .tmp 32], argTypes := #[2, 2] }, type := 2, pos := "law.go:91", after := #[{ on := 1, ground := .data }, { on := 3, ground := .data }], guard := none } : Oper)) rfl (fun KK hK => ?_) AllReadyH.nil
  rw [if_pos (by rfl)]
  go_simp
  go_at_call 6; refine (WV.out _).mono ?_; rintro e w2 ⟨rfl, hb2⟩
  go_wp2_with fail
  refine hK.out _ _ ?_ (fun hHeld2 => ?_)
  · exact kS _ _ (by assumption) hb2
  clear hK KK hb2
  try simp only [Act.put, List.setIfInBounds_toArray, List.set_cons_zero, List.set_cons_succ]
  refine wpAnyH_ready (rs := [9]) (by as_aux_lemma => kernel_rfl) (by simp) ?_
  refine AllReadyH.cons (o := ({ dst := some 38, op := .call { callee := .value (.func 6), args := #[.tmp 35, .tmp 37], argTypes := #[2, 2] }, type := 2, pos := "law.go:91", after := #[{ on := 6, ground := .data }, { on := 8, ground := .data }, { on := 4, ground := .chain }], guard := none } : Oper)) rfl (fun KK hK => ?_) AllReadyH.nil
  rw [if_pos (by rfl)]
  go_simp
  go_at_call 6; refine (WB.out _).mono ?_; rintro e w3 ⟨rfl, hb3⟩
  go_wp2_with fail
  refine hK.out _ _ ?_ (fun hHeld3 => ?_)
  · exact kS _ _ (by assumption) hb3
  clear hK KK hb3 hHeld2
  try simp only [Act.put, List.setIfInBounds_toArray, List.set_cons_zero, List.set_cons_succ]
  refine wpAnyH_take (i := 16) (oi := ({ dst := some 7, op := .assign (.tmp 33), type := 2, pos := "law.go:91", after := #[{ on := 4, ground := .data }, { on := 9, ground := .chain }, { on := 0, ground := .phase }, { on := 1, ground := .phase }, { on := 2, ground := .phase }, { on := 3, ground := .phase }, { on := 4, ground := .phase }, { on := 5, ground := .textOnly Go.Departure.lateStores }, { on := 6, ground := .textOnly Go.Departure.lateStores }, { on := 7, ground := .textOnly Go.Departure.lateStores }, { on := 8, ground := .textOnly Go.Departure.lateStores }, { on := 9, ground := .textOnly Go.Departure.lateStoresUnsure }, { on := 10, ground := .textOnly Go.Departure.lateStores }, { on := 11, ground := .textOnly Go.Departure.lateStores }, { on := 12, ground := .textOnly Go.Departure.lateStores }, { on := 13, ground := .textOnly Go.Departure.lateStores }, { on := 14, ground := .textOnly Go.Departure.lateStores }, { on := 15, ground := .textOnly Go.Departure.lateStores }], guard := none } : Oper)) (v := ?vs1_16) rfl tlcl3_plain (by as_aux_lemma => kernel_rfl) (by as_aux_lemma => kernel_rfl) (fun _ _ _ h => h) (Or.inl ⟨by rfl, ?ys1_16⟩) (by assumption) ?rs1_16
  case ys1_16 => (intro w hSw; (try dsimp only at hSw); go_simp; try with_reducible rfl)
  try simp only [Act.put, List.setIfInBounds_toArray, List.set_cons_zero, List.set_cons_succ]
  refine wpAnyH_take (i := 17) (oi := ({ dst := some 8, op := .assign (.tmp 38), type := 2, pos := "law.go:91", after := #[{ on := 9, ground := .data }, { on := 16, ground := .chain }, { on := 0, ground := .phase }, { on := 1, ground := .phase }, { on := 2, ground := .phase }, { on := 3, ground := .phase }, { on := 4, ground := .phase }, { on := 5, ground := .phase }, { on := 6, ground := .phase }, { on := 7, ground := .phase }, { on := 8, ground := .phase }, { on := 9, ground := .phase }, { on := 10, ground := .textOnly Go.Departure.lateStores }, { on := 11, ground := .textOnly Go.Departure.lateStores }, { on := 12, ground := .textOnly Go.Departure.lateStores }, { on := 13, ground := .textOnly Go.Departure.lateStores }, { on := 14, ground := .textOnly Go.Departure.lateStores }, { on := 15, ground := .textOnly Go.Departure.lateStores }, { on := 16, ground := .phase }], guard := none } : Oper)) (v := ?vs1_17) rfl tlcl3_plain (by as_aux_lemma => kernel_rfl) (by as_aux_lemma => kernel_rfl) (fun _ _ _ h => h) (Or.inl ⟨by rfl, ?ys1_17⟩) (by assumption) ?rs1_17
  case ys1_17 => (intro w hSw; (try dsimp only at hSw); go_simp; try with_reducible rfl)
  try simp only [Act.put, List.setIfInBounds_toArray, List.set_cons_zero, List.set_cons_succ]
  refine wpAnyH_take (i := 18) (oi := ({ dst := some 9, op := .assign (.tmp 44), type := 3, pos := "law.go:91", after := #[{ on := 15, ground := .data }, { on := 17, ground := .chain }, { on := 0, ground := .phase }, { on := 1, ground := .phase }, { on := 2, ground := .phase }, { on := 3, ground := .phase }, { on := 4, ground := .phase }, { on := 5, ground := .phase }, { on := 6, ground := .phase }, { on := 7, ground := .phase }, { on := 8, ground := .phase }, { on := 9, ground := .phase }, { on := 10, ground := .phase }, { on := 11, ground := .phase }, { on := 12, ground := .phase }, { on := 13, ground := .phase }, { on := 14, ground := .phase }, { on := 15, ground := .phase }, { on := 16, ground := .phase }, { on := 17, ground := .phase }], guard := none } : Oper)) (v := ?vs1_18) rfl tlcl3_plain (by as_aux_lemma => kernel_rfl) (by as_aux_lemma => kernel_rfl) (fun _ _ _ h => h) (Or.inl ⟨by rfl, ?ys1_18⟩) (by assumption) ?rs1_18
  case ys1_18 => (intro w hSw; (try dsimp only at hSw); go_simp; try with_reducible rfl)
  try simp only [Act.put, List.setIfInBounds_toArray, List.set_cons_zero, List.set_cons_succ]
  refine wpAnyH_done (by as_aux_lemma => kernel_rfl) ?_ _
  refine NoPanic.normal ?_
  have N1 := nx _ hHeld3
  have HS3 := Lib.hid N1
  clear c1_0 c1_1 c1_2 c0_6 c0_9 nx kS hT N1
  clear WV WB hu hq hq2 hbad d60
  go_upto_region 4 with fail
  have k0_0 := (HS3.out).at 0 rfl 0 (v := .int .i64 a.e0) rfl
  have k0_1 := (HS3.out).at 0 rfl 1 (v := .int .i64 a.e1) rfl
  have k0_2 := (HS3.out).at 0 rfl 2 (v := .int .i64 a.e2) rfl
  have k0_3 := (HS3.out).at 0 rfl 3 (v := .bool a.b0) rfl
  have k0_4 := (HS3.out).at 0 rfl 4 (v := .bool a.b1) rfl
  have k0_5 := (HS3.out).at 0 rfl 5 (v := .bool a.b2) rfl
  have k0_6 := (HS3.out).at 0 rfl 6 (v := .int .i64 a.bias) rfl
  have k0_7 := (HS3.out).at 0 rfl 7 (v := .int .i64 a.change) rfl
  have k0_8 := (HS3.out).at 0 rfl 8 (v := .int .i64 a.move) rfl
  have k0_9 := (HS3.out).at 0 rfl 9 (v := .int .i64 a.most) rfl
  go_wp2_with fail
  refine (SA.out _).mono ?_; rintro e w4 ⟨rfl, hb4⟩
  have hS4 := (HS3.out).keep hb4
  have HS4 := Lib.hid hS4
  clear hS4 HS3
  clear hb4
  clear SA k0_0 k0_1 k0_2 k0_3 k0_4 k0_5 k0_6 k0_7 k0_8 k0_9
  have hi := HI.out qi
  have h1 := H1.out qi
  go_upto_region 5 with (refine list_store_new rfl 35 _ _ rfl _ (qa qi) rfl rfl hi rfl h1 ?_)
  clear hi h1
  have hS5 := (show Sp w [(w.heap.size, [some (.int .i64 a.e0), some (.int .i64 a.e1), some (.int .i64 a.e2), some (.bool a.b0), some (.bool a.b1), some (.bool a.b2), some (.int .i64 a.bias), some (.int .i64 a.change), some (.int .i64 a.move), some (.int .i64 a.most)]), (w.heap.size + 1, [some (.int .i64 n0), some (.int .i64 n1), some (.int .i64 n2)]), (w4.heap.size, (qc qi).map some)] (w4.alloc (.cells (qa qi) 35)) from (HS4.out).more (qc qi) 35)
  have HS5 := Lib.hid hS5
  clear hS5 HS4
  obtain ⟨w5, hX, hS⟩ := (HS5.out).named
  rw [← hX]
  clear hX HS5
  have HS6 := Lib.hid hS
  clear hS
  obtain ⟨B, hB⟩ : ∃ B, B = w5.heap.size := ⟨_, rfl⟩
  have HL := Lib.hid (show w.heap.size < B ∧ w.heap.size + 1 < B ∧ w4.heap.size < B from hB ▸ ⟨(HS6.out.2.2 _ (List.mem_cons_self ..)).2, (HS6.out.2.2 _ (List.mem_cons_of_mem _ (List.mem_cons_self ..))).2, (HS6.out.2.2 _ (List.mem_cons_of_mem _ (List.mem_cons_of_mem _ (List.mem_cons_self ..)))).2⟩)
  have HP := Lib.hid (show Sps B w5 (.slice none 0 0) [] from hB ▸ Sps.nil w5)
  clear hB
  go_wp2_with fail
  go_loopw [7, 8, 11, 12, 49] (fun v y u f i wr => ∃ (j : Nat) (cv cb fi : Int) (q : Qd) (hs : List (Int × Int)), j ≤ l.length ∧ v = .int .i64 cv ∧ y = .int .i64 cb ∧ f = .int .i64 fi ∧ i = .int .i64 j ∧ St31 a q cv cb jb j hs fi ∧ Sp w [(w.heap.size, [some (.int .i64 a.e0), some (.int .i64 a.e1), some (.int .i64 a.e2), some (.bool a.b0), some (.bool a.b1), some (.bool a.b2), some (.int .i64 a.bias), some (.int .i64 a.change), some (.int .i64 a.move), some (.int .i64 a.most)]), (w.heap.size + 1, [some (.int .i64 n0), some (.int .i64 n1), some (.int .i64 n2)]), (w4.heap.size, (qc q).map some)] wr ∧ Sps B wr u hs) (fun _ _ _ _ i _ => l.length - (intOf i).toNat)
  case atStart => exact ⟨0, x0, y0, 0, qi, [], Nat.zero_le _, rfl, rfl, rfl, rfl, HST.out, HS6.out, HP.out⟩
  case round =>
    clear HS6 HST HP
    skip
    obtain ⟨j, cv, cb, fi, q, hs, hj, rfl, rfl, rfl, rfl, hst, hS, hP⟩ := hrel
    have HP := Lib.hid hP
    clear hP
    by_cases hc : (j : Int) < l.length
    · skip
      obtain ⟨b, ob, rfl, L⟩ := (HC.out.keep hS.below).lies (by omega)
      have hx := L j (by omega)
      obtain ⟨t, ht⟩ : ∃ t, t = l.getD j tk0 := ⟨_, rfl⟩
      rw [← ht] at hx
      clear ht L
      have RE := Lib.hid fun w => Real_any a t cv cb bad w HH.out hst.v1 hst.v2 hst.b1 hst.b2
      have hg := real_goes (t := t) bad HH.out hst.v1 hst.v2 hst.b1 hst.b2
      generalize yF (nvF a t cv) (nbF a t cb) bad 0 t.o0 a.e0 a.b0 = z0 at *
      generalize yF (nvF a t cv) (nbF a t cb) bad 1 t.o1 a.e1 a.b1 = z1 at *
      generalize yF (nvF a t cv) (nbF a t cb) bad 2 t.o2 a.e2 a.b2 = z2 at *
      generalize nvF a t cv = nv at *
      generalize nbF a t cb = nb at *
      rw [HB.out] at hg
      have kn2 := qstep_knows HH.out jb HJB.out hst.kn hg t.t0 t.t1 t.t2
      have q0 : Sp.R6 z0 := r6 (by have := hg.r0; omega) (by have := hg.r0; omega)
      have q1 : Sp.R6 z1 := r6 (by have := hg.r1; omega) (by have := hg.r1; omega)
      have q2 : Sp.R6 z2 := r6 (by have := hg.r2; omega) (by have := hg.r2; omega)
      have ko2 := qstep_r6 (t0 := t.t0) (t1 := t.t1) (t2 := t.t2) (ra_of HH.out) hst.ro q0 q1 q2
      have ko := hst.ro
      have ST := Lib.hid fun w' (B : Below w.heap.size w w') => TStep_any a q z0 z1 z2 t.t0 t.t1 t.t2 w' (NN.out.keep B) (ra_of HH.out) ko q0 q1 q2
      obtain ⟨qn, hqn⟩ : ∃ z, z = qstep a q z0 z1 z2 t.t0 t.t1 t.t2 := ⟨_, rfl⟩
      rw [← hqn] at ST kn2 ko2
      clear hqn
      have hin := hullQ_has jb HJB.out kn2
      have hbi := biasQ_has jb HJB.out kn2
      have hsr := hullQ_r6 ko2
      obtain ⟨hl, hh, hpq⟩ : ∃ x y, hullQ qn = (x, y) := ⟨_, _, rfl⟩
      obtain ⟨bl, bh, hbq⟩ : ∃ x y, biasQ qn = (x, y) := ⟨_, _, rfl⟩
      rw [hpq] at hin hsr
      rw [hbq] at hbi
      have hnx := hst.next kn2 ko2 hg hin hsr
      have hcl : 0 < j → inS (climbS a.move (hs.getD (j - 1) (0, 0)) (hl, hh)) (nv - cv) := fun h0 => by
        have hi := (hst.path h0).inl
        rw [hst.len] at hi
        exact climb_has hi.1 hin (r6 (by have := hg.v1; have := hst.v2; have := HH.out.most; omega) (by have := hg.v2; have := hst.v1; have := HH.out.most; omega)) hg.dv1 hg.dv2
      have hwd : IntKind.i64.wrap (nv - cv) = nv - cv := (wrap_i64 _).trans (by have := hg.v1; have := hg.v2; have := hst.v1; have := hst.v2; have := HH.out.most; omega)
      have FH : Hid (∀ w', Below w.heap.size w w' → Calls Tryd.prog 10 #[qv qn] w' fun e w'' => e = .returned (sv hl hh) ∧ Below w'.heap.size w' w'') := Lib.hid fun w' B => by have := HullQ_any qn w' (NN.out.keep B); rw [hpq] at this; exact this
      have FB : Hid (∀ w', Below w.heap.size w w' → Calls Tryd.prog 13 #[qv qn] w' fun e w'' => e = .returned (sv bl bh) ∧ Below w'.heap.size w' w'') := Lib.hid fun w' B => by have := BiasQ_any qn w' (NN.out.keep B); rw [hbq] at this; exact this
      have FN : Hid (∀ w', Calls Tryd.prog 11 #[sv bl bh, .int .i64 nb] w' fun e w'' => e = .returned (.bool true) ∧ Below w'.heap.size w' w'') := Lib.hid fun w' => by have := Has_any bl bh nb w'; rw [show Sp.has bl bh nb = true from decide_eq_true hbi] at this; exact this
      have CL := Lib.hid fun (h0 : 0 < j) w' (B : Below w.heap.size w w') => Climb_any a.move (hs.getD (j - 1) (0, 0)) (hl, hh) w' (NN.out.keep B) HH.out.move.1 (by have := HH.out.move; omega) (hst.sr (j - 1) (by omega)) hsr
      have HCL := Lib.hid hcl
      have HNX := Lib.hid hnx
      have HLN := Lib.hid hst.len
      have HWD := Lib.hid hwd
      have HX := Lib.hid hx
      clear hx hcl hnx hwd hst hg kn2 q0 q1 q2 ko2 ko hin hbi hsr hpq hbq
      have hd : (j : Int) ≥ 0 := by omega
      have HS7 := Lib.hid hS
      clear hS
      have h1 := tl_one t
      have hi := info_tk
      go_upto_region 10 with (first | refine list_load_any rfl 39 _ rfl b (ob + j * 8) rfl #[.int .i64 t.move, .int .i64 t.change, .int .i64 t.o0, .int .i64 t.o1, .int .i64 t.o2, .bool t.t0, .bool t.t1, .bool t.t2] _ HX.out Tryd.underlying39 rfl hi ?_ | refine list_store_new rfl 39 _ _ rfl _ #[.int .i64 t.move, .int .i64 t.change, .int .i64 t.o0, .int .i64 t.o1, .int .i64 t.o2, .bool t.t0, .bool t.t1, .bool t.t2] rfl rfl hi rfl h1 ?_)
      clear h1 hi HX
      have hS8 := (HS7.out).more [.int .i64 t.move, .int .i64 t.change, .int .i64 t.o0, .int .i64 t.o1, .int .i64 t.o2, .bool t.t0, .bool t.t1, .bool t.t2] 39
      have HS8 := Lib.hid hS8
      clear hS8 HS7
      obtain ⟨w6, hX, hS⟩ := (HS8.out).named
      replace HP := Lib.hid (show Sps _ w6 _ _ from hX ▸ HP.out.keep (below1 _ _))
      rw [← hX]
      clear hX HS8
      have HS9 := Lib.hid hS
      clear hS
      have k0_0 := (HS9.out).at 0 rfl 0 (v := .int .i64 a.e0) rfl
      have k0_1 := (HS9.out).at 0 rfl 1 (v := .int .i64 a.e1) rfl
      have k0_2 := (HS9.out).at 0 rfl 2 (v := .int .i64 a.e2) rfl
      have k0_3 := (HS9.out).at 0 rfl 3 (v := .bool a.b0) rfl
      have k0_4 := (HS9.out).at 0 rfl 4 (v := .bool a.b1) rfl
      have k0_5 := (HS9.out).at 0 rfl 5 (v := .bool a.b2) rfl
      have k0_6 := (HS9.out).at 0 rfl 6 (v := .int .i64 a.bias) rfl
      have k0_7 := (HS9.out).at 0 rfl 7 (v := .int .i64 a.change) rfl
      have k0_8 := (HS9.out).at 0 rfl 8 (v := .int .i64 a.move) rfl
      have k0_9 := (HS9.out).at 0 rfl 9 (v := .int .i64 a.most) rfl
      have k3_0 := (HS9.out).at 3 rfl 0 (v := .int .i64 t.move) rfl
      have k3_1 := (HS9.out).at 3 rfl 1 (v := .int .i64 t.change) rfl
      have k3_2 := (HS9.out).at 3 rfl 2 (v := .int .i64 t.o0) rfl
      have k3_3 := (HS9.out).at 3 rfl 3 (v := .int .i64 t.o1) rfl
      have k3_4 := (HS9.out).at 3 rfl 4 (v := .int .i64 t.o2) rfl
      have k3_5 := (HS9.out).at 3 rfl 5 (v := .bool t.t0) rfl
      have k3_6 := (HS9.out).at 3 rfl 6 (v := .bool t.t1) rfl
      have k3_7 := (HS9.out).at 3 rfl 7 (v := .bool t.t2) rfl
      go_wp2_with fail
      refine (RE.out _).mono ?_; rintro e w7 ⟨rfl, hb7⟩
      have hS10 := (HS9.out).keep hb7
      have HS10 := Lib.hid hS10
      clear hS10 HS9
      replace HP := Lib.hid (HP.out.keep hb7)
      clear hb7
      clear RE k0_0 k0_1 k0_2 k0_3 k0_4 k0_5 k0_6 k0_7 k0_8 k0_9 k3_0 k3_1 k3_2 k3_3 k3_4 k3_5 k3_6 k3_7
      go_upto_region 11 with fail
      have hS11 := (HS10.out).more [.int .i64 z0, .int .i64 z1, .int .i64 z2] 22
      have HS11 := Lib.hid hS11
      clear hS11 HS10
      obtain ⟨w8, hX, hS⟩ := (HS11.out).named
      replace HP := Lib.hid (show Sps _ w8 _ _ from hX ▸ HP.out.keep (below1 _ _))
      rw [← hX]
      clear hX HS11
      have HS12 := Lib.hid hS
      clear hS
      have k0_0 := (HS12.out).at 0 rfl 0 (v := .int .i64 a.e0) rfl
      have k0_1 := (HS12.out).at 0 rfl 1 (v := .int .i64 a.e1) rfl
      have k0_2 := (HS12.out).at 0 rfl 2 (v := .int .i64 a.e2) rfl
      have k0_3 := (HS12.out).at 0 rfl 3 (v := .bool a.b0) rfl
      have k0_4 := (HS12.out).at 0 rfl 4 (v := .bool a.b1) rfl
      have k0_5 := (HS12.out).at 0 rfl 5 (v := .bool a.b2) rfl
      have k0_6 := (HS12.out).at 0 rfl 6 (v := .int .i64 a.bias) rfl
      have k0_7 := (HS12.out).at 0 rfl 7 (v := .int .i64 a.change) rfl
      have k0_8 := (HS12.out).at 0 rfl 8 (v := .int .i64 a.move) rfl
      have k0_9 := (HS12.out).at 0 rfl 9 (v := .int .i64 a.most) rfl
      have k4_0 := (HS12.out).at 4 rfl 0 (v := .int .i64 z0) rfl
      have k4_1 := (HS12.out).at 4 rfl 1 (v := .int .i64 z1) rfl
      have k4_2 := (HS12.out).at 4 rfl 2 (v := .int .i64 z2) rfl
      have k3_5 := (HS12.out).at 3 rfl 5 (v := .bool t.t0) rfl
      have k3_6 := (HS12.out).at 3 rfl 6 (v := .bool t.t1) rfl
      have k3_7 := (HS12.out).at 3 rfl 7 (v := .bool t.t2) rfl
      have HR := (HS12.out).range 2 (l := qc q) rfl
      have hi := HI.out q
      go_wp2_with (refine list_load_any rfl 35 _ rfl _ 0 rfl (qa q) _ HR Tryd.underlying35 rfl hi ?_)
      refine (ST.out _ HS12.out.below).mono ?_; rintro e w9 ⟨rfl, hb9⟩
      have hS13 := (HS12.out).keep hb9
      have HS13 := Lib.hid hS13
      clear hS13 HS12
      replace HP := Lib.hid (HP.out.keep hb9)
      clear hb9
      clear ST HR hi k0_0 k0_1 k0_2 k0_3 k0_4 k0_5 k0_6 k0_7 k0_8 k0_9 k4_0 k4_1 k4_2 k3_5 k3_6 k3_7
      have hn := HI.out qn
      have h1 := H1.out qn
      have HT := (HS13.out).free_row 2 rfl (n := 20) rfl
      have hF := (show Sp w [(w.heap.size, [some (.int .i64 a.e0), some (.int .i64 a.e1), some (.int .i64 a.e2), some (.bool a.b0), some (.bool a.b1), some (.bool a.b2), some (.int .i64 a.bias), some (.int .i64 a.change), some (.int .i64 a.move), some (.int .i64 a.most)]), (w.heap.size + 1, [some (.int .i64 n0), some (.int .i64 n1), some (.int .i64 n2)]), (w4.heap.size, (qc qn).map some)] (w9.setCells (w4.heap.size) 0 (qa qn).toList) from ((HS13.out).row 2 rfl (qc qn) rfl).take 3)
      have hP := (show Sps B (w9.setCells (w4.heap.size) 0 (qa qn).toList) _ hs from HP.out.put w4.heap.size HL.out.2.2 (qc qn))
      have HF := Lib.hid hF
      replace HP := Lib.hid hP
      clear hF hP HS13
      go_upto_region 12 with (first | (refine wpList_store_mid rfl 35 _ _ rfl (w4.heap.size) 0 (qa qn) rfl rfl HT hn h1 ?_))
      obtain ⟨w10, hX⟩ : ∃ x, x = w9.setCells (w4.heap.size) 0 (qa qn).toList := ⟨_, rfl⟩
      replace HF := Lib.hid (show Sp w [(w.heap.size, [some (.int .i64 a.e0), some (.int .i64 a.e1), some (.int .i64 a.e2), some (.bool a.b0), some (.bool a.b1), some (.bool a.b2), some (.int .i64 a.bias), some (.int .i64 a.change), some (.int .i64 a.move), some (.int .i64 a.most)]), (w.heap.size + 1, [some (.int .i64 n0), some (.int .i64 n1), some (.int .i64 n2)]), (w4.heap.size, (qc qn).map some)] w10 from hX ▸ HF.out)
      replace HP := Lib.hid (show Sps B w10 _ hs from hX ▸ HP.out)
      rw [← hX]
      clear hX HT h1
      have HS14 := Lib.hid HF.out
      clear HF
      have HR := (HS14.out).range 2 (l := qc qn) rfl
      go_wp2_with (refine list_load_any rfl 35 _ rfl _ 0 rfl (qa qn) _ HR Tryd.underlying35 rfl hn ?_)
      refine (FH.out _ HS14.out.below).mono ?_; rintro e w11 ⟨rfl, hb11⟩
      have hS15 := (HS14.out).keep hb11
      have HS15 := Lib.hid hS15
      clear hS15 HS14
      replace HP := Lib.hid (HP.out.keep hb11)
      clear hb11
      clear FH HR
      have GG := Lib.hid (HP.out.keep (below1 w11 (.cells #[.int .i64 hl, .int .i64 hh] 32)))
      have SG := Lib.hid ((HS15.out).keep (below1 w11 (.cells #[.int .i64 hl, .int .i64 hh] 32)))
      have RG := Lib.hid (range_new w11 #[.int .i64 hl, .int .i64 hh] 32)
      have GL := Lib.hid (show hs.length + 1 ≤ 1000000000000 by have := HLN.out; have := HL60.out; omega)
      clear HP HS15
      go_wp2_with (at_builtin; refine list_append_sp (g := w11.heap.size) (f := (hl, hh)) rfl rfl rfl GG.out rfl RG.out GL.out ?_)
      intro u2 w12 hP hK
      have hn9 : ∀ p ∈ [(w.heap.size, [some (.int .i64 a.e0), some (.int .i64 a.e1), some (.int .i64 a.e2), some (.bool a.b0), some (.bool a.b1), some (.bool a.b2), some (.int .i64 a.bias), some (.int .i64 a.change), some (.int .i64 a.move), some (.int .i64 a.most)]), (w.heap.size + 1, [some (.int .i64 n0), some (.int .i64 n1), some (.int .i64 n2)]), (w4.heap.size, (qc qn).map some)], p.1 < B := fun p hp => by simp only [List.mem_cons, List.not_mem_nil, or_false] at hp; rcases hp with rfl | rfl | rfl; exact HL.out.1; exact HL.out.2.1; exact HL.out.2.2
      have hS := hK (Nat.le_of_lt HL.out.1) (fun x y hp => hn9 (x, y) hp) SG.out
      clear hn9
      have HS16 := Lib.hid hS
      obtain ⟨g, cap2, hu2, hle, hmx⟩ := hP.slice (by simp)
      rw [List.length_append, List.length_singleton, HLN.out] at hu2 hle
      subst hu2
      obtain ⟨m2, hm2⟩ : ∃ m, m = j + 1 := ⟨_, rfl⟩
      rw [← hm2] at hP hle ⊢
      have HP := Lib.hid hP
      have HM2 := Lib.hid hm2
      have HLE := Lib.hid hle
      have HMX := Lib.hid hmx
      clear hP hK hS GG SG RG GL hm2 hle hmx
      rcases Nat.eq_zero_or_pos j with h0 | h0
      · skip
        subst h0
        have HN := Lib.hid (show St31 a qn nv nb jb 1 (hs ++ [(hl, hh)]) nv from HNX.out)
        clear CL HCL HNX HWD
        skip
        have HR := (HS16.out).range 2 (l := qc qn) rfl
        go_upto_region 18 with fail
        go_wp2_with (refine list_load_any rfl 35 _ rfl _ 0 rfl (qa qn) _ HR Tryd.underlying35 rfl hn ?_)
        refine (FB.out _ HS16.out.below).mono ?_; rintro e w13 ⟨rfl, hb13⟩
        have hS17 := (HS16.out).keep hb13
        have HS17 := Lib.hid hS17
        clear hS17 HS16
        replace HP := Lib.hid (HP.out.keep hb13)
        clear hb13
        clear FB HR hn
        go_wp2_with fail
        refine (FN.out _).mono ?_; rintro e w14 ⟨rfl, hb14⟩
        have hS18 := (HS17.out).keep hb14
        have HS18 := Lib.hid hS18
        clear hS18 HS17
        replace HP := Lib.hid (HP.out.keep hb14)
        clear hb14
        clear FN
        go_wp2_with fail
        go_roundw
        case rel => first | exact ⟨0 + 1, nv, nb, nv, qn, hs ++ [(hl, hh)], by omega, rfl, rfl, rfl, rfl, HN.out, HS18.out, HP.out⟩ | ((repeat apply Exists.intro); exact ⟨⟨0 + 1, nv, nb, nv, qn, hs ++ [(hl, hh)], by omega, rfl, rfl, rfl, rfl, HN.out, HS18.out, HP.out⟩, rfl⟩)
        case measure => simp [intOf]; omega
      · skip
        have HN := Lib.hid (show St31 a qn nv nb jb (j + 1) (hs ++ [(hl, hh)]) fi from by have := HNX.out; rwa [if_neg (by omega)] at this)
        have hz1 : ((j : Int) == 0) = false := by rw [beq_eq_false_iff_ne]; omega
        have hz2 : ¬ (j : Int) = 0 := by omega
        have hz3 : ¬ j = 0 := by omega
        have hz4 : decide ((j : Int) = 0) = false := decide_eq_false hz2
        obtain ⟨jm, hjm⟩ : ∃ jm, jm = j - 1 := ⟨_, rfl⟩
        have hwj : IntKind.i64.wrap ((j : Int) - 1) = (jm : Int) := (wrap_i64 _).trans (by have := HL60.out; omega)
        have hjm0 : (0 : Int) ≤ jm := by omega
        have hjm1 : (jm : Int) < m2 := by have := HM2.out; omega
        have hjm2 : (j : Int) < m2 := by have := HM2.out; omega
        have hold : (hs ++ [(hl, hh)]).getD jm (0, 0) = hs.getD (j - 1) (0, 0) := by rw [hjm]; exact getD_old hs _ _ (by rw [HLN.out]; omega)
        have hnew := getD_new hs (hl, hh) j HLN.out
        have CJ := Lib.hid (CL.out h0)
        have hcj := HCL.out h0
        obtain ⟨s1, s2, hs12⟩ : ∃ x y, hs.getD (j - 1) (0, 0) = (x, y) := ⟨_, _, rfl⟩
        rw [hs12] at CJ hcj hold
        obtain ⟨c1, c2, hc12⟩ : ∃ x y, climbS a.move (s1, s2) (hl, hh) = (x, y) := ⟨_, _, rfl⟩
        rw [hc12] at CJ hcj
        have hwd := HWD.out
        have FC : Hid (∀ w', Calls Tryd.prog 11 #[sv c1 c2, .int .i64 (nv - cv)] w' fun e w'' => e = .returned (.bool true) ∧ Below w'.heap.size w' w'') := Lib.hid fun w' => by have := Has_any c1 c2 (nv - cv) w'; rw [show Sp.has c1 c2 (nv - cv) = true from decide_eq_true hcj] at this; exact this
        have CK : Hid (∀ w', Below w.heap.size w w' → Calls Tryd.prog 12 #[sv s1 s2, sv hl hh, .int .i64 a.move] w' fun e w'' => e = .returned (sv c1 c2) ∧ Below w'.heap.size w' w'') := Lib.hid CJ.out
        obtain ⟨dd, hdd⟩ : ∃ d, d = nv - cv := ⟨_, rfl⟩
        rw [← hdd] at FC
        replace hwd : IntKind.i64.wrap (nv - cv) = dd := hwd.trans hdd.symm
        clear hdd
        obtain ⟨hs2, hhs2⟩ : ∃ x, x = hs ++ [(hl, hh)] := ⟨_, rfl⟩
        rw [← hhs2] at HP hold hnew HN
        have hl2 : hs2.length = j + 1 := by rw [hhs2, List.length_append, HLN.out]; rfl
        have HOLD := Lib.hid hold
        have HNEW := Lib.hid hnew
        have HL2 := Lib.hid hl2
        have HJ1 := Lib.hid (show jm < hs2.length by omega)
        have HJ2 := Lib.hid (show j < hs2.length by omega)
        clear CL HCL HNX HWD CJ hcj hs12 hc12 hold hnew hhs2 hl2 hjm
        go_upto_region 15 with fail
        obtain ⟨bs9, hbs⟩ : ∃ bs : List (Nat × List (Option Value)), bs = [(w.heap.size, [some (.int .i64 a.e0), some (.int .i64 a.e1), some (.int .i64 a.e2), some (.bool a.b0), some (.bool a.b1), some (.bool a.b2), some (.int .i64 a.bias), some (.int .i64 a.change), some (.int .i64 a.move), some (.int .i64 a.most)]), (w.heap.size + 1, [some (.int .i64 n0), some (.int .i64 n1), some (.int .i64 n2)]), (w4.heap.size, (qc qn).map some)] := ⟨_, rfl⟩
        have hT : SpP w bs9 B (.slice (some ⟨g, 0, none⟩) m2 cap2) hs2 w12 := ⟨(HS16.out).cast hbs, HP.out⟩
        have c0_8 : ∀ w', SpP w bs9 B (.slice (some ⟨g, 0, none⟩) m2 cap2) hs2 w' → w'.cell? ⟨w.heap.size, 8, none⟩ = some (.int .i64 a.move) := by rw [hbs]; exact fun w' h => h.1.at 0 rfl 8 rfl
        have e0 : ∀ w', SpP w bs9 B (.slice (some ⟨g, 0, none⟩) m2 cap2) hs2 w' → w'.cell? ⟨g, jm * 2, none⟩ = some (.int .i64 s1) := fun w' h => (h.2.cells jm HJ1.out HOLD.out).1
        have e1 : ∀ w', SpP w bs9 B (.slice (some ⟨g, 0, none⟩) m2 cap2) hs2 w' → w'.cell? ⟨g, jm * 2 + 1, none⟩ = some (.int .i64 s2) := fun w' h => (h.2.cells jm HJ1.out HOLD.out).2
        have e2 : ∀ w', SpP w bs9 B (.slice (some ⟨g, 0, none⟩) m2 cap2) hs2 w' → w'.cell? ⟨g, j * 2, none⟩ = some (.int .i64 hl) := fun w' h => (h.2.cells j HJ2.out HNEW.out).1
        have e3 : ∀ w', SpP w bs9 B (.slice (some ⟨g, 0, none⟩) m2 cap2) hs2 w' → w'.cell? ⟨g, j * 2 + 1, none⟩ = some (.int .i64 hh) := fun w' h => (h.2.cells j HJ2.out HNEW.out).2
        have kS : ∀ w1 w2, SpP w bs9 B (.slice (some ⟨g, 0, none⟩) m2 cap2) hs2 w1 → Below w1.heap.size w1 w2 → SpP w bs9 B (.slice (some ⟨g, 0, none⟩) m2 cap2) hs2 w2 := fun _ _ h hb => ⟨h.1.keep hb, h.2.keep hb⟩
        have nx : ∀ w', SpP w bs9 B (.slice (some ⟨g, 0, none⟩) m2 cap2) hs2 w' → Sp w [(w.heap.size, [some (.int .i64 a.e0), some (.int .i64 a.e1), some (.int .i64 a.e2), some (.bool a.b0), some (.bool a.b1), some (.bool a.b2), some (.int .i64 a.bias), some (.int .i64 a.change), some (.int .i64 a.move), some (.int .i64 a.most)]), (w.heap.size + 1, [some (.int .i64 n0), some (.int .i64 n1), some (.int .i64 n2)]), (w4.heap.size, (qc qn).map some)] w' := by rw [hbs]; exact fun w' h => h.1
        clear hbs HS16 HP
        change (Code.region 15 tlcl15 true).wp Tryd.prog _ _ _
        refine wp_region_noPanic ?_
        refine wp_region_held_drew (S := (SpP w bs9 B (.slice (some ⟨g, 0, none⟩) m2 cap2) hs2)) (by kernel_rfl) (hT.drew) (fun hHeld => ?_)
        refine wpAnyH_take (i := 0) (oi := ({ dst := some 78, op := .move (.tmp 11), type := 37, pos := "law.go:101", after := #[], guard := none } : Oper)) (v := ?vs2_0) rfl tlcl15_plain (by as_aux_lemma => kernel_rfl) (by as_aux_lemma => kernel_rfl) (fun _ _ _ h => h) (Or.inl ⟨by rfl, ?ys2_0⟩) (by assumption) ?rs2_0
        case ys2_0 => (intro w hSw; (try dsimp only at hSw); go_simp; try with_reducible rfl)
        try simp only [Act.put, List.setIfInBounds_toArray, List.set_cons_zero, List.set_cons_succ]
        refine wpAnyH_take (i := 1) (oi := ({ dst := some 79, op := .move (.tmp 13), type := 3, pos := "law.go:101", after := #[], guard := none } : Oper)) (v := ?vs2_1) rfl tlcl15_plain (by as_aux_lemma => kernel_rfl) (by as_aux_lemma => kernel_rfl) (fun _ _ _ h => h) (Or.inl ⟨by rfl, ?ys2_1⟩) (by assumption) ?rs2_1
        case ys2_1 => (intro w hSw; (try dsimp only at hSw); go_simp; try with_reducible rfl)
        try simp only [Act.put, List.setIfInBounds_toArray, List.set_cons_zero, List.set_cons_succ]
        refine wpAnyH_take (i := 2) (oi := ({ dst := some 80, op := .binOp .sub 3 (.tmp 79) (.const (.int .i64 1)) 3, type := 3, pos := "law.go:101", after := #[{ on := 1, ground := .data }], guard := none } : Oper)) (v := ?vs2_2) rfl tlcl15_plain (by as_aux_lemma => kernel_rfl) (by as_aux_lemma => kernel_rfl) (fun _ _ _ h => h) (Or.inl ⟨by rfl, ?ys2_2⟩) (by assumption) ?rs2_2
        case ys2_2 => (intro w hSw; (try dsimp only at hSw); go_simp; try with_reducible rfl)
        try simp only [Act.put, List.setIfInBounds_toArray, List.set_cons_zero, List.set_cons_succ]
        refine wpAnyH_take (i := 3) (oi := ({ dst := some 81, op := .indexAddr 37 (.tmp 78) (.tmp 80), type := 0, pos := "law.go:101", after := #[{ on := 0, ground := .data }, { on := 2, ground := .data }], guard := none } : Oper)) (v := ?vs2_3) rfl tlcl15_plain (by as_aux_lemma => kernel_rfl) (by as_aux_lemma => kernel_rfl) (fun _ _ _ h => h) (Or.inl ⟨by rfl, ?ys2_3⟩) (by assumption) ?rs2_3
        case ys2_3 => (intro w hSw; (try dsimp only at hSw); go_simp; try with_reducible rfl)
        try simp only [Act.put, List.setIfInBounds_toArray, List.set_cons_zero, List.set_cons_succ]
        refine wpAnyH_take (i := 4) (oi := ({ dst := some 82, op := .load 32 (.tmp 81), type := 32, pos := "law.go:101", after := #[{ on := 3, ground := .data }], guard := none } : Oper)) (v := ?vs2_4) rfl tlcl15_plain (by as_aux_lemma => kernel_rfl) (by as_aux_lemma => kernel_rfl) (fun _ _ _ h => h) (Or.inl ⟨by rfl, ?ys2_4⟩) (by assumption) ?rs2_4
        case ys2_4 => (intro w hSw; (try dsimp only at hSw); go_simp; try with_reducible rfl)
        try simp only [Act.put, List.setIfInBounds_toArray, List.set_cons_zero, List.set_cons_succ]
        refine wpAnyH_take (i := 5) (oi := ({ dst := some 83, op := .move (.tmp 11), type := 37, pos := "law.go:101", after := #[], guard := none } : Oper)) (v := ?vs2_5) rfl tlcl15_plain (by as_aux_lemma => kernel_rfl) (by as_aux_lemma => kernel_rfl) (fun _ _ _ h => h) (Or.inl ⟨by rfl, ?ys2_5⟩) (by assumption) ?rs2_5
        case ys2_5 => (intro w hSw; (try dsimp only at hSw); go_simp; try with_reducible rfl)
        try simp only [Act.put, List.setIfInBounds_toArray, List.set_cons_zero, List.set_cons_succ]
        refine wpAnyH_take (i := 6) (oi := ({ dst := some 84, op := .move (.tmp 13), type := 3, pos := "law.go:101", after := #[], guard := none } : Oper)) (v := ?vs2_6) rfl tlcl15_plain (by as_aux_lemma => kernel_rfl) (by as_aux_lemma => kernel_rfl) (fun _ _ _ h => h) (Or.inl ⟨by rfl, ?ys2_6⟩) (by assumption) ?rs2_6
        case ys2_6 => (intro w hSw; (try dsimp only at hSw); go_simp; try with_reducible rfl)
        try simp only [Act.put, List.setIfInBounds_toArray, List.set_cons_zero, List.set_cons_succ]
        refine wpAnyH_take (i := 7) (oi := ({ dst := some 85, op := .indexAddr 37 (.tmp 83) (.tmp 84), type := 0, pos := "law.go:101", after := #[{ on := 5, ground := .data }, { on := 6, ground := .data }], guard := none } : Oper)) (v := ?vs2_7) rfl tlcl15_plain (by as_aux_lemma => kernel_rfl) (by as_aux_lemma => kernel_rfl) (fun _ _ _ h => h) (Or.inl ⟨by rfl, ?ys2_7⟩) (by assumption) ?rs2_7
        case ys2_7 => (intro w hSw; (try dsimp only at hSw); go_simp; try with_reducible rfl)
        try simp only [Act.put, List.setIfInBounds_toArray, List.set_cons_zero, List.set_cons_succ]
        refine wpAnyH_take (i := 8) (oi := ({ dst := some 86, op := .load 32 (.tmp 85), type := 32, pos := "law.go:101", after := #[{ on := 7, ground := .data }], guard := none } : Oper)) (v := ?vs2_8) rfl tlcl15_plain (by as_aux_lemma => kernel_rfl) (by as_aux_lemma => kernel_rfl) (fun _ _ _ h => h) (Or.inl ⟨by rfl, ?ys2_8⟩) (by assumption) ?rs2_8
        case ys2_8 => (intro w hSw; (try dsimp only at hSw); go_simp; try with_reducible rfl)
        try simp only [Act.put, List.setIfInBounds_toArray, List.set_cons_zero, List.set_cons_succ]
        refine wpAnyH_take (i := 9) (oi := ({ dst := some 87, op := .fieldAddr 25 (.tmp 3) 4, type := 0, pos := "law.go:101", after := #[], guard := none } : Oper)) (v := ?vs2_9) rfl tlcl15_plain (by as_aux_lemma => kernel_rfl) (by as_aux_lemma => kernel_rfl) (fun _ _ _ h => h) (Or.inl ⟨by rfl, ?ys2_9⟩) (by assumption) ?rs2_9
        case ys2_9 => (intro w hSw; (try dsimp only at hSw); go_simp; try with_reducible rfl)
        try simp only [Act.put, List.setIfInBounds_toArray, List.set_cons_zero, List.set_cons_succ]
        refine wpAnyH_take (i := 10) (oi := ({ dst := some 88, op := .load 2 (.tmp 87), type := 2, pos := "law.go:101", after := #[{ on := 9, ground := .data }], guard := none } : Oper)) (v := ?vs2_10) rfl tlcl15_plain (by as_aux_lemma => kernel_rfl) (by as_aux_lemma => kernel_rfl) (fun _ _ _ h => h) (Or.inl ⟨by rfl, ?ys2_10⟩) (by assumption) ?rs2_10
        case ys2_10 => (intro w hSw; (try dsimp only at hSw); go_simp; try with_reducible rfl)
        try simp only [Act.put, List.setIfInBounds_toArray, List.set_cons_zero, List.set_cons_succ]
        refine wpAnyH_take (i := 12) (oi := ({ dst := some 90, op := .move (.tmp 15), type := 2, pos := "law.go:101", after := #[], guard := none } : Oper)) (v := ?vs2_12) rfl tlcl15_plain (by as_aux_lemma => kernel_rfl) (by as_aux_lemma => kernel_rfl) (fun _ _ _ h => h) (Or.inl ⟨by rfl, ?ys2_12⟩) (by assumption) ?rs2_12
        case ys2_12 => (intro w hSw; (try dsimp only at hSw); go_simp; try with_reducible rfl)
        try simp only [Act.put, List.setIfInBounds_toArray, List.set_cons_zero, List.set_cons_succ]
        refine wpAnyH_take (i := 13) (oi := ({ dst := some 91, op := .move (.tmp 7), type := 2, pos := "law.go:101", after := #[], guard := none } : Oper)) (v := ?vs2_13) rfl tlcl15_plain (by as_aux_lemma => kernel_rfl) (by as_aux_lemma => kernel_rfl) (fun _ _ _ h => h) (Or.inl ⟨by rfl, ?ys2_13⟩) (by assumption) ?rs2_13
        case ys2_13 => (intro w hSw; (try dsimp only at hSw); go_simp; try with_reducible rfl)
        try simp only [Act.put, List.setIfInBounds_toArray, List.set_cons_zero, List.set_cons_succ]
        refine wpAnyH_take (i := 14) (oi := ({ dst := some 92, op := .binOp .sub 2 (.tmp 90) (.tmp 91) 2, type := 2, pos := "law.go:101", after := #[{ on := 12, ground := .data }, { on := 13, ground := .data }], guard := none } : Oper)) (v := ?vs2_14) rfl tlcl15_plain (by as_aux_lemma => kernel_rfl) (by as_aux_lemma => kernel_rfl) (fun _ _ _ h => h) (Or.inl ⟨by rfl, ?ys2_14⟩) (by assumption) ?rs2_14
        case ys2_14 => (intro w hSw; (try dsimp only at hSw); go_simp; try with_reducible rfl)
        try simp only [Act.put, List.setIfInBounds_toArray, List.set_cons_zero, List.set_cons_succ]
        refine wpAnyH_ready (rs := [11]) (by as_aux_lemma => kernel_rfl) (by simp) ?_
        refine AllReadyH.cons (o := ({ dst := some 89, op := .call { callee := .value (.func 12), args := #[.tmp 82, .tmp 86, .tmp 88], argTypes := #[32, 32, 2] }, type := 32, pos := "law.go:101", after := #[{ on := 4, ground := .data }, { on := 8, ground := .data }, { on := 10, ground := .data }], guard := none } : Oper)) rfl (fun KK hK => ?_) AllReadyH.nil
        rw [if_pos (by rfl)]
        go_simp
        go_at_call 12; refine (CK.out _ (SpP.below (by assumption))).mono ?_; rintro e w13 ⟨rfl, hb13⟩
        go_wp2_with fail
        refine hK.out _ _ ?_ (fun hHeld13 => ?_)
        · exact kS _ _ (by assumption) hb13
        clear hK KK hb13
        try simp only [Act.put, List.setIfInBounds_toArray, List.set_cons_zero, List.set_cons_succ]
        refine wpAnyH_ready (rs := [15]) (by as_aux_lemma => kernel_rfl) (by simp) ?_
        refine AllReadyH.cons (o := ({ dst := some 93, op := .call { callee := .value (.func 11), args := #[.tmp 89, .tmp 92], argTypes := #[32, 2] }, type := 4, pos := "law.go:101", after := #[{ on := 11, ground := .data }, { on := 14, ground := .data }, { on := 11, ground := .chain }], guard := none } : Oper)) rfl (fun KK hK => ?_) AllReadyH.nil
        rw [if_pos (by rfl)]
        go_simp
        go_at_call 11; refine (FC.out _).mono ?_; rintro e w14 ⟨rfl, hb14⟩
        go_wp2_with fail
        refine hK.out _ _ ?_ (fun hHeld14 => ?_)
        · exact kS _ _ (by assumption) hb14
        clear hK KK hb14 hHeld13
        try simp only [Act.put, List.setIfInBounds_toArray, List.set_cons_zero, List.set_cons_succ]
        refine wpAnyH_take (i := 16) (oi := ({ dst := some 94, op := .unOp .not 4 (.tmp 93), type := 4, pos := "law.go:101", after := #[{ on := 15, ground := .data }], guard := none } : Oper)) (v := ?vs2_16) rfl tlcl15_plain (by as_aux_lemma => kernel_rfl) (by as_aux_lemma => kernel_rfl) (fun _ _ _ h => h) (Or.inl ⟨by rfl, ?ys2_16⟩) (by assumption) ?rs2_16
        case ys2_16 => (intro w hSw; (try dsimp only at hSw); go_simp; try with_reducible rfl)
        try simp only [Act.put, List.setIfInBounds_toArray, List.set_cons_zero, List.set_cons_succ]
        refine wpAnyH_done (by as_aux_lemma => kernel_rfl) ?_ _
        refine NoPanic.normal ?_
        have N1 := nx _ hHeld14
        have N2 := hHeld14.2
        have HS17 := Lib.hid N1
        have HP := Lib.hid N2
        clear c0_8 e0 e1 e2 e3 kS nx hT N1 N2 CK FC hwd hwj hjm0 hjm1 hjm2 hHeld14 HOLD HNEW HL2 HJ1 HJ2
        have HR := (HS17.out).range 2 (l := qc qn) rfl
        go_upto_region 18 with fail
        go_wp2_with (refine list_load_any rfl 35 _ rfl _ 0 rfl (qa qn) _ HR Tryd.underlying35 rfl hn ?_)
        refine (FB.out _ HS17.out.below).mono ?_; rintro e w15 ⟨rfl, hb15⟩
        have hS18 := (HS17.out).keep hb15
        have HS18 := Lib.hid hS18
        clear hS18 HS17
        replace HP := Lib.hid (HP.out.keep hb15)
        clear hb15
        clear FB HR hn
        go_wp2_with fail
        refine (FN.out _).mono ?_; rintro e w16 ⟨rfl, hb16⟩
        have hS19 := (HS18.out).keep hb16
        have HS19 := Lib.hid hS19
        clear hS19 HS18
        replace HP := Lib.hid (HP.out.keep hb16)
        clear hb16
        clear FN
        go_wp2_with fail
        go_roundw
        case rel => first | exact ⟨j + 1, nv, nb, fi, qn, hs2, by omega, rfl, rfl, rfl, rfl, HN.out, HS19.out, HP.out⟩ | ((repeat apply Exists.intro); exact ⟨⟨j + 1, nv, nb, fi, qn, hs2, by omega, rfl, rfl, rfl, rfl, HN.out, HS19.out, HP.out⟩, rfl⟩)
        case measure => simp [intOf]; omega
    · skip
      obtain rfl : j = l.length := by omega
      have TK := hst
      have hsl := hst.len
      have hv1 := hst.v1; have hv2 := hst.v2; have hm1 := HH.out.most; have hm2 := HH.out.move
      obtain ⟨ba2, cap2, rfl, CS⟩ := HP.out.came
      have HS100 := Lib.hid hS
      have HCS := Lib.hid CS
      clear hS CS HP hj hc
      by_cases h2 : l.length < 2
      · skip
        have TF := Lib.hid fun w => Trend_few ba2 hs.length cap2 a.move w (by omega)
        have d2 : decide ((hs.length : Int) < 2) = true := decide_eq_true (by omega)
        clear TK hv1 hv2 hm1 hm2 HCS h2 hsl HC hst
        skip
        have k0_8 := (HS100.out).at 0 rfl 8 (v := .int .i64 a.move) rfl
        go_wp2_with fail
        refine (TF.out _).mono ?_; rintro e w17 ⟨rfl, hb17⟩
        have hS101 := (HS100.out).keep hb17
        have HS101 := Lib.hid hS101
        clear hS101 HS100
        clear hb17
        clear TF k0_8
        go_upto_region 22 with fail
        have hS102 := (HS101.out).more [.int .i64 0, .int .i64 0] 32
        have HS102 := Lib.hid hS102
        clear hS102 HS101
        obtain ⟨w18, hX, hS⟩ := (HS102.out).named
        rw [← hX]
        clear hX HS102
        have HS103 := Lib.hid hS
        clear hS
        go_wp2_with fail
        have AW1 := Lib.hid (AWC.out _ HS103.out.below)
        have BH := Lib.hid HS103.out.below
        refine AW1.out.mono ?_; rintro e wz ⟨rfl, hbz⟩
        have BE := Lib.hid (belowT BH.out hbz)
        clear hbz
        go_wp2_with fail
        go_ret
        exact ⟨rfl, BE.out⟩
      · skip
        have hpath := hst.path (by omega)
        have hfi := hpath.first
        have htr := hpath.trend hm1.2
        obtain ⟨b2, o2, rfl, LL⟩ := HCS.out.lies (by omega)
        obtain ⟨n2', hn2⟩ : ∃ x, hs.length = x + 1 := ⟨hs.length - 1, by omega⟩
        rw [show hs.length - 1 = n2' by omega] at htr
        obtain ⟨x1, x2, hx12⟩ : ∃ x y, trendS a.move hs n2' = (x, y) := ⟨_, _, rfl⟩
        rw [hx12] at htr
        have hsr := hst.sr
        have LLH := Lib.hid LL
        have hcap := HCS.out.le
        have TF : Hid (∀ w', Below wr.heap.size wr w' → NoneAt w' → Calls Tryd.prog 14 #[.slice (some ⟨b2, o2, none⟩) hs.length cap2, .int .i64 a.move] w' fun e w'' => e = .returned (.tuple #[sv x1 x2, .int .i64 0]) ∧ Below w'.heap.size w' w'') := Lib.hid fun w' B Z => by have := Trend_any (LLH.out.keep B) hn2 hcap (by omega) (by have := HL60.out; omega) a.move hm2.1 (by omega) Z (fun k hk => hsr k (by omega)); rw [hx12] at this; exact this
        have FT : Hid (∀ w', Calls Tryd.prog 11 #[sv x1 x2, .int .i64 (cv - fi)] w' fun e w'' => e = .returned (.bool true) ∧ Below w'.heap.size w' w'') := Lib.hid fun w' => by have := Has_any x1 x2 (cv - fi) w'; rw [show Sp.has x1 x2 (cv - fi) = true from decide_eq_true htr] at this; exact this
        have hwd : IntKind.i64.wrap (cv - fi) = cv - fi := (wrap_i64 _).trans (by omega)
        obtain ⟨dd, hdd⟩ : ∃ d, d = cv - fi := ⟨_, rfl⟩
        rw [← hdd] at FT
        replace hwd : IntKind.i64.wrap (cv - fi) = dd := hwd.trans hdd.symm
        have d2 : decide ((hs.length : Int) < 2) = false := decide_eq_false (by omega)
        clear TK hv1 hv2 hm1 hm2 HCS h2 hsl HC hpath hfi htr LL hdd hn2 hx12 hsr hcap LLH hst
        skip
        have k0_8 := (HS100.out).at 0 rfl 8 (v := .int .i64 a.move) rfl
        go_wp2_with fail
        refine (TF.out _ (Below.refl _ _) (NN.out.keep HS100.out.below)).mono ?_; rintro e w17 ⟨rfl, hb17⟩
        have hS101 := (HS100.out).keep hb17
        have HS101 := Lib.hid hS101
        clear hS101 HS100
        clear hb17
        clear TF k0_8
        go_upto_region 22 with fail
        have hS102 := (HS101.out).more [.int .i64 x1, .int .i64 x2] 32
        have HS102 := Lib.hid hS102
        clear hS102 HS101
        obtain ⟨w18, hX, hS⟩ := (HS102.out).named
        rw [← hX]
        clear hX HS102
        have HS103 := Lib.hid hS
        clear hS
        have k3_0 := (HS103.out).at 3 rfl 0 (v := .int .i64 x1) rfl
        have k3_1 := (HS103.out).at 3 rfl 1 (v := .int .i64 x2) rfl
        go_wp2_with fail
        refine (FT.out _).mono ?_; rintro e w19 ⟨rfl, hb19⟩
        have hS104 := (HS103.out).keep hb19
        have HS104 := Lib.hid hS104
        clear hS104 HS103
        clear hb19
        go_wp2_with fail
        have AW1 := Lib.hid (AWC.out _ HS104.out.below)
        have BH := Lib.hid HS104.out.below
        refine AW1.out.mono ?_; rintro e wz ⟨rfl, hbz⟩
        have BE := Lib.hid (belowT BH.out hbz)
        clear hbz
        go_wp2_with fail
        go_ret
        exact ⟨rfl, BE.out⟩

set_option maxHeartbeats 4000000 in
set_option maxRecDepth 100000 in
theorem climbs_wrong (ba : Option Addr) (k cap : Nat) (a : Ai) (n0 n1 n2 : Int) (w : World) (RA : Hid (∀ w, Calls Tryd.prog 4 #[av a] w fun e w' => e = .returned (.bool false) ∧ Below w.heap.size w w'))
    (AW : Hid (∀ w', Below w.heap.size w w' → Calls Tryd.prog 5 #[] w' fun e w'' => e = .returned (.bool true) ∧ Below w'.heap.size w' w'')) :
    Calls Tryd.prog 3 #[av a, .slice ba k cap, .agg #[.int .i64 n0, .int .i64 n1, .int .i64 n2]] w fun e w' => e = .returned (.bool true) ∧ Below w.heap.size w w' := by
  go_enter Tryd.func3, Tryd.ntmps3
  go_wp2_with fail
  refine (RA.out _).mono ?_; rintro e w1 ⟨rfl, hb1⟩
  have B1 := belowT (below2 w _ _) hb1
  go_wp2_with fail
  refine (AW.out _ B1).mono ?_; rintro e w2 ⟨rfl, hb2⟩
  have B2 := Lib.hid (belowT B1 hb2)
  go_wp2_with fail
  go_ret
  exact ⟨rfl, B2.out⟩

set_option maxHeartbeats 4000000 in
set_option maxRecDepth 100000 in
theorem climbs_long (ba : Option Addr) (k cap : Nat) (a : Ai) (n0 n1 n2 : Int) (w : World) (hk : (60 : Int) < k) (_hm : (k : Int) ≤ 9223372036854775807) (RA : Hid (∀ w, Calls Tryd.prog 4 #[av a] w fun e w' => e = .returned (.bool true) ∧ Below w.heap.size w w'))
    (AW : Hid (∀ w', Below w.heap.size w w' → Calls Tryd.prog 5 #[] w' fun e w'' => e = .returned (.bool true) ∧ Below w'.heap.size w' w'')) :
    Calls Tryd.prog 3 #[av a, .slice ba k cap, .agg #[.int .i64 n0, .int .i64 n1, .int .i64 n2]] w fun e w' => e = .returned (.bool true) ∧ Below w.heap.size w w' := by
  go_enter Tryd.func3, Tryd.ntmps3
  go_wp2_with fail
  refine (RA.out _).mono ?_; rintro e w1 ⟨rfl, hb1⟩
  have B1 := belowT (below2 w _ _) hb1
  go_wp2_with fail
  refine (AW.out _ B1).mono ?_; rintro e w2 ⟨rfl, hb2⟩
  have B2 := Lib.hid (belowT B1 hb2)
  go_wp2_with fail
  go_ret
  exact ⟨rfl, B2.out⟩

theorem Climbs31_all {w : World} {ba : Option Addr} {cap : Nat} {l : List Tk} (C : CameTk w ba cap l) (a : Ai) (n0 n1 n2 : Int) (n : NoneAt w) (c : ConeAt w) (ai : AI a) :
    Calls Tryd.prog 3 #[av a, .slice ba l.length cap, .agg #[.int .i64 n0, .int .i64 n1, .int .i64 n2]] w fun e w' => e = .returned (.bool true) ∧ Below w.heap.size w w' := by
  have AW := Lib.hid fun w' (B : Below w.heap.size w w') => awake_any w' (n.keep B) (c.keep B)
  have RA := fun w => RightAir_any a ai w
  have h1 := C.le
  have h2 := C.max
  unfold maxLen at h2
  rcases Bool.eq_false_or_eq_true (rightF a) with hr | hr
  · by_cases h : (60 : Int) < l.length
    · rw [hr] at RA
      exact climbs_long ba l.length cap a n0 n1 n2 w h (by omega) (Lib.hid RA) AW
    · exact climbs_core C a n0 n1 n2 n c ai hr (right_ar hr) h
  · rw [hr] at RA
    exact climbs_wrong ba l.length cap a n0 n1 n2 w (Lib.hid RA) AW
end Go.Proofs.YtkjkmnclnedfhaaDoor
