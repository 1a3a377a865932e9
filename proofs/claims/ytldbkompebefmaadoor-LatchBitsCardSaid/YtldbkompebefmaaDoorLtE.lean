/- The landed latch's Bits, From. -/
import Derived.Test.YtldbkompebefmaaDoorLtA
import Derived.Lib.MinMax
import Derived.Deep.RegionWith
import Derived.Deep.CutBlock
import Derived.Deep.CutRange
import Derived.BigRegion
import Derived.ChangeKeysEq
namespace Go.Proofs.YtldbkompebefmaaDoor
open Go.RowKit Ld Lat


theorem fields_la : (Tryd.prog.fieldsOf 23).toList.map (fun f => (f.name, f.type, f.offset)) = [("Usable", 3, 0), ("Ambig", 4, 1), ("Alt", 3, 2), ("Speed", 3, 3), ("Forgot", 4, 4), ("Nothing", 4, 5)] := by kernel_rfl
theorem la_same (l : La) (w : World) : (Op.equalIn 10000 23 (lv l) (lv l)).run Tryd.prog w = .ok true w := by
  have ht : Tryd.prog.underlying 23 = some (.struct (Tryd.prog.fieldsOf 23)) := by kernel_rfl
  have hp : Tryd.prog.stoodInHeld 23 = false := by kernel_rfl
  simp [go_sem]

theorem la_differ {a b : La} (h : ¬ a = b) (w : World) : (Op.equalIn 10000 23 (lv a) (lv b)).run Tryd.prog w = .ok false w := by
  have ht : Tryd.prog.underlying 23 = some (.struct (Tryd.prog.fieldsOf 23)) := by kernel_rfl
  have hp : Tryd.prog.stoodInHeld 23 = false := by kernel_rfl
  simp [go_sem]
  intro h1 h2 h3 h4 h5 h6
  exact h (la_ext h1 h2 h3 h4 h5 h6)
namespace Lat
/-- The operations of a drawn region, as the translation has them. -/
def ltbits1 : Array Oper := #[
  { dst := some 5, op := .load 23 (.tmp 1), type := 23, pos := "latch.go:62", after := #[], guard := none },
  { dst := some 6, op := .load 23 (.tmp 1), type := 23, pos := "latch.go:62", after := #[], guard := none },
  { dst := some 7, op := .call { callee := .value (.func 34), args := #[.tmp 6], argTypes := #[23] }, type := 23, pos := "latch.go:62", after := #[{ on := 1, ground := .data }], guard := none },
  { dst := some 8, op := .binOp .neq 23 (.tmp 5) (.tmp 7) 23, type := 4, pos := "latch.go:62", after := #[{ on := 0, ground := .data }, { on := 2, ground := .data }], guard := none }]
theorem ltbits1_plain : Region.noSelect ltbits1 = true := by kernel_rfl

set_option maxHeartbeats 8000000 in
set_option maxRecDepth 100000 in
theorem Bits_no (l c : La) (w : World)
    (IR : Hid (∀ w', Below w.heap.size w w' → Calls Tryd.prog 34 #[lv l] w' fun e w'' => e = .returned (lv c) ∧ Below w'.heap.size w' w''))
    (EQ : Hid (∀ w, (Op.equalIn 10000 23 (lv l) (lv c)).run Tryd.prog w = .ok false w))
    : Calls Tryd.prog 17 #[lv l] w fun e w' => e = .returned (.tuple #[.int .i64 0, .int .i64 1]) ∧ Below w.heap.size w w' := by
  have hS1 := (Sp.none w).more [.int .i64 l.u, .bool l.am, .int .i64 l.al, .int .i64 l.sp, .bool l.fo, .bool l.no] 23
  have HS1 := Lib.hid hS1
  clear hS1
  have eq := EQ.out
  clear EQ
  go_enter Tryd.func17, Tryd.ntmps17
  go_upto_region 1 with fail
  obtain ⟨w1, hX, hS⟩ := (HS1.out).named
  rw [← hX]
  clear hX HS1
  have HS2 := Lib.hid hS
  clear hS
  obtain ⟨bs1, hbs⟩ : ∃ bs : List (Nat × List (Option Value)), bs = [(w.heap.size, [some (.int .i64 l.u), some (.bool l.am), some (.int .i64 l.al), some (.int .i64 l.sp), some (.bool l.fo), some (.bool l.no)])] := ⟨_, rfl⟩
  have hT := (HS2.out).cast hbs
  have c0_0 : ∀ w', Sp w bs1 w' → w'.cell? ⟨w.heap.size, 0, none⟩ = some (.int .i64 l.u) := by rw [hbs]; exact fun w' h => h.at 0 rfl 0 rfl
  have c0_1 : ∀ w', Sp w bs1 w' → w'.cell? ⟨w.heap.size, 1, none⟩ = some (.bool l.am) := by rw [hbs]; exact fun w' h => h.at 0 rfl 1 rfl
  have c0_2 : ∀ w', Sp w bs1 w' → w'.cell? ⟨w.heap.size, 2, none⟩ = some (.int .i64 l.al) := by rw [hbs]; exact fun w' h => h.at 0 rfl 2 rfl
  have c0_3 : ∀ w', Sp w bs1 w' → w'.cell? ⟨w.heap.size, 3, none⟩ = some (.int .i64 l.sp) := by rw [hbs]; exact fun w' h => h.at 0 rfl 3 rfl
  have c0_4 : ∀ w', Sp w bs1 w' → w'.cell? ⟨w.heap.size, 4, none⟩ = some (.bool l.fo) := by rw [hbs]; exact fun w' h => h.at 0 rfl 4 rfl
  have c0_5 : ∀ w', Sp w bs1 w' → w'.cell? ⟨w.heap.size, 5, none⟩ = some (.bool l.no) := by rw [hbs]; exact fun w' h => h.at 0 rfl 5 rfl
  have nx : ∀ w', Sp w bs1 w' → Sp w [(w.heap.size, [some (.int .i64 l.u), some (.bool l.am), some (.int .i64 l.al), some (.int .i64 l.sp), some (.bool l.fo), some (.bool l.no)])] w' := by rw [hbs]; exact fun w' h => h
  have kS : ∀ w1 w2, Sp w bs1 w1 → Below w1.heap.size w1 w2 → Sp w bs1 w2 := fun _ _ h hb => h.keep hb
  clear hbs HS2
  change (Code.region 1 ltbits1 true).wp Tryd.prog _ _ _
  refine wp_region_noPanic ?_
  refine wp_region_held_drew (S := (Sp w bs1)) (by kernel_rfl) (hT.drew) (fun hHeld => ?_)
  refine wpAnyH_take (i := 0) (oi := ({ dst := some 5, op := .load 23 (.tmp 1), type := 23, pos := "latch.go:62", after := #[], guard := none } : Oper)) (v := ?vs1_0) rfl ltbits1_plain (by as_aux_lemma => kernel_rfl) (by as_aux_lemma => kernel_rfl) (fun _ _ _ h => h) (Or.inl ⟨by rfl, ?ys1_0⟩) (by assumption) ?rs1_0
  case ys1_0 => (intro w hSw; (try dsimp only at hSw); go_simp; try with_reducible rfl)
  try simp only [Act.put, List.setIfInBounds_toArray, List.set_cons_zero, List.set_cons_succ]
  refine wpAnyH_take (i := 1) (oi := ({ dst := some 6, op := .load 23 (.tmp 1), type := 23, pos := "latch.go:62", after := #[], guard := none } : Oper)) (v := ?vs1_1) rfl ltbits1_plain (by as_aux_lemma => kernel_rfl) (by as_aux_lemma => kernel_rfl) (fun _ _ _ h => h) (Or.inl ⟨by rfl, ?ys1_1⟩) (by assumption) ?rs1_1
  case ys1_1 => (intro w hSw; (try dsimp only at hSw); go_simp; try with_reducible rfl)
  try simp only [Act.put, List.setIfInBounds_toArray, List.set_cons_zero, List.set_cons_succ]
  refine wpAnyH_ready (rs := [2]) (by as_aux_lemma => kernel_rfl) (by simp) ?_
  refine AllReadyH.cons (o := ({ dst := some 7, op := .call { callee := .value (.func 34), args := #[.tmp 6], argTypes := #[23] }, type := 23, pos := "latch.go:62", after := #[{ on := 1, ground := .data }], guard := none } : Oper)) rfl (fun KK hK => ?_) AllReadyH.nil
  rw [if_pos (by rfl)]
  go_simp
  go_at_call 34; refine (IR.out _ (Sp.below (by assumption))).mono ?_; rintro e w2 ⟨rfl, hb2⟩
  go_wp2_with fail
  refine hK.out _ _ ?_ (fun hHeld2 => ?_)
  · exact kS _ _ (by assumption) hb2
  clear hK KK hb2
  try simp only [Act.put, List.setIfInBounds_toArray, List.set_cons_zero, List.set_cons_succ]
  refine wpAnyH_take (i := 3) (oi := ({ dst := some 8, op := .binOp .neq 23 (.tmp 5) (.tmp 7) 23, type := 4, pos := "latch.go:62", after := #[{ on := 0, ground := .data }, { on := 2, ground := .data }], guard := none } : Oper)) (v := ?vs1_3) rfl ltbits1_plain (by as_aux_lemma => kernel_rfl) (by as_aux_lemma => kernel_rfl) (fun _ _ _ h => h) (Or.inl ⟨by rfl, ?ys1_3⟩) (by assumption) ?rs1_3
  case ys1_3 => (intro w hSw; (try dsimp only at hSw); go_simp; try with_reducible rfl)
  try simp only [Act.put, List.setIfInBounds_toArray, List.set_cons_zero, List.set_cons_succ]
  refine wpAnyH_done (by as_aux_lemma => kernel_rfl) ?_ _
  refine NoPanic.normal ?_
  have N1 := nx _ hHeld2
  have HS3 := Lib.hid N1
  clear c0_0 c0_1 c0_2 c0_3 c0_4 c0_5 nx kS hT N1
  clear IR eq
  have BH := Lib.hid HS3.out.below
  go_wp2_with fail
  exact bodyPost_ret (v := .tuple #[.int .i64 0, .int .i64 1]) (by simp [results, Tryd.results17, go_sem, *]) rfl ⟨rfl, BH.out⟩

/-- The operations of a drawn region, as the translation has them. -/
def ltbits4 : Array Oper := #[
  { dst := some 19, op := .move (.tmp 4), type := 3, pos := "latch.go:66", after := #[], guard := none },
  { dst := some 20, op := .fieldAddr 23 (.tmp 1) 1, type := 0, pos := "latch.go:66", after := #[], guard := none },
  { dst := some 21, op := .load 4 (.tmp 20), type := 4, pos := "latch.go:66", after := #[{ on := 1, ground := .data }], guard := none },
  { dst := some 22, op := .call { callee := .value (.func 35), args := #[.tmp 21, .const (.int .i64 128)], argTypes := #[4, 3] }, type := 3, pos := "latch.go:66", after := #[{ on := 2, ground := .data }], guard := none },
  { dst := some 23, op := .binOp .add 3 (.tmp 19) (.tmp 22) 3, type := 3, pos := "latch.go:66", after := #[{ on := 0, ground := .data }, { on := 3, ground := .data }], guard := none },
  { dst := some 24, op := .fieldAddr 23 (.tmp 1) 4, type := 0, pos := "latch.go:66", after := #[], guard := none },
  { dst := some 25, op := .load 4 (.tmp 24), type := 4, pos := "latch.go:66", after := #[{ on := 5, ground := .data }], guard := none },
  { dst := some 26, op := .call { callee := .value (.func 35), args := #[.tmp 25, .const (.int .i64 256)], argTypes := #[4, 3] }, type := 3, pos := "latch.go:66", after := #[{ on := 6, ground := .data }, { on := 3, ground := .chain }], guard := none },
  { dst := some 27, op := .binOp .add 3 (.tmp 23) (.tmp 26) 3, type := 3, pos := "latch.go:66", after := #[{ on := 4, ground := .data }, { on := 7, ground := .data }], guard := none },
  { dst := some 28, op := .fieldAddr 23 (.tmp 1) 5, type := 0, pos := "latch.go:66", after := #[], guard := none },
  { dst := some 29, op := .load 4 (.tmp 28), type := 4, pos := "latch.go:66", after := #[{ on := 9, ground := .data }], guard := none },
  { dst := some 30, op := .call { callee := .value (.func 35), args := #[.tmp 29, .const (.int .i64 512)], argTypes := #[4, 3] }, type := 3, pos := "latch.go:66", after := #[{ on := 10, ground := .data }, { on := 7, ground := .chain }], guard := none },
  { dst := some 31, op := .binOp .add 3 (.tmp 27) (.tmp 30) 3, type := 3, pos := "latch.go:66", after := #[{ on := 8, ground := .data }, { on := 11, ground := .data }], guard := none },
  { dst := some 2, op := .assign (.tmp 31), type := 3, pos := "latch.go:66", after := #[{ on := 12, ground := .data }, { on := 11, ground := .chain }, { on := 0, ground := .phase }, { on := 1, ground := .phase }, { on := 2, ground := .phase }, { on := 3, ground := .phase }, { on := 4, ground := .phase }, { on := 5, ground := .phase }, { on := 6, ground := .phase }, { on := 7, ground := .phase }, { on := 8, ground := .phase }, { on := 9, ground := .phase }, { on := 10, ground := .phase }, { on := 11, ground := .phase }, { on := 12, ground := .phase }], guard := none },
  { dst := some 3, op := .assign (.const (.int .i64 0)), type := 42, pos := "latch.go:66", after := #[{ on := 13, ground := .chain }, { on := 0, ground := .phase }, { on := 1, ground := .phase }, { on := 2, ground := .phase }, { on := 3, ground := .phase }, { on := 4, ground := .phase }, { on := 5, ground := .phase }, { on := 6, ground := .phase }, { on := 7, ground := .phase }, { on := 8, ground := .phase }, { on := 9, ground := .phase }, { on := 10, ground := .phase }, { on := 11, ground := .phase }, { on := 12, ground := .phase }, { on := 13, ground := .phase }], guard := none }]
theorem ltbits4_plain : Region.noSelect ltbits4 = true := by kernel_rfl

set_option maxHeartbeats 16000000 in
set_option maxRecDepth 100000 in
theorem Bits_ok (l c : La) (a8 s1 b32 n0 f1 f2 f3 n1 n2 n3 : Int) (w : World)
    (IR : Hid (∀ w', Below w.heap.size w w' → Calls Tryd.prog 34 #[lv l] w' fun e w'' => e = .returned (lv c) ∧ Below w'.heap.size w' w''))
    (EQ : Hid (∀ w, (Op.equalIn 10000 23 (lv l) (lv c)).run Tryd.prog w = .ok true w))
    (H1 : Hid (IntKind.i64.wrap (8 * l.al) = a8))
    (H2 : Hid (IntKind.i64.wrap (l.u + a8) = s1))
    (H3 : Hid (IntKind.i64.wrap (32 * l.sp) = b32))
    (H4 : Hid (IntKind.i64.wrap (s1 + b32) = n0))
    (H5 : Hid (IntKind.i64.wrap (n0 + f1) = n1))
    (H6 : Hid (IntKind.i64.wrap (n1 + f2) = n2))
    (H7 : Hid (IntKind.i64.wrap (n2 + f3) = n3))
    (F1 : Hid (∀ w', Below w.heap.size w w' → Calls Tryd.prog 35 #[.bool l.am, .int .i64 128] w' fun e w'' => e = .returned (.int .i64 f1) ∧ Below w'.heap.size w' w''))
    (F2 : Hid (∀ w', Below w.heap.size w w' → Calls Tryd.prog 35 #[.bool l.fo, .int .i64 256] w' fun e w'' => e = .returned (.int .i64 f2) ∧ Below w'.heap.size w' w''))
    (F3 : Hid (∀ w', Below w.heap.size w w' → Calls Tryd.prog 35 #[.bool l.no, .int .i64 512] w' fun e w'' => e = .returned (.int .i64 f3) ∧ Below w'.heap.size w' w''))
    : Calls Tryd.prog 17 #[lv l] w fun e w' => e = .returned (.tuple #[.int .i64 n3, .int .i64 0]) ∧ Below w.heap.size w w' := by
  have hS1 := (Sp.none w).more [.int .i64 l.u, .bool l.am, .int .i64 l.al, .int .i64 l.sp, .bool l.fo, .bool l.no] 23
  have HS1 := Lib.hid hS1
  clear hS1
  have eq := EQ.out
  clear EQ
  go_enter Tryd.func17, Tryd.ntmps17
  go_upto_region 1 with fail
  obtain ⟨w1, hX, hS⟩ := (HS1.out).named
  rw [← hX]
  clear hX HS1
  have HS2 := Lib.hid hS
  clear hS
  obtain ⟨bs1, hbs⟩ : ∃ bs : List (Nat × List (Option Value)), bs = [(w.heap.size, [some (.int .i64 l.u), some (.bool l.am), some (.int .i64 l.al), some (.int .i64 l.sp), some (.bool l.fo), some (.bool l.no)])] := ⟨_, rfl⟩
  have hT := (HS2.out).cast hbs
  have c0_0 : ∀ w', Sp w bs1 w' → w'.cell? ⟨w.heap.size, 0, none⟩ = some (.int .i64 l.u) := by rw [hbs]; exact fun w' h => h.at 0 rfl 0 rfl
  have c0_1 : ∀ w', Sp w bs1 w' → w'.cell? ⟨w.heap.size, 1, none⟩ = some (.bool l.am) := by rw [hbs]; exact fun w' h => h.at 0 rfl 1 rfl
  have c0_2 : ∀ w', Sp w bs1 w' → w'.cell? ⟨w.heap.size, 2, none⟩ = some (.int .i64 l.al) := by rw [hbs]; exact fun w' h => h.at 0 rfl 2 rfl
  have c0_3 : ∀ w', Sp w bs1 w' → w'.cell? ⟨w.heap.size, 3, none⟩ = some (.int .i64 l.sp) := by rw [hbs]; exact fun w' h => h.at 0 rfl 3 rfl
  have c0_4 : ∀ w', Sp w bs1 w' → w'.cell? ⟨w.heap.size, 4, none⟩ = some (.bool l.fo) := by rw [hbs]; exact fun w' h => h.at 0 rfl 4 rfl
  have c0_5 : ∀ w', Sp w bs1 w' → w'.cell? ⟨w.heap.size, 5, none⟩ = some (.bool l.no) := by rw [hbs]; exact fun w' h => h.at 0 rfl 5 rfl
  have nx : ∀ w', Sp w bs1 w' → Sp w [(w.heap.size, [some (.int .i64 l.u), some (.bool l.am), some (.int .i64 l.al), some (.int .i64 l.sp), some (.bool l.fo), some (.bool l.no)])] w' := by rw [hbs]; exact fun w' h => h
  have kS : ∀ w1 w2, Sp w bs1 w1 → Below w1.heap.size w1 w2 → Sp w bs1 w2 := fun _ _ h hb => h.keep hb
  clear hbs HS2
  change (Code.region 1 ltbits1 true).wp Tryd.prog _ _ _
  refine wp_region_noPanic ?_
  refine wp_region_held_drew (S := (Sp w bs1)) (by kernel_rfl) (hT.drew) (fun hHeld => ?_)
  refine wpAnyH_take (i := 0) (oi := ({ dst := some 5, op := .load 23 (.tmp 1), type := 23, pos := "latch.go:62", after := #[], guard := none } : Oper)) (v := ?vs2_0) rfl ltbits1_plain (by as_aux_lemma => kernel_rfl) (by as_aux_lemma => kernel_rfl) (fun _ _ _ h => h) (Or.inl ⟨by rfl, ?ys2_0⟩) (by assumption) ?rs2_0
  case ys2_0 => (intro w hSw; (try dsimp only at hSw); go_simp; try with_reducible rfl)
  try simp only [Act.put, List.setIfInBounds_toArray, List.set_cons_zero, List.set_cons_succ]
  refine wpAnyH_take (i := 1) (oi := ({ dst := some 6, op := .load 23 (.tmp 1), type := 23, pos := "latch.go:62", after := #[], guard := none } : Oper)) (v := ?vs2_1) rfl ltbits1_plain (by as_aux_lemma => kernel_rfl) (by as_aux_lemma => kernel_rfl) (fun _ _ _ h => h) (Or.inl ⟨by rfl, ?ys2_1⟩) (by assumption) ?rs2_1
  case ys2_1 => (intro w hSw; (try dsimp only at hSw); go_simp; try with_reducible rfl)
  try simp only [Act.put, List.setIfInBounds_toArray, List.set_cons_zero, List.set_cons_succ]
  refine wpAnyH_ready (rs := [2]) (by as_aux_lemma => kernel_rfl) (by simp) ?_
  refine AllReadyH.cons (o := ({ dst := some 7, op := .call { callee := .value (.func 34), args := #[.tmp 6], argTypes := #[23] }, type := 23, pos := "latch.go:62", after := #[{ on := 1, ground := .data }], guard := none } : Oper)) rfl (fun KK hK => ?_) AllReadyH.nil
  rw [if_pos (by rfl)]
  go_simp
  go_at_call 34; refine (IR.out _ (Sp.below (by assumption))).mono ?_; rintro e w2 ⟨rfl, hb2⟩
  go_wp2_with fail
  refine hK.out _ _ ?_ (fun hHeld2 => ?_)
  · exact kS _ _ (by assumption) hb2
  clear hK KK hb2
  try simp only [Act.put, List.setIfInBounds_toArray, List.set_cons_zero, List.set_cons_succ]
  refine wpAnyH_take (i := 3) (oi := ({ dst := some 8, op := .binOp .neq 23 (.tmp 5) (.tmp 7) 23, type := 4, pos := "latch.go:62", after := #[{ on := 0, ground := .data }, { on := 2, ground := .data }], guard := none } : Oper)) (v := ?vs2_3) rfl ltbits1_plain (by as_aux_lemma => kernel_rfl) (by as_aux_lemma => kernel_rfl) (fun _ _ _ h => h) (Or.inl ⟨by rfl, ?ys2_3⟩) (by assumption) ?rs2_3
  case ys2_3 => (intro w hSw; (try dsimp only at hSw); go_simp; try with_reducible rfl)
  try simp only [Act.put, List.setIfInBounds_toArray, List.set_cons_zero, List.set_cons_succ]
  refine wpAnyH_done (by as_aux_lemma => kernel_rfl) ?_ _
  refine NoPanic.normal ?_
  have N1 := nx _ hHeld2
  have HS3 := Lib.hid N1
  clear c0_0 c0_1 c0_2 c0_3 c0_4 c0_5 nx kS hT N1
  clear IR eq
  have h1 := H1.out
  have h2 := H2.out
  have h3 := H3.out
  have h4 := H4.out
  clear H1 H2 H3 H4
  have k0_0 := (HS3.out).at 0 rfl 0 (v := .int .i64 l.u) rfl
  have k0_2 := (HS3.out).at 0 rfl 2 (v := .int .i64 l.al) rfl
  have k0_3 := (HS3.out).at 0 rfl 3 (v := .int .i64 l.sp) rfl
  go_upto_region 4 with fail
  clear h1 h2 h3 h4 k0_0 k0_2 k0_3
  have h5 := H5.out
  have h6 := H6.out
  have h7 := H7.out
  clear H5 H6 H7
  obtain ⟨bs2, hbs⟩ : ∃ bs : List (Nat × List (Option Value)), bs = [(w.heap.size, [some (.int .i64 l.u), some (.bool l.am), some (.int .i64 l.al), some (.int .i64 l.sp), some (.bool l.fo), some (.bool l.no)])] := ⟨_, rfl⟩
  have hT := (HS3.out).cast hbs
  have c0_1 : ∀ w', Sp w bs2 w' → w'.cell? ⟨w.heap.size, 1, none⟩ = some (.bool l.am) := by rw [hbs]; exact fun w' h => h.at 0 rfl 1 rfl
  have c0_4 : ∀ w', Sp w bs2 w' → w'.cell? ⟨w.heap.size, 4, none⟩ = some (.bool l.fo) := by rw [hbs]; exact fun w' h => h.at 0 rfl 4 rfl
  have c0_5 : ∀ w', Sp w bs2 w' → w'.cell? ⟨w.heap.size, 5, none⟩ = some (.bool l.no) := by rw [hbs]; exact fun w' h => h.at 0 rfl 5 rfl
  have nx : ∀ w', Sp w bs2 w' → Sp w [(w.heap.size, [some (.int .i64 l.u), some (.bool l.am), some (.int .i64 l.al), some (.int .i64 l.sp), some (.bool l.fo), some (.bool l.no)])] w' := by rw [hbs]; exact fun w' h => h
  have kS : ∀ w1 w2, Sp w bs2 w1 → Below w1.heap.size w1 w2 → Sp w bs2 w2 := fun _ _ h hb => h.keep hb
  clear hbs HS3
  change (Code.region 4 ltbits4 true).wp Tryd.prog _ _ _
  refine wp_region_noPanic ?_
  refine wp_region_held_drew (S := (Sp w bs2)) (by kernel_rfl) (hT.drew) (fun hHeld => ?_)
  refine wpAnyH_take (i := 0) (oi := ({ dst := some 19, op := .move (.tmp 4), type := 3, pos := "latch.go:66", after := #[], guard := none } : Oper)) (v := ?vs3_0) rfl ltbits4_plain (by as_aux_lemma => kernel_rfl) (by as_aux_lemma => kernel_rfl) (fun _ _ _ h => h) (Or.inl ⟨by rfl, ?ys3_0⟩) (by assumption) ?rs3_0
  case ys3_0 => (intro w hSw; (try dsimp only at hSw); go_simp; try with_reducible rfl)
  try simp only [Act.put, List.setIfInBounds_toArray, List.set_cons_zero, List.set_cons_succ]
  refine wpAnyH_take (i := 1) (oi := ({ dst := some 20, op := .fieldAddr 23 (.tmp 1) 1, type := 0, pos := "latch.go:66", after := #[], guard := none } : Oper)) (v := ?vs3_1) rfl ltbits4_plain (by as_aux_lemma => kernel_rfl) (by as_aux_lemma => kernel_rfl) (fun _ _ _ h => h) (Or.inl ⟨by rfl, ?ys3_1⟩) (by assumption) ?rs3_1
  case ys3_1 => (intro w hSw; (try dsimp only at hSw); go_simp; try with_reducible rfl)
  try simp only [Act.put, List.setIfInBounds_toArray, List.set_cons_zero, List.set_cons_succ]
  refine wpAnyH_take (i := 2) (oi := ({ dst := some 21, op := .load 4 (.tmp 20), type := 4, pos := "latch.go:66", after := #[{ on := 1, ground := .data }], guard := none } : Oper)) (v := ?vs3_2) rfl ltbits4_plain (by as_aux_lemma => kernel_rfl) (by as_aux_lemma => kernel_rfl) (fun _ _ _ h => h) (Or.inl ⟨by rfl, ?ys3_2⟩) (by assumption) ?rs3_2
  case ys3_2 => (intro w hSw; (try dsimp only at hSw); go_simp; try with_reducible rfl)
  try simp only [Act.put, List.setIfInBounds_toArray, List.set_cons_zero, List.set_cons_succ]
  refine wpAnyH_take (i := 5) (oi := ({ dst := some 24, op := .fieldAddr 23 (.tmp 1) 4, type := 0, pos := "latch.go:66", after := #[], guard := none } : Oper)) (v := ?vs3_5) rfl ltbits4_plain (by as_aux_lemma => kernel_rfl) (by as_aux_lemma => kernel_rfl) (fun _ _ _ h => h) (Or.inl ⟨by rfl, ?ys3_5⟩) (by assumption) ?rs3_5
  case ys3_5 => (intro w hSw; (try dsimp only at hSw); go_simp; try with_reducible rfl)
  try simp only [Act.put, List.setIfInBounds_toArray, List.set_cons_zero, List.set_cons_succ]
  refine wpAnyH_take (i := 6) (oi := ({ dst := some 25, op := .load 4 (.tmp 24), type := 4, pos := "latch.go:66", after := #[{ on := 5, ground := .data }], guard := none } : Oper)) (v := ?vs3_6) rfl ltbits4_plain (by as_aux_lemma => kernel_rfl) (by as_aux_lemma => kernel_rfl) (fun _ _ _ h => h) (Or.inl ⟨by rfl, ?ys3_6⟩) (by assumption) ?rs3_6
  case ys3_6 => (intro w hSw; (try dsimp only at hSw); go_simp; try with_reducible rfl)
  try simp only [Act.put, List.setIfInBounds_toArray, List.set_cons_zero, List.set_cons_succ]
  refine wpAnyH_take (i := 9) (oi := ({ dst := some 28, op := .fieldAddr 23 (.tmp 1) 5, type := 0, pos := "latch.go:66", after := #[], guard := none } : Oper)) (v := ?vs3_9) rfl ltbits4_plain (by as_aux_lemma => kernel_rfl) (by as_aux_lemma => kernel_rfl) (fun _ _ _ h => h) (Or.inl ⟨by rfl, ?ys3_9⟩) (by assumption) ?rs3_9
  case ys3_9 => (intro w hSw; (try dsimp only at hSw); go_simp; try with_reducible rfl)
  try simp only [Act.put, List.setIfInBounds_toArray, List.set_cons_zero, List.set_cons_succ]
  refine wpAnyH_take (i := 10) (oi := ({ dst := some 29, op := .load 4 (.tmp 28), type := 4, pos := "latch.go:66", after := #[{ on := 9, ground := .data }], guard := none } : Oper)) (v := ?vs3_10) rfl ltbits4_plain (by as_aux_lemma => kernel_rfl) (by as_aux_lemma => kernel_rfl) (fun _ _ _ h => h) (Or.inl ⟨by rfl, ?ys3_10⟩) (by assumption) ?rs3_10
  case ys3_10 => (intro w hSw; (try dsimp only at hSw); go_simp; try with_reducible rfl)
  try simp only [Act.put, List.setIfInBounds_toArray, List.set_cons_zero, List.set_cons_succ]
  refine wpAnyH_ready (rs := [3]) (by as_aux_lemma => kernel_rfl) (by simp) ?_
  refine AllReadyH.cons (o := ({ dst := some 22, op := .call { callee := .value (.func 35), args := #[.tmp 21, .const (.int .i64 128)], argTypes := #[4, 3] }, type := 3, pos := "latch.go:66", after := #[{ on := 2, ground := .data }], guard := none } : Oper)) rfl (fun KK hK => ?_) AllReadyH.nil
  rw [if_pos (by rfl)]
  go_simp
  go_at_call 35; refine (F1.out _ (Sp.below (by assumption))).mono ?_; rintro e w3 ⟨rfl, hb3⟩
  go_wp2_with fail
  refine hK.out _ _ ?_ (fun hHeld3 => ?_)
  · exact kS _ _ (by assumption) hb3
  clear hK KK hb3
  try simp only [Act.put, List.setIfInBounds_toArray, List.set_cons_zero, List.set_cons_succ]
  refine wpAnyH_take (i := 4) (oi := ({ dst := some 23, op := .binOp .add 3 (.tmp 19) (.tmp 22) 3, type := 3, pos := "latch.go:66", after := #[{ on := 0, ground := .data }, { on := 3, ground := .data }], guard := none } : Oper)) (v := ?vs3_4) rfl ltbits4_plain (by as_aux_lemma => kernel_rfl) (by as_aux_lemma => kernel_rfl) (fun _ _ _ h => h) (Or.inl ⟨by rfl, ?ys3_4⟩) (by assumption) ?rs3_4
  case ys3_4 => (intro w hSw; (try dsimp only at hSw); go_simp; try with_reducible rfl)
  try simp only [Act.put, List.setIfInBounds_toArray, List.set_cons_zero, List.set_cons_succ]
  refine wpAnyH_ready (rs := [7]) (by as_aux_lemma => kernel_rfl) (by simp) ?_
  refine AllReadyH.cons (o := ({ dst := some 26, op := .call { callee := .value (.func 35), args := #[.tmp 25, .const (.int .i64 256)], argTypes := #[4, 3] }, type := 3, pos := "latch.go:66", after := #[{ on := 6, ground := .data }, { on := 3, ground := .chain }], guard := none } : Oper)) rfl (fun KK hK => ?_) AllReadyH.nil
  rw [if_pos (by rfl)]
  go_simp
  go_at_call 35; refine (F2.out _ (Sp.below (by assumption))).mono ?_; rintro e w4 ⟨rfl, hb4⟩
  go_wp2_with fail
  refine hK.out _ _ ?_ (fun hHeld4 => ?_)
  · exact kS _ _ (by assumption) hb4
  clear hK KK hb4 hHeld3
  try simp only [Act.put, List.setIfInBounds_toArray, List.set_cons_zero, List.set_cons_succ]
  refine wpAnyH_take (i := 8) (oi := ({ dst := some 27, op := .binOp .add 3 (.tmp 23) (.tmp 26) 3, type := 3, pos := "latch.go:66", after := #[{ on := 4, ground := .data }, { on := 7, ground := .data }], guard := none } : Oper)) (v := ?vs3_8) rfl ltbits4_plain (by as_aux_lemma => kernel_rfl) (by as_aux_lemma => kernel_rfl) (fun _ _ _ h => h) (Or.inl ⟨by rfl, ?ys3_8⟩) (by assumption) ?rs3_8
  case ys3_8 => (intro w hSw; (try dsimp only at hSw); go_simp; try with_reducible rfl)
  try simp only [Act.put, List.setIfInBounds_toArray, List.set_cons_zero, List.set_cons_succ]
  refine wpAnyH_ready (rs := [11]) (by as_aux_lemma => kernel_rfl) (by simp) ?_
  refine AllReadyH.cons (o := ({ dst := some 30, op := .call { callee := .value (.func 35), args := #[.tmp 29, .const (.int .i64 512)], argTypes := #[4, 3] }, type := 3, pos := "latch.go:66", after := #[{ on := 10, ground := .data }, { on := 7, ground := .chain }], guard := none } : Oper)) rfl (fun KK hK => ?_) AllReadyH.nil
  rw [if_pos (by rfl)]
  go_simp
  go_at_call 35; refine (F3.out _ (Sp.below (by assumption))).mono ?_; rintro e w5 ⟨rfl, hb5⟩
  go_wp2_with fail
  refine hK.out _ _ ?_ (fun hHeld5 => ?_)
  · exact kS _ _ (by assumption) hb5
  clear hK KK hb5 hHeld4
  try simp only [Act.put, List.setIfInBounds_toArray, List.set_cons_zero, List.set_cons_succ]
  refine wpAnyH_take (i := 12) (oi := ({ dst := some 31, op := .binOp .add 3 (.tmp 27) (.tmp 30) 3, type := 3, pos := "latch.go:66", after := #[{ on := 8, ground := .data }, { on := 11, ground := .data }], guard := none } : Oper)) (v := ?vs3_12) rfl ltbits4_plain (by as_aux_lemma => kernel_rfl) (by as_aux_lemma => kernel_rfl) (fun _ _ _ h => h) (Or.inl ⟨by rfl, ?ys3_12⟩) (by assumption) ?rs3_12
  case ys3_12 => (intro w hSw; (try dsimp only at hSw); go_simp; try with_reducible rfl)
  try simp only [Act.put, List.setIfInBounds_toArray, List.set_cons_zero, List.set_cons_succ]
  refine wpAnyH_take (i := 13) (oi := ({ dst := some 2, op := .assign (.tmp 31), type := 3, pos := "latch.go:66", after := #[{ on := 12, ground := .data }, { on := 11, ground := .chain }, { on := 0, ground := .phase }, { on := 1, ground := .phase }, { on := 2, ground := .phase }, { on := 3, ground := .phase }, { on := 4, ground := .phase }, { on := 5, ground := .phase }, { on := 6, ground := .phase }, { on := 7, ground := .phase }, { on := 8, ground := .phase }, { on := 9, ground := .phase }, { on := 10, ground := .phase }, { on := 11, ground := .phase }, { on := 12, ground := .phase }], guard := none } : Oper)) (v := ?vs3_13) rfl ltbits4_plain (by as_aux_lemma => kernel_rfl) (by as_aux_lemma => kernel_rfl) (fun _ _ _ h => h) (Or.inl ⟨by rfl, ?ys3_13⟩) (by assumption) ?rs3_13
  case ys3_13 => (intro w hSw; (try dsimp only at hSw); go_simp; try with_reducible rfl)
  try simp only [Act.put, List.setIfInBounds_toArray, List.set_cons_zero, List.set_cons_succ]
  refine wpAnyH_take (i := 14) (oi := ({ dst := some 3, op := .assign (.const (.int .i64 0)), type := 42, pos := "latch.go:66", after := #[{ on := 13, ground := .chain }, { on := 0, ground := .phase }, { on := 1, ground := .phase }, { on := 2, ground := .phase }, { on := 3, ground := .phase }, { on := 4, ground := .phase }, { on := 5, ground := .phase }, { on := 6, ground := .phase }, { on := 7, ground := .phase }, { on := 8, ground := .phase }, { on := 9, ground := .phase }, { on := 10, ground := .phase }, { on := 11, ground := .phase }, { on := 12, ground := .phase }, { on := 13, ground := .phase }], guard := none } : Oper)) (v := ?vs3_14) rfl ltbits4_plain (by as_aux_lemma => kernel_rfl) (by as_aux_lemma => kernel_rfl) (fun _ _ _ h => h) (Or.inl ⟨by rfl, ?ys3_14⟩) (by assumption) ?rs3_14
  case ys3_14 => (intro w hSw; (try dsimp only at hSw); go_simp; try with_reducible rfl)
  try simp only [Act.put, List.setIfInBounds_toArray, List.set_cons_zero, List.set_cons_succ]
  refine wpAnyH_done (by as_aux_lemma => kernel_rfl) ?_ _
  refine NoPanic.normal ?_
  have N1 := nx _ hHeld5
  have HS4 := Lib.hid N1
  clear c0_1 c0_4 c0_5 nx kS hT N1
  have BH := Lib.hid HS4.out.below
  go_wp2_with fail
  exact bodyPost_ret (v := .tuple #[.int .i64 n3, .int .i64 0]) (by simp [results, Tryd.results17, go_sem, *]) rfl ⟨rfl, BH.out⟩

theorem Bits_any (l : La) (w : World) : Calls Tryd.prog 17 #[lv l] w fun e w' => e = .returned (.tuple #[.int .i64 (bitsN l), .int .i64 (bitsE l)]) ∧ Below w.heap.size w w' := by
  by_cases h : Room l
  · have e : bitsN l = l.u + 8 * l.al + 32 * l.sp + fl l.am 128 + fl l.fo 256 + fl l.no 512 := if_pos h
    have hr := bitsN_room l
    have c1 := fl_cases l.am 128
    have c2 := fl_cases l.fo 256
    have c3 := fl_cases l.no 512
    rw [bitsE_ok h, e]
    rw [e] at hr
    have hc := (cut_room l).1 h
    obtain ⟨h1, h2, h3, h4, h5, h6⟩ := h
    exact Bits_ok l (cut l) (8 * l.al) (l.u + 8 * l.al) (32 * l.sp) (l.u + 8 * l.al + 32 * l.sp) (fl l.am 128) (fl l.fo 256) (fl l.no 512) (l.u + 8 * l.al + 32 * l.sp + fl l.am 128) (l.u + 8 * l.al + 32 * l.sp + fl l.am 128 + fl l.fo 256) _ w (Lib.hid fun w' _ => inRoom_any l w') (Lib.hid (by rw [← hc]; exact la_same l))
      (Lib.hid ((wrap_i64 _).trans (by omega))) (Lib.hid ((wrap_i64 _).trans (by omega))) (Lib.hid ((wrap_i64 _).trans (by omega))) (Lib.hid ((wrap_i64 _).trans (by omega))) (Lib.hid ((wrap_i64 _).trans (by omega))) (Lib.hid ((wrap_i64 _).trans (by omega))) (Lib.hid ((wrap_i64 _).trans (by omega)))
      (Lib.hid fun w' _ => flag_any _ _ w') (Lib.hid fun w' _ => flag_any _ _ w') (Lib.hid fun w' _ => flag_any _ _ w')
  · rw [bitsE_no h, show bitsN l = 0 from if_neg h]
    exact Bits_no l (cut l) w (Lib.hid fun w' _ => inRoom_any l w') (Lib.hid (la_differ fun k => h ((cut_room l).2 k)))

end Lat
end Go.Proofs.YtldbkompebefmaaDoor
