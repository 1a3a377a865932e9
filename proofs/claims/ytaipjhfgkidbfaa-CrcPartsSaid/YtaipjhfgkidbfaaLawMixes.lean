/- CrcMixes: the walk, over contracts. -/
import Derived.Test.YtaipjhfgkidbfaaBufOwn
import Derived.Test.YtaipjhfgkidbfaaCrcRefA
import Derived.Test.YtaipjhfgkidbfaaRebase
import Derived.Deep.CutBlock
import Derived.Deep.CutRange
import Derived.Lib.MinMax
namespace Go.Proofs.Ytaipjhfgkidbfaa
open Go.RowKit

/-- the first j bytes of two texts, mixed -/
def mixF (a b : List UInt8) (j : Nat) : List UInt8 := (List.range j).map fun i => a.getD i 0 ^^^ b.getD i 0
theorem mixF_length (a b : List UInt8) (j : Nat) : (mixF a b j).length = j := by simp [mixF]
theorem mixF_succ (a b : List UInt8) (j : Nat) : mixF a b (j + 1) = mixF a b j ++ [a.getD j 0 ^^^ b.getD j 0] := by simp [mixF, List.range_succ]
/-- The operations of a drawn region, as the translation has them. -/
def mixes8 : Array Oper := #[
  { dst := some 24, op := .move (.tmp 8), type := 23, pos := "law.go:41", after := #[], guard := none },
  { dst := some 25, op := .move (.tmp 0), type := 23, pos := "law.go:41", after := #[], guard := none },
  { dst := some 26, op := .move (.tmp 9), type := 3, pos := "law.go:41", after := #[], guard := none },
  { dst := some 27, op := .indexAddr 23 (.tmp 25) (.tmp 26), type := 0, pos := "law.go:41", after := #[{ on := 1, ground := .data }, { on := 2, ground := .data }], guard := none },
  { dst := some 28, op := .load 5 (.tmp 27), type := 5, pos := "law.go:41", after := #[{ on := 3, ground := .data }], guard := none },
  { dst := some 29, op := .move (.tmp 1), type := 23, pos := "law.go:41", after := #[], guard := none },
  { dst := some 30, op := .move (.tmp 9), type := 3, pos := "law.go:41", after := #[], guard := none },
  { dst := some 31, op := .indexAddr 23 (.tmp 29) (.tmp 30), type := 0, pos := "law.go:41", after := #[{ on := 5, ground := .data }, { on := 6, ground := .data }], guard := none },
  { dst := some 32, op := .load 5 (.tmp 31), type := 5, pos := "law.go:41", after := #[{ on := 7, ground := .data }], guard := none },
  { dst := some 33, op := .binOp .xor 5 (.tmp 28) (.tmp 32) 5, type := 5, pos := "law.go:41", after := #[{ on := 4, ground := .data }, { on := 8, ground := .data }], guard := none },
  { dst := some 34, op := .buildSlice 23 1 #[(0, .tmp 33)], type := 23, pos := "law.go:41", after := #[{ on := 9, ground := .data }], guard := none },
  { dst := some 35, op := .call { callee := .builtin .append, args := #[.tmp 24, .tmp 34], argTypes := #[23, 23] }, type := 23, pos := "law.go:41", after := #[{ on := 0, ground := .data }, { on := 10, ground := .data }], guard := none },
  { dst := some 8, op := .assign (.tmp 35), type := 23, pos := "law.go:41", after := #[{ on := 11, ground := .data }, { on := 11, ground := .chain }, { on := 0, ground := .phase }, { on := 1, ground := .phase }, { on := 2, ground := .phase }, { on := 3, ground := .phase }, { on := 4, ground := .phase }, { on := 5, ground := .phase }, { on := 6, ground := .phase }, { on := 7, ground := .phase }, { on := 8, ground := .phase }, { on := 9, ground := .phase }, { on := 10, ground := .phase }, { on := 11, ground := .phase }], guard := none }]
theorem mixes8_plain : Region.noSelect mixes8 = true := by kernel_rfl

/-- The operations of a drawn region, as the translation has them. -/
def mixes10 : Array Oper := #[
  { dst := some 37, op := .move (.tmp 0), type := 23, pos := "law.go:43", after := #[], guard := none },
  { dst := some 38, op := .move (.tmp 7), type := 3, pos := "law.go:43", after := #[], guard := none },
  { dst := some 39, op := .slice 23 (.tmp 37) none (some (.tmp 38)) none, type := 23, pos := "law.go:43", after := #[{ on := 0, ground := .data }, { on := 1, ground := .data }], guard := none },
  { dst := some 40, op := .call { callee := .value (.func 15), args := #[.tmp 39], argTypes := #[23] }, type := 22, pos := "law.go:43", after := #[{ on := 2, ground := .data }], guard := none },
  { dst := some 41, op := .move (.tmp 1), type := 23, pos := "law.go:43", after := #[], guard := none },
  { dst := some 42, op := .move (.tmp 7), type := 3, pos := "law.go:43", after := #[], guard := none },
  { dst := some 43, op := .slice 23 (.tmp 41) none (some (.tmp 42)) none, type := 23, pos := "law.go:43", after := #[{ on := 4, ground := .data }, { on := 5, ground := .data }], guard := none },
  { dst := some 44, op := .call { callee := .value (.func 15), args := #[.tmp 43], argTypes := #[23] }, type := 22, pos := "law.go:43", after := #[{ on := 6, ground := .data }, { on := 3, ground := .chain }], guard := none },
  { dst := some 45, op := .binOp .xor 22 (.tmp 40) (.tmp 44) 22, type := 22, pos := "law.go:43", after := #[{ on := 3, ground := .data }, { on := 7, ground := .data }], guard := none },
  { dst := some 46, op := .move (.tmp 8), type := 23, pos := "law.go:43", after := #[], guard := none },
  { dst := some 47, op := .call { callee := .value (.func 13), args := #[.const (.int .u16 0), .tmp 46], argTypes := #[22, 23] }, type := 22, pos := "law.go:43", after := #[{ on := 9, ground := .data }, { on := 7, ground := .chain }], guard := none },
  { dst := some 48, op := .binOp .neq 22 (.tmp 45) (.tmp 47) 22, type := 4, pos := "law.go:43", after := #[{ on := 8, ground := .data }, { on := 10, ground := .data }], guard := none }]
theorem mixes10_plain : Region.noSelect mixes10 = true := by kernel_rfl

/-- The operations of a drawn region, as the translation has them. -/
def mixes17 : Array Oper := #[
  { dst := some 75, op := .move (.tmp 11), type := 23, pos := "law.go:52", after := #[], guard := none },
  { dst := some 76, op := .call { callee := .value (.func 15), args := #[.tmp 75], argTypes := #[23] }, type := 22, pos := "law.go:52", after := #[{ on := 0, ground := .data }], guard := none },
  { dst := some 77, op := .move (.tmp 0), type := 23, pos := "law.go:52", after := #[], guard := none },
  { dst := some 78, op := .move (.tmp 7), type := 3, pos := "law.go:52", after := #[], guard := none },
  { dst := some 79, op := .slice 23 (.tmp 77) none (some (.tmp 78)) none, type := 23, pos := "law.go:52", after := #[{ on := 2, ground := .data }, { on := 3, ground := .data }], guard := none },
  { dst := some 80, op := .call { callee := .value (.func 15), args := #[.tmp 79], argTypes := #[23] }, type := 22, pos := "law.go:52", after := #[{ on := 4, ground := .data }, { on := 1, ground := .chain }], guard := none },
  { dst := some 81, op := .binOp .neq 22 (.tmp 76) (.tmp 80) 22, type := 4, pos := "law.go:52", after := #[{ on := 1, ground := .data }, { on := 5, ground := .data }], guard := none },
  { dst := some 82, op := .move (.tmp 81), type := 4, pos := "law.go:52", after := #[{ on := 6, ground := .data }, { on := 5, ground := .chain }], guard := none },
  { dst := some 83, op := .call { callee := .value (.func 8), args := #[], argTypes := #[] }, type := 4, pos := "law.go:52", after := #[{ on := 7, ground := .chain }, { on := 7, ground := .guard }], guard := some (7, true) },
  { dst := some 84, op := .pick (.tmp 82) (.tmp 83) (.const (.bool false)), type := 4, pos := "law.go:52", after := #[{ on := 7, ground := .data }, { on := 8, ground := .data }], guard := none },
  { dst := some 6, op := .assign (.tmp 84), type := 4, pos := "law.go:52", after := #[{ on := 9, ground := .data }, { on := 8, ground := .chain }, { on := 0, ground := .phase }, { on := 1, ground := .phase }, { on := 2, ground := .phase }, { on := 3, ground := .phase }, { on := 4, ground := .phase }, { on := 5, ground := .phase }, { on := 6, ground := .phase }, { on := 7, ground := .phase }, { on := 8, ground := .phase }, { on := 9, ground := .phase }], guard := none }]
theorem mixes17_plain : Region.noSelect mixes17 = true := by kernel_rfl


set_option maxHeartbeats 4000000 in
set_option maxRecDepth 100000 in
theorem mixes_long (ba bb : Option Addr) (la ca lb cb : Nat) (n : Nat) (k : Int) (w : World) (hn : min (la : Int) lb = (n : Int)) (hl : (1000 : Int) < n)
    (AW : Hid (∀ w, Calls Try.prog 8 #[] w fun e w' => e = .returned (.bool true) ∧ Below w.heap.size w w')) :
    Calls Try.prog 5 #[.slice ba la ca, .slice bb lb cb, .int .i64 k] w fun e w' => e = .returned (.bool true) ∧ Below w.heap.size w w' := by
  go_enter Try.func5, Try.ntmps5
  go_wp2_with fail
  refine (AW.out _).mono ?_; rintro e w1 ⟨rfl, hb1⟩
  go_wp2_with fail
  go_ret
  exact ⟨rfl, hb1⟩

set_option maxHeartbeats 8000000 in
set_option maxRecDepth 100000 in
theorem mixes_core (ba bb : Option Addr) (ca cb : Nat) (a b lm la lc : List UInt8) (n : Nat) (at_ : Int) (sa sb sc : BitVec 16) (k q r mm : Nat) (yb : UInt8) (w : World) (CA : Came w ba ca a) (CB : Came w bb cb b) (hn : min (a.length : Int) b.length = (n : Int)) (hl : (n : Int) ≤ 1000)
    (hlm : mixF a b n = lm) (hla : a.take n = la)
    (OA : Hid (∀ w', Below w.heap.size w w' → Calls Try.prog 15 #[.slice ba n ca] w' fun e w'' => e = .returned (.int .u16 (sa.toNat : Int)) ∧ Below w'.heap.size w' w''))
    (OB : Hid (∀ w', Below w.heap.size w w' → Calls Try.prog 15 #[.slice bb n cb] w' fun e w'' => e = .returned (.int .u16 (sb.toNat : Int)) ∧ Below w'.heap.size w' w''))
    (MO : Hid (∀ w' ba c, Came w' ba c lm → Calls Try.prog 13 #[.int .u16 0, .slice ba lm.length c] w' fun e w'' => e = .returned (.int .u16 ((sa ^^^ sb).toNat : Int)) ∧ Below w'.heap.size w' w''))
    (OC : Hid (∀ w' ba c, Came w' ba c lc → Calls Try.prog 15 #[.slice ba n c] w' fun e w'' => e = .returned (.int .u16 (sc.toNat : Int)) ∧ Below w'.heap.size w' w''))
    (AW : Hid (∀ w, Calls Try.prog 8 #[] w fun e w' => e = .returned (.bool true) ∧ Below w.heap.size w w'))
    (HK : Hid (0 < n → wrap64 ((IntKind.u64.wrap at_).tmod (8 * (n : Int))) = (k : Int) ∧ (k : Int).tdiv 8 = (q : Int) ∧ (k : Int).tmod 8 = (r : Int) ∧ (k : Int) < 8 * n ∧ (r : Int) ≤ 7 ∧ (q : Int) < n ∧ IntKind.u8.wrap ((2 : Int) ^ r) = (mm : Int) ∧ bits .xor .u8 ((la.getD q 0).toNat : Int) (mm : Int) = (yb.toNat : Int) ∧ lc = la.set q yb ∧ ((sc.toNat : Int) != (sa.toNat : Int)) = true)) :
    Calls Try.prog 5 #[.slice ba a.length ca, .slice bb b.length cb, .int .i64 at_] w fun e w' => e = .returned (.bool true) ∧ Below w.heap.size w w' := by
  have hd : decide ((1000 : Int) < n) = false := decide_eq_false (by omega)
  have sla := came_head CA n (by omega)
  have slb := came_head CB n (by omega)
  have hx := xor_u16 sa sb
  have hA : ∀ j : Nat, j < n → ∃ g o, ba = some ⟨g, o, none⟩ ∧ j < a.length ∧ ∀ w', Below w.heap.size w w' → w'.cell? ⟨g, o + j, none⟩ = some (.int .u8 ((a.getD j 0).toNat : Int)) := fun j hj => by
    obtain ⟨g, o, e, L⟩ := CA.lies (by omega)
    exact ⟨g, o, e, by omega, fun w' h => L.keep h j (by omega)⟩
  have hB : ∀ j : Nat, j < n → ∃ g o, bb = some ⟨g, o, none⟩ ∧ j < b.length ∧ ∀ w', Below w.heap.size w w' → w'.cell? ⟨g, o + j, none⟩ = some (.int .u8 ((b.getD j 0).toNat : Int)) := fun j hj => by
    obtain ⟨g, o, e, L⟩ := CB.lies (by omega)
    exact ⟨g, o, e, by omega, fun w' h => L.keep h j (by omega)⟩
  have HA := Lib.hid hA; have HB := Lib.hid hB; have HM := Lib.hid hlm; have HL := Lib.hid hla; have HC := Lib.hid CA
  have hmin := Lib.hid hn
  have hlm2 : lm.length = n := by rw [← hlm, mixF_length]
  have hla2 : la.length = n := by rw [← hla, List.length_take]; omega
  have LM := Lib.hid hlm2; have LA := Lib.hid hla2
  clear hA hB CA CB hlm hla hlm2 hla2
  go_enter Try.func5, Try.ntmps5
  go_wp2
  go_loopw [8, 21] (fun v iv wr => ∃ j : Nat, j ≤ n ∧ iv = .int .i64 j ∧ Bytes w.heap.size w wr v (mixF a b j)) (fun _ iv _ => n - (intOf iv).toNat)
  case atStart => exact ⟨0, Nat.zero_le _, rfl, World.ownsRowF_nil _ _ _ _, Below.refl _ _, Nat.le_refl _⟩
  case round =>
    obtain ⟨j, hj, rfl, hv⟩ := hrel
    have B := hv.below
    by_cases hc : (j : Int) < n
    · obtain ⟨ga, oa, rfl, hja, cx⟩ := HA.out j (by omega)
      obtain ⟨gb, ob, rfl, hjb, cy⟩ := HB.out j (by omega)
      have hs := mixF_succ a b j
      have hxor := xor_u8 (a.getD j 0) (b.getD j 0)
      obtain ⟨c, hcc⟩ : ∃ c, c = a.getD j 0 ^^^ b.getD j 0 := ⟨_, rfl⟩
      rw [← hcc] at hs hxor
      have hja1 : (j : Int) < a.length := by omega
      have hjb1 : (j : Int) < b.length := by omega
      have hwj : IntKind.i64.wrap (j : Int) = j := by rw [IntKind.wrap_i64]; omega
      have hvd := (hv.keep (Below.refl _ _).drew).alloc (.cells #[.int .u8 (c.toNat : Int)] 5)
      have LC : Lies (wr.drew.alloc (.cells #[.int .u8 (c.toNat : Int)] 5)) wr.drew.heap.size 0 [c] := lies_alloc wr.drew [c] _
      have hln : (mixF a b j).length + 1 ≤ 1001 := by rw [mixF_length]; omega
      have HS := Lib.hid hs; have HLN := Lib.hid hln
      clear hcc hs hln
      generalize (a.getD j 0).toNat = x at *
      generalize (b.getD j 0).toNat = z at *
      go_upto_region 8 with fail
      change (Code.region 8 mixes8 true).wp Try.prog _ _ _
      refine wp_region_noPanic ?_
      refine wp_region_held_drew (S := fun w' => Below w.heap.size w w') (by kernel_rfl) ((B).drew) (fun hHeld => ?_)
      refine wpAnyH_take (i := 0) (oi := ({ dst := some 24, op := .move (.tmp 8), type := 23, pos := "law.go:41", after := #[], guard := none } : Oper)) (v := ?vs1_0) rfl mixes8_plain (by as_aux_lemma => kernel_rfl) (by as_aux_lemma => kernel_rfl) (fun _ _ _ h => h) (Or.inl ⟨by rfl, ?ys1_0⟩) (by assumption) ?rs1_0
      case ys1_0 => (intro w hSw; (try dsimp only at hSw); go_simp; try with_reducible rfl)
      try simp only [Act.put, List.setIfInBounds_toArray, List.set_cons_zero, List.set_cons_succ]
      refine wpAnyH_take (i := 1) (oi := ({ dst := some 25, op := .move (.tmp 0), type := 23, pos := "law.go:41", after := #[], guard := none } : Oper)) (v := ?vs1_1) rfl mixes8_plain (by as_aux_lemma => kernel_rfl) (by as_aux_lemma => kernel_rfl) (fun _ _ _ h => h) (Or.inl ⟨by rfl, ?ys1_1⟩) (by assumption) ?rs1_1
      case ys1_1 => (intro w hSw; (try dsimp only at hSw); go_simp; try with_reducible rfl)
      try simp only [Act.put, List.setIfInBounds_toArray, List.set_cons_zero, List.set_cons_succ]
      refine wpAnyH_take (i := 2) (oi := ({ dst := some 26, op := .move (.tmp 9), type := 3, pos := "law.go:41", after := #[], guard := none } : Oper)) (v := ?vs1_2) rfl mixes8_plain (by as_aux_lemma => kernel_rfl) (by as_aux_lemma => kernel_rfl) (fun _ _ _ h => h) (Or.inl ⟨by rfl, ?ys1_2⟩) (by assumption) ?rs1_2
      case ys1_2 => (intro w hSw; (try dsimp only at hSw); go_simp; try with_reducible rfl)
      try simp only [Act.put, List.setIfInBounds_toArray, List.set_cons_zero, List.set_cons_succ]
      refine wpAnyH_take (i := 3) (oi := ({ dst := some 27, op := .indexAddr 23 (.tmp 25) (.tmp 26), type := 0, pos := "law.go:41", after := #[{ on := 1, ground := .data }, { on := 2, ground := .data }], guard := none } : Oper)) (v := ?vs1_3) rfl mixes8_plain (by as_aux_lemma => kernel_rfl) (by as_aux_lemma => kernel_rfl) (fun _ _ _ h => h) (Or.inl ⟨by rfl, ?ys1_3⟩) (by assumption) ?rs1_3
      case ys1_3 => (intro w hSw; (try dsimp only at hSw); go_simp; try with_reducible rfl)
      try simp only [Act.put, List.setIfInBounds_toArray, List.set_cons_zero, List.set_cons_succ]
      refine wpAnyH_take (i := 4) (oi := ({ dst := some 28, op := .load 5 (.tmp 27), type := 5, pos := "law.go:41", after := #[{ on := 3, ground := .data }], guard := none } : Oper)) (v := ?vs1_4) rfl mixes8_plain (by as_aux_lemma => kernel_rfl) (by as_aux_lemma => kernel_rfl) (fun _ _ _ h => h) (Or.inl ⟨by rfl, ?ys1_4⟩) (by assumption) ?rs1_4
      case ys1_4 => (intro w hSw; (try dsimp only at hSw); go_simp; try with_reducible rfl)
      try simp only [Act.put, List.setIfInBounds_toArray, List.set_cons_zero, List.set_cons_succ]
      refine wpAnyH_take (i := 5) (oi := ({ dst := some 29, op := .move (.tmp 1), type := 23, pos := "law.go:41", after := #[], guard := none } : Oper)) (v := ?vs1_5) rfl mixes8_plain (by as_aux_lemma => kernel_rfl) (by as_aux_lemma => kernel_rfl) (fun _ _ _ h => h) (Or.inl ⟨by rfl, ?ys1_5⟩) (by assumption) ?rs1_5
      case ys1_5 => (intro w hSw; (try dsimp only at hSw); go_simp; try with_reducible rfl)
      try simp only [Act.put, List.setIfInBounds_toArray, List.set_cons_zero, List.set_cons_succ]
      refine wpAnyH_take (i := 6) (oi := ({ dst := some 30, op := .move (.tmp 9), type := 3, pos := "law.go:41", after := #[], guard := none } : Oper)) (v := ?vs1_6) rfl mixes8_plain (by as_aux_lemma => kernel_rfl) (by as_aux_lemma => kernel_rfl) (fun _ _ _ h => h) (Or.inl ⟨by rfl, ?ys1_6⟩) (by assumption) ?rs1_6
      case ys1_6 => (intro w hSw; (try dsimp only at hSw); go_simp; try with_reducible rfl)
      try simp only [Act.put, List.setIfInBounds_toArray, List.set_cons_zero, List.set_cons_succ]
      refine wpAnyH_take (i := 7) (oi := ({ dst := some 31, op := .indexAddr 23 (.tmp 29) (.tmp 30), type := 0, pos := "law.go:41", after := #[{ on := 5, ground := .data }, { on := 6, ground := .data }], guard := none } : Oper)) (v := ?vs1_7) rfl mixes8_plain (by as_aux_lemma => kernel_rfl) (by as_aux_lemma => kernel_rfl) (fun _ _ _ h => h) (Or.inl ⟨by rfl, ?ys1_7⟩) (by assumption) ?rs1_7
      case ys1_7 => (intro w hSw; (try dsimp only at hSw); go_simp; try with_reducible rfl)
      try simp only [Act.put, List.setIfInBounds_toArray, List.set_cons_zero, List.set_cons_succ]
      refine wpAnyH_take (i := 8) (oi := ({ dst := some 32, op := .load 5 (.tmp 31), type := 5, pos := "law.go:41", after := #[{ on := 7, ground := .data }], guard := none } : Oper)) (v := ?vs1_8) rfl mixes8_plain (by as_aux_lemma => kernel_rfl) (by as_aux_lemma => kernel_rfl) (fun _ _ _ h => h) (Or.inl ⟨by rfl, ?ys1_8⟩) (by assumption) ?rs1_8
      case ys1_8 => (intro w hSw; (try dsimp only at hSw); go_simp; try with_reducible rfl)
      try simp only [Act.put, List.setIfInBounds_toArray, List.set_cons_zero, List.set_cons_succ]
      refine wpAnyH_take (i := 9) (oi := ({ dst := some 33, op := .binOp .xor 5 (.tmp 28) (.tmp 32) 5, type := 5, pos := "law.go:41", after := #[{ on := 4, ground := .data }, { on := 8, ground := .data }], guard := none } : Oper)) (v := ?vs1_9) rfl mixes8_plain (by as_aux_lemma => kernel_rfl) (by as_aux_lemma => kernel_rfl) (fun _ _ _ h => h) (Or.inl ⟨by rfl, ?ys1_9⟩) (by assumption) ?rs1_9
      case ys1_9 => (intro w hSw; (try dsimp only at hSw); go_simp; try with_reducible rfl)
      try simp only [Act.put, List.setIfInBounds_toArray, List.set_cons_zero, List.set_cons_succ]
      refine wpAnyH_ready (rs := [10]) (by as_aux_lemma => kernel_rfl) (by simp) ?_
      refine AllReadyH.cons (o := ({ dst := some 34, op := .buildSlice 23 1 #[(0, .tmp 33)], type := 23, pos := "law.go:41", after := #[{ on := 9, ground := .data }], guard := none } : Oper)) rfl (fun KK hK => ?_) AllReadyH.nil
      rw [if_pos (by rfl)]
      go_simp
      refine hK.out _ _ ?_ (fun hHeldA => ?_)
      · exact B.drew.alloc (show _ ≤ wr.drew.heap.size from B.size) _
      clear hK KK
      try simp only [Act.put, List.setIfInBounds_toArray, List.set_cons_zero, List.set_cons_succ]
      refine wpAnyH_ready (rs := [11]) (by as_aux_lemma => kernel_rfl) (by simp) ?_
      refine AllReadyH.cons (o := ({ dst := some 35, op := .call { callee := .builtin .append, args := #[.tmp 24, .tmp 34], argTypes := #[23, 23] }, type := 23, pos := "law.go:41", after := #[{ on := 0, ground := .data }, { on := 10, ground := .data }], guard := none } : Oper)) rfl (fun KK hK => ?_) AllReadyH.nil
      rw [if_pos (by rfl)]
      refine oper_append_bytes (v := u8) (m := [c]) rfl rfl hvd rfl LC (by have := HLN.out; simp; omega) (fun v4 w4 hv4 => ?_)
      refine hK.out _ _ ?_ (fun hHeld4 => ?_)
      · exact hv4.below
      clear hK KK
      try simp only [Act.put, List.setIfInBounds_toArray, List.set_cons_zero, List.set_cons_succ]
      refine wpAnyH_take (i := 12) (oi := ({ dst := some 8, op := .assign (.tmp 35), type := 23, pos := "law.go:41", after := #[{ on := 11, ground := .data }, { on := 11, ground := .chain }, { on := 0, ground := .phase }, { on := 1, ground := .phase }, { on := 2, ground := .phase }, { on := 3, ground := .phase }, { on := 4, ground := .phase }, { on := 5, ground := .phase }, { on := 6, ground := .phase }, { on := 7, ground := .phase }, { on := 8, ground := .phase }, { on := 9, ground := .phase }, { on := 10, ground := .phase }, { on := 11, ground := .phase }], guard := none } : Oper)) (v := ?vs1_12) rfl mixes8_plain (by as_aux_lemma => kernel_rfl) (by as_aux_lemma => kernel_rfl) (fun _ _ _ h => h) (Or.inl ⟨by rfl, ?ys1_12⟩) (by assumption) ?rs1_12
      case ys1_12 => (intro w hSw; (try dsimp only at hSw); go_simp; try with_reducible rfl)
      try simp only [Act.put, List.setIfInBounds_toArray, List.set_cons_zero, List.set_cons_succ]
      refine wpAnyH_done (by as_aux_lemma => kernel_rfl) ?_ _
      refine NoPanic.normal ?_
      go_wp2
      go_roundw
      case rel => exact ⟨j + 1, by omega, rfl, by rw [HS.out]; exact hv4⟩
      case measure => simp [intOf]; omega
    · obtain rfl : j = n := by omega
      rw [HM.out] at hv
      obtain ⟨bm, cm, rfl, CM⟩ := hv.came
      clear HA HB
      go_upto_region 10 with fail
      change (Code.region 10 mixes10 true).wp Try.prog _ _ _
      refine wp_region_noPanic ?_
      refine wp_region_held_drew (S := fun w' => Below wr.heap.size wr w') (by kernel_rfl) ((Below.refl _ _).drew) (fun hHeld => ?_)
      refine wpAnyH_take (i := 0) (oi := ({ dst := some 37, op := .move (.tmp 0), type := 23, pos := "law.go:43", after := #[], guard := none } : Oper)) (v := ?vs2_0) rfl mixes10_plain (by as_aux_lemma => kernel_rfl) (by as_aux_lemma => kernel_rfl) (fun _ _ _ h => h) (Or.inl ⟨by rfl, ?ys2_0⟩) (by assumption) ?rs2_0
      case ys2_0 => (intro w hSw; (try dsimp only at hSw); go_simp; try with_reducible rfl)
      try simp only [Act.put, List.setIfInBounds_toArray, List.set_cons_zero, List.set_cons_succ]
      refine wpAnyH_take (i := 1) (oi := ({ dst := some 38, op := .move (.tmp 7), type := 3, pos := "law.go:43", after := #[], guard := none } : Oper)) (v := ?vs2_1) rfl mixes10_plain (by as_aux_lemma => kernel_rfl) (by as_aux_lemma => kernel_rfl) (fun _ _ _ h => h) (Or.inl ⟨by rfl, ?ys2_1⟩) (by assumption) ?rs2_1
      case ys2_1 => (intro w hSw; (try dsimp only at hSw); go_simp; try with_reducible rfl)
      try simp only [Act.put, List.setIfInBounds_toArray, List.set_cons_zero, List.set_cons_succ]
      refine wpAnyH_take (i := 2) (oi := ({ dst := some 39, op := .slice 23 (.tmp 37) none (some (.tmp 38)) none, type := 23, pos := "law.go:43", after := #[{ on := 0, ground := .data }, { on := 1, ground := .data }], guard := none } : Oper)) (v := ?vs2_2) rfl mixes10_plain (by as_aux_lemma => kernel_rfl) (by as_aux_lemma => kernel_rfl) (fun _ _ _ h => h) (Or.inl ⟨by rfl, ?ys2_2⟩) (by assumption) ?rs2_2
      case ys2_2 => (intro w hSw; (try dsimp only at hSw); go_simp; try with_reducible rfl)
      try simp only [Act.put, List.setIfInBounds_toArray, List.set_cons_zero, List.set_cons_succ]
      refine wpAnyH_take (i := 4) (oi := ({ dst := some 41, op := .move (.tmp 1), type := 23, pos := "law.go:43", after := #[], guard := none } : Oper)) (v := ?vs2_4) rfl mixes10_plain (by as_aux_lemma => kernel_rfl) (by as_aux_lemma => kernel_rfl) (fun _ _ _ h => h) (Or.inl ⟨by rfl, ?ys2_4⟩) (by assumption) ?rs2_4
      case ys2_4 => (intro w hSw; (try dsimp only at hSw); go_simp; try with_reducible rfl)
      try simp only [Act.put, List.setIfInBounds_toArray, List.set_cons_zero, List.set_cons_succ]
      refine wpAnyH_take (i := 5) (oi := ({ dst := some 42, op := .move (.tmp 7), type := 3, pos := "law.go:43", after := #[], guard := none } : Oper)) (v := ?vs2_5) rfl mixes10_plain (by as_aux_lemma => kernel_rfl) (by as_aux_lemma => kernel_rfl) (fun _ _ _ h => h) (Or.inl ⟨by rfl, ?ys2_5⟩) (by assumption) ?rs2_5
      case ys2_5 => (intro w hSw; (try dsimp only at hSw); go_simp; try with_reducible rfl)
      try simp only [Act.put, List.setIfInBounds_toArray, List.set_cons_zero, List.set_cons_succ]
      refine wpAnyH_take (i := 6) (oi := ({ dst := some 43, op := .slice 23 (.tmp 41) none (some (.tmp 42)) none, type := 23, pos := "law.go:43", after := #[{ on := 4, ground := .data }, { on := 5, ground := .data }], guard := none } : Oper)) (v := ?vs2_6) rfl mixes10_plain (by as_aux_lemma => kernel_rfl) (by as_aux_lemma => kernel_rfl) (fun _ _ _ h => h) (Or.inl ⟨by rfl, ?ys2_6⟩) (by assumption) ?rs2_6
      case ys2_6 => (intro w hSw; (try dsimp only at hSw); go_simp; try with_reducible rfl)
      try simp only [Act.put, List.setIfInBounds_toArray, List.set_cons_zero, List.set_cons_succ]
      refine wpAnyH_take (i := 9) (oi := ({ dst := some 46, op := .move (.tmp 8), type := 23, pos := "law.go:43", after := #[], guard := none } : Oper)) (v := ?vs2_9) rfl mixes10_plain (by as_aux_lemma => kernel_rfl) (by as_aux_lemma => kernel_rfl) (fun _ _ _ h => h) (Or.inl ⟨by rfl, ?ys2_9⟩) (by assumption) ?rs2_9
      case ys2_9 => (intro w hSw; (try dsimp only at hSw); go_simp; try with_reducible rfl)
      try simp only [Act.put, List.setIfInBounds_toArray, List.set_cons_zero, List.set_cons_succ]
      refine wpAnyH_ready (rs := [3]) (by as_aux_lemma => kernel_rfl) (by simp) ?_
      refine AllReadyH.cons (o := ({ dst := some 40, op := .call { callee := .value (.func 15), args := #[.tmp 39], argTypes := #[23] }, type := 22, pos := "law.go:43", after := #[{ on := 2, ground := .data }], guard := none } : Oper)) rfl (fun KK hK => ?_) AllReadyH.nil
      rw [if_pos (by rfl)]
      go_simp
      go_at_call 15; refine (OA.out _ (belowT B (by assumption))).mono ?_; rintro e w1 ⟨rfl, hb1⟩
      go_wp2_with fail
      refine hK.out _ _ ?_ (fun hHeld1 => ?_)
      · exact belowT (by assumption) hb1
      clear hK KK hb1
      try simp only [Act.put, List.setIfInBounds_toArray, List.set_cons_zero, List.set_cons_succ]
      refine wpAnyH_ready (rs := [7]) (by as_aux_lemma => kernel_rfl) (by simp) ?_
      refine AllReadyH.cons (o := ({ dst := some 44, op := .call { callee := .value (.func 15), args := #[.tmp 43], argTypes := #[23] }, type := 22, pos := "law.go:43", after := #[{ on := 6, ground := .data }, { on := 3, ground := .chain }], guard := none } : Oper)) rfl (fun KK hK => ?_) AllReadyH.nil
      rw [if_pos (by rfl)]
      go_simp
      go_at_call 15; refine (OB.out _ (belowT B (by assumption))).mono ?_; rintro e w2 ⟨rfl, hb2⟩
      go_wp2_with fail
      refine hK.out _ _ ?_ (fun hHeld2 => ?_)
      · exact belowT (by assumption) hb2
      clear hK KK hb2 hHeld1
      try simp only [Act.put, List.setIfInBounds_toArray, List.set_cons_zero, List.set_cons_succ]
      refine wpAnyH_take (i := 8) (oi := ({ dst := some 45, op := .binOp .xor 22 (.tmp 40) (.tmp 44) 22, type := 22, pos := "law.go:43", after := #[{ on := 3, ground := .data }, { on := 7, ground := .data }], guard := none } : Oper)) (v := ?vs2_8) rfl mixes10_plain (by as_aux_lemma => kernel_rfl) (by as_aux_lemma => kernel_rfl) (fun _ _ _ h => h) (Or.inl ⟨by rfl, ?ys2_8⟩) (by assumption) ?rs2_8
      case ys2_8 => (intro w hSw; (try dsimp only at hSw); go_simp; try with_reducible rfl)
      try simp only [Act.put, List.setIfInBounds_toArray, List.set_cons_zero, List.set_cons_succ]
      refine wpAnyH_ready (rs := [10]) (by as_aux_lemma => kernel_rfl) (by simp) ?_
      refine AllReadyH.cons (o := ({ dst := some 47, op := .call { callee := .value (.func 13), args := #[.const (.int .u16 0), .tmp 46], argTypes := #[22, 23] }, type := 22, pos := "law.go:43", after := #[{ on := 9, ground := .data }, { on := 7, ground := .chain }], guard := none } : Oper)) rfl (fun KK hK => ?_) AllReadyH.nil
      rw [if_pos (by rfl)]
      go_simp
      go_at_call 13; refine (MO.out _ _ _ (CM.keep (by assumption))).mono ?_; rintro e w3 ⟨rfl, hb3⟩
      go_wp2_with fail
      refine hK.out _ _ ?_ (fun hHeld3 => ?_)
      · exact belowT (by assumption) hb3
      clear hK KK hb3 hHeld2
      try simp only [Act.put, List.setIfInBounds_toArray, List.set_cons_zero, List.set_cons_succ]
      refine wpAnyH_take (i := 11) (oi := ({ dst := some 48, op := .binOp .neq 22 (.tmp 45) (.tmp 47) 22, type := 4, pos := "law.go:43", after := #[{ on := 8, ground := .data }, { on := 10, ground := .data }], guard := none } : Oper)) (v := ?vs2_11) rfl mixes10_plain (by as_aux_lemma => kernel_rfl) (by as_aux_lemma => kernel_rfl) (fun _ _ _ h => h) (Or.inl ⟨by rfl, ?ys2_11⟩) (by assumption) ?rs2_11
      case ys2_11 => (intro w hSw; (try dsimp only at hSw); go_simp; try with_reducible rfl)
      try simp only [Act.put, List.setIfInBounds_toArray, List.set_cons_zero, List.set_cons_succ]
      refine wpAnyH_done (by as_aux_lemma => kernel_rfl) ?_ _
      refine NoPanic.normal ?_
      have hb3 : Below wr.heap.size wr w3 := by assumption
      have B3 := belowT B hb3
      by_cases hn0 : j = 0
      · subst hn0
        go_wp2_with fail
        refine (AW.out _).mono ?_; rintro e w4 ⟨rfl, hb4⟩
        have B4 := belowT B3 hb4
        go_wp2_with fail
        go_ret
        exact ⟨rfl, B4⟩
      · have hn1 : ((j : Int) == 0) = false := by rw [beq_eq_false_iff_ne]; omega
        obtain ⟨hk, hq, hr, hk8, hr7, hqn, hsh, hxr, hlc, hne⟩ := HK.out (by omega)
        have b0 := empty_bytes0 w3 _ rfl
        have CA3 := (HC.out.take j (by omega)).keep (belowT B3 b0.below)
        rw [HL.out] at CA3
        have hn8 : ((8 * (j : Int)) == 0) = false := by rw [beq_eq_false_iff_ne]; omega
        go_wp2_with (at_builtin; refine list_append_came0 (v := .slice (some ⟨w3.heap.size, 0, none⟩) 0 0) rfl rfl rfl b0 (by rw [LA.out]; rfl) CA3 ?c1 ?_)
        case c1 => have := LA.out; simp; omega
        intro v4 w4 hv4
        have hv4 : Bytes0 w3.heap.size w3 w4 v4 la := hv4
        obtain ⟨g, cg, rfl, MI⟩ := hv4.mine (by rw [LA.out]; omega)
        rw [LA.out]
        have hcell := MI.lies q (by rw [LA.out]; omega)
        rw [Nat.zero_add] at hcell
        have hfree := MI.free q (by rw [LA.out]; omega)
        have MI5 := MI.set q yb
        rw [← hlc] at MI5
        have hyb : (yb.toNat : Int) ≤ 255 := by have := yb.toNat_lt; omega
        have hx1 : ((la.getD q 0).toNat : Int) ≤ 255 := by have := (la.getD q 0).toNat_lt; omega
        have M5 := Lib.hid MI5
        clear MI MI5 hv4 CA3 b0 CM
        generalize (la.getD q 0).toNat = x at *
        obtain ⟨yn, hyn⟩ : ∃ yn : Int, yn = (yb.toNat : Int) := ⟨_, rfl⟩
        rw [← hyn] at hxr hyb M5
        clear hyn
        go_upto_region 17 with fail
        obtain ⟨w5, hw5⟩ : ∃ w5, w5 = w4.setCell ⟨g, q, none⟩ (.int .u8 yn) := ⟨_, rfl⟩
        rw [← hw5] at M5 ⊢
        clear hw5
        have C5 := M5.out.came
        have B5 := belowT B3 M5.out.below
        change (Code.region 17 mixes17 true).wp Try.prog _ _ _
        refine wp_region_noPanic ?_
        refine wp_region_held_drew (S := fun w' => Below w5.heap.size w5 w') (by kernel_rfl) ((Below.refl _ _).drew) (fun hHeld => ?_)
        refine wpAnyH_take (i := 0) (oi := ({ dst := some 75, op := .move (.tmp 11), type := 23, pos := "law.go:52", after := #[], guard := none } : Oper)) (v := ?vs3_0) rfl mixes17_plain (by as_aux_lemma => kernel_rfl) (by as_aux_lemma => kernel_rfl) (fun _ _ _ h => h) (Or.inl ⟨by rfl, ?ys3_0⟩) (by assumption) ?rs3_0
        case ys3_0 => (intro w hSw; (try dsimp only at hSw); go_simp; try with_reducible rfl)
        try simp only [Act.put, List.setIfInBounds_toArray, List.set_cons_zero, List.set_cons_succ]
        refine wpAnyH_take (i := 2) (oi := ({ dst := some 77, op := .move (.tmp 0), type := 23, pos := "law.go:52", after := #[], guard := none } : Oper)) (v := ?vs3_2) rfl mixes17_plain (by as_aux_lemma => kernel_rfl) (by as_aux_lemma => kernel_rfl) (fun _ _ _ h => h) (Or.inl ⟨by rfl, ?ys3_2⟩) (by assumption) ?rs3_2
        case ys3_2 => (intro w hSw; (try dsimp only at hSw); go_simp; try with_reducible rfl)
        try simp only [Act.put, List.setIfInBounds_toArray, List.set_cons_zero, List.set_cons_succ]
        refine wpAnyH_take (i := 3) (oi := ({ dst := some 78, op := .move (.tmp 7), type := 3, pos := "law.go:52", after := #[], guard := none } : Oper)) (v := ?vs3_3) rfl mixes17_plain (by as_aux_lemma => kernel_rfl) (by as_aux_lemma => kernel_rfl) (fun _ _ _ h => h) (Or.inl ⟨by rfl, ?ys3_3⟩) (by assumption) ?rs3_3
        case ys3_3 => (intro w hSw; (try dsimp only at hSw); go_simp; try with_reducible rfl)
        try simp only [Act.put, List.setIfInBounds_toArray, List.set_cons_zero, List.set_cons_succ]
        refine wpAnyH_take (i := 4) (oi := ({ dst := some 79, op := .slice 23 (.tmp 77) none (some (.tmp 78)) none, type := 23, pos := "law.go:52", after := #[{ on := 2, ground := .data }, { on := 3, ground := .data }], guard := none } : Oper)) (v := ?vs3_4) rfl mixes17_plain (by as_aux_lemma => kernel_rfl) (by as_aux_lemma => kernel_rfl) (fun _ _ _ h => h) (Or.inl ⟨by rfl, ?ys3_4⟩) (by assumption) ?rs3_4
        case ys3_4 => (intro w hSw; (try dsimp only at hSw); go_simp; try with_reducible rfl)
        try simp only [Act.put, List.setIfInBounds_toArray, List.set_cons_zero, List.set_cons_succ]
        refine wpAnyH_ready (rs := [1]) (by as_aux_lemma => kernel_rfl) (by simp) ?_
        refine AllReadyH.cons (o := ({ dst := some 76, op := .call { callee := .value (.func 15), args := #[.tmp 75], argTypes := #[23] }, type := 22, pos := "law.go:52", after := #[{ on := 0, ground := .data }], guard := none } : Oper)) rfl (fun KK hK => ?_) AllReadyH.nil
        rw [if_pos (by rfl)]
        go_simp
        go_at_call 15; refine (OC.out _ _ _ (C5.keep (by assumption))).mono ?_; rintro e w6 ⟨rfl, hb6⟩
        go_wp2_with fail
        refine hK.out _ _ ?_ (fun hHeld6 => ?_)
        · exact belowT (by assumption) hb6
        clear hK KK hb6
        try simp only [Act.put, List.setIfInBounds_toArray, List.set_cons_zero, List.set_cons_succ]
        refine wpAnyH_ready (rs := [5]) (by as_aux_lemma => kernel_rfl) (by simp) ?_
        refine AllReadyH.cons (o := ({ dst := some 80, op := .call { callee := .value (.func 15), args := #[.tmp 79], argTypes := #[23] }, type := 22, pos := "law.go:52", after := #[{ on := 4, ground := .data }, { on := 1, ground := .chain }], guard := none } : Oper)) rfl (fun KK hK => ?_) AllReadyH.nil
        rw [if_pos (by rfl)]
        go_simp
        go_at_call 15; refine (OA.out _ (belowT B5 (by assumption))).mono ?_; rintro e w7 ⟨rfl, hb7⟩
        go_wp2_with fail
        refine hK.out _ _ ?_ (fun hHeld7 => ?_)
        · exact belowT (by assumption) hb7
        clear hK KK hb7 hHeld6
        try simp only [Act.put, List.setIfInBounds_toArray, List.set_cons_zero, List.set_cons_succ]
        refine wpAnyH_take (i := 6) (oi := ({ dst := some 81, op := .binOp .neq 22 (.tmp 76) (.tmp 80) 22, type := 4, pos := "law.go:52", after := #[{ on := 1, ground := .data }, { on := 5, ground := .data }], guard := none } : Oper)) (v := ?vs3_6) rfl mixes17_plain (by as_aux_lemma => kernel_rfl) (by as_aux_lemma => kernel_rfl) (fun _ _ _ h => h) (Or.inl ⟨by rfl, ?ys3_6⟩) (by assumption) ?rs3_6
        case ys3_6 => (intro w hSw; (try dsimp only at hSw); go_simp; try with_reducible rfl)
        try simp only [Act.put, List.setIfInBounds_toArray, List.set_cons_zero, List.set_cons_succ]
        refine wpAnyH_take (i := 7) (oi := ({ dst := some 82, op := .move (.tmp 81), type := 4, pos := "law.go:52", after := #[{ on := 6, ground := .data }, { on := 5, ground := .chain }], guard := none } : Oper)) (v := ?vs3_7) rfl mixes17_plain (by as_aux_lemma => kernel_rfl) (by as_aux_lemma => kernel_rfl) (fun _ _ _ h => h) (Or.inl ⟨by rfl, ?ys3_7⟩) (by assumption) ?rs3_7
        case ys3_7 => (intro w hSw; (try dsimp only at hSw); go_simp; try with_reducible rfl)
        try simp only [Act.put, List.setIfInBounds_toArray, List.set_cons_zero, List.set_cons_succ]
        refine wpAnyH_ready (rs := [8]) (by as_aux_lemma => kernel_rfl) (by simp) ?_
        refine AllReadyH.cons (o := ({ dst := some 83, op := .call { callee := .value (.func 8), args := #[], argTypes := #[] }, type := 4, pos := "law.go:52", after := #[{ on := 7, ground := .chain }, { on := 7, ground := .guard }], guard := some (7, true) } : Oper)) rfl (fun KK hK => ?_) AllReadyH.nil
        rw [if_pos (by rfl)]
        go_simp
        go_at_call 8; refine (AW.out _).mono ?_; rintro e w8 ⟨rfl, hb8⟩
        go_wp2_with fail
        refine hK.out _ _ ?_ (fun hHeld8 => ?_)
        · exact belowT (by assumption) hb8
        clear hK KK hb8 hHeld7
        try simp only [Act.put, List.setIfInBounds_toArray, List.set_cons_zero, List.set_cons_succ]
        refine wpAnyH_take (i := 9) (oi := ({ dst := some 84, op := .pick (.tmp 82) (.tmp 83) (.const (.bool false)), type := 4, pos := "law.go:52", after := #[{ on := 7, ground := .data }, { on := 8, ground := .data }], guard := none } : Oper)) (v := ?vs3_9) rfl mixes17_plain (by as_aux_lemma => kernel_rfl) (by as_aux_lemma => kernel_rfl) (fun _ _ _ h => h) (Or.inl ⟨by rfl, ?ys3_9⟩) (by assumption) ?rs3_9
        case ys3_9 => (intro w hSw; (try dsimp only at hSw); go_simp; try with_reducible rfl)
        try simp only [Act.put, List.setIfInBounds_toArray, List.set_cons_zero, List.set_cons_succ]
        refine wpAnyH_take (i := 10) (oi := ({ dst := some 6, op := .assign (.tmp 84), type := 4, pos := "law.go:52", after := #[{ on := 9, ground := .data }, { on := 8, ground := .chain }, { on := 0, ground := .phase }, { on := 1, ground := .phase }, { on := 2, ground := .phase }, { on := 3, ground := .phase }, { on := 4, ground := .phase }, { on := 5, ground := .phase }, { on := 6, ground := .phase }, { on := 7, ground := .phase }, { on := 8, ground := .phase }, { on := 9, ground := .phase }], guard := none } : Oper)) (v := ?vs3_10) rfl mixes17_plain (by as_aux_lemma => kernel_rfl) (by as_aux_lemma => kernel_rfl) (fun _ _ _ h => h) (Or.inl ⟨by rfl, ?ys3_10⟩) (by assumption) ?rs3_10
        case ys3_10 => (intro w hSw; (try dsimp only at hSw); go_simp; try with_reducible rfl)
        try simp only [Act.put, List.setIfInBounds_toArray, List.set_cons_zero, List.set_cons_succ]
        refine wpAnyH_done (by as_aux_lemma => kernel_rfl) ?_ _
        refine NoPanic.normal ?_
        go_wp2_with fail
        go_ret
        exact ⟨rfl, belowT B5 (by assumption)⟩

end Go.Proofs.Ytaipjhfgkidbfaa
