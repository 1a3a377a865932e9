/- OctetFew: the walk, over contracts (a slice that is not nil). -/
import Derived.Test.YtcnnkgkejafeeaaBytesStr
import Derived.Test.YtcnnkgkejafeeaaOctVar
import Derived.Test.YtcnnkgkejafeeaaRebase
import Derived.Laws.AppendOwnNone
import Derived.Deep.CutBlock
import Derived.Deep.CutRange
namespace Go.Proofs.Ytcnnkgkejafeeaa
open Go.RowKit

/-- The operations of a drawn region, as the translation has them. -/
def few8 : Array Oper := #[
  { dst := some 64, op := .move (.tmp 13), type := 25, pos := "law.go:84", after := #[], guard := none },
  { dst := some 65, op := .binOp .eql 25 (.tmp 64) (.const (.int .i64 0)) 25, type := 4, pos := "law.go:84", after := #[{ on := 0, ground := .data }], guard := none },
  { dst := some 66, op := .move (.tmp 65), type := 4, pos := "law.go:84", after := #[{ on := 1, ground := .data }], guard := none },
  { dst := some 67, op := .move (.tmp 2), type := 3, pos := "law.go:84", after := #[{ on := 2, ground := .guard }], guard := some (2, true) },
  { dst := some 68, op := .binOp .lss 3 (.tmp 67) (.const (.int .i64 0)) 3, type := 4, pos := "law.go:84", after := #[{ on := 3, ground := .data }, { on := 2, ground := .guard }], guard := some (2, true) },
  { dst := some 69, op := .move (.tmp 68), type := 4, pos := "law.go:84", after := #[{ on := 4, ground := .data }, { on := 2, ground := .chain }, { on := 2, ground := .guard }], guard := some (2, true) },
  { dst := some 70, op := .move (.tmp 12), type := 3, pos := "law.go:84", after := #[{ on := 5, ground := .guard }], guard := some (5, false) },
  { dst := some 71, op := .move (.tmp 1), type := 22, pos := "law.go:84", after := #[{ on := 5, ground := .guard }], guard := some (5, false) },
  { dst := some 72, op := .call { callee := .builtin .len, args := #[.tmp 71], argTypes := #[22] }, type := 3, pos := "law.go:84", after := #[{ on := 7, ground := .data }, { on := 5, ground := .guard }], guard := some (5, false) },
  { dst := some 73, op := .binOp .gtr 3 (.tmp 70) (.tmp 72) 3, type := 4, pos := "law.go:84", after := #[{ on := 6, ground := .data }, { on := 8, ground := .data }, { on := 5, ground := .guard }], guard := some (5, false) },
  { dst := some 74, op := .pick (.tmp 69) (.const (.bool true)) (.tmp 73), type := 4, pos := "law.go:84", after := #[{ on := 5, ground := .data }, { on := 9, ground := .data }, { on := 2, ground := .guard }], guard := some (2, true) },
  { dst := some 75, op := .move (.tmp 74), type := 4, pos := "law.go:84", after := #[{ on := 10, ground := .data }, { on := 5, ground := .chain }, { on := 2, ground := .guard }], guard := some (2, true) },
  { dst := some 76, op := .move (.tmp 12), type := 3, pos := "law.go:84", after := #[{ on := 11, ground := .guard }], guard := some (11, false) },
  { dst := some 77, op := .move (.tmp 2), type := 3, pos := "law.go:84", after := #[{ on := 11, ground := .guard }], guard := some (11, false) },
  { dst := some 78, op := .binOp .leq 3 (.tmp 76) (.tmp 77) 3, type := 4, pos := "law.go:84", after := #[{ on := 12, ground := .data }, { on := 13, ground := .data }, { on := 11, ground := .guard }], guard := some (11, false) },
  { dst := some 79, op := .pick (.tmp 75) (.const (.bool true)) (.tmp 78), type := 4, pos := "law.go:84", after := #[{ on := 11, ground := .data }, { on := 14, ground := .data }, { on := 2, ground := .guard }], guard := some (2, true) },
  { dst := some 80, op := .move (.tmp 79), type := 4, pos := "law.go:84", after := #[{ on := 15, ground := .data }, { on := 11, ground := .chain }, { on := 2, ground := .guard }], guard := some (2, true) },
  { dst := some 81, op := .move (.tmp 11), type := 28, pos := "law.go:84", after := #[{ on := 16, ground := .guard }], guard := some (16, false) },
  { dst := some 82, op := .call { callee := .value (.func 26), args := #[.tmp 81], argTypes := #[28] }, type := 22, pos := "law.go:84", after := #[{ on := 17, ground := .data }, { on := 16, ground := .chain }, { on := 16, ground := .guard }], guard := some (16, false) },
  { dst := some 83, op := .convert 22 9 (.tmp 82), type := 9, pos := "law.go:84", after := #[{ on := 18, ground := .data }, { on := 16, ground := .guard }], guard := some (16, false) },
  { dst := some 84, op := .move (.tmp 1), type := 22, pos := "law.go:84", after := #[{ on := 16, ground := .guard }], guard := some (16, false) },
  { dst := some 85, op := .move (.tmp 2), type := 3, pos := "law.go:84", after := #[{ on := 16, ground := .guard }], guard := some (16, false) },
  { dst := some 86, op := .move (.tmp 12), type := 3, pos := "law.go:84", after := #[{ on := 16, ground := .guard }], guard := some (16, false) },
  { dst := some 87, op := .slice 22 (.tmp 84) (some (.tmp 85)) (some (.tmp 86)) none, type := 22, pos := "law.go:84", after := #[{ on := 20, ground := .data }, { on := 21, ground := .data }, { on := 22, ground := .data }, { on := 16, ground := .guard }], guard := some (16, false) },
  { dst := some 88, op := .convert 22 9 (.tmp 87), type := 9, pos := "law.go:84", after := #[{ on := 23, ground := .data }, { on := 16, ground := .guard }], guard := some (16, false) },
  { dst := some 89, op := .binOp .neq 9 (.tmp 83) (.tmp 88) 9, type := 4, pos := "law.go:84", after := #[{ on := 19, ground := .data }, { on := 24, ground := .data }, { on := 16, ground := .guard }], guard := some (16, false) },
  { dst := some 90, op := .pick (.tmp 80) (.const (.bool true)) (.tmp 89), type := 4, pos := "law.go:84", after := #[{ on := 16, ground := .data }, { on := 25, ground := .data }, { on := 2, ground := .guard }], guard := some (2, true) },
  { dst := some 91, op := .pick (.tmp 66) (.tmp 90) (.const (.bool false)), type := 4, pos := "law.go:84", after := #[{ on := 2, ground := .data }, { on := 26, ground := .data }], guard := none }]
theorem few8_plain : Region.noSelect few8 = true := by kernel_rfl


theorem empty_own (w : World) (t : TypeId) (ht : t = 5) : (w.alloc (.cells #[] t)).ownsRowF w.heap.size 5 1 (.slice (some ⟨w.heap.size, 0, none⟩) 0 0) 0 [] := by
  subst ht
  exact ⟨rfl, Or.inr ⟨w.heap.size, 0, #[], (0, 0), rfl, Nat.le_refl _, by show (w.heap.push _)[w.heap.size]? = _; simp, Nat.le_refl _, Nat.le_refl _, by decide, rfl, rfl⟩⟩

theorem empty_own' (w : World) (t : TypeId) (ht : t = 5) : (w.alloc (.cells #[] t)).ownsRow w.heap.size 5 1 (.slice (some ⟨w.heap.size, 0, none⟩) 0 0) 0 [] := by
  subst ht
  exact ⟨rfl, Or.inr ⟨w.heap.size, 0, #[], rfl, Nat.le_refl _, by show (w.heap.push _)[w.heap.size]? = _; simp, Nat.le_refl _, by decide, rfl, rfl⟩⟩

theorem Lies.cells {w : World} {b o : Nat} {l : List UInt8} (L : Lies w b o l) : ∀ j u, (vals l)[j]? = some u → w.cell? ((⟨b, o, none⟩ : Addr).add j) = some u := by
  intro j u hj
  have hl : j < l.length := by
    have := (List.getElem?_eq_some_iff.1 hj).1
    simpa [vals] using this
  have e : (⟨b, o, none⟩ : Addr).add j = ⟨b, o + j, none⟩ := by unfold Addr.add; split <;> simp_all
  rw [e, L j hl]
  simpa [vals, List.getD, List.getElem?_eq_getElem hl] using hj
theorem vals_one (l : List UInt8) : ∀ u ∈ vals l, u.oneCell' = true := by
  intro u hu
  simp only [vals, List.mem_map] at hu
  obtain ⟨c, _, rfl⟩ := hu
  rfl

set_option maxHeartbeats 8000000 in
set_option maxRecDepth 100000 in
theorem few_core (a : Addr) (cap : Nat) (l lv ly lo : List UInt8) (n at_ y up f u zg z : Int) (sv : Value) (w : World) (hl : (l.length : Int) ≤ 600) (hv0 : (1 : Int) ≤ lv.length) (hv : (lv.length : Int) ≤ 10) (hu : IntKind.u64.wrap n = u)
    (hb : Hid (∀ w', Below w.heap.size w w' → ∀ j x, (vals l)[j]? = some x → w'.cell? (a.add j) = some x))
    (ZI : Hid (∀ w, Calls Try.prog 22 #[.int .i64 n] w fun e w' => e = .returned (.int .u64 z) ∧ Below w.heap.size w w'))
    (VR : Hid (∀ w, Calls Try.prog 26 #[.int .u64 z] w fun e w' => ∃ v, e = .returned v ∧ Bytes w.heap.size w w' v lv))
    (hlo : lo = l ++ lv ++ [7]) (RV : Hid (∀ g c w', lo.length ≤ c → c ≤ maxLen → Lies w' g 0 lo → Calls Try.prog 20 #[.slice (some ⟨g, 0, none⟩) lo.length c, .int .i64 l.length] w' fun e w'' => e = .returned (.tuple #[.int .u64 z, .int .i64 ((l.length : Int) + lv.length), .int .i64 0]) ∧ Below w'.heap.size w' w''))
    (ZA : Hid (∀ w, Calls Try.prog 24 #[.int .u64 z] w fun e w' => e = .returned (.int .i64 n) ∧ Below w.heap.size w w'))
    (RB : Hid (∀ w', Below w.heap.size w w' → Calls Try.prog 20 #[.slice (some a) l.length cap, .int .i64 at_] w' fun e w'' => e = .returned (.tuple #[.int .u64 y, .int .i64 up, .int .i64 f]) ∧ Below w'.heap.size w' w''))
    (VY : Hid (∀ w, Calls Try.prog 26 #[.int .u64 y] w fun e w' => ∃ v, e = .returned v ∧ Bytes w.heap.size w w' v ly))
    (Z2 : Hid (∀ w, Calls Try.prog 24 #[.int .u64 u] w fun e w' => e = .returned (.int .i64 zg) ∧ Below w.heap.size w w'))
    (Z3 : Hid (∀ w, Calls Try.prog 22 #[.int .i64 zg] w fun e w' => e = .returned (.int .u64 u) ∧ Below w.heap.size w w'))
    (AW : Hid (∀ w, Calls Try.prog 7 #[] w fun e w' => e = .returned (.bool true) ∧ Below w.heap.size w w'))
    (hf : (f == 0) = false ∨ (f == 0) = true ∧ 0 ≤ at_ ∧ at_ < up ∧ up ≤ l.length ∧ (∀ w', (Instr.sliceAt 22 (.slice (some a) l.length cap) (some (.int .i64 at_)) (some (.int .i64 up)) none).run Try.prog w' = .ok sv w')
      ∧ (∀ w', Below w.heap.size w w' → (convert 22 9 sv).run Try.prog w' = .ok (.string ⟨ly.toArray⟩) w')) :
    Calls Try.prog 6 #[.int .i64 n, .slice (some a) l.length cap, .int .i64 at_] w fun e w' => e = .returned (.bool true) ∧ Below w.heap.size w w' := by
  obtain ⟨i0, hi, hz0, hz1, hz2⟩ := info_parts info8
  have hd : decide ((600 : Int) < l.length) = false := decide_eq_false (by omega)
  have HF := Lib.hid hf
  clear hf
  go_enter Try.func6, Try.ntmps6
  go_wp2_with fail
  refine (ZI.out _).mono ?_; rintro e w1 ⟨rfl, hb1⟩
  go_wp2_with fail
  refine (VR.out _).mono ?_; rintro e w2 ⟨v, rfl, hv2⟩
  have hb2 := belowT hb1 hv2.below
  obtain ⟨rfl, rfl⟩ | ⟨gv, cv, rfl, Lv⟩ := hv2.lies
  · simp at hv0
  have ho := empty_own w2 _ rfl
  have hs := Lib.hid (hb.out _ (belowT hb2 (below1 w2 (.cells #[] 5))))
  go_wp2_with (at_builtin; (refine wpList_append_ownF _ rfl _ _ 22 rfl w2.heap.size 5 i0 (.int .u8 0) 1 1 Try.underlying22 hi hz0 hz1 hz2 rfl (by decide) (.slice (some ⟨w2.heap.size, 0, none⟩) 0 0) 0 [] rfl ho a l.length cap (vals l) rfl (by simp [vals]) hs.out (vals_one l) ?c1 ?c2 ?c3 ?_))
  case c1 => unfold maxLen; omega
  case c2 => omega
  case c3 => simp
  intro v3 w3 ho3 hg3 _
  have hb3 : Below w2.heap.size w2 w3 := (below1 w2 _).grown hg3 (by simp) (fun k hk => by simp [Value.ownBlock] at hk; omega)
  have L3 := Lib.hid (Lv.keep hb3).cells
  go_wp2_with (at_builtin; (refine wpList_append_ownF _ rfl _ _ 22 rfl w2.heap.size 5 i0 (.int .u8 0) 1 1 Try.underlying22 hi hz0 hz1 hz2 rfl (by decide) v3 l.length (vals l) rfl ho3 ⟨gv, 0, none⟩ lv.length cv (vals lv) rfl (by simp [vals]) L3.out (vals_one lv) ?c4 ?c5 ?c6 ?_))
  case c4 => unfold maxLen; omega
  case c5 => omega
  case c6 => exact hb3.size
  intro v4 w4 ho4 hg4 _
  have hb4 : Below w2.heap.size w2 w4 := hb3.grown hg4 hb3.size (fun k hk => (ho3.lt k hk).1)
  have hbuf : Lib.OwnBuf w2.heap.size 5 v4 (l.length + lv.length) (vals l ++ vals lv) w2 w4 := ⟨ho4, hb4, hb4.size⟩
  go_wp2_with (at_builtin; (refine Lib.wpList_append_byte rfl _ _ 22 rfl w2.heap.size 5 i0 Try.underlying22 hi hz0 hz1 hz2 v4 (l.length + lv.length) (vals l ++ vals lv) rfl w2 w4 _ hbuf rfl ?c7 ?_))
  case c7 => omega
  intro v5 w5 hbuf5
  have hB5 : Bytes w2.heap.size w2 w5 v5 lo := by
    unfold Bytes
    have hlen : (l ++ lv ++ [(7 : UInt8)]).length = l.length + lv.length + 1 := by rw [List.length_append, List.length_append]; rfl
    rw [hlo, vals_app, vals_app, hlen, List.append_assoc]
    exact hbuf5
  have hb5 := belowT hb2 hB5.below
  rcases hB5.lies with ⟨rfl, e⟩ | ⟨g5, c5, rfl, L5⟩
  · rw [hlo] at e; simp at e
  obtain ⟨_, hc5, hc6⟩ := hB5.cap_le (by rw [hlo]; simp)
  have RV5 := Lib.hid (RV.out g5 c5 _ hc5 hc6 L5)
  clear hc5 hc6
  clear hbuf5 hlo hB5 hbuf ho4 hg4 ho3 hg3 ho
  go_wp2_with fail
  refine RV5.out.mono ?_; rintro e w6 ⟨rfl, hb6⟩
  have B6 := belowT hb5 hb6
  go_wp2_with fail
  refine (ZA.out _).mono ?_; rintro e w7 ⟨rfl, hb7⟩
  have B7 := belowT B6 hb7
  go_wp2_with fail
  refine (RB.out _ B7).mono ?_; rintro e w8 ⟨rfl, hb8⟩
  have B8 := belowT B7 hb8
  go_upto_region 8 with fail
  go_cut [91] from 64 to 92 (fun vv wx => vv = .bool false ∧ Below w8.heap.size w8 wx)
  case first =>
    rcases HF.out with hf | ⟨hf, f1, f2, f3, fs, fc⟩
    · skip
      change (Code.region 8 few8 true).wp Try.prog _ _ _
      refine wp_region_noPanic ?_
      refine wp_region_held_drew (S := fun w' => Below w8.heap.size w8 w') (by kernel_rfl) ((Below.refl _ _).drew) (fun hHeld => ?_)
      refine wpAnyH_take (i := 0) (oi := ({ dst := some 64, op := .move (.tmp 13), type := 25, pos := "law.go:84", after := #[], guard := none } : Oper)) (v := ?vs1_0) rfl few8_plain (by as_aux_lemma => kernel_rfl) (by as_aux_lemma => kernel_rfl) (fun _ _ _ h => h) (Or.inl ⟨by rfl, ?ys1_0⟩) (by assumption) ?rs1_0
      case ys1_0 => (intro w hSw; (try dsimp only at hSw); go_simp; try with_reducible rfl)
      try simp only [Act.put, List.setIfInBounds_toArray, List.set_cons_zero, List.set_cons_succ]
      refine wpAnyH_take (i := 1) (oi := ({ dst := some 65, op := .binOp .eql 25 (.tmp 64) (.const (.int .i64 0)) 25, type := 4, pos := "law.go:84", after := #[{ on := 0, ground := .data }], guard := none } : Oper)) (v := ?vs1_1) rfl few8_plain (by as_aux_lemma => kernel_rfl) (by as_aux_lemma => kernel_rfl) (fun _ _ _ h => h) (Or.inl ⟨by rfl, ?ys1_1⟩) (by assumption) ?rs1_1
      case ys1_1 => (intro w hSw; (try dsimp only at hSw); go_simp; try with_reducible rfl)
      try simp only [Act.put, List.setIfInBounds_toArray, List.set_cons_zero, List.set_cons_succ]
      refine wpAnyH_take (i := 2) (oi := ({ dst := some 66, op := .move (.tmp 65), type := 4, pos := "law.go:84", after := #[{ on := 1, ground := .data }], guard := none } : Oper)) (v := ?vs1_2) rfl few8_plain (by as_aux_lemma => kernel_rfl) (by as_aux_lemma => kernel_rfl) (fun _ _ _ h => h) (Or.inl ⟨by rfl, ?ys1_2⟩) (by assumption) ?rs1_2
      case ys1_2 => (intro w hSw; (try dsimp only at hSw); go_simp; try with_reducible rfl)
      try simp only [Act.put, List.setIfInBounds_toArray, List.set_cons_zero, List.set_cons_succ]
      refine wpAnyH_take (i := 3) (oi := ({ dst := some 67, op := .move (.tmp 2), type := 3, pos := "law.go:84", after := #[{ on := 2, ground := .guard }], guard := some (2, true) } : Oper)) (v := undef) rfl few8_plain (by as_aux_lemma => kernel_rfl) (by as_aux_lemma => kernel_rfl) (fun _ _ _ h => h) (Or.inr ⟨by rfl, rfl⟩) (by assumption) ?_
      try simp only [Act.put, List.setIfInBounds_toArray, List.set_cons_zero, List.set_cons_succ]
      refine wpAnyH_take (i := 4) (oi := ({ dst := some 68, op := .binOp .lss 3 (.tmp 67) (.const (.int .i64 0)) 3, type := 4, pos := "law.go:84", after := #[{ on := 3, ground := .data }, { on := 2, ground := .guard }], guard := some (2, true) } : Oper)) (v := undef) rfl few8_plain (by as_aux_lemma => kernel_rfl) (by as_aux_lemma => kernel_rfl) (fun _ _ _ h => h) (Or.inr ⟨by rfl, rfl⟩) (by assumption) ?_
      try simp only [Act.put, List.setIfInBounds_toArray, List.set_cons_zero, List.set_cons_succ]
      refine wpAnyH_take (i := 5) (oi := ({ dst := some 69, op := .move (.tmp 68), type := 4, pos := "law.go:84", after := #[{ on := 4, ground := .data }, { on := 2, ground := .chain }, { on := 2, ground := .guard }], guard := some (2, true) } : Oper)) (v := undef) rfl few8_plain (by as_aux_lemma => kernel_rfl) (by as_aux_lemma => kernel_rfl) (fun _ _ _ h => h) (Or.inr ⟨by rfl, rfl⟩) (by assumption) ?_
      try simp only [Act.put, List.setIfInBounds_toArray, List.set_cons_zero, List.set_cons_succ]
      refine wpAnyH_take (i := 6) (oi := ({ dst := some 70, op := .move (.tmp 12), type := 3, pos := "law.go:84", after := #[{ on := 5, ground := .guard }], guard := some (5, false) } : Oper)) (v := undef) rfl few8_plain (by as_aux_lemma => kernel_rfl) (by as_aux_lemma => kernel_rfl) (fun _ _ _ h => h) (Or.inr ⟨by rfl, rfl⟩) (by assumption) ?_
      try simp only [Act.put, List.setIfInBounds_toArray, List.set_cons_zero, List.set_cons_succ]
      refine wpAnyH_take (i := 7) (oi := ({ dst := some 71, op := .move (.tmp 1), type := 22, pos := "law.go:84", after := #[{ on := 5, ground := .guard }], guard := some (5, false) } : Oper)) (v := undef) rfl few8_plain (by as_aux_lemma => kernel_rfl) (by as_aux_lemma => kernel_rfl) (fun _ _ _ h => h) (Or.inr ⟨by rfl, rfl⟩) (by assumption) ?_
      try simp only [Act.put, List.setIfInBounds_toArray, List.set_cons_zero, List.set_cons_succ]
      refine wpAnyH_take (i := 8) (oi := ({ dst := some 72, op := .call { callee := .builtin .len, args := #[.tmp 71], argTypes := #[22] }, type := 3, pos := "law.go:84", after := #[{ on := 7, ground := .data }, { on := 5, ground := .guard }], guard := some (5, false) } : Oper)) (v := undef) rfl few8_plain (by as_aux_lemma => kernel_rfl) (by as_aux_lemma => kernel_rfl) (fun _ _ _ h => h) (Or.inr ⟨by rfl, rfl⟩) (by assumption) ?_
      try simp only [Act.put, List.setIfInBounds_toArray, List.set_cons_zero, List.set_cons_succ]
      refine wpAnyH_take (i := 9) (oi := ({ dst := some 73, op := .binOp .gtr 3 (.tmp 70) (.tmp 72) 3, type := 4, pos := "law.go:84", after := #[{ on := 6, ground := .data }, { on := 8, ground := .data }, { on := 5, ground := .guard }], guard := some (5, false) } : Oper)) (v := undef) rfl few8_plain (by as_aux_lemma => kernel_rfl) (by as_aux_lemma => kernel_rfl) (fun _ _ _ h => h) (Or.inr ⟨by rfl, rfl⟩) (by assumption) ?_
      try simp only [Act.put, List.setIfInBounds_toArray, List.set_cons_zero, List.set_cons_succ]
      refine wpAnyH_take (i := 10) (oi := ({ dst := some 74, op := .pick (.tmp 69) (.const (.bool true)) (.tmp 73), type := 4, pos := "law.go:84", after := #[{ on := 5, ground := .data }, { on := 9, ground := .data }, { on := 2, ground := .guard }], guard := some (2, true) } : Oper)) (v := undef) rfl few8_plain (by as_aux_lemma => kernel_rfl) (by as_aux_lemma => kernel_rfl) (fun _ _ _ h => h) (Or.inr ⟨by rfl, rfl⟩) (by assumption) ?_
      try simp only [Act.put, List.setIfInBounds_toArray, List.set_cons_zero, List.set_cons_succ]
      refine wpAnyH_take (i := 11) (oi := ({ dst := some 75, op := .move (.tmp 74), type := 4, pos := "law.go:84", after := #[{ on := 10, ground := .data }, { on := 5, ground := .chain }, { on := 2, ground := .guard }], guard := some (2, true) } : Oper)) (v := undef) rfl few8_plain (by as_aux_lemma => kernel_rfl) (by as_aux_lemma => kernel_rfl) (fun _ _ _ h => h) (Or.inr ⟨by rfl, rfl⟩) (by assumption) ?_
      try simp only [Act.put, List.setIfInBounds_toArray, List.set_cons_zero, List.set_cons_succ]
      refine wpAnyH_take (i := 12) (oi := ({ dst := some 76, op := .move (.tmp 12), type := 3, pos := "law.go:84", after := #[{ on := 11, ground := .guard }], guard := some (11, false) } : Oper)) (v := undef) rfl few8_plain (by as_aux_lemma => kernel_rfl) (by as_aux_lemma => kernel_rfl) (fun _ _ _ h => h) (Or.inr ⟨by rfl, rfl⟩) (by assumption) ?_
      try simp only [Act.put, List.setIfInBounds_toArray, List.set_cons_zero, List.set_cons_succ]
      refine wpAnyH_take (i := 13) (oi := ({ dst := some 77, op := .move (.tmp 2), type := 3, pos := "law.go:84", after := #[{ on := 11, ground := .guard }], guard := some (11, false) } : Oper)) (v := undef) rfl few8_plain (by as_aux_lemma => kernel_rfl) (by as_aux_lemma => kernel_rfl) (fun _ _ _ h => h) (Or.inr ⟨by rfl, rfl⟩) (by assumption) ?_
      try simp only [Act.put, List.setIfInBounds_toArray, List.set_cons_zero, List.set_cons_succ]
      refine wpAnyH_take (i := 14) (oi := ({ dst := some 78, op := .binOp .leq 3 (.tmp 76) (.tmp 77) 3, type := 4, pos := "law.go:84", after := #[{ on := 12, ground := .data }, { on := 13, ground := .data }, { on := 11, ground := .guard }], guard := some (11, false) } : Oper)) (v := undef) rfl few8_plain (by as_aux_lemma => kernel_rfl) (by as_aux_lemma => kernel_rfl) (fun _ _ _ h => h) (Or.inr ⟨by rfl, rfl⟩) (by assumption) ?_
      try simp only [Act.put, List.setIfInBounds_toArray, List.set_cons_zero, List.set_cons_succ]
      refine wpAnyH_take (i := 15) (oi := ({ dst := some 79, op := .pick (.tmp 75) (.const (.bool true)) (.tmp 78), type := 4, pos := "law.go:84", after := #[{ on := 11, ground := .data }, { on := 14, ground := .data }, { on := 2, ground := .guard }], guard := some (2, true) } : Oper)) (v := undef) rfl few8_plain (by as_aux_lemma => kernel_rfl) (by as_aux_lemma => kernel_rfl) (fun _ _ _ h => h) (Or.inr ⟨by rfl, rfl⟩) (by assumption) ?_
      try simp only [Act.put, List.setIfInBounds_toArray, List.set_cons_zero, List.set_cons_succ]
      refine wpAnyH_take (i := 16) (oi := ({ dst := some 80, op := .move (.tmp 79), type := 4, pos := "law.go:84", after := #[{ on := 15, ground := .data }, { on := 11, ground := .chain }, { on := 2, ground := .guard }], guard := some (2, true) } : Oper)) (v := undef) rfl few8_plain (by as_aux_lemma => kernel_rfl) (by as_aux_lemma => kernel_rfl) (fun _ _ _ h => h) (Or.inr ⟨by rfl, rfl⟩) (by assumption) ?_
      try simp only [Act.put, List.setIfInBounds_toArray, List.set_cons_zero, List.set_cons_succ]
      refine wpAnyH_take (i := 17) (oi := ({ dst := some 81, op := .move (.tmp 11), type := 28, pos := "law.go:84", after := #[{ on := 16, ground := .guard }], guard := some (16, false) } : Oper)) (v := undef) rfl few8_plain (by as_aux_lemma => kernel_rfl) (by as_aux_lemma => kernel_rfl) (fun _ _ _ h => h) (Or.inr ⟨by rfl, rfl⟩) (by assumption) ?_
      try simp only [Act.put, List.setIfInBounds_toArray, List.set_cons_zero, List.set_cons_succ]
      refine wpAnyH_take (i := 18) (oi := ({ dst := some 82, op := .call { callee := .value (.func 26), args := #[.tmp 81], argTypes := #[28] }, type := 22, pos := "law.go:84", after := #[{ on := 17, ground := .data }, { on := 16, ground := .chain }, { on := 16, ground := .guard }], guard := some (16, false) } : Oper)) (v := undef) rfl few8_plain (by as_aux_lemma => kernel_rfl) (by as_aux_lemma => kernel_rfl) (fun _ _ _ h => h) (Or.inr ⟨by rfl, rfl⟩) (by assumption) ?_
      try simp only [Act.put, List.setIfInBounds_toArray, List.set_cons_zero, List.set_cons_succ]
      refine wpAnyH_take (i := 19) (oi := ({ dst := some 83, op := .convert 22 9 (.tmp 82), type := 9, pos := "law.go:84", after := #[{ on := 18, ground := .data }, { on := 16, ground := .guard }], guard := some (16, false) } : Oper)) (v := undef) rfl few8_plain (by as_aux_lemma => kernel_rfl) (by as_aux_lemma => kernel_rfl) (fun _ _ _ h => h) (Or.inr ⟨by rfl, rfl⟩) (by assumption) ?_
      try simp only [Act.put, List.setIfInBounds_toArray, List.set_cons_zero, List.set_cons_succ]
      refine wpAnyH_take (i := 20) (oi := ({ dst := some 84, op := .move (.tmp 1), type := 22, pos := "law.go:84", after := #[{ on := 16, ground := .guard }], guard := some (16, false) } : Oper)) (v := undef) rfl few8_plain (by as_aux_lemma => kernel_rfl) (by as_aux_lemma => kernel_rfl) (fun _ _ _ h => h) (Or.inr ⟨by rfl, rfl⟩) (by assumption) ?_
      try simp only [Act.put, List.setIfInBounds_toArray, List.set_cons_zero, List.set_cons_succ]
      refine wpAnyH_take (i := 21) (oi := ({ dst := some 85, op := .move (.tmp 2), type := 3, pos := "law.go:84", after := #[{ on := 16, ground := .guard }], guard := some (16, false) } : Oper)) (v := undef) rfl few8_plain (by as_aux_lemma => kernel_rfl) (by as_aux_lemma => kernel_rfl) (fun _ _ _ h => h) (Or.inr ⟨by rfl, rfl⟩) (by assumption) ?_
      try simp only [Act.put, List.setIfInBounds_toArray, List.set_cons_zero, List.set_cons_succ]
      refine wpAnyH_take (i := 22) (oi := ({ dst := some 86, op := .move (.tmp 12), type := 3, pos := "law.go:84", after := #[{ on := 16, ground := .guard }], guard := some (16, false) } : Oper)) (v := undef) rfl few8_plain (by as_aux_lemma => kernel_rfl) (by as_aux_lemma => kernel_rfl) (fun _ _ _ h => h) (Or.inr ⟨by rfl, rfl⟩) (by assumption) ?_
      try simp only [Act.put, List.setIfInBounds_toArray, List.set_cons_zero, List.set_cons_succ]
      refine wpAnyH_take (i := 23) (oi := ({ dst := some 87, op := .slice 22 (.tmp 84) (some (.tmp 85)) (some (.tmp 86)) none, type := 22, pos := "law.go:84", after := #[{ on := 20, ground := .data }, { on := 21, ground := .data }, { on := 22, ground := .data }, { on := 16, ground := .guard }], guard := some (16, false) } : Oper)) (v := undef) rfl few8_plain (by as_aux_lemma => kernel_rfl) (by as_aux_lemma => kernel_rfl) (fun _ _ _ h => h) (Or.inr ⟨by rfl, rfl⟩) (by assumption) ?_
      try simp only [Act.put, List.setIfInBounds_toArray, List.set_cons_zero, List.set_cons_succ]
      refine wpAnyH_take (i := 24) (oi := ({ dst := some 88, op := .convert 22 9 (.tmp 87), type := 9, pos := "law.go:84", after := #[{ on := 23, ground := .data }, { on := 16, ground := .guard }], guard := some (16, false) } : Oper)) (v := undef) rfl few8_plain (by as_aux_lemma => kernel_rfl) (by as_aux_lemma => kernel_rfl) (fun _ _ _ h => h) (Or.inr ⟨by rfl, rfl⟩) (by assumption) ?_
      try simp only [Act.put, List.setIfInBounds_toArray, List.set_cons_zero, List.set_cons_succ]
      refine wpAnyH_take (i := 25) (oi := ({ dst := some 89, op := .binOp .neq 9 (.tmp 83) (.tmp 88) 9, type := 4, pos := "law.go:84", after := #[{ on := 19, ground := .data }, { on := 24, ground := .data }, { on := 16, ground := .guard }], guard := some (16, false) } : Oper)) (v := undef) rfl few8_plain (by as_aux_lemma => kernel_rfl) (by as_aux_lemma => kernel_rfl) (fun _ _ _ h => h) (Or.inr ⟨by rfl, rfl⟩) (by assumption) ?_
      try simp only [Act.put, List.setIfInBounds_toArray, List.set_cons_zero, List.set_cons_succ]
      refine wpAnyH_take (i := 26) (oi := ({ dst := some 90, op := .pick (.tmp 80) (.const (.bool true)) (.tmp 89), type := 4, pos := "law.go:84", after := #[{ on := 16, ground := .data }, { on := 25, ground := .data }, { on := 2, ground := .guard }], guard := some (2, true) } : Oper)) (v := undef) rfl few8_plain (by as_aux_lemma => kernel_rfl) (by as_aux_lemma => kernel_rfl) (fun _ _ _ h => h) (Or.inr ⟨by rfl, rfl⟩) (by assumption) ?_
      try simp only [Act.put, List.setIfInBounds_toArray, List.set_cons_zero, List.set_cons_succ]
      refine wpAnyH_take (i := 27) (oi := ({ dst := some 91, op := .pick (.tmp 66) (.tmp 90) (.const (.bool false)), type := 4, pos := "law.go:84", after := #[{ on := 2, ground := .data }, { on := 26, ground := .data }], guard := none } : Oper)) (v := ?vs1_27) rfl few8_plain (by as_aux_lemma => kernel_rfl) (by as_aux_lemma => kernel_rfl) (fun _ _ _ h => h) (Or.inl ⟨by rfl, ?ys1_27⟩) (by assumption) ?rs1_27
      case ys1_27 => (intro w hSw; (try dsimp only at hSw); go_simp; try with_reducible rfl)
      try simp only [Act.put, List.setIfInBounds_toArray, List.set_cons_zero, List.set_cons_succ]
      refine wpAnyH_done (by as_aux_lemma => kernel_rfl) ?_ _
      refine NoPanic.normal ?_
      go_wp2_with fail
      go_meet
      exact ⟨rfl, by assumption⟩
    · have f1d : decide (at_ < 0) = false := decide_eq_false (by omega)
      have f3d : decide ((l.length : Int) < up) = false := decide_eq_false (by omega)
      have f2d : decide (up ≤ at_) = false := decide_eq_false (by omega)
      have cvs : ∀ w', Below w8.heap.size w8 w' → (convert 22 9 sv).run Try.prog w' = .ok (.string ⟨ly.toArray⟩) w' := fun w' h => fc w' (belowT B8 h)
      clear fc
      change (Code.region 8 few8 true).wp Try.prog _ _ _
      refine wp_region_noPanic ?_
      refine wp_region_held_drew (S := fun w' => Below w8.heap.size w8 w') (by kernel_rfl) ((Below.refl _ _).drew) (fun hHeld => ?_)
      refine wpAnyH_take (i := 0) (oi := ({ dst := some 64, op := .move (.tmp 13), type := 25, pos := "law.go:84", after := #[], guard := none } : Oper)) (v := ?vs2_0) rfl few8_plain (by as_aux_lemma => kernel_rfl) (by as_aux_lemma => kernel_rfl) (fun _ _ _ h => h) (Or.inl ⟨by rfl, ?ys2_0⟩) (by assumption) ?rs2_0
      case ys2_0 => (intro w hSw; (try dsimp only at hSw); go_simp; try with_reducible rfl)
      try simp only [Act.put, List.setIfInBounds_toArray, List.set_cons_zero, List.set_cons_succ]
      refine wpAnyH_take (i := 1) (oi := ({ dst := some 65, op := .binOp .eql 25 (.tmp 64) (.const (.int .i64 0)) 25, type := 4, pos := "law.go:84", after := #[{ on := 0, ground := .data }], guard := none } : Oper)) (v := ?vs2_1) rfl few8_plain (by as_aux_lemma => kernel_rfl) (by as_aux_lemma => kernel_rfl) (fun _ _ _ h => h) (Or.inl ⟨by rfl, ?ys2_1⟩) (by assumption) ?rs2_1
      case ys2_1 => (intro w hSw; (try dsimp only at hSw); go_simp; try with_reducible rfl)
      try simp only [Act.put, List.setIfInBounds_toArray, List.set_cons_zero, List.set_cons_succ]
      refine wpAnyH_take (i := 2) (oi := ({ dst := some 66, op := .move (.tmp 65), type := 4, pos := "law.go:84", after := #[{ on := 1, ground := .data }], guard := none } : Oper)) (v := ?vs2_2) rfl few8_plain (by as_aux_lemma => kernel_rfl) (by as_aux_lemma => kernel_rfl) (fun _ _ _ h => h) (Or.inl ⟨by rfl, ?ys2_2⟩) (by assumption) ?rs2_2
      case ys2_2 => (intro w hSw; (try dsimp only at hSw); go_simp; try with_reducible rfl)
      try simp only [Act.put, List.setIfInBounds_toArray, List.set_cons_zero, List.set_cons_succ]
      refine wpAnyH_take (i := 3) (oi := ({ dst := some 67, op := .move (.tmp 2), type := 3, pos := "law.go:84", after := #[{ on := 2, ground := .guard }], guard := some (2, true) } : Oper)) (v := ?vs2_3) rfl few8_plain (by as_aux_lemma => kernel_rfl) (by as_aux_lemma => kernel_rfl) (fun _ _ _ h => h) (Or.inl ⟨by rfl, ?ys2_3⟩) (by assumption) ?rs2_3
      case ys2_3 => (intro w hSw; (try dsimp only at hSw); go_simp; try with_reducible rfl)
      try simp only [Act.put, List.setIfInBounds_toArray, List.set_cons_zero, List.set_cons_succ]
      refine wpAnyH_take (i := 4) (oi := ({ dst := some 68, op := .binOp .lss 3 (.tmp 67) (.const (.int .i64 0)) 3, type := 4, pos := "law.go:84", after := #[{ on := 3, ground := .data }, { on := 2, ground := .guard }], guard := some (2, true) } : Oper)) (v := ?vs2_4) rfl few8_plain (by as_aux_lemma => kernel_rfl) (by as_aux_lemma => kernel_rfl) (fun _ _ _ h => h) (Or.inl ⟨by rfl, ?ys2_4⟩) (by assumption) ?rs2_4
      case ys2_4 => (intro w hSw; (try dsimp only at hSw); go_simp; try with_reducible rfl)
      try simp only [Act.put, List.setIfInBounds_toArray, List.set_cons_zero, List.set_cons_succ]
      refine wpAnyH_take (i := 5) (oi := ({ dst := some 69, op := .move (.tmp 68), type := 4, pos := "law.go:84", after := #[{ on := 4, ground := .data }, { on := 2, ground := .chain }, { on := 2, ground := .guard }], guard := some (2, true) } : Oper)) (v := ?vs2_5) rfl few8_plain (by as_aux_lemma => kernel_rfl) (by as_aux_lemma => kernel_rfl) (fun _ _ _ h => h) (Or.inl ⟨by rfl, ?ys2_5⟩) (by assumption) ?rs2_5
      case ys2_5 => (intro w hSw; (try dsimp only at hSw); go_simp; try with_reducible rfl)
      try simp only [Act.put, List.setIfInBounds_toArray, List.set_cons_zero, List.set_cons_succ]
      refine wpAnyH_take (i := 6) (oi := ({ dst := some 70, op := .move (.tmp 12), type := 3, pos := "law.go:84", after := #[{ on := 5, ground := .guard }], guard := some (5, false) } : Oper)) (v := ?vs2_6) rfl few8_plain (by as_aux_lemma => kernel_rfl) (by as_aux_lemma => kernel_rfl) (fun _ _ _ h => h) (Or.inl ⟨by rfl, ?ys2_6⟩) (by assumption) ?rs2_6
      case ys2_6 => (intro w hSw; (try dsimp only at hSw); go_simp; try with_reducible rfl)
      try simp only [Act.put, List.setIfInBounds_toArray, List.set_cons_zero, List.set_cons_succ]
      refine wpAnyH_take (i := 7) (oi := ({ dst := some 71, op := .move (.tmp 1), type := 22, pos := "law.go:84", after := #[{ on := 5, ground := .guard }], guard := some (5, false) } : Oper)) (v := ?vs2_7) rfl few8_plain (by as_aux_lemma => kernel_rfl) (by as_aux_lemma => kernel_rfl) (fun _ _ _ h => h) (Or.inl ⟨by rfl, ?ys2_7⟩) (by assumption) ?rs2_7
      case ys2_7 => (intro w hSw; (try dsimp only at hSw); go_simp; try with_reducible rfl)
      try simp only [Act.put, List.setIfInBounds_toArray, List.set_cons_zero, List.set_cons_succ]
      refine wpAnyH_take (i := 8) (oi := ({ dst := some 72, op := .call { callee := .builtin .len, args := #[.tmp 71], argTypes := #[22] }, type := 3, pos := "law.go:84", after := #[{ on := 7, ground := .data }, { on := 5, ground := .guard }], guard := some (5, false) } : Oper)) (v := ?vs2_8) rfl few8_plain (by as_aux_lemma => kernel_rfl) (by as_aux_lemma => kernel_rfl) (fun _ _ _ h => h) (Or.inl ⟨by rfl, ?ys2_8⟩) (by assumption) ?rs2_8
      case ys2_8 => (intro w hSw; (try dsimp only at hSw); go_simp; try with_reducible rfl)
      try simp only [Act.put, List.setIfInBounds_toArray, List.set_cons_zero, List.set_cons_succ]
      refine wpAnyH_take (i := 9) (oi := ({ dst := some 73, op := .binOp .gtr 3 (.tmp 70) (.tmp 72) 3, type := 4, pos := "law.go:84", after := #[{ on := 6, ground := .data }, { on := 8, ground := .data }, { on := 5, ground := .guard }], guard := some (5, false) } : Oper)) (v := ?vs2_9) rfl few8_plain (by as_aux_lemma => kernel_rfl) (by as_aux_lemma => kernel_rfl) (fun _ _ _ h => h) (Or.inl ⟨by rfl, ?ys2_9⟩) (by assumption) ?rs2_9
      case ys2_9 => (intro w hSw; (try dsimp only at hSw); go_simp; try with_reducible rfl)
      try simp only [Act.put, List.setIfInBounds_toArray, List.set_cons_zero, List.set_cons_succ]
      refine wpAnyH_take (i := 10) (oi := ({ dst := some 74, op := .pick (.tmp 69) (.const (.bool true)) (.tmp 73), type := 4, pos := "law.go:84", after := #[{ on := 5, ground := .data }, { on := 9, ground := .data }, { on := 2, ground := .guard }], guard := some (2, true) } : Oper)) (v := ?vs2_10) rfl few8_plain (by as_aux_lemma => kernel_rfl) (by as_aux_lemma => kernel_rfl) (fun _ _ _ h => h) (Or.inl ⟨by rfl, ?ys2_10⟩) (by assumption) ?rs2_10
      case ys2_10 => (intro w hSw; (try dsimp only at hSw); go_simp; try with_reducible rfl)
      try simp only [Act.put, List.setIfInBounds_toArray, List.set_cons_zero, List.set_cons_succ]
      refine wpAnyH_take (i := 11) (oi := ({ dst := some 75, op := .move (.tmp 74), type := 4, pos := "law.go:84", after := #[{ on := 10, ground := .data }, { on := 5, ground := .chain }, { on := 2, ground := .guard }], guard := some (2, true) } : Oper)) (v := ?vs2_11) rfl few8_plain (by as_aux_lemma => kernel_rfl) (by as_aux_lemma => kernel_rfl) (fun _ _ _ h => h) (Or.inl ⟨by rfl, ?ys2_11⟩) (by assumption) ?rs2_11
      case ys2_11 => (intro w hSw; (try dsimp only at hSw); go_simp; try with_reducible rfl)
      try simp only [Act.put, List.setIfInBounds_toArray, List.set_cons_zero, List.set_cons_succ]
      refine wpAnyH_take (i := 12) (oi := ({ dst := some 76, op := .move (.tmp 12), type := 3, pos := "law.go:84", after := #[{ on := 11, ground := .guard }], guard := some (11, false) } : Oper)) (v := ?vs2_12) rfl few8_plain (by as_aux_lemma => kernel_rfl) (by as_aux_lemma => kernel_rfl) (fun _ _ _ h => h) (Or.inl ⟨by rfl, ?ys2_12⟩) (by assumption) ?rs2_12
      case ys2_12 => (intro w hSw; (try dsimp only at hSw); go_simp; try with_reducible rfl)
      try simp only [Act.put, List.setIfInBounds_toArray, List.set_cons_zero, List.set_cons_succ]
      refine wpAnyH_take (i := 13) (oi := ({ dst := some 77, op := .move (.tmp 2), type := 3, pos := "law.go:84", after := #[{ on := 11, ground := .guard }], guard := some (11, false) } : Oper)) (v := ?vs2_13) rfl few8_plain (by as_aux_lemma => kernel_rfl) (by as_aux_lemma => kernel_rfl) (fun _ _ _ h => h) (Or.inl ⟨by rfl, ?ys2_13⟩) (by assumption) ?rs2_13
      case ys2_13 => (intro w hSw; (try dsimp only at hSw); go_simp; try with_reducible rfl)
      try simp only [Act.put, List.setIfInBounds_toArray, List.set_cons_zero, List.set_cons_succ]
      refine wpAnyH_take (i := 14) (oi := ({ dst := some 78, op := .binOp .leq 3 (.tmp 76) (.tmp 77) 3, type := 4, pos := "law.go:84", after := #[{ on := 12, ground := .data }, { on := 13, ground := .data }, { on := 11, ground := .guard }], guard := some (11, false) } : Oper)) (v := ?vs2_14) rfl few8_plain (by as_aux_lemma => kernel_rfl) (by as_aux_lemma => kernel_rfl) (fun _ _ _ h => h) (Or.inl ⟨by rfl, ?ys2_14⟩) (by assumption) ?rs2_14
      case ys2_14 => (intro w hSw; (try dsimp only at hSw); go_simp; try with_reducible rfl)
      try simp only [Act.put, List.setIfInBounds_toArray, List.set_cons_zero, List.set_cons_succ]
      refine wpAnyH_take (i := 15) (oi := ({ dst := some 79, op := .pick (.tmp 75) (.const (.bool true)) (.tmp 78), type := 4, pos := "law.go:84", after := #[{ on := 11, ground := .data }, { on := 14, ground := .data }, { on := 2, ground := .guard }], guard := some (2, true) } : Oper)) (v := ?vs2_15) rfl few8_plain (by as_aux_lemma => kernel_rfl) (by as_aux_lemma => kernel_rfl) (fun _ _ _ h => h) (Or.inl ⟨by rfl, ?ys2_15⟩) (by assumption) ?rs2_15
      case ys2_15 => (intro w hSw; (try dsimp only at hSw); go_simp; try with_reducible rfl)
      try simp only [Act.put, List.setIfInBounds_toArray, List.set_cons_zero, List.set_cons_succ]
      refine wpAnyH_take (i := 16) (oi := ({ dst := some 80, op := .move (.tmp 79), type := 4, pos := "law.go:84", after := #[{ on := 15, ground := .data }, { on := 11, ground := .chain }, { on := 2, ground := .guard }], guard := some (2, true) } : Oper)) (v := ?vs2_16) rfl few8_plain (by as_aux_lemma => kernel_rfl) (by as_aux_lemma => kernel_rfl) (fun _ _ _ h => h) (Or.inl ⟨by rfl, ?ys2_16⟩) (by assumption) ?rs2_16
      case ys2_16 => (intro w hSw; (try dsimp only at hSw); go_simp; try with_reducible rfl)
      try simp only [Act.put, List.setIfInBounds_toArray, List.set_cons_zero, List.set_cons_succ]
      refine wpAnyH_take (i := 17) (oi := ({ dst := some 81, op := .move (.tmp 11), type := 28, pos := "law.go:84", after := #[{ on := 16, ground := .guard }], guard := some (16, false) } : Oper)) (v := ?vs2_17) rfl few8_plain (by as_aux_lemma => kernel_rfl) (by as_aux_lemma => kernel_rfl) (fun _ _ _ h => h) (Or.inl ⟨by rfl, ?ys2_17⟩) (by assumption) ?rs2_17
      case ys2_17 => (intro w hSw; (try dsimp only at hSw); go_simp; try with_reducible rfl)
      try simp only [Act.put, List.setIfInBounds_toArray, List.set_cons_zero, List.set_cons_succ]
      refine wpAnyH_take (i := 20) (oi := ({ dst := some 84, op := .move (.tmp 1), type := 22, pos := "law.go:84", after := #[{ on := 16, ground := .guard }], guard := some (16, false) } : Oper)) (v := ?vs2_20) rfl few8_plain (by as_aux_lemma => kernel_rfl) (by as_aux_lemma => kernel_rfl) (fun _ _ _ h => h) (Or.inl ⟨by rfl, ?ys2_20⟩) (by assumption) ?rs2_20
      case ys2_20 => (intro w hSw; (try dsimp only at hSw); go_simp; try with_reducible rfl)
      try simp only [Act.put, List.setIfInBounds_toArray, List.set_cons_zero, List.set_cons_succ]
      refine wpAnyH_take (i := 21) (oi := ({ dst := some 85, op := .move (.tmp 2), type := 3, pos := "law.go:84", after := #[{ on := 16, ground := .guard }], guard := some (16, false) } : Oper)) (v := ?vs2_21) rfl few8_plain (by as_aux_lemma => kernel_rfl) (by as_aux_lemma => kernel_rfl) (fun _ _ _ h => h) (Or.inl ⟨by rfl, ?ys2_21⟩) (by assumption) ?rs2_21
      case ys2_21 => (intro w hSw; (try dsimp only at hSw); go_simp; try with_reducible rfl)
      try simp only [Act.put, List.setIfInBounds_toArray, List.set_cons_zero, List.set_cons_succ]
      refine wpAnyH_take (i := 22) (oi := ({ dst := some 86, op := .move (.tmp 12), type := 3, pos := "law.go:84", after := #[{ on := 16, ground := .guard }], guard := some (16, false) } : Oper)) (v := ?vs2_22) rfl few8_plain (by as_aux_lemma => kernel_rfl) (by as_aux_lemma => kernel_rfl) (fun _ _ _ h => h) (Or.inl ⟨by rfl, ?ys2_22⟩) (by assumption) ?rs2_22
      case ys2_22 => (intro w hSw; (try dsimp only at hSw); go_simp; try with_reducible rfl)
      try simp only [Act.put, List.setIfInBounds_toArray, List.set_cons_zero, List.set_cons_succ]
      refine wpAnyH_take (i := 23) (oi := ({ dst := some 87, op := .slice 22 (.tmp 84) (some (.tmp 85)) (some (.tmp 86)) none, type := 22, pos := "law.go:84", after := #[{ on := 20, ground := .data }, { on := 21, ground := .data }, { on := 22, ground := .data }, { on := 16, ground := .guard }], guard := some (16, false) } : Oper)) (v := ?vs2_23) rfl few8_plain (by as_aux_lemma => kernel_rfl) (by as_aux_lemma => kernel_rfl) (fun _ _ _ h => h) (Or.inl ⟨by rfl, ?ys2_23⟩) (by assumption) ?rs2_23
      case ys2_23 => (intro w hSw; (try dsimp only at hSw); go_simp; try with_reducible rfl)
      try simp only [Act.put, List.setIfInBounds_toArray, List.set_cons_zero, List.set_cons_succ]
      refine wpAnyH_take (i := 24) (oi := ({ dst := some 88, op := .convert 22 9 (.tmp 87), type := 9, pos := "law.go:84", after := #[{ on := 23, ground := .data }, { on := 16, ground := .guard }], guard := some (16, false) } : Oper)) (v := ?vs2_24) rfl few8_plain (by as_aux_lemma => kernel_rfl) (by as_aux_lemma => kernel_rfl) (fun _ _ _ h => h) (Or.inl ⟨by rfl, ?ys2_24⟩) (by assumption) ?rs2_24
      case ys2_24 => (intro w hSw; (try dsimp only at hSw); go_simp; try with_reducible rfl)
      try simp only [Act.put, List.setIfInBounds_toArray, List.set_cons_zero, List.set_cons_succ]
      refine wpAnyH_ready (rs := [18]) (by as_aux_lemma => kernel_rfl) (by simp) ?_
      refine AllReadyH.cons (o := ({ dst := some 82, op := .call { callee := .value (.func 26), args := #[.tmp 81], argTypes := #[28] }, type := 22, pos := "law.go:84", after := #[{ on := 17, ground := .data }, { on := 16, ground := .chain }, { on := 16, ground := .guard }], guard := some (16, false) } : Oper)) rfl (fun KK hK => ?_) AllReadyH.nil
      rw [if_pos (by rfl)]
      go_simp
      go_at_call 26; refine (VY.out _).mono ?_; rintro e w9 ⟨v9, rfl, hv9⟩
      have hb9 := hv9.below
      have cv9 := hv9.string
      go_wp2_with fail
      refine hK.out _ _ ?_ (fun hHeld9 => ?_)
      · exact belowT (by assumption) hb9
      refine wpAnyH_rebase (S' := fun w' => Below w9.heap.size w9 w') (fun w' h => belowT hHeld9 h) _ _ _ _ ?_
      have hHeldR9 := Below.refl w9.heap.size w9
      clear hK KK
      try simp only [Act.put, List.setIfInBounds_toArray, List.set_cons_zero, List.set_cons_succ]
      refine wpAnyH_take (i := 19) (oi := ({ dst := some 83, op := .convert 22 9 (.tmp 82), type := 9, pos := "law.go:84", after := #[{ on := 18, ground := .data }, { on := 16, ground := .guard }], guard := some (16, false) } : Oper)) (v := ?vs2_19) rfl few8_plain (by as_aux_lemma => kernel_rfl) (by as_aux_lemma => kernel_rfl) (fun _ _ _ h => h) (Or.inl ⟨by rfl, ?ys2_19⟩) (by assumption) ?rs2_19
      case ys2_19 => (intro w hSw; (try dsimp only at hSw); have hS0 := belowT hHeld9 hSw; go_simp; try with_reducible rfl)
      try simp only [Act.put, List.setIfInBounds_toArray, List.set_cons_zero, List.set_cons_succ]
      refine wpAnyH_take (i := 25) (oi := ({ dst := some 89, op := .binOp .neq 9 (.tmp 83) (.tmp 88) 9, type := 4, pos := "law.go:84", after := #[{ on := 19, ground := .data }, { on := 24, ground := .data }, { on := 16, ground := .guard }], guard := some (16, false) } : Oper)) (v := ?vs2_25) rfl few8_plain (by as_aux_lemma => kernel_rfl) (by as_aux_lemma => kernel_rfl) (fun _ _ _ h => h) (Or.inl ⟨by rfl, ?ys2_25⟩) (by assumption) ?rs2_25
      case ys2_25 => (intro w hSw; (try dsimp only at hSw); have hS0 := belowT hHeld9 hSw; go_simp; try with_reducible rfl)
      try simp only [Act.put, List.setIfInBounds_toArray, List.set_cons_zero, List.set_cons_succ]
      refine wpAnyH_take (i := 26) (oi := ({ dst := some 90, op := .pick (.tmp 80) (.const (.bool true)) (.tmp 89), type := 4, pos := "law.go:84", after := #[{ on := 16, ground := .data }, { on := 25, ground := .data }, { on := 2, ground := .guard }], guard := some (2, true) } : Oper)) (v := ?vs2_26) rfl few8_plain (by as_aux_lemma => kernel_rfl) (by as_aux_lemma => kernel_rfl) (fun _ _ _ h => h) (Or.inl ⟨by rfl, ?ys2_26⟩) (by assumption) ?rs2_26
      case ys2_26 => (intro w hSw; (try dsimp only at hSw); have hS0 := belowT hHeld9 hSw; go_simp; try with_reducible rfl)
      try simp only [Act.put, List.setIfInBounds_toArray, List.set_cons_zero, List.set_cons_succ]
      refine wpAnyH_take (i := 27) (oi := ({ dst := some 91, op := .pick (.tmp 66) (.tmp 90) (.const (.bool false)), type := 4, pos := "law.go:84", after := #[{ on := 2, ground := .data }, { on := 26, ground := .data }], guard := none } : Oper)) (v := ?vs2_27) rfl few8_plain (by as_aux_lemma => kernel_rfl) (by as_aux_lemma => kernel_rfl) (fun _ _ _ h => h) (Or.inl ⟨by rfl, ?ys2_27⟩) (by assumption) ?rs2_27
      case ys2_27 => (intro w hSw; (try dsimp only at hSw); have hS0 := belowT hHeld9 hSw; go_simp; try with_reducible rfl)
      try simp only [Act.put, List.setIfInBounds_toArray, List.set_cons_zero, List.set_cons_succ]
      refine wpAnyH_done (by as_aux_lemma => kernel_rfl) ?_ _
      refine NoPanic.normal ?_
      go_wp2_with fail
      go_meet
      exact ⟨rfl, hHeld9⟩
  case rest =>
    rename World => wx
    obtain ⟨rfl, hbx⟩ := hcut
    have BX := belowT B8 hbx
    go_wp2_with fail
    refine (Z2.out _).mono ?_; rintro e w10 ⟨rfl, hb10⟩
    have B10 := belowT BX hb10
    go_wp2_with fail
    refine (Z3.out _).mono ?_; rintro e w11 ⟨rfl, hb11⟩
    have B11 := belowT B10 hb11
    go_wp2_with fail
    refine (AW.out _).mono ?_; rintro e w12 ⟨rfl, hb12⟩
    have B12 := belowT B11 hb12
    go_wp2_with fail
    go_ret
    exact ⟨rfl, B12⟩

set_option maxHeartbeats 8000000 in
set_option maxRecDepth 100000 in
theorem few_nil (lv lo : List UInt8) (n at_ y up f u zg z : Int) (w : World) (hv0 : (1 : Int) ≤ lv.length) (hv : (lv.length : Int) ≤ 10) (hu : IntKind.u64.wrap n = u)
    (ZI : Hid (∀ w, Calls Try.prog 22 #[.int .i64 n] w fun e w' => e = .returned (.int .u64 z) ∧ Below w.heap.size w w'))
    (VR : Hid (∀ w, Calls Try.prog 26 #[.int .u64 z] w fun e w' => ∃ v, e = .returned v ∧ Bytes w.heap.size w w' v lv))
    (hlo : lo = lv ++ [7]) (RV : Hid (∀ g c w', lo.length ≤ c → c ≤ maxLen → Lies w' g 0 lo → Calls Try.prog 20 #[.slice (some ⟨g, 0, none⟩) lo.length c, .int .i64 0] w' fun e w'' => e = .returned (.tuple #[.int .u64 z, .int .i64 (lv.length : Int), .int .i64 0]) ∧ Below w'.heap.size w' w''))
    (ZA : Hid (∀ w, Calls Try.prog 24 #[.int .u64 z] w fun e w' => e = .returned (.int .i64 n) ∧ Below w.heap.size w w'))
    (RB : Hid (∀ w', Below w.heap.size w w' → Calls Try.prog 20 #[.slice none 0 0, .int .i64 at_] w' fun e w'' => e = .returned (.tuple #[.int .u64 y, .int .i64 up, .int .i64 f]) ∧ Below w'.heap.size w' w''))
    (Z2 : Hid (∀ w, Calls Try.prog 24 #[.int .u64 u] w fun e w' => e = .returned (.int .i64 zg) ∧ Below w.heap.size w w'))
    (Z3 : Hid (∀ w, Calls Try.prog 22 #[.int .i64 zg] w fun e w' => e = .returned (.int .u64 u) ∧ Below w.heap.size w w'))
    (AW : Hid (∀ w, Calls Try.prog 7 #[] w fun e w' => e = .returned (.bool true) ∧ Below w.heap.size w w'))
    (hf : (f == 0) = false) :
    Calls Try.prog 6 #[.int .i64 n, .slice none 0 0, .int .i64 at_] w fun e w' => e = .returned (.bool true) ∧ Below w.heap.size w w' := by
  obtain ⟨i0, hi, hz0, hz1, hz2⟩ := info_parts info8
  go_enter Try.func6, Try.ntmps6
  go_wp2_with fail
  refine (ZI.out _).mono ?_; rintro e w1 ⟨rfl, hb1⟩
  go_wp2_with fail
  refine (VR.out _).mono ?_; rintro e w2 ⟨v, rfl, hv2⟩
  have hb2 := belowT hb1 hv2.below
  obtain ⟨rfl, rfl⟩ | ⟨gv, cv, rfl, Lv⟩ := hv2.lies
  · simp at hv0
  have ho := empty_own' w2 _ rfl
  have hb3 := below1 w2 (.cells #[] 5)
  have L3 := Lib.hid (Lv.keep hb3).cells
  have ho3 := World.ownsRowF_of ho
  go_wp2_with (at_builtin; first | (refine wpList_append_own_none rfl _ _ 22 rfl w2.heap.size 5 i0 1 Try.underlying22 hi (.slice (some ⟨w2.heap.size, 0, none⟩) 0 0) 0 [] rfl ho rfl ?_) | (refine wpList_append_ownF _ rfl _ _ 22 rfl w2.heap.size 5 i0 (.int .u8 0) 1 1 Try.underlying22 hi hz0 hz1 hz2 rfl (by decide) (.slice (some ⟨w2.heap.size, 0, none⟩) 0 0) 0 [] rfl ho3 ⟨gv, 0, none⟩ lv.length cv (vals lv) rfl (by simp [vals]) L3.out (vals_one lv) ?c4 ?c5 ?c6 ?_))
  case c4 => unfold maxLen; omega
  case c5 => omega
  case c6 => exact hb3.size
  intro v4 w4 ho4 hg4 _
  have hb4 : Below w2.heap.size w2 w4 := hb3.grown hg4 hb3.size (fun k hk => (ho3.lt k hk).1)
  have hbuf : Lib.OwnBuf w2.heap.size 5 v4 lv.length (vals lv) w2 w4 := ⟨ho4, hb4, hb4.size⟩
  go_wp2_with (at_builtin; (refine Lib.wpList_append_byte rfl _ _ 22 rfl w2.heap.size 5 i0 Try.underlying22 hi hz0 hz1 hz2 v4 lv.length (vals lv) rfl w2 w4 _ hbuf rfl ?c7 ?_))
  case c7 => omega
  intro v5 w5 hbuf5
  have hB5 : Bytes w2.heap.size w2 w5 v5 lo := by
    unfold Bytes
    have hlen : (lv ++ [(7 : UInt8)]).length = lv.length + 1 := by rw [List.length_append]; rfl
    rw [hlo, vals_app, hlen]
    exact hbuf5
  have hb5 := belowT hb2 hB5.below
  rcases hB5.lies with ⟨rfl, e⟩ | ⟨g5, c5, rfl, L5⟩
  · rw [hlo] at e; simp at e
  obtain ⟨_, hc5, hc6⟩ := hB5.cap_le (by rw [hlo]; simp)
  have RV5 := Lib.hid (RV.out g5 c5 _ hc5 hc6 L5)
  clear hc5 hc6
  clear hbuf5 hlo hB5 hbuf ho4 hg4 ho3 ho
  go_wp2_with fail
  refine RV5.out.mono ?_; rintro e w6 ⟨rfl, hb6⟩
  have B6 := belowT hb5 hb6
  go_wp2_with fail
  refine (ZA.out _).mono ?_; rintro e w7 ⟨rfl, hb7⟩
  have B7 := belowT B6 hb7
  go_wp2_with fail
  refine (RB.out _ B7).mono ?_; rintro e w8 ⟨rfl, hb8⟩
  have B8 := belowT B7 hb8
  go_upto_region 8 with fail
  go_cut [91] from 64 to 92 (fun vv wx => vv = .bool false ∧ Below w8.heap.size w8 wx)
  case first =>
    change (Code.region 8 few8 true).wp Try.prog _ _ _
    refine wp_region_noPanic ?_
    refine wp_region_held_drew (S := fun w' => Below w8.heap.size w8 w') (by kernel_rfl) ((Below.refl _ _).drew) (fun hHeld => ?_)
    refine wpAnyH_take (i := 0) (oi := ({ dst := some 64, op := .move (.tmp 13), type := 25, pos := "law.go:84", after := #[], guard := none } : Oper)) (v := ?vs3_0) rfl few8_plain (by as_aux_lemma => kernel_rfl) (by as_aux_lemma => kernel_rfl) (fun _ _ _ h => h) (Or.inl ⟨by rfl, ?ys3_0⟩) (by assumption) ?rs3_0
    case ys3_0 => (intro w hSw; (try dsimp only at hSw); go_simp; try with_reducible rfl)
    try simp only [Act.put, List.setIfInBounds_toArray, List.set_cons_zero, List.set_cons_succ]
    refine wpAnyH_take (i := 1) (oi := ({ dst := some 65, op := .binOp .eql 25 (.tmp 64) (.const (.int .i64 0)) 25, type := 4, pos := "law.go:84", after := #[{ on := 0, ground := .data }], guard := none } : Oper)) (v := ?vs3_1) rfl few8_plain (by as_aux_lemma => kernel_rfl) (by as_aux_lemma => kernel_rfl) (fun _ _ _ h => h) (Or.inl ⟨by rfl, ?ys3_1⟩) (by assumption) ?rs3_1
    case ys3_1 => (intro w hSw; (try dsimp only at hSw); go_simp; try with_reducible rfl)
    try simp only [Act.put, List.setIfInBounds_toArray, List.set_cons_zero, List.set_cons_succ]
    refine wpAnyH_take (i := 2) (oi := ({ dst := some 66, op := .move (.tmp 65), type := 4, pos := "law.go:84", after := #[{ on := 1, ground := .data }], guard := none } : Oper)) (v := ?vs3_2) rfl few8_plain (by as_aux_lemma => kernel_rfl) (by as_aux_lemma => kernel_rfl) (fun _ _ _ h => h) (Or.inl ⟨by rfl, ?ys3_2⟩) (by assumption) ?rs3_2
    case ys3_2 => (intro w hSw; (try dsimp only at hSw); go_simp; try with_reducible rfl)
    try simp only [Act.put, List.setIfInBounds_toArray, List.set_cons_zero, List.set_cons_succ]
    refine wpAnyH_take (i := 3) (oi := ({ dst := some 67, op := .move (.tmp 2), type := 3, pos := "law.go:84", after := #[{ on := 2, ground := .guard }], guard := some (2, true) } : Oper)) (v := undef) rfl few8_plain (by as_aux_lemma => kernel_rfl) (by as_aux_lemma => kernel_rfl) (fun _ _ _ h => h) (Or.inr ⟨by rfl, rfl⟩) (by assumption) ?_
    try simp only [Act.put, List.setIfInBounds_toArray, List.set_cons_zero, List.set_cons_succ]
    refine wpAnyH_take (i := 4) (oi := ({ dst := some 68, op := .binOp .lss 3 (.tmp 67) (.const (.int .i64 0)) 3, type := 4, pos := "law.go:84", after := #[{ on := 3, ground := .data }, { on := 2, ground := .guard }], guard := some (2, true) } : Oper)) (v := undef) rfl few8_plain (by as_aux_lemma => kernel_rfl) (by as_aux_lemma => kernel_rfl) (fun _ _ _ h => h) (Or.inr ⟨by rfl, rfl⟩) (by assumption) ?_
    try simp only [Act.put, List.setIfInBounds_toArray, List.set_cons_zero, List.set_cons_succ]
    refine wpAnyH_take (i := 5) (oi := ({ dst := some 69, op := .move (.tmp 68), type := 4, pos := "law.go:84", after := #[{ on := 4, ground := .data }, { on := 2, ground := .chain }, { on := 2, ground := .guard }], guard := some (2, true) } : Oper)) (v := undef) rfl few8_plain (by as_aux_lemma => kernel_rfl) (by as_aux_lemma => kernel_rfl) (fun _ _ _ h => h) (Or.inr ⟨by rfl, rfl⟩) (by assumption) ?_
    try simp only [Act.put, List.setIfInBounds_toArray, List.set_cons_zero, List.set_cons_succ]
    refine wpAnyH_take (i := 6) (oi := ({ dst := some 70, op := .move (.tmp 12), type := 3, pos := "law.go:84", after := #[{ on := 5, ground := .guard }], guard := some (5, false) } : Oper)) (v := undef) rfl few8_plain (by as_aux_lemma => kernel_rfl) (by as_aux_lemma => kernel_rfl) (fun _ _ _ h => h) (Or.inr ⟨by rfl, rfl⟩) (by assumption) ?_
    try simp only [Act.put, List.setIfInBounds_toArray, List.set_cons_zero, List.set_cons_succ]
    refine wpAnyH_take (i := 7) (oi := ({ dst := some 71, op := .move (.tmp 1), type := 22, pos := "law.go:84", after := #[{ on := 5, ground := .guard }], guard := some (5, false) } : Oper)) (v := undef) rfl few8_plain (by as_aux_lemma => kernel_rfl) (by as_aux_lemma => kernel_rfl) (fun _ _ _ h => h) (Or.inr ⟨by rfl, rfl⟩) (by assumption) ?_
    try simp only [Act.put, List.setIfInBounds_toArray, List.set_cons_zero, List.set_cons_succ]
    refine wpAnyH_take (i := 8) (oi := ({ dst := some 72, op := .call { callee := .builtin .len, args := #[.tmp 71], argTypes := #[22] }, type := 3, pos := "law.go:84", after := #[{ on := 7, ground := .data }, { on := 5, ground := .guard }], guard := some (5, false) } : Oper)) (v := undef) rfl few8_plain (by as_aux_lemma => kernel_rfl) (by as_aux_lemma => kernel_rfl) (fun _ _ _ h => h) (Or.inr ⟨by rfl, rfl⟩) (by assumption) ?_
    try simp only [Act.put, List.setIfInBounds_toArray, List.set_cons_zero, List.set_cons_succ]
    refine wpAnyH_take (i := 9) (oi := ({ dst := some 73, op := .binOp .gtr 3 (.tmp 70) (.tmp 72) 3, type := 4, pos := "law.go:84", after := #[{ on := 6, ground := .data }, { on := 8, ground := .data }, { on := 5, ground := .guard }], guard := some (5, false) } : Oper)) (v := undef) rfl few8_plain (by as_aux_lemma => kernel_rfl) (by as_aux_lemma => kernel_rfl) (fun _ _ _ h => h) (Or.inr ⟨by rfl, rfl⟩) (by assumption) ?_
    try simp only [Act.put, List.setIfInBounds_toArray, List.set_cons_zero, List.set_cons_succ]
    refine wpAnyH_take (i := 10) (oi := ({ dst := some 74, op := .pick (.tmp 69) (.const (.bool true)) (.tmp 73), type := 4, pos := "law.go:84", after := #[{ on := 5, ground := .data }, { on := 9, ground := .data }, { on := 2, ground := .guard }], guard := some (2, true) } : Oper)) (v := undef) rfl few8_plain (by as_aux_lemma => kernel_rfl) (by as_aux_lemma => kernel_rfl) (fun _ _ _ h => h) (Or.inr ⟨by rfl, rfl⟩) (by assumption) ?_
    try simp only [Act.put, List.setIfInBounds_toArray, List.set_cons_zero, List.set_cons_succ]
    refine wpAnyH_take (i := 11) (oi := ({ dst := some 75, op := .move (.tmp 74), type := 4, pos := "law.go:84", after := #[{ on := 10, ground := .data }, { on := 5, ground := .chain }, { on := 2, ground := .guard }], guard := some (2, true) } : Oper)) (v := undef) rfl few8_plain (by as_aux_lemma => kernel_rfl) (by as_aux_lemma => kernel_rfl) (fun _ _ _ h => h) (Or.inr ⟨by rfl, rfl⟩) (by assumption) ?_
    try simp only [Act.put, List.setIfInBounds_toArray, List.set_cons_zero, List.set_cons_succ]
    refine wpAnyH_take (i := 12) (oi := ({ dst := some 76, op := .move (.tmp 12), type := 3, pos := "law.go:84", after := #[{ on := 11, ground := .guard }], guard := some (11, false) } : Oper)) (v := undef) rfl few8_plain (by as_aux_lemma => kernel_rfl) (by as_aux_lemma => kernel_rfl) (fun _ _ _ h => h) (Or.inr ⟨by rfl, rfl⟩) (by assumption) ?_
    try simp only [Act.put, List.setIfInBounds_toArray, List.set_cons_zero, List.set_cons_succ]
    refine wpAnyH_take (i := 13) (oi := ({ dst := some 77, op := .move (.tmp 2), type := 3, pos := "law.go:84", after := #[{ on := 11, ground := .guard }], guard := some (11, false) } : Oper)) (v := undef) rfl few8_plain (by as_aux_lemma => kernel_rfl) (by as_aux_lemma => kernel_rfl) (fun _ _ _ h => h) (Or.inr ⟨by rfl, rfl⟩) (by assumption) ?_
    try simp only [Act.put, List.setIfInBounds_toArray, List.set_cons_zero, List.set_cons_succ]
    refine wpAnyH_take (i := 14) (oi := ({ dst := some 78, op := .binOp .leq 3 (.tmp 76) (.tmp 77) 3, type := 4, pos := "law.go:84", after := #[{ on := 12, ground := .data }, { on := 13, ground := .data }, { on := 11, ground := .guard }], guard := some (11, false) } : Oper)) (v := undef) rfl few8_plain (by as_aux_lemma => kernel_rfl) (by as_aux_lemma => kernel_rfl) (fun _ _ _ h => h) (Or.inr ⟨by rfl, rfl⟩) (by assumption) ?_
    try simp only [Act.put, List.setIfInBounds_toArray, List.set_cons_zero, List.set_cons_succ]
    refine wpAnyH_take (i := 15) (oi := ({ dst := some 79, op := .pick (.tmp 75) (.const (.bool true)) (.tmp 78), type := 4, pos := "law.go:84", after := #[{ on := 11, ground := .data }, { on := 14, ground := .data }, { on := 2, ground := .guard }], guard := some (2, true) } : Oper)) (v := undef) rfl few8_plain (by as_aux_lemma => kernel_rfl) (by as_aux_lemma => kernel_rfl) (fun _ _ _ h => h) (Or.inr ⟨by rfl, rfl⟩) (by assumption) ?_
    try simp only [Act.put, List.setIfInBounds_toArray, List.set_cons_zero, List.set_cons_succ]
    refine wpAnyH_take (i := 16) (oi := ({ dst := some 80, op := .move (.tmp 79), type := 4, pos := "law.go:84", after := #[{ on := 15, ground := .data }, { on := 11, ground := .chain }, { on := 2, ground := .guard }], guard := some (2, true) } : Oper)) (v := undef) rfl few8_plain (by as_aux_lemma => kernel_rfl) (by as_aux_lemma => kernel_rfl) (fun _ _ _ h => h) (Or.inr ⟨by rfl, rfl⟩) (by assumption) ?_
    try simp only [Act.put, List.setIfInBounds_toArray, List.set_cons_zero, List.set_cons_succ]
    refine wpAnyH_take (i := 17) (oi := ({ dst := some 81, op := .move (.tmp 11), type := 28, pos := "law.go:84", after := #[{ on := 16, ground := .guard }], guard := some (16, false) } : Oper)) (v := undef) rfl few8_plain (by as_aux_lemma => kernel_rfl) (by as_aux_lemma => kernel_rfl) (fun _ _ _ h => h) (Or.inr ⟨by rfl, rfl⟩) (by assumption) ?_
    try simp only [Act.put, List.setIfInBounds_toArray, List.set_cons_zero, List.set_cons_succ]
    refine wpAnyH_take (i := 18) (oi := ({ dst := some 82, op := .call { callee := .value (.func 26), args := #[.tmp 81], argTypes := #[28] }, type := 22, pos := "law.go:84", after := #[{ on := 17, ground := .data }, { on := 16, ground := .chain }, { on := 16, ground := .guard }], guard := some (16, false) } : Oper)) (v := undef) rfl few8_plain (by as_aux_lemma => kernel_rfl) (by as_aux_lemma => kernel_rfl) (fun _ _ _ h => h) (Or.inr ⟨by rfl, rfl⟩) (by assumption) ?_
    try simp only [Act.put, List.setIfInBounds_toArray, List.set_cons_zero, List.set_cons_succ]
    refine wpAnyH_take (i := 19) (oi := ({ dst := some 83, op := .convert 22 9 (.tmp 82), type := 9, pos := "law.go:84", after := #[{ on := 18, ground := .data }, { on := 16, ground := .guard }], guard := some (16, false) } : Oper)) (v := undef) rfl few8_plain (by as_aux_lemma => kernel_rfl) (by as_aux_lemma => kernel_rfl) (fun _ _ _ h => h) (Or.inr ⟨by rfl, rfl⟩) (by assumption) ?_
    try simp only [Act.put, List.setIfInBounds_toArray, List.set_cons_zero, List.set_cons_succ]
    refine wpAnyH_take (i := 20) (oi := ({ dst := some 84, op := .move (.tmp 1), type := 22, pos := "law.go:84", after := #[{ on := 16, ground := .guard }], guard := some (16, false) } : Oper)) (v := undef) rfl few8_plain (by as_aux_lemma => kernel_rfl) (by as_aux_lemma => kernel_rfl) (fun _ _ _ h => h) (Or.inr ⟨by rfl, rfl⟩) (by assumption) ?_
    try simp only [Act.put, List.setIfInBounds_toArray, List.set_cons_zero, List.set_cons_succ]
    refine wpAnyH_take (i := 21) (oi := ({ dst := some 85, op := .move (.tmp 2), type := 3, pos := "law.go:84", after := #[{ on := 16, ground := .guard }], guard := some (16, false) } : Oper)) (v := undef) rfl few8_plain (by as_aux_lemma => kernel_rfl) (by as_aux_lemma => kernel_rfl) (fun _ _ _ h => h) (Or.inr ⟨by rfl, rfl⟩) (by assumption) ?_
    try simp only [Act.put, List.setIfInBounds_toArray, List.set_cons_zero, List.set_cons_succ]
    refine wpAnyH_take (i := 22) (oi := ({ dst := some 86, op := .move (.tmp 12), type := 3, pos := "law.go:84", after := #[{ on := 16, ground := .guard }], guard := some (16, false) } : Oper)) (v := undef) rfl few8_plain (by as_aux_lemma => kernel_rfl) (by as_aux_lemma => kernel_rfl) (fun _ _ _ h => h) (Or.inr ⟨by rfl, rfl⟩) (by assumption) ?_
    try simp only [Act.put, List.setIfInBounds_toArray, List.set_cons_zero, List.set_cons_succ]
    refine wpAnyH_take (i := 23) (oi := ({ dst := some 87, op := .slice 22 (.tmp 84) (some (.tmp 85)) (some (.tmp 86)) none, type := 22, pos := "law.go:84", after := #[{ on := 20, ground := .data }, { on := 21, ground := .data }, { on := 22, ground := .data }, { on := 16, ground := .guard }], guard := some (16, false) } : Oper)) (v := undef) rfl few8_plain (by as_aux_lemma => kernel_rfl) (by as_aux_lemma => kernel_rfl) (fun _ _ _ h => h) (Or.inr ⟨by rfl, rfl⟩) (by assumption) ?_
    try simp only [Act.put, List.setIfInBounds_toArray, List.set_cons_zero, List.set_cons_succ]
    refine wpAnyH_take (i := 24) (oi := ({ dst := some 88, op := .convert 22 9 (.tmp 87), type := 9, pos := "law.go:84", after := #[{ on := 23, ground := .data }, { on := 16, ground := .guard }], guard := some (16, false) } : Oper)) (v := undef) rfl few8_plain (by as_aux_lemma => kernel_rfl) (by as_aux_lemma => kernel_rfl) (fun _ _ _ h => h) (Or.inr ⟨by rfl, rfl⟩) (by assumption) ?_
    try simp only [Act.put, List.setIfInBounds_toArray, List.set_cons_zero, List.set_cons_succ]
    refine wpAnyH_take (i := 25) (oi := ({ dst := some 89, op := .binOp .neq 9 (.tmp 83) (.tmp 88) 9, type := 4, pos := "law.go:84", after := #[{ on := 19, ground := .data }, { on := 24, ground := .data }, { on := 16, ground := .guard }], guard := some (16, false) } : Oper)) (v := undef) rfl few8_plain (by as_aux_lemma => kernel_rfl) (by as_aux_lemma => kernel_rfl) (fun _ _ _ h => h) (Or.inr ⟨by rfl, rfl⟩) (by assumption) ?_
    try simp only [Act.put, List.setIfInBounds_toArray, List.set_cons_zero, List.set_cons_succ]
    refine wpAnyH_take (i := 26) (oi := ({ dst := some 90, op := .pick (.tmp 80) (.const (.bool true)) (.tmp 89), type := 4, pos := "law.go:84", after := #[{ on := 16, ground := .data }, { on := 25, ground := .data }, { on := 2, ground := .guard }], guard := some (2, true) } : Oper)) (v := undef) rfl few8_plain (by as_aux_lemma => kernel_rfl) (by as_aux_lemma => kernel_rfl) (fun _ _ _ h => h) (Or.inr ⟨by rfl, rfl⟩) (by assumption) ?_
    try simp only [Act.put, List.setIfInBounds_toArray, List.set_cons_zero, List.set_cons_succ]
    refine wpAnyH_take (i := 27) (oi := ({ dst := some 91, op := .pick (.tmp 66) (.tmp 90) (.const (.bool false)), type := 4, pos := "law.go:84", after := #[{ on := 2, ground := .data }, { on := 26, ground := .data }], guard := none } : Oper)) (v := ?vs3_27) rfl few8_plain (by as_aux_lemma => kernel_rfl) (by as_aux_lemma => kernel_rfl) (fun _ _ _ h => h) (Or.inl ⟨by rfl, ?ys3_27⟩) (by assumption) ?rs3_27
    case ys3_27 => (intro w hSw; (try dsimp only at hSw); go_simp; try with_reducible rfl)
    try simp only [Act.put, List.setIfInBounds_toArray, List.set_cons_zero, List.set_cons_succ]
    refine wpAnyH_done (by as_aux_lemma => kernel_rfl) ?_ _
    refine NoPanic.normal ?_
    go_wp2_with fail
    go_meet
    exact ⟨rfl, by assumption⟩
  case rest =>
    rename World => wx
    obtain ⟨rfl, hbx⟩ := hcut
    have BX := belowT B8 hbx
    go_wp2_with fail
    refine (Z2.out _).mono ?_; rintro e w10 ⟨rfl, hb10⟩
    have B10 := belowT BX hb10
    go_wp2_with fail
    refine (Z3.out _).mono ?_; rintro e w11 ⟨rfl, hb11⟩
    have B11 := belowT B10 hb11
    go_wp2_with fail
    refine (AW.out _).mono ?_; rintro e w12 ⟨rfl, hb12⟩
    have B12 := belowT B11 hb12
    go_wp2_with fail
    go_ret
    exact ⟨rfl, B12⟩

end Go.Proofs.Ytcnnkgkejafeeaa
