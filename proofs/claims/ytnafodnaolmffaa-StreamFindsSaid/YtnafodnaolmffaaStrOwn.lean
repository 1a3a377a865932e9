/- Lists of frames compared (layer 15's law). -/
import Derived.Test.YtnafodnaolmffaaStrRefD
import Derived.ChangeKeysEq
namespace Go.Proofs.Ytnafodnaolmffaa
open Go.RowKit

set_option maxHeartbeats 4000000 in
theorem fr_eq (a b : Fr) (w : World) : (Op.equalIn 10000 35 (fv a) (fv b)).run Try.prog w = .ok (decide (a = b)) w := by
  obtain ⟨s, c, x, v⟩ := a
  obtain ⟨s', c', x', v'⟩ := b
  simp only [fv]
  have e : decide (Fr.mk s c x v = Fr.mk s' c' x' v') = (s == s' && (c == c' && (x == x' && v == v'))) := by
    rw [Bool.eq_iff_iff]
    simp [Fr.mk.injEq]
  rw [e]
  simp [go_sem]
  by_cases h0 : s = s' <;> by_cases h1 : c = c' <;> by_cases h2 : x = x' <;> by_cases h3 : v = v' <;> simp [h0, h1, h2, h3, go_sem]

theorem take_next (l : List Fr) (j : Nat) (h : j < l.length) : l.take (j + 1) = l.take j ++ [l.getD j fr0] := by
  rw [List.take_add_one, List.getElem?_eq_getElem h, Option.toList_some]
  simp [List.getD, h]
/-- The operations of a drawn region, as the translation has them. -/
def frames6 : Array Oper := #[
  { dst := some 16, op := .move (.tmp 0), type := 24, pos := "law.go:30", after := #[], guard := none },
  { dst := some 17, op := .move (.tmp 5), type := 3, pos := "law.go:30", after := #[], guard := none },
  { dst := some 18, op := .indexAddr 24 (.tmp 16) (.tmp 17), type := 0, pos := "law.go:30", after := #[{ on := 0, ground := .data }, { on := 1, ground := .data }], guard := none },
  { dst := some 19, op := .load 35 (.tmp 18), type := 35, pos := "law.go:30", after := #[{ on := 2, ground := .data }], guard := none },
  { dst := some 20, op := .move (.tmp 1), type := 24, pos := "law.go:30", after := #[], guard := none },
  { dst := some 21, op := .move (.tmp 5), type := 3, pos := "law.go:30", after := #[], guard := none },
  { dst := some 22, op := .indexAddr 24 (.tmp 20) (.tmp 21), type := 0, pos := "law.go:30", after := #[{ on := 4, ground := .data }, { on := 5, ground := .data }], guard := none },
  { dst := some 23, op := .load 35 (.tmp 22), type := 35, pos := "law.go:30", after := #[{ on := 6, ground := .data }], guard := none },
  { dst := some 24, op := .binOp .neq 35 (.tmp 19) (.tmp 23) 35, type := 4, pos := "law.go:30", after := #[{ on := 3, ground := .data }, { on := 7, ground := .data }], guard := none }]
theorem frames6_plain : Region.noSelect frames6 = true := by kernel_rfl

theorem ne_of_at {l m : List Fr} {j : Nat} (h : l.getD j fr0 ≠ m.getD j fr0) : decide (l = m) = false := decide_eq_false (fun e => h (by rw [e]))

set_option maxHeartbeats 4000000 in
set_option maxRecDepth 100000 in
theorem Same_came {w : World} {ba bb : Option Addr} {ca cb : Nat} {l m : List Fr} (A : CameFr w ba ca l) (B : CameFr w bb cb m) :
    Calls Try.prog 12 #[.slice ba l.length ca, .slice bb m.length cb] w fun e w' => e = .returned (.bool (decide (l = m))) ∧ Below w.heap.size w w' := by
  have HA := Lib.hid A
  have HB := Lib.hid B
  have a1 := A.le
  have a2 := A.max
  have b1 := B.le
  have b2 := B.max
  unfold maxLen at a2 b2
  have hl : (l.length : Int) ≤ 9223372036854775807 := by omega
  have hm : (m.length : Int) ≤ 9223372036854775807 := by omega
  clear A B a1 a2 b1 b2
  by_cases hlen : l.length = m.length
  · have hq : ((l.length : Int) == m.length) = true := by simp; omega
    have HL := Lib.hid hlen
    clear hlen
    go_enter Try.func12, Try.ntmps12
    go_wp2
    go_loopw [13] (fun i wr => ∃ j : Nat, j ≤ l.length ∧ i = .int .i64 j ∧ l.take j = m.take j ∧ Below w.heap.size w wr) (fun i _ => l.length - (intOf i).toNat)
    case atStart => exact ⟨0, Nat.zero_le _, rfl, rfl, Below.refl _ _⟩
    case round =>
      obtain ⟨j, hj, rfl, ht, hb⟩ := hrel
      have HH := Lib.hid hb
      have HT := Lib.hid ht
      clear ht
      by_cases hc : (j : Int) < l.length
      · have hml := HL.out
        have hcm : (j : Int) < m.length := by omega
        have hd : (j : Int) ≥ 0 := by omega
        obtain ⟨b, o, rfl, L⟩ := (HA.out.keep hb).lies (by omega)
        obtain ⟨p0, p1, p2, p3⟩ := L.at j (by omega)
        have k0 : ∀ w', Below wr.heap.size wr w' → _ := fun w' h => keepc h p0
        have k1 : ∀ w', Below wr.heap.size wr w' → _ := fun w' h => keepc h p1
        have k2 : ∀ w', Below wr.heap.size wr w' → _ := fun w' h => keepc h p2
        have k3 : ∀ w', Below wr.heap.size wr w' → _ := fun w' h => keepc h p3
        obtain ⟨b', o', rfl, M⟩ := (HB.out.keep hb).lies (by omega)
        obtain ⟨r0, r1, r2, r3⟩ := M.at j (by omega)
        have q0 : ∀ w', Below wr.heap.size wr w' → _ := fun w' h => keepc h r0
        have q1 : ∀ w', Below wr.heap.size wr w' → _ := fun w' h => keepc h r1
        have q2 : ∀ w', Below wr.heap.size wr w' → _ := fun w' h => keepc h r2
        have q3 : ∀ w', Below wr.heap.size wr w' → _ := fun w' h => keepc h r3
        have t1 := take_next l j (by omega)
        have t2 := take_next m j (by omega)
        have hne : l.getD j fr0 ≠ m.getD j fr0 → decide (l = m) = false := ne_of_at
        clear L M hml p0 p1 p2 p3 r0 r1 r2 r3
        generalize l.getD j fr0 = x at *
        generalize m.getD j fr0 = y at *
        have HEQ := fun w => fr_eq x y w
        by_cases e : x = y
        · have HN := Lib.hid (show l.take (j + 1) = m.take (j + 1) by rw [t1, t2, HT.out, e])
          rw [decide_eq_true e] at HEQ
          clear t1 t2 hne e hb
          obtain ⟨x0, x1, x2, x3⟩ := x
          obtain ⟨y0, y1, y2, y3⟩ := y
          simp only [fv] at k0 k1 k2 k3 q0 q1 q2 q3 HEQ
          go_upto_region 6 with fail
          change (Code.region 6 frames6 true).wp Try.prog _ _ _
          refine wp_region_noPanic ?_
          refine wp_region_held_drew (S := fun w' => Below wr.heap.size wr w') (by kernel_rfl) ((Below.refl _ _).drew) (fun hHeld => ?_)
          refine wpAnyH_take (i := 0) (oi := ({ dst := some 16, op := .move (.tmp 0), type := 24, pos := "law.go:30", after := #[], guard := none } : Oper)) (v := ?vs4_0) rfl frames6_plain (by as_aux_lemma => kernel_rfl) (by as_aux_lemma => kernel_rfl) (fun _ _ _ h => h) (Or.inl ⟨by rfl, ?ys4_0⟩) (by assumption) ?rs4_0
          case ys4_0 => (intro w hSw; (try dsimp only at hSw); go_simp; try with_reducible rfl)
          try simp only [Act.put, List.setIfInBounds_toArray, List.set_cons_zero, List.set_cons_succ]
          refine wpAnyH_take (i := 1) (oi := ({ dst := some 17, op := .move (.tmp 5), type := 3, pos := "law.go:30", after := #[], guard := none } : Oper)) (v := ?vs4_1) rfl frames6_plain (by as_aux_lemma => kernel_rfl) (by as_aux_lemma => kernel_rfl) (fun _ _ _ h => h) (Or.inl ⟨by rfl, ?ys4_1⟩) (by assumption) ?rs4_1
          case ys4_1 => (intro w hSw; (try dsimp only at hSw); go_simp; try with_reducible rfl)
          try simp only [Act.put, List.setIfInBounds_toArray, List.set_cons_zero, List.set_cons_succ]
          refine wpAnyH_take (i := 2) (oi := ({ dst := some 18, op := .indexAddr 24 (.tmp 16) (.tmp 17), type := 0, pos := "law.go:30", after := #[{ on := 0, ground := .data }, { on := 1, ground := .data }], guard := none } : Oper)) (v := ?vs4_2) rfl frames6_plain (by as_aux_lemma => kernel_rfl) (by as_aux_lemma => kernel_rfl) (fun _ _ _ h => h) (Or.inl ⟨by rfl, ?ys4_2⟩) (by assumption) ?rs4_2
          case ys4_2 => (intro w hSw; (try dsimp only at hSw); go_simp; try with_reducible rfl)
          try simp only [Act.put, List.setIfInBounds_toArray, List.set_cons_zero, List.set_cons_succ]
          refine wpAnyH_take (i := 3) (oi := ({ dst := some 19, op := .load 35 (.tmp 18), type := 35, pos := "law.go:30", after := #[{ on := 2, ground := .data }], guard := none } : Oper)) (v := ?vs4_3) rfl frames6_plain (by as_aux_lemma => kernel_rfl) (by as_aux_lemma => kernel_rfl) (fun _ _ _ h => h) (Or.inl ⟨by rfl, ?ys4_3⟩) (by assumption) ?rs4_3
          case ys4_3 => (intro w hSw; (try dsimp only at hSw); go_simp; try with_reducible rfl)
          try simp only [Act.put, List.setIfInBounds_toArray, List.set_cons_zero, List.set_cons_succ]
          refine wpAnyH_take (i := 4) (oi := ({ dst := some 20, op := .move (.tmp 1), type := 24, pos := "law.go:30", after := #[], guard := none } : Oper)) (v := ?vs4_4) rfl frames6_plain (by as_aux_lemma => kernel_rfl) (by as_aux_lemma => kernel_rfl) (fun _ _ _ h => h) (Or.inl ⟨by rfl, ?ys4_4⟩) (by assumption) ?rs4_4
          case ys4_4 => (intro w hSw; (try dsimp only at hSw); go_simp; try with_reducible rfl)
          try simp only [Act.put, List.setIfInBounds_toArray, List.set_cons_zero, List.set_cons_succ]
          refine wpAnyH_take (i := 5) (oi := ({ dst := some 21, op := .move (.tmp 5), type := 3, pos := "law.go:30", after := #[], guard := none } : Oper)) (v := ?vs4_5) rfl frames6_plain (by as_aux_lemma => kernel_rfl) (by as_aux_lemma => kernel_rfl) (fun _ _ _ h => h) (Or.inl ⟨by rfl, ?ys4_5⟩) (by assumption) ?rs4_5
          case ys4_5 => (intro w hSw; (try dsimp only at hSw); go_simp; try with_reducible rfl)
          try simp only [Act.put, List.setIfInBounds_toArray, List.set_cons_zero, List.set_cons_succ]
          refine wpAnyH_take (i := 6) (oi := ({ dst := some 22, op := .indexAddr 24 (.tmp 20) (.tmp 21), type := 0, pos := "law.go:30", after := #[{ on := 4, ground := .data }, { on := 5, ground := .data }], guard := none } : Oper)) (v := ?vs4_6) rfl frames6_plain (by as_aux_lemma => kernel_rfl) (by as_aux_lemma => kernel_rfl) (fun _ _ _ h => h) (Or.inl ⟨by rfl, ?ys4_6⟩) (by assumption) ?rs4_6
          case ys4_6 => (intro w hSw; (try dsimp only at hSw); go_simp; try with_reducible rfl)
          try simp only [Act.put, List.setIfInBounds_toArray, List.set_cons_zero, List.set_cons_succ]
          refine wpAnyH_take (i := 7) (oi := ({ dst := some 23, op := .load 35 (.tmp 22), type := 35, pos := "law.go:30", after := #[{ on := 6, ground := .data }], guard := none } : Oper)) (v := ?vs4_7) rfl frames6_plain (by as_aux_lemma => kernel_rfl) (by as_aux_lemma => kernel_rfl) (fun _ _ _ h => h) (Or.inl ⟨by rfl, ?ys4_7⟩) (by assumption) ?rs4_7
          case ys4_7 => (intro w hSw; (try dsimp only at hSw); go_simp; try with_reducible rfl)
          try simp only [Act.put, List.setIfInBounds_toArray, List.set_cons_zero, List.set_cons_succ]
          refine wpAnyH_take (i := 8) (oi := ({ dst := some 24, op := .binOp .neq 35 (.tmp 19) (.tmp 23) 35, type := 4, pos := "law.go:30", after := #[{ on := 3, ground := .data }, { on := 7, ground := .data }], guard := none } : Oper)) (v := ?vs4_8) rfl frames6_plain (by as_aux_lemma => kernel_rfl) (by as_aux_lemma => kernel_rfl) (fun _ _ _ h => h) (Or.inl ⟨by rfl, ?ys4_8⟩) (by assumption) ?rs4_8
          case ys4_8 => (intro w hSw; (try dsimp only at hSw); go_simp; try with_reducible rfl)
          try simp only [Act.put, List.setIfInBounds_toArray, List.set_cons_zero, List.set_cons_succ]
          refine wpAnyH_done (by as_aux_lemma => kernel_rfl) ?_ _
          refine NoPanic.normal ?_
          go_wp2
          go_roundw
          case rel => exact ⟨j + 1, by omega, rfl, HN.out, HH.out.drew⟩
          case measure => simp [intOf]; omega
        · have HN := Lib.hid (hne e)
          rw [decide_eq_false e] at HEQ
          clear t1 t2 hne e hb
          obtain ⟨x0, x1, x2, x3⟩ := x
          obtain ⟨y0, y1, y2, y3⟩ := y
          simp only [fv] at k0 k1 k2 k3 q0 q1 q2 q3 HEQ
          go_upto_region 6 with fail
          change (Code.region 6 frames6 true).wp Try.prog _ _ _
          refine wp_region_noPanic ?_
          refine wp_region_held_drew (S := fun w' => Below wr.heap.size wr w') (by kernel_rfl) ((Below.refl _ _).drew) (fun hHeld => ?_)
          refine wpAnyH_take (i := 0) (oi := ({ dst := some 16, op := .move (.tmp 0), type := 24, pos := "law.go:30", after := #[], guard := none } : Oper)) (v := ?vs5_0) rfl frames6_plain (by as_aux_lemma => kernel_rfl) (by as_aux_lemma => kernel_rfl) (fun _ _ _ h => h) (Or.inl ⟨by rfl, ?ys5_0⟩) (by assumption) ?rs5_0
          case ys5_0 => (intro w hSw; (try dsimp only at hSw); go_simp; try with_reducible rfl)
          try simp only [Act.put, List.setIfInBounds_toArray, List.set_cons_zero, List.set_cons_succ]
          refine wpAnyH_take (i := 1) (oi := ({ dst := some 17, op := .move (.tmp 5), type := 3, pos := "law.go:30", after := #[], guard := none } : Oper)) (v := ?vs5_1) rfl frames6_plain (by as_aux_lemma => kernel_rfl) (by as_aux_lemma => kernel_rfl) (fun _ _ _ h => h) (Or.inl ⟨by rfl, ?ys5_1⟩) (by assumption) ?rs5_1
          case ys5_1 => (intro w hSw; (try dsimp only at hSw); go_simp; try with_reducible rfl)
          try simp only [Act.put, List.setIfInBounds_toArray, List.set_cons_zero, List.set_cons_succ]
          refine wpAnyH_take (i := 2) (oi := ({ dst := some 18, op := .indexAddr 24 (.tmp 16) (.tmp 17), type := 0, pos := "law.go:30", after := #[{ on := 0, ground := .data }, { on := 1, ground := .data }], guard := none } : Oper)) (v := ?vs5_2) rfl frames6_plain (by as_aux_lemma => kernel_rfl) (by as_aux_lemma => kernel_rfl) (fun _ _ _ h => h) (Or.inl ⟨by rfl, ?ys5_2⟩) (by assumption) ?rs5_2
          case ys5_2 => (intro w hSw; (try dsimp only at hSw); go_simp; try with_reducible rfl)
          try simp only [Act.put, List.setIfInBounds_toArray, List.set_cons_zero, List.set_cons_succ]
          refine wpAnyH_take (i := 3) (oi := ({ dst := some 19, op := .load 35 (.tmp 18), type := 35, pos := "law.go:30", after := #[{ on := 2, ground := .data }], guard := none } : Oper)) (v := ?vs5_3) rfl frames6_plain (by as_aux_lemma => kernel_rfl) (by as_aux_lemma => kernel_rfl) (fun _ _ _ h => h) (Or.inl ⟨by rfl, ?ys5_3⟩) (by assumption) ?rs5_3
          case ys5_3 => (intro w hSw; (try dsimp only at hSw); go_simp; try with_reducible rfl)
          try simp only [Act.put, List.setIfInBounds_toArray, List.set_cons_zero, List.set_cons_succ]
          refine wpAnyH_take (i := 4) (oi := ({ dst := some 20, op := .move (.tmp 1), type := 24, pos := "law.go:30", after := #[], guard := none } : Oper)) (v := ?vs5_4) rfl frames6_plain (by as_aux_lemma => kernel_rfl) (by as_aux_lemma => kernel_rfl) (fun _ _ _ h => h) (Or.inl ⟨by rfl, ?ys5_4⟩) (by assumption) ?rs5_4
          case ys5_4 => (intro w hSw; (try dsimp only at hSw); go_simp; try with_reducible rfl)
          try simp only [Act.put, List.setIfInBounds_toArray, List.set_cons_zero, List.set_cons_succ]
          refine wpAnyH_take (i := 5) (oi := ({ dst := some 21, op := .move (.tmp 5), type := 3, pos := "law.go:30", after := #[], guard := none } : Oper)) (v := ?vs5_5) rfl frames6_plain (by as_aux_lemma => kernel_rfl) (by as_aux_lemma => kernel_rfl) (fun _ _ _ h => h) (Or.inl ⟨by rfl, ?ys5_5⟩) (by assumption) ?rs5_5
          case ys5_5 => (intro w hSw; (try dsimp only at hSw); go_simp; try with_reducible rfl)
          try simp only [Act.put, List.setIfInBounds_toArray, List.set_cons_zero, List.set_cons_succ]
          refine wpAnyH_take (i := 6) (oi := ({ dst := some 22, op := .indexAddr 24 (.tmp 20) (.tmp 21), type := 0, pos := "law.go:30", after := #[{ on := 4, ground := .data }, { on := 5, ground := .data }], guard := none } : Oper)) (v := ?vs5_6) rfl frames6_plain (by as_aux_lemma => kernel_rfl) (by as_aux_lemma => kernel_rfl) (fun _ _ _ h => h) (Or.inl ⟨by rfl, ?ys5_6⟩) (by assumption) ?rs5_6
          case ys5_6 => (intro w hSw; (try dsimp only at hSw); go_simp; try with_reducible rfl)
          try simp only [Act.put, List.setIfInBounds_toArray, List.set_cons_zero, List.set_cons_succ]
          refine wpAnyH_take (i := 7) (oi := ({ dst := some 23, op := .load 35 (.tmp 22), type := 35, pos := "law.go:30", after := #[{ on := 6, ground := .data }], guard := none } : Oper)) (v := ?vs5_7) rfl frames6_plain (by as_aux_lemma => kernel_rfl) (by as_aux_lemma => kernel_rfl) (fun _ _ _ h => h) (Or.inl ⟨by rfl, ?ys5_7⟩) (by assumption) ?rs5_7
          case ys5_7 => (intro w hSw; (try dsimp only at hSw); go_simp; try with_reducible rfl)
          try simp only [Act.put, List.setIfInBounds_toArray, List.set_cons_zero, List.set_cons_succ]
          refine wpAnyH_take (i := 8) (oi := ({ dst := some 24, op := .binOp .neq 35 (.tmp 19) (.tmp 23) 35, type := 4, pos := "law.go:30", after := #[{ on := 3, ground := .data }, { on := 7, ground := .data }], guard := none } : Oper)) (v := ?vs5_8) rfl frames6_plain (by as_aux_lemma => kernel_rfl) (by as_aux_lemma => kernel_rfl) (fun _ _ _ h => h) (Or.inl ⟨by rfl, ?ys5_8⟩) (by assumption) ?rs5_8
          case ys5_8 => (intro w hSw; (try dsimp only at hSw); go_simp; try with_reducible rfl)
          try simp only [Act.put, List.setIfInBounds_toArray, List.set_cons_zero, List.set_cons_succ]
          refine wpAnyH_done (by as_aux_lemma => kernel_rfl) ?_ _
          refine NoPanic.normal ?_
          go_wp2
          go_ret
          rw [HN.out]
          exact ⟨rfl, HH.out.drew⟩
      · obtain rfl : j = l.length := by omega
        have he : decide (l = m) = true := by
          have h1 := HT.out
          rw [List.take_length, HL.out, List.take_length] at h1
          exact decide_eq_true h1
        have HN := Lib.hid he
        clear he hb
        go_wp2
        go_ret
        rw [HN.out]
        exact ⟨rfl, HH.out⟩
  · have hq : ((l.length : Int) == m.length) = false := by simp; omega
    have he : decide (l = m) = false := decide_eq_false (fun e => hlen (by rw [e]))
    rw [he]
    clear hlen he
    go_enter Try.func12, Try.ntmps12
    go_wp2
    go_ret
    exact ⟨rfl, Below.refl _ _⟩
end Go.Proofs.Ytnafodnaolmffaa
