/- LadderCauses. -/
import Derived.Test.YtmenicgoabmcmaaDoorLdNum
import Derived.Test.YtmenicgoabmcmaaDoorLdF
import Derived.Test.YtmenicgoabmcmaaDoorLdB
import Derived.Test.YtmenicgoabmcmaaDoorLdS
import Derived.ChangeKeysEq
import Derived.Deep.RegionWith
import Derived.Deep.CutBlock
import Derived.Deep.CutRange
import Derived.BigRegion
namespace Go.Proofs.YtmenicgoabmcmaaDoor
open Go.RowKit Ld

/-- The operations of a drawn region, as the translation has them. -/
def ldcau9 : Array Oper := #[
  { dst := some 56, op := .move (.tmp 5), type := 32, pos := "law.go:39", after := #[], guard := none },
  { dst := some 57, op := .move (.tmp 11), type := 3, pos := "law.go:39", after := #[], guard := none },
  { dst := some 58, op := .indexAddr 32 (.tmp 56) (.tmp 57), type := 0, pos := "law.go:39", after := #[{ on := 0, ground := .data }, { on := 1, ground := .data }], guard := none },
  { dst := some 59, op := .load 23 (.tmp 58), type := 23, pos := "law.go:39", after := #[{ on := 2, ground := .data }], guard := none },
  { dst := some 60, op := .move (.tmp 6), type := 32, pos := "law.go:39", after := #[], guard := none },
  { dst := some 61, op := .move (.tmp 11), type := 3, pos := "law.go:39", after := #[], guard := none },
  { dst := some 62, op := .indexAddr 32 (.tmp 60) (.tmp 61), type := 0, pos := "law.go:39", after := #[{ on := 4, ground := .data }, { on := 5, ground := .data }], guard := none },
  { dst := some 63, op := .load 23 (.tmp 62), type := 23, pos := "law.go:39", after := #[{ on := 6, ground := .data }], guard := none },
  { dst := some 64, op := .binOp .neq 23 (.tmp 59) (.tmp 63) 23, type := 4, pos := "law.go:39", after := #[{ on := 3, ground := .data }, { on := 7, ground := .data }], guard := none },
  { dst := some 65, op := .move (.tmp 64), type := 4, pos := "law.go:39", after := #[{ on := 8, ground := .data }], guard := none },
  { dst := some 66, op := .move (.tmp 5), type := 32, pos := "law.go:39", after := #[{ on := 9, ground := .guard }], guard := some (9, false) },
  { dst := some 67, op := .move (.tmp 11), type := 3, pos := "law.go:39", after := #[{ on := 9, ground := .guard }], guard := some (9, false) },
  { dst := some 68, op := .indexAddr 32 (.tmp 66) (.tmp 67), type := 0, pos := "law.go:39", after := #[{ on := 10, ground := .data }, { on := 11, ground := .data }, { on := 9, ground := .guard }], guard := some (9, false) },
  { dst := some 69, op := .load 23 (.tmp 68), type := 23, pos := "law.go:39", after := #[{ on := 12, ground := .data }, { on := 9, ground := .guard }], guard := some (9, false) },
  { dst := some 70, op := .call { callee := .value (.func 10), args := #[.tmp 69], argTypes := #[23] }, type := 3, pos := "law.go:39", after := #[{ on := 13, ground := .data }, { on := 9, ground := .chain }, { on := 9, ground := .guard }], guard := some (9, false) },
  { dst := some 71, op := .move (.tmp 1), type := 3, pos := "law.go:39", after := #[{ on := 9, ground := .guard }], guard := some (9, false) },
  { dst := some 72, op := .binOp .eql 3 (.tmp 70) (.tmp 71) 3, type := 4, pos := "law.go:39", after := #[{ on := 14, ground := .data }, { on := 15, ground := .data }, { on := 9, ground := .guard }], guard := some (9, false) },
  { dst := some 73, op := .move (.tmp 72), type := 4, pos := "law.go:39", after := #[{ on := 16, ground := .data }, { on := 14, ground := .chain }, { on := 9, ground := .guard }], guard := some (9, false) },
  { dst := some 74, op := .move (.tmp 8), type := 4, pos := "law.go:39", after := #[{ on := 17, ground := .guard }], guard := some (17, true) },
  { dst := some 75, op := .unOp .not 4 (.tmp 74), type := 4, pos := "law.go:39", after := #[{ on := 18, ground := .data }, { on := 17, ground := .guard }], guard := some (17, true) },
  { dst := some 76, op := .pick (.tmp 73) (.tmp 75) (.const (.bool false)), type := 4, pos := "law.go:39", after := #[{ on := 17, ground := .data }, { on := 19, ground := .data }, { on := 9, ground := .guard }], guard := some (9, false) },
  { dst := some 77, op := .pick (.tmp 65) (.const (.bool true)) (.tmp 76), type := 4, pos := "law.go:39", after := #[{ on := 9, ground := .data }, { on := 20, ground := .data }], guard := none }]
theorem ldcau9_plain : Region.noSelect ldcau9 = true := by kernel_rfl

/-- The operations of a drawn region, as the translation has them. -/
def ldcau12 : Array Oper := #[
  { dst := some 79, op := .load 23 (.tmp 2), type := 23, pos := "law.go:43", after := #[], guard := none },
  { dst := some 80, op := .call { callee := .value (.func 21), args := #[.tmp 79], argTypes := #[23] }, type := 9, pos := "law.go:43", after := #[{ on := 0, ground := .data }], guard := none },
  { dst := some 81, op := .load 23 (.tmp 2), type := 23, pos := "law.go:43", after := #[], guard := none },
  { dst := some 82, op := .call { callee := .value (.func 22), args := #[.tmp 81], argTypes := #[23] }, type := 9, pos := "law.go:43", after := #[{ on := 2, ground := .data }, { on := 1, ground := .chain }], guard := none },
  { dst := some 83, op := .binOp .eql 9 (.tmp 80) (.tmp 82) 9, type := 4, pos := "law.go:43", after := #[{ on := 1, ground := .data }, { on := 3, ground := .data }], guard := none },
  { dst := some 84, op := .move (.tmp 83), type := 4, pos := "law.go:43", after := #[{ on := 4, ground := .data }, { on := 3, ground := .chain }], guard := none },
  { dst := some 85, op := .load 23 (.tmp 2), type := 23, pos := "law.go:43", after := #[{ on := 5, ground := .guard }], guard := some (5, true) },
  { dst := some 86, op := .call { callee := .value (.func 21), args := #[.tmp 85], argTypes := #[23] }, type := 9, pos := "law.go:43", after := #[{ on := 6, ground := .data }, { on := 5, ground := .chain }, { on := 5, ground := .guard }], guard := some (5, true) },
  { dst := some 87, op := .binOp .eql 9 (.tmp 86) (.const (.string { data := #[] })) 9, type := 4, pos := "law.go:43", after := #[{ on := 7, ground := .data }, { on := 5, ground := .guard }], guard := some (5, true) },
  { dst := some 88, op := .load 23 (.tmp 2), type := 23, pos := "law.go:43", after := #[{ on := 5, ground := .guard }], guard := some (5, true) },
  { dst := some 89, op := .call { callee := .value (.func 10), args := #[.tmp 88], argTypes := #[23] }, type := 3, pos := "law.go:43", after := #[{ on := 9, ground := .data }, { on := 7, ground := .chain }, { on := 5, ground := .guard }], guard := some (5, true) },
  { dst := some 90, op := .binOp .eql 3 (.tmp 89) (.const (.int .i64 0)) 3, type := 4, pos := "law.go:43", after := #[{ on := 10, ground := .data }, { on := 5, ground := .guard }], guard := some (5, true) },
  { dst := some 91, op := .binOp .eql 4 (.tmp 87) (.tmp 90) 4, type := 4, pos := "law.go:43", after := #[{ on := 8, ground := .data }, { on := 11, ground := .data }, { on := 5, ground := .guard }], guard := some (5, true) },
  { dst := some 92, op := .pick (.tmp 84) (.tmp 91) (.const (.bool false)), type := 4, pos := "law.go:43", after := #[{ on := 5, ground := .data }, { on := 12, ground := .data }], guard := none },
  { dst := some 93, op := .move (.tmp 92), type := 4, pos := "law.go:43", after := #[{ on := 13, ground := .data }, { on := 10, ground := .chain }], guard := none },
  { dst := some 94, op := .call { callee := .value (.func 16), args := #[], argTypes := #[] }, type := 4, pos := "law.go:43", after := #[{ on := 14, ground := .chain }, { on := 14, ground := .guard }], guard := some (14, true) },
  { dst := some 95, op := .pick (.tmp 93) (.tmp 94) (.const (.bool false)), type := 4, pos := "law.go:43", after := #[{ on := 14, ground := .data }, { on := 15, ground := .data }], guard := none },
  { dst := some 4, op := .assign (.tmp 95), type := 4, pos := "law.go:43", after := #[{ on := 16, ground := .data }, { on := 15, ground := .chain }, { on := 0, ground := .phase }, { on := 1, ground := .phase }, { on := 2, ground := .phase }, { on := 3, ground := .phase }, { on := 4, ground := .phase }, { on := 5, ground := .phase }, { on := 6, ground := .phase }, { on := 7, ground := .phase }, { on := 8, ground := .phase }, { on := 9, ground := .phase }, { on := 10, ground := .phase }, { on := 11, ground := .phase }, { on := 12, ground := .phase }, { on := 13, ground := .phase }, { on := 14, ground := .phase }, { on := 15, ground := .phase }, { on := 16, ground := .phase }], guard := none }]
theorem ldcau12_plain : Region.noSelect ldcau12 = true := by kernel_rfl

set_option maxHeartbeats 40000000 in
set_option maxRecDepth 100000 in
theorem Causes_core (l x : La) (m : Int) (z c : Bool) (md : La → Int) (s : ByteArray) (w : World)
    (AL : Hid (∀ w', Below w.heap.size w w' → Calls Tryd.prog 17 #[] w' fun e w'' => ∃ ba cap, e = .returned (.slice ba 63 cap) ∧ CameLa w'' ba cap (allN 63) ∧ Below w'.heap.size w' w''))
    (AR : Hid (∀ w', Below w.heap.size w w' → Calls Tryd.prog 18 #[] w' fun e w'' => ∃ ba cap, e = .returned (.slice ba 63 cap) ∧ CameLa w'' ba cap (allN 63) ∧ Below w'.heap.size w' w''))
    (BE : Hid (∀ w', Below w.heap.size w w' → Calls Tryd.prog 19 #[.int .i64 m] w' fun e w'' => e = .returned (.tuple #[lv x, .bool z]) ∧ Below w'.heap.size w' w''))
    (BR : Hid (∀ w', Below w.heap.size w w' → Calls Tryd.prog 20 #[.int .i64 m] w' fun e w'' => e = .returned (.tuple #[lv x, .bool z]) ∧ Below w'.heap.size w' w''))
    (MO : Hid (∀ l w', Below w.heap.size w w' → Calls Tryd.prog 10 #[lv l] w' fun e w'' => e = .returned (.int .i64 (md l)) ∧ Below w'.heap.size w' w''))
    (CA : Hid (∀ w', Below w.heap.size w w' → Calls Tryd.prog 21 #[lv l] w' fun e w'' => e = .returned (.string s) ∧ Below w'.heap.size w' w''))
    (CR : Hid (∀ w', Below w.heap.size w w' → Calls Tryd.prog 22 #[lv l] w' fun e w'' => e = .returned (.string s) ∧ Below w'.heap.size w' w''))
    (AW : Hid (∀ w', Below w.heap.size w w' → Calls Tryd.prog 16 #[] w' fun e w'' => e = .returned (.bool true) ∧ Below w'.heap.size w' w''))
    (SM : Hid (∀ l w, (Op.equalIn 10000 23 (lv l) (lv l)).run Tryd.prog w = .ok true w)) (HX : Hid (z = true → md x = m)) (HA : Hid (∀ j, j < 63 → md (lat j) = m → z = true)) (HS : Hid (s.toList.isEmpty = c)) (HM : Hid ((md l == 0) = c))
    : Calls Tryd.prog 5 #[lv l, .int .i64 m] w fun e w' => e = .returned (.bool true) ∧ Below w.heap.size w w' := by
  have hS1 := (Sp.none w).more [.int .i64 l.u, .bool l.am, .int .i64 l.al, .int .i64 l.sp, .bool l.fo, .bool l.no] 23
  have HS1 := Lib.hid hS1
  clear hS1
  go_enter Tryd.func5, Tryd.ntmps5
  go_wp2_with fail
  refine (AL.out _ HS1.out.below).mono ?_; rintro e w1 ⟨ba, cap, rfl, CA1, hb⟩
  have hS := HS1.out.keep hb
  have HC1 := Lib.hid CA1
  have HS2 := Lib.hid hS
  clear hS hb CA1 AL HS1
  go_wp2_with fail
  refine (AR.out _ HS2.out.below).mono ?_; rintro e w2 ⟨bb, cbp, rfl, CB1, hb⟩
  have hS := HS2.out.keep hb
  replace HC1 := Lib.hid (HC1.out.keep hb)
  have HC2 := Lib.hid CB1
  have HS3 := Lib.hid hS
  clear hS hb CB1 AR HS2
  have HB := Lib.hid (Below.refl w2.heap.size w2)
  go_wp2_with fail
  refine (BE.out _ HS3.out.below).mono ?_; rintro e w5 ⟨rfl, hb5⟩
  have hS4 := (HS3.out).keep hb5
  have HS4 := Lib.hid hS4
  clear hS4 HS3
  replace HB := Lib.hid (belowT HB.out hb5)
  clear hb5
  go_upto_region 3 with fail
  have hS5 := (HS4.out).more [.int .i64 x.u, .bool x.am, .int .i64 x.al, .int .i64 x.sp, .bool x.fo, .bool x.no] 23
  have HS5 := Lib.hid hS5
  clear hS5 HS4
  obtain ⟨w6, hX, hS⟩ := (HS5.out).named
  replace HB := Lib.hid (show Below w2.heap.size w2 w6 from hX ▸ belowT HB.out (below1 _ _))
  rw [← hX]
  clear hX HS5
  have HS6 := Lib.hid hS
  clear hS
  go_wp2_with fail
  refine (BR.out _ HS6.out.below).mono ?_; rintro e w7 ⟨rfl, hb7⟩
  have hS7 := (HS6.out).keep hb7
  have HS7 := Lib.hid hS7
  clear hS7 HS6
  replace HB := Lib.hid (belowT HB.out hb7)
  clear hb7
  go_upto_region 4 with fail
  have hS8 := (HS7.out).more [.int .i64 x.u, .bool x.am, .int .i64 x.al, .int .i64 x.sp, .bool x.fo, .bool x.no] 23
  have HS8 := Lib.hid hS8
  clear hS8 HS7
  obtain ⟨w8, hX, hS⟩ := (HS8.out).named
  replace HB := Lib.hid (show Below w2.heap.size w2 w8 from hX ▸ belowT HB.out (below1 _ _))
  rw [← hX]
  clear hX HS8
  have HS9 := Lib.hid hS
  clear hS
  clear BE BR
  cases z
  · skip
    have sm := SM.out x
    have k1_0 := (HS9.out).at 1 rfl 0 (v := .int .i64 x.u) rfl
    have k1_1 := (HS9.out).at 1 rfl 1 (v := .bool x.am) rfl
    have k1_2 := (HS9.out).at 1 rfl 2 (v := .int .i64 x.al) rfl
    have k1_3 := (HS9.out).at 1 rfl 3 (v := .int .i64 x.sp) rfl
    have k1_4 := (HS9.out).at 1 rfl 4 (v := .bool x.fo) rfl
    have k1_5 := (HS9.out).at 1 rfl 5 (v := .bool x.no) rfl
    have k2_0 := (HS9.out).at 2 rfl 0 (v := .int .i64 x.u) rfl
    have k2_1 := (HS9.out).at 2 rfl 1 (v := .bool x.am) rfl
    have k2_2 := (HS9.out).at 2 rfl 2 (v := .int .i64 x.al) rfl
    have k2_3 := (HS9.out).at 2 rfl 3 (v := .int .i64 x.sp) rfl
    have k2_4 := (HS9.out).at 2 rfl 4 (v := .bool x.fo) rfl
    have k2_5 := (HS9.out).at 2 rfl 5 (v := .bool x.no) rfl
    clear HX
    replace HC1 := Lib.hid (HC1.out.keep HB.out)
    replace HC2 := Lib.hid (HC2.out.keep HB.out)
    clear HB
    go_wp2_with fail
    clear sm k1_0 k1_1 k1_2 k1_3 k1_4 k1_5 k2_0 k2_1 k2_2 k2_3 k2_4 k2_5
    go_loopw [53] (fun i wr => ∃ j : Nat, j ≤ 63 ∧ i = .int .i64 j ∧ Below w8.heap.size w8 wr) (fun i _ => 63 - (intOf i).toNat)
    case atStart => first | exact ⟨0, by omega, rfl, Below.refl _ _⟩ | ((repeat apply Exists.intro); exact ⟨⟨0, by omega, rfl, Below.refl _ _⟩, rfl⟩)
    case round =>
      obtain ⟨j, hj, rfl, hb⟩ := hrel
      have HBr := Lib.hid hb
      clear hb
      by_cases hc : (j : Int) < 63
      · skip
        have hjn : j < 63 := by omega
        have hj0 : (0 : Int) ≤ j := by omega
        have HJ := Lib.hid hjn
        obtain ⟨b1, o1, rfl, L1⟩ := (HC1.out.keep HBr.out).lies (by rw [allN_len]; omega)
        obtain ⟨b2, o2, rfl, L2⟩ := (HC2.out.keep HBr.out).lies (by rw [allN_len]; omega)
        have hx1 := L1 j (by rw [allN_len]; omega)
        have hx2 := L2 j (by rw [allN_len]; omega)
        rw [allN_at hjn] at hx1 hx2
        obtain ⟨q, hq⟩ : ∃ q, q = lat j := ⟨_, rfl⟩
        have hA := HA.out j hjn
        rw [← hq] at hx1 hx2 hA
        have HX1 := Lib.hid hx1
        have HX2 := Lib.hid hx2
        have HAq := Lib.hid hA
        clear L1 L2 hx1 hx2 hq hA HA HC1 HC2 hjn hj HS HM CA CR AW
        have ML := Lib.hid fun w' (B : Below wr.heap.size wr w') => MO.out q w' (belowT HS9.out.below (belowT HBr.out B))
        clear MO
        have sm := SM.out q
        clear SM
        by_cases he : md q = m
        · exact absurd (HAq.out he) (by decide)
        · skip
          have hm : (md q == m) = false := by simpa using he
          clear he HAq
          have hS81 := Sp.none wr
          have HS81 := Lib.hid hS81
          clear hS81
          go_upto_region 9 with fail
          obtain ⟨bs21, hbs⟩ : ∃ bs : List (Nat × List (Option Value)), bs = [] := ⟨_, rfl⟩
          have hT := (HS81.out).cast hbs
          have q1_0 : ∀ w', Sp wr bs21 w' → w'.cell? ⟨b1, o1 + j * 6, none⟩ = some (.int .i64 q.u) := fun w' h => keepc h.below (HX1.out 0 _ rfl)
          have q1_1 : ∀ w', Sp wr bs21 w' → w'.cell? ⟨b1, o1 + j * 6 + 1, none⟩ = some (.bool q.am) := fun w' h => keepc h.below (HX1.out 1 _ rfl)
          have q1_2 : ∀ w', Sp wr bs21 w' → w'.cell? ⟨b1, o1 + j * 6 + 2, none⟩ = some (.int .i64 q.al) := fun w' h => keepc h.below (HX1.out 2 _ rfl)
          have q1_3 : ∀ w', Sp wr bs21 w' → w'.cell? ⟨b1, o1 + j * 6 + 3, none⟩ = some (.int .i64 q.sp) := fun w' h => keepc h.below (HX1.out 3 _ rfl)
          have q1_4 : ∀ w', Sp wr bs21 w' → w'.cell? ⟨b1, o1 + j * 6 + 4, none⟩ = some (.bool q.fo) := fun w' h => keepc h.below (HX1.out 4 _ rfl)
          have q1_5 : ∀ w', Sp wr bs21 w' → w'.cell? ⟨b1, o1 + j * 6 + 5, none⟩ = some (.bool q.no) := fun w' h => keepc h.below (HX1.out 5 _ rfl)
          have q2_0 : ∀ w', Sp wr bs21 w' → w'.cell? ⟨b2, o2 + j * 6, none⟩ = some (.int .i64 q.u) := fun w' h => keepc h.below (HX2.out 0 _ rfl)
          have q2_1 : ∀ w', Sp wr bs21 w' → w'.cell? ⟨b2, o2 + j * 6 + 1, none⟩ = some (.bool q.am) := fun w' h => keepc h.below (HX2.out 1 _ rfl)
          have q2_2 : ∀ w', Sp wr bs21 w' → w'.cell? ⟨b2, o2 + j * 6 + 2, none⟩ = some (.int .i64 q.al) := fun w' h => keepc h.below (HX2.out 2 _ rfl)
          have q2_3 : ∀ w', Sp wr bs21 w' → w'.cell? ⟨b2, o2 + j * 6 + 3, none⟩ = some (.int .i64 q.sp) := fun w' h => keepc h.below (HX2.out 3 _ rfl)
          have q2_4 : ∀ w', Sp wr bs21 w' → w'.cell? ⟨b2, o2 + j * 6 + 4, none⟩ = some (.bool q.fo) := fun w' h => keepc h.below (HX2.out 4 _ rfl)
          have q2_5 : ∀ w', Sp wr bs21 w' → w'.cell? ⟨b2, o2 + j * 6 + 5, none⟩ = some (.bool q.no) := fun w' h => keepc h.below (HX2.out 5 _ rfl)
          have nx : ∀ w', Sp wr bs21 w' → Sp wr [] w' := by rw [hbs]; exact fun w' h => h
          have kS : ∀ w1 w2, Sp wr bs21 w1 → Below w1.heap.size w1 w2 → Sp wr bs21 w2 := fun _ _ h hb => h.keep hb
          clear hbs HS81
          change (Code.region 9 ldcau9 true).wp Tryd.prog _ _ _
          refine wp_region_noPanic ?_
          refine wp_region_held_drew (S := (Sp wr bs21)) (by kernel_rfl) (hT.drew) (fun hHeld => ?_)
          refine wpAnyH_take (i := 0) (oi := ({ dst := some 56, op := .move (.tmp 5), type := 32, pos := "law.go:39", after := #[], guard := none } : Oper)) (v := ?vs1_0) rfl ldcau9_plain (by as_aux_lemma => kernel_rfl) (by as_aux_lemma => kernel_rfl) (fun _ _ _ h => h) (Or.inl ⟨by rfl, ?ys1_0⟩) (by assumption) ?rs1_0
          case ys1_0 => (intro w hSw; (try dsimp only at hSw); go_simp; try with_reducible rfl)
          try simp only [Act.put, List.setIfInBounds_toArray, List.set_cons_zero, List.set_cons_succ]
          refine wpAnyH_take (i := 1) (oi := ({ dst := some 57, op := .move (.tmp 11), type := 3, pos := "law.go:39", after := #[], guard := none } : Oper)) (v := ?vs1_1) rfl ldcau9_plain (by as_aux_lemma => kernel_rfl) (by as_aux_lemma => kernel_rfl) (fun _ _ _ h => h) (Or.inl ⟨by rfl, ?ys1_1⟩) (by assumption) ?rs1_1
          case ys1_1 => (intro w hSw; (try dsimp only at hSw); go_simp; try with_reducible rfl)
          try simp only [Act.put, List.setIfInBounds_toArray, List.set_cons_zero, List.set_cons_succ]
          refine wpAnyH_take (i := 2) (oi := ({ dst := some 58, op := .indexAddr 32 (.tmp 56) (.tmp 57), type := 0, pos := "law.go:39", after := #[{ on := 0, ground := .data }, { on := 1, ground := .data }], guard := none } : Oper)) (v := ?vs1_2) rfl ldcau9_plain (by as_aux_lemma => kernel_rfl) (by as_aux_lemma => kernel_rfl) (fun _ _ _ h => h) (Or.inl ⟨by rfl, ?ys1_2⟩) (by assumption) ?rs1_2
          case ys1_2 => (intro w hSw; (try dsimp only at hSw); go_simp; try with_reducible rfl)
          try simp only [Act.put, List.setIfInBounds_toArray, List.set_cons_zero, List.set_cons_succ]
          refine wpAnyH_take (i := 3) (oi := ({ dst := some 59, op := .load 23 (.tmp 58), type := 23, pos := "law.go:39", after := #[{ on := 2, ground := .data }], guard := none } : Oper)) (v := ?vs1_3) rfl ldcau9_plain (by as_aux_lemma => kernel_rfl) (by as_aux_lemma => kernel_rfl) (fun _ _ _ h => h) (Or.inl ⟨by rfl, ?ys1_3⟩) (by assumption) ?rs1_3
          case ys1_3 => (intro w hSw; (try dsimp only at hSw); go_simp; try with_reducible rfl)
          try simp only [Act.put, List.setIfInBounds_toArray, List.set_cons_zero, List.set_cons_succ]
          refine wpAnyH_take (i := 4) (oi := ({ dst := some 60, op := .move (.tmp 6), type := 32, pos := "law.go:39", after := #[], guard := none } : Oper)) (v := ?vs1_4) rfl ldcau9_plain (by as_aux_lemma => kernel_rfl) (by as_aux_lemma => kernel_rfl) (fun _ _ _ h => h) (Or.inl ⟨by rfl, ?ys1_4⟩) (by assumption) ?rs1_4
          case ys1_4 => (intro w hSw; (try dsimp only at hSw); go_simp; try with_reducible rfl)
          try simp only [Act.put, List.setIfInBounds_toArray, List.set_cons_zero, List.set_cons_succ]
          refine wpAnyH_take (i := 5) (oi := ({ dst := some 61, op := .move (.tmp 11), type := 3, pos := "law.go:39", after := #[], guard := none } : Oper)) (v := ?vs1_5) rfl ldcau9_plain (by as_aux_lemma => kernel_rfl) (by as_aux_lemma => kernel_rfl) (fun _ _ _ h => h) (Or.inl ⟨by rfl, ?ys1_5⟩) (by assumption) ?rs1_5
          case ys1_5 => (intro w hSw; (try dsimp only at hSw); go_simp; try with_reducible rfl)
          try simp only [Act.put, List.setIfInBounds_toArray, List.set_cons_zero, List.set_cons_succ]
          refine wpAnyH_take (i := 6) (oi := ({ dst := some 62, op := .indexAddr 32 (.tmp 60) (.tmp 61), type := 0, pos := "law.go:39", after := #[{ on := 4, ground := .data }, { on := 5, ground := .data }], guard := none } : Oper)) (v := ?vs1_6) rfl ldcau9_plain (by as_aux_lemma => kernel_rfl) (by as_aux_lemma => kernel_rfl) (fun _ _ _ h => h) (Or.inl ⟨by rfl, ?ys1_6⟩) (by assumption) ?rs1_6
          case ys1_6 => (intro w hSw; (try dsimp only at hSw); go_simp; try with_reducible rfl)
          try simp only [Act.put, List.setIfInBounds_toArray, List.set_cons_zero, List.set_cons_succ]
          refine wpAnyH_take (i := 7) (oi := ({ dst := some 63, op := .load 23 (.tmp 62), type := 23, pos := "law.go:39", after := #[{ on := 6, ground := .data }], guard := none } : Oper)) (v := ?vs1_7) rfl ldcau9_plain (by as_aux_lemma => kernel_rfl) (by as_aux_lemma => kernel_rfl) (fun _ _ _ h => h) (Or.inl ⟨by rfl, ?ys1_7⟩) (by assumption) ?rs1_7
          case ys1_7 => (intro w hSw; (try dsimp only at hSw); go_simp; try with_reducible rfl)
          try simp only [Act.put, List.setIfInBounds_toArray, List.set_cons_zero, List.set_cons_succ]
          refine wpAnyH_take (i := 8) (oi := ({ dst := some 64, op := .binOp .neq 23 (.tmp 59) (.tmp 63) 23, type := 4, pos := "law.go:39", after := #[{ on := 3, ground := .data }, { on := 7, ground := .data }], guard := none } : Oper)) (v := ?vs1_8) rfl ldcau9_plain (by as_aux_lemma => kernel_rfl) (by as_aux_lemma => kernel_rfl) (fun _ _ _ h => h) (Or.inl ⟨by rfl, ?ys1_8⟩) (by assumption) ?rs1_8
          case ys1_8 => (intro w hSw; (try dsimp only at hSw); go_simp; try with_reducible rfl)
          try simp only [Act.put, List.setIfInBounds_toArray, List.set_cons_zero, List.set_cons_succ]
          refine wpAnyH_take (i := 9) (oi := ({ dst := some 65, op := .move (.tmp 64), type := 4, pos := "law.go:39", after := #[{ on := 8, ground := .data }], guard := none } : Oper)) (v := ?vs1_9) rfl ldcau9_plain (by as_aux_lemma => kernel_rfl) (by as_aux_lemma => kernel_rfl) (fun _ _ _ h => h) (Or.inl ⟨by rfl, ?ys1_9⟩) (by assumption) ?rs1_9
          case ys1_9 => (intro w hSw; (try dsimp only at hSw); go_simp; try with_reducible rfl)
          try simp only [Act.put, List.setIfInBounds_toArray, List.set_cons_zero, List.set_cons_succ]
          refine wpAnyH_take (i := 10) (oi := ({ dst := some 66, op := .move (.tmp 5), type := 32, pos := "law.go:39", after := #[{ on := 9, ground := .guard }], guard := some (9, false) } : Oper)) (v := ?vs1_10) rfl ldcau9_plain (by as_aux_lemma => kernel_rfl) (by as_aux_lemma => kernel_rfl) (fun _ _ _ h => h) (Or.inl ⟨by rfl, ?ys1_10⟩) (by assumption) ?rs1_10
          case ys1_10 => (intro w hSw; (try dsimp only at hSw); go_simp; try with_reducible rfl)
          try simp only [Act.put, List.setIfInBounds_toArray, List.set_cons_zero, List.set_cons_succ]
          refine wpAnyH_take (i := 11) (oi := ({ dst := some 67, op := .move (.tmp 11), type := 3, pos := "law.go:39", after := #[{ on := 9, ground := .guard }], guard := some (9, false) } : Oper)) (v := ?vs1_11) rfl ldcau9_plain (by as_aux_lemma => kernel_rfl) (by as_aux_lemma => kernel_rfl) (fun _ _ _ h => h) (Or.inl ⟨by rfl, ?ys1_11⟩) (by assumption) ?rs1_11
          case ys1_11 => (intro w hSw; (try dsimp only at hSw); go_simp; try with_reducible rfl)
          try simp only [Act.put, List.setIfInBounds_toArray, List.set_cons_zero, List.set_cons_succ]
          refine wpAnyH_take (i := 12) (oi := ({ dst := some 68, op := .indexAddr 32 (.tmp 66) (.tmp 67), type := 0, pos := "law.go:39", after := #[{ on := 10, ground := .data }, { on := 11, ground := .data }, { on := 9, ground := .guard }], guard := some (9, false) } : Oper)) (v := ?vs1_12) rfl ldcau9_plain (by as_aux_lemma => kernel_rfl) (by as_aux_lemma => kernel_rfl) (fun _ _ _ h => h) (Or.inl ⟨by rfl, ?ys1_12⟩) (by assumption) ?rs1_12
          case ys1_12 => (intro w hSw; (try dsimp only at hSw); go_simp; try with_reducible rfl)
          try simp only [Act.put, List.setIfInBounds_toArray, List.set_cons_zero, List.set_cons_succ]
          refine wpAnyH_take (i := 13) (oi := ({ dst := some 69, op := .load 23 (.tmp 68), type := 23, pos := "law.go:39", after := #[{ on := 12, ground := .data }, { on := 9, ground := .guard }], guard := some (9, false) } : Oper)) (v := ?vs1_13) rfl ldcau9_plain (by as_aux_lemma => kernel_rfl) (by as_aux_lemma => kernel_rfl) (fun _ _ _ h => h) (Or.inl ⟨by rfl, ?ys1_13⟩) (by assumption) ?rs1_13
          case ys1_13 => (intro w hSw; (try dsimp only at hSw); go_simp; try with_reducible rfl)
          try simp only [Act.put, List.setIfInBounds_toArray, List.set_cons_zero, List.set_cons_succ]
          refine wpAnyH_take (i := 15) (oi := ({ dst := some 71, op := .move (.tmp 1), type := 3, pos := "law.go:39", after := #[{ on := 9, ground := .guard }], guard := some (9, false) } : Oper)) (v := ?vs1_15) rfl ldcau9_plain (by as_aux_lemma => kernel_rfl) (by as_aux_lemma => kernel_rfl) (fun _ _ _ h => h) (Or.inl ⟨by rfl, ?ys1_15⟩) (by assumption) ?rs1_15
          case ys1_15 => (intro w hSw; (try dsimp only at hSw); go_simp; try with_reducible rfl)
          try simp only [Act.put, List.setIfInBounds_toArray, List.set_cons_zero, List.set_cons_succ]
          refine wpAnyH_ready (rs := [14]) (by as_aux_lemma => kernel_rfl) (by simp) ?_
          refine AllReadyH.cons (o := ({ dst := some 70, op := .call { callee := .value (.func 10), args := #[.tmp 69], argTypes := #[23] }, type := 3, pos := "law.go:39", after := #[{ on := 13, ground := .data }, { on := 9, ground := .chain }, { on := 9, ground := .guard }], guard := some (9, false) } : Oper)) rfl (fun KK hK => ?_) AllReadyH.nil
          rw [if_pos (by rfl)]
          go_simp
          go_at_call 10; refine (ML.out _ (Sp.below (by assumption))).mono ?_; rintro e w60 ⟨rfl, hb60⟩
          go_wp2_with fail
          refine hK.out _ _ ?_ (fun hHeld60 => ?_)
          · exact kS _ _ (by assumption) hb60
          clear hK KK hb60
          try simp only [Act.put, List.setIfInBounds_toArray, List.set_cons_zero, List.set_cons_succ]
          refine wpAnyH_take (i := 16) (oi := ({ dst := some 72, op := .binOp .eql 3 (.tmp 70) (.tmp 71) 3, type := 4, pos := "law.go:39", after := #[{ on := 14, ground := .data }, { on := 15, ground := .data }, { on := 9, ground := .guard }], guard := some (9, false) } : Oper)) (v := ?vs1_16) rfl ldcau9_plain (by as_aux_lemma => kernel_rfl) (by as_aux_lemma => kernel_rfl) (fun _ _ _ h => h) (Or.inl ⟨by rfl, ?ys1_16⟩) (by assumption) ?rs1_16
          case ys1_16 => (intro w hSw; (try dsimp only at hSw); go_simp; try with_reducible rfl)
          try simp only [Act.put, List.setIfInBounds_toArray, List.set_cons_zero, List.set_cons_succ]
          refine wpAnyH_take (i := 17) (oi := ({ dst := some 73, op := .move (.tmp 72), type := 4, pos := "law.go:39", after := #[{ on := 16, ground := .data }, { on := 14, ground := .chain }, { on := 9, ground := .guard }], guard := some (9, false) } : Oper)) (v := ?vs1_17) rfl ldcau9_plain (by as_aux_lemma => kernel_rfl) (by as_aux_lemma => kernel_rfl) (fun _ _ _ h => h) (Or.inl ⟨by rfl, ?ys1_17⟩) (by assumption) ?rs1_17
          case ys1_17 => (intro w hSw; (try dsimp only at hSw); go_simp; try with_reducible rfl)
          try simp only [Act.put, List.setIfInBounds_toArray, List.set_cons_zero, List.set_cons_succ]
          refine wpAnyH_take (i := 18) (oi := ({ dst := some 74, op := .move (.tmp 8), type := 4, pos := "law.go:39", after := #[{ on := 17, ground := .guard }], guard := some (17, true) } : Oper)) (v := undef) rfl ldcau9_plain (by as_aux_lemma => kernel_rfl) (by as_aux_lemma => kernel_rfl) (fun _ _ _ h => h) (Or.inr ⟨by rfl, rfl⟩) (by assumption) ?_
          try simp only [Act.put, List.setIfInBounds_toArray, List.set_cons_zero, List.set_cons_succ]
          refine wpAnyH_take (i := 19) (oi := ({ dst := some 75, op := .unOp .not 4 (.tmp 74), type := 4, pos := "law.go:39", after := #[{ on := 18, ground := .data }, { on := 17, ground := .guard }], guard := some (17, true) } : Oper)) (v := undef) rfl ldcau9_plain (by as_aux_lemma => kernel_rfl) (by as_aux_lemma => kernel_rfl) (fun _ _ _ h => h) (Or.inr ⟨by rfl, rfl⟩) (by assumption) ?_
          try simp only [Act.put, List.setIfInBounds_toArray, List.set_cons_zero, List.set_cons_succ]
          refine wpAnyH_take (i := 20) (oi := ({ dst := some 76, op := .pick (.tmp 73) (.tmp 75) (.const (.bool false)), type := 4, pos := "law.go:39", after := #[{ on := 17, ground := .data }, { on := 19, ground := .data }, { on := 9, ground := .guard }], guard := some (9, false) } : Oper)) (v := ?vs1_20) rfl ldcau9_plain (by as_aux_lemma => kernel_rfl) (by as_aux_lemma => kernel_rfl) (fun _ _ _ h => h) (Or.inl ⟨by rfl, ?ys1_20⟩) (by assumption) ?rs1_20
          case ys1_20 => (intro w hSw; (try dsimp only at hSw); go_simp; try with_reducible rfl)
          try simp only [Act.put, List.setIfInBounds_toArray, List.set_cons_zero, List.set_cons_succ]
          refine wpAnyH_take (i := 21) (oi := ({ dst := some 77, op := .pick (.tmp 65) (.const (.bool true)) (.tmp 76), type := 4, pos := "law.go:39", after := #[{ on := 9, ground := .data }, { on := 20, ground := .data }], guard := none } : Oper)) (v := ?vs1_21) rfl ldcau9_plain (by as_aux_lemma => kernel_rfl) (by as_aux_lemma => kernel_rfl) (fun _ _ _ h => h) (Or.inl ⟨by rfl, ?ys1_21⟩) (by assumption) ?rs1_21
          case ys1_21 => (intro w hSw; (try dsimp only at hSw); go_simp; try with_reducible rfl)
          try simp only [Act.put, List.setIfInBounds_toArray, List.set_cons_zero, List.set_cons_succ]
          refine wpAnyH_done (by as_aux_lemma => kernel_rfl) ?_ _
          refine NoPanic.normal ?_
          have N1 := nx _ hHeld60
          have HS82 := Lib.hid N1
          clear q1_0 q1_1 q1_2 q1_3 q1_4 q1_5 q2_0 q2_1 q2_2 q2_3 q2_4 q2_5 nx kS hT N1
          have HBn := Lib.hid (belowT HBr.out HS82.out.below)
          go_wp2_with fail
          go_roundw
          case rel => first | exact ⟨j + 1, by have := HJ.out; omega, rfl, HBn.out⟩ | ((repeat apply Exists.intro); exact ⟨⟨j + 1, by have := HJ.out; omega, rfl, HBn.out⟩, rfl⟩)
          case measure => simp [intOf]; omega
      · obtain rfl : j = 63 := by omega
        have hS := HS9.out.keep HBr.out
        have HS10 := Lib.hid hS
        clear hS HS9 HC1 HC2 HA hc hj
        have hs := HS.out
        have hm := HM.out
        have ML := Lib.hid (MO.out l)
        clear HS HM MO SM
        go_upto_region 12 with fail
        obtain ⟨bs1, hbs⟩ : ∃ bs : List (Nat × List (Option Value)), bs = [(w.heap.size, [some (.int .i64 l.u), some (.bool l.am), some (.int .i64 l.al), some (.int .i64 l.sp), some (.bool l.fo), some (.bool l.no)]), (w5.heap.size, [some (.int .i64 x.u), some (.bool x.am), some (.int .i64 x.al), some (.int .i64 x.sp), some (.bool x.fo), some (.bool x.no)]), (w7.heap.size, [some (.int .i64 x.u), some (.bool x.am), some (.int .i64 x.al), some (.int .i64 x.sp), some (.bool x.fo), some (.bool x.no)])] := ⟨_, rfl⟩
        have hT := (HS10.out).cast hbs
        have c0_0 : ∀ w', Sp w bs1 w' → w'.cell? ⟨w.heap.size, 0, none⟩ = some (.int .i64 l.u) := by rw [hbs]; exact fun w' h => h.at 0 rfl 0 rfl
        have c0_1 : ∀ w', Sp w bs1 w' → w'.cell? ⟨w.heap.size, 1, none⟩ = some (.bool l.am) := by rw [hbs]; exact fun w' h => h.at 0 rfl 1 rfl
        have c0_2 : ∀ w', Sp w bs1 w' → w'.cell? ⟨w.heap.size, 2, none⟩ = some (.int .i64 l.al) := by rw [hbs]; exact fun w' h => h.at 0 rfl 2 rfl
        have c0_3 : ∀ w', Sp w bs1 w' → w'.cell? ⟨w.heap.size, 3, none⟩ = some (.int .i64 l.sp) := by rw [hbs]; exact fun w' h => h.at 0 rfl 3 rfl
        have c0_4 : ∀ w', Sp w bs1 w' → w'.cell? ⟨w.heap.size, 4, none⟩ = some (.bool l.fo) := by rw [hbs]; exact fun w' h => h.at 0 rfl 4 rfl
        have c0_5 : ∀ w', Sp w bs1 w' → w'.cell? ⟨w.heap.size, 5, none⟩ = some (.bool l.no) := by rw [hbs]; exact fun w' h => h.at 0 rfl 5 rfl
        have nx : ∀ w', Sp w bs1 w' → Sp w [(w.heap.size, [some (.int .i64 l.u), some (.bool l.am), some (.int .i64 l.al), some (.int .i64 l.sp), some (.bool l.fo), some (.bool l.no)]), (w5.heap.size, [some (.int .i64 x.u), some (.bool x.am), some (.int .i64 x.al), some (.int .i64 x.sp), some (.bool x.fo), some (.bool x.no)]), (w7.heap.size, [some (.int .i64 x.u), some (.bool x.am), some (.int .i64 x.al), some (.int .i64 x.sp), some (.bool x.fo), some (.bool x.no)])] w' := by rw [hbs]; exact fun w' h => h
        have kS : ∀ w1 w2, Sp w bs1 w1 → Below w1.heap.size w1 w2 → Sp w bs1 w2 := fun _ _ h hb => h.keep hb
        clear hbs HS10
        change (Code.region 12 ldcau12 true).wp Tryd.prog _ _ _
        refine wp_region_noPanic ?_
        refine wp_region_held_drew (S := (Sp w bs1)) (by kernel_rfl) (hT.drew) (fun hHeld => ?_)
        refine wpAnyH_take (i := 0) (oi := ({ dst := some 79, op := .load 23 (.tmp 2), type := 23, pos := "law.go:43", after := #[], guard := none } : Oper)) (v := ?vs2_0) rfl ldcau12_plain (by as_aux_lemma => kernel_rfl) (by as_aux_lemma => kernel_rfl) (fun _ _ _ h => h) (Or.inl ⟨by rfl, ?ys2_0⟩) (by assumption) ?rs2_0
        case ys2_0 => (intro w hSw; (try dsimp only at hSw); go_simp; try with_reducible rfl)
        try simp only [Act.put, List.setIfInBounds_toArray, List.set_cons_zero, List.set_cons_succ]
        refine wpAnyH_take (i := 2) (oi := ({ dst := some 81, op := .load 23 (.tmp 2), type := 23, pos := "law.go:43", after := #[], guard := none } : Oper)) (v := ?vs2_2) rfl ldcau12_plain (by as_aux_lemma => kernel_rfl) (by as_aux_lemma => kernel_rfl) (fun _ _ _ h => h) (Or.inl ⟨by rfl, ?ys2_2⟩) (by assumption) ?rs2_2
        case ys2_2 => (intro w hSw; (try dsimp only at hSw); go_simp; try with_reducible rfl)
        try simp only [Act.put, List.setIfInBounds_toArray, List.set_cons_zero, List.set_cons_succ]
        refine wpAnyH_ready (rs := [1]) (by as_aux_lemma => kernel_rfl) (by simp) ?_
        refine AllReadyH.cons (o := ({ dst := some 80, op := .call { callee := .value (.func 21), args := #[.tmp 79], argTypes := #[23] }, type := 9, pos := "law.go:43", after := #[{ on := 0, ground := .data }], guard := none } : Oper)) rfl (fun KK hK => ?_) AllReadyH.nil
        rw [if_pos (by rfl)]
        go_simp
        go_at_call 21; refine (CA.out _ (Sp.below (by assumption))).mono ?_; rintro e w9 ⟨rfl, hb9⟩
        go_wp2_with fail
        refine hK.out _ _ ?_ (fun hHeld9 => ?_)
        · exact kS _ _ (by assumption) hb9
        clear hK KK hb9
        try simp only [Act.put, List.setIfInBounds_toArray, List.set_cons_zero, List.set_cons_succ]
        refine wpAnyH_ready (rs := [3]) (by as_aux_lemma => kernel_rfl) (by simp) ?_
        refine AllReadyH.cons (o := ({ dst := some 82, op := .call { callee := .value (.func 22), args := #[.tmp 81], argTypes := #[23] }, type := 9, pos := "law.go:43", after := #[{ on := 2, ground := .data }, { on := 1, ground := .chain }], guard := none } : Oper)) rfl (fun KK hK => ?_) AllReadyH.nil
        rw [if_pos (by rfl)]
        go_simp
        go_at_call 22; refine (CR.out _ (Sp.below (by assumption))).mono ?_; rintro e w10 ⟨rfl, hb10⟩
        go_wp2_with fail
        refine hK.out _ _ ?_ (fun hHeld10 => ?_)
        · exact kS _ _ (by assumption) hb10
        clear hK KK hb10 hHeld9
        try simp only [Act.put, List.setIfInBounds_toArray, List.set_cons_zero, List.set_cons_succ]
        refine wpAnyH_take (i := 4) (oi := ({ dst := some 83, op := .binOp .eql 9 (.tmp 80) (.tmp 82) 9, type := 4, pos := "law.go:43", after := #[{ on := 1, ground := .data }, { on := 3, ground := .data }], guard := none } : Oper)) (v := ?vs2_4) rfl ldcau12_plain (by as_aux_lemma => kernel_rfl) (by as_aux_lemma => kernel_rfl) (fun _ _ _ h => h) (Or.inl ⟨by rfl, ?ys2_4⟩) (by assumption) ?rs2_4
        case ys2_4 => (intro w hSw; (try dsimp only at hSw); go_simp; try with_reducible rfl)
        try simp only [Act.put, List.setIfInBounds_toArray, List.set_cons_zero, List.set_cons_succ]
        refine wpAnyH_take (i := 5) (oi := ({ dst := some 84, op := .move (.tmp 83), type := 4, pos := "law.go:43", after := #[{ on := 4, ground := .data }, { on := 3, ground := .chain }], guard := none } : Oper)) (v := ?vs2_5) rfl ldcau12_plain (by as_aux_lemma => kernel_rfl) (by as_aux_lemma => kernel_rfl) (fun _ _ _ h => h) (Or.inl ⟨by rfl, ?ys2_5⟩) (by assumption) ?rs2_5
        case ys2_5 => (intro w hSw; (try dsimp only at hSw); go_simp; try with_reducible rfl)
        try simp only [Act.put, List.setIfInBounds_toArray, List.set_cons_zero, List.set_cons_succ]
        refine wpAnyH_take (i := 6) (oi := ({ dst := some 85, op := .load 23 (.tmp 2), type := 23, pos := "law.go:43", after := #[{ on := 5, ground := .guard }], guard := some (5, true) } : Oper)) (v := ?vs2_6) rfl ldcau12_plain (by as_aux_lemma => kernel_rfl) (by as_aux_lemma => kernel_rfl) (fun _ _ _ h => h) (Or.inl ⟨by rfl, ?ys2_6⟩) (by assumption) ?rs2_6
        case ys2_6 => (intro w hSw; (try dsimp only at hSw); go_simp; try with_reducible rfl)
        try simp only [Act.put, List.setIfInBounds_toArray, List.set_cons_zero, List.set_cons_succ]
        refine wpAnyH_take (i := 9) (oi := ({ dst := some 88, op := .load 23 (.tmp 2), type := 23, pos := "law.go:43", after := #[{ on := 5, ground := .guard }], guard := some (5, true) } : Oper)) (v := ?vs2_9) rfl ldcau12_plain (by as_aux_lemma => kernel_rfl) (by as_aux_lemma => kernel_rfl) (fun _ _ _ h => h) (Or.inl ⟨by rfl, ?ys2_9⟩) (by assumption) ?rs2_9
        case ys2_9 => (intro w hSw; (try dsimp only at hSw); go_simp; try with_reducible rfl)
        try simp only [Act.put, List.setIfInBounds_toArray, List.set_cons_zero, List.set_cons_succ]
        refine wpAnyH_ready (rs := [7]) (by as_aux_lemma => kernel_rfl) (by simp) ?_
        refine AllReadyH.cons (o := ({ dst := some 86, op := .call { callee := .value (.func 21), args := #[.tmp 85], argTypes := #[23] }, type := 9, pos := "law.go:43", after := #[{ on := 6, ground := .data }, { on := 5, ground := .chain }, { on := 5, ground := .guard }], guard := some (5, true) } : Oper)) rfl (fun KK hK => ?_) AllReadyH.nil
        rw [if_pos (by rfl)]
        go_simp
        go_at_call 21; refine (CA.out _ (Sp.below (by assumption))).mono ?_; rintro e w11 ⟨rfl, hb11⟩
        go_wp2_with fail
        refine hK.out _ _ ?_ (fun hHeld11 => ?_)
        · exact kS _ _ (by assumption) hb11
        clear hK KK hb11 hHeld10
        try simp only [Act.put, List.setIfInBounds_toArray, List.set_cons_zero, List.set_cons_succ]
        refine wpAnyH_take (i := 8) (oi := ({ dst := some 87, op := .binOp .eql 9 (.tmp 86) (.const (.string { data := #[] })) 9, type := 4, pos := "law.go:43", after := #[{ on := 7, ground := .data }, { on := 5, ground := .guard }], guard := some (5, true) } : Oper)) (v := ?vs2_8) rfl ldcau12_plain (by as_aux_lemma => kernel_rfl) (by as_aux_lemma => kernel_rfl) (fun _ _ _ h => h) (Or.inl ⟨by rfl, ?ys2_8⟩) (by assumption) ?rs2_8
        case ys2_8 => (intro w hSw; (try dsimp only at hSw); go_simp; try with_reducible rfl)
        try simp only [Act.put, List.setIfInBounds_toArray, List.set_cons_zero, List.set_cons_succ]
        refine wpAnyH_ready (rs := [10]) (by as_aux_lemma => kernel_rfl) (by simp) ?_
        refine AllReadyH.cons (o := ({ dst := some 89, op := .call { callee := .value (.func 10), args := #[.tmp 88], argTypes := #[23] }, type := 3, pos := "law.go:43", after := #[{ on := 9, ground := .data }, { on := 7, ground := .chain }, { on := 5, ground := .guard }], guard := some (5, true) } : Oper)) rfl (fun KK hK => ?_) AllReadyH.nil
        rw [if_pos (by rfl)]
        go_simp
        go_at_call 10; refine (ML.out _ (Sp.below (by assumption))).mono ?_; rintro e w12 ⟨rfl, hb12⟩
        go_wp2_with fail
        refine hK.out _ _ ?_ (fun hHeld12 => ?_)
        · exact kS _ _ (by assumption) hb12
        clear hK KK hb12 hHeld11
        try simp only [Act.put, List.setIfInBounds_toArray, List.set_cons_zero, List.set_cons_succ]
        refine wpAnyH_take (i := 11) (oi := ({ dst := some 90, op := .binOp .eql 3 (.tmp 89) (.const (.int .i64 0)) 3, type := 4, pos := "law.go:43", after := #[{ on := 10, ground := .data }, { on := 5, ground := .guard }], guard := some (5, true) } : Oper)) (v := ?vs2_11) rfl ldcau12_plain (by as_aux_lemma => kernel_rfl) (by as_aux_lemma => kernel_rfl) (fun _ _ _ h => h) (Or.inl ⟨by rfl, ?ys2_11⟩) (by assumption) ?rs2_11
        case ys2_11 => (intro w hSw; (try dsimp only at hSw); go_simp; try with_reducible rfl)
        try simp only [Act.put, List.setIfInBounds_toArray, List.set_cons_zero, List.set_cons_succ]
        refine wpAnyH_take (i := 12) (oi := ({ dst := some 91, op := .binOp .eql 4 (.tmp 87) (.tmp 90) 4, type := 4, pos := "law.go:43", after := #[{ on := 8, ground := .data }, { on := 11, ground := .data }, { on := 5, ground := .guard }], guard := some (5, true) } : Oper)) (v := ?vs2_12) rfl ldcau12_plain (by as_aux_lemma => kernel_rfl) (by as_aux_lemma => kernel_rfl) (fun _ _ _ h => h) (Or.inl ⟨by rfl, ?ys2_12⟩) (by assumption) ?rs2_12
        case ys2_12 => (intro w hSw; (try dsimp only at hSw); go_simp; try with_reducible rfl)
        try simp only [Act.put, List.setIfInBounds_toArray, List.set_cons_zero, List.set_cons_succ]
        refine wpAnyH_take (i := 13) (oi := ({ dst := some 92, op := .pick (.tmp 84) (.tmp 91) (.const (.bool false)), type := 4, pos := "law.go:43", after := #[{ on := 5, ground := .data }, { on := 12, ground := .data }], guard := none } : Oper)) (v := ?vs2_13) rfl ldcau12_plain (by as_aux_lemma => kernel_rfl) (by as_aux_lemma => kernel_rfl) (fun _ _ _ h => h) (Or.inl ⟨by rfl, ?ys2_13⟩) (by assumption) ?rs2_13
        case ys2_13 => (intro w hSw; (try dsimp only at hSw); go_simp; try with_reducible rfl)
        try simp only [Act.put, List.setIfInBounds_toArray, List.set_cons_zero, List.set_cons_succ]
        refine wpAnyH_take (i := 14) (oi := ({ dst := some 93, op := .move (.tmp 92), type := 4, pos := "law.go:43", after := #[{ on := 13, ground := .data }, { on := 10, ground := .chain }], guard := none } : Oper)) (v := ?vs2_14) rfl ldcau12_plain (by as_aux_lemma => kernel_rfl) (by as_aux_lemma => kernel_rfl) (fun _ _ _ h => h) (Or.inl ⟨by rfl, ?ys2_14⟩) (by assumption) ?rs2_14
        case ys2_14 => (intro w hSw; (try dsimp only at hSw); go_simp; try with_reducible rfl)
        try simp only [Act.put, List.setIfInBounds_toArray, List.set_cons_zero, List.set_cons_succ]
        refine wpAnyH_ready (rs := [15]) (by as_aux_lemma => kernel_rfl) (by simp) ?_
        refine AllReadyH.cons (o := ({ dst := some 94, op := .call { callee := .value (.func 16), args := #[], argTypes := #[] }, type := 4, pos := "law.go:43", after := #[{ on := 14, ground := .chain }, { on := 14, ground := .guard }], guard := some (14, true) } : Oper)) rfl (fun KK hK => ?_) AllReadyH.nil
        rw [if_pos (by rfl)]
        go_simp
        go_at_call 16; refine (AW.out _ (Sp.below (by assumption))).mono ?_; rintro e w13 ⟨rfl, hb13⟩
        go_wp2_with fail
        refine hK.out _ _ ?_ (fun hHeld13 => ?_)
        · exact kS _ _ (by assumption) hb13
        clear hK KK hb13 hHeld12
        try simp only [Act.put, List.setIfInBounds_toArray, List.set_cons_zero, List.set_cons_succ]
        refine wpAnyH_take (i := 16) (oi := ({ dst := some 95, op := .pick (.tmp 93) (.tmp 94) (.const (.bool false)), type := 4, pos := "law.go:43", after := #[{ on := 14, ground := .data }, { on := 15, ground := .data }], guard := none } : Oper)) (v := ?vs2_16) rfl ldcau12_plain (by as_aux_lemma => kernel_rfl) (by as_aux_lemma => kernel_rfl) (fun _ _ _ h => h) (Or.inl ⟨by rfl, ?ys2_16⟩) (by assumption) ?rs2_16
        case ys2_16 => (intro w hSw; (try dsimp only at hSw); go_simp; try with_reducible rfl)
        try simp only [Act.put, List.setIfInBounds_toArray, List.set_cons_zero, List.set_cons_succ]
        refine wpAnyH_take (i := 17) (oi := ({ dst := some 4, op := .assign (.tmp 95), type := 4, pos := "law.go:43", after := #[{ on := 16, ground := .data }, { on := 15, ground := .chain }, { on := 0, ground := .phase }, { on := 1, ground := .phase }, { on := 2, ground := .phase }, { on := 3, ground := .phase }, { on := 4, ground := .phase }, { on := 5, ground := .phase }, { on := 6, ground := .phase }, { on := 7, ground := .phase }, { on := 8, ground := .phase }, { on := 9, ground := .phase }, { on := 10, ground := .phase }, { on := 11, ground := .phase }, { on := 12, ground := .phase }, { on := 13, ground := .phase }, { on := 14, ground := .phase }, { on := 15, ground := .phase }, { on := 16, ground := .phase }], guard := none } : Oper)) (v := ?vs2_17) rfl ldcau12_plain (by as_aux_lemma => kernel_rfl) (by as_aux_lemma => kernel_rfl) (fun _ _ _ h => h) (Or.inl ⟨by rfl, ?ys2_17⟩) (by assumption) ?rs2_17
        case ys2_17 => (intro w hSw; (try dsimp only at hSw); go_simp; try with_reducible rfl)
        try simp only [Act.put, List.setIfInBounds_toArray, List.set_cons_zero, List.set_cons_succ]
        refine wpAnyH_done (by as_aux_lemma => kernel_rfl) ?_ _
        refine NoPanic.normal ?_
        have N1 := nx _ hHeld13
        have HS11 := Lib.hid N1
        clear c0_0 c0_1 c0_2 c0_3 c0_4 c0_5 nx kS hT N1
        have BH := Lib.hid HS11.out.below
        go_wp2_with fail
        exact bodyPost_ret (v := .bool true) (by simp [results, Tryd.results5, go_sem, *]) rfl ⟨rfl, BH.out⟩
  · skip
    have sm := SM.out x
    have k1_0 := (HS9.out).at 1 rfl 0 (v := .int .i64 x.u) rfl
    have k1_1 := (HS9.out).at 1 rfl 1 (v := .bool x.am) rfl
    have k1_2 := (HS9.out).at 1 rfl 2 (v := .int .i64 x.al) rfl
    have k1_3 := (HS9.out).at 1 rfl 3 (v := .int .i64 x.sp) rfl
    have k1_4 := (HS9.out).at 1 rfl 4 (v := .bool x.fo) rfl
    have k1_5 := (HS9.out).at 1 rfl 5 (v := .bool x.no) rfl
    have k2_0 := (HS9.out).at 2 rfl 0 (v := .int .i64 x.u) rfl
    have k2_1 := (HS9.out).at 2 rfl 1 (v := .bool x.am) rfl
    have k2_2 := (HS9.out).at 2 rfl 2 (v := .int .i64 x.al) rfl
    have k2_3 := (HS9.out).at 2 rfl 3 (v := .int .i64 x.sp) rfl
    have k2_4 := (HS9.out).at 2 rfl 4 (v := .bool x.fo) rfl
    have k2_5 := (HS9.out).at 2 rfl 5 (v := .bool x.no) rfl
    have hx : (md x == m) = true := by rw [HX.out rfl]; exact beq_self_eq_true m
    have hx2 : (md x != m) = false := by rw [HX.out rfl]; exact bne_self_eq_false m
    go_wp2_with fail
    refine (MO.out x _ HS9.out.below).mono ?_; rintro e w9 ⟨rfl, hb9⟩
    have hS10 := (HS9.out).keep hb9
    have HS10 := Lib.hid hS10
    clear hS10 HS9
    replace HB := Lib.hid (belowT HB.out hb9)
    clear hb9
    clear HX
    replace HC1 := Lib.hid (HC1.out.keep HB.out)
    replace HC2 := Lib.hid (HC2.out.keep HB.out)
    clear HB
    go_wp2_with fail
    clear sm k1_0 k1_1 k1_2 k1_3 k1_4 k1_5 k2_0 k2_1 k2_2 k2_3 k2_4 k2_5 hx hx2
    go_loopw [53] (fun i wr => ∃ j : Nat, j ≤ 63 ∧ i = .int .i64 j ∧ Below w9.heap.size w9 wr) (fun i _ => 63 - (intOf i).toNat)
    case atStart => first | exact ⟨0, by omega, rfl, Below.refl _ _⟩ | ((repeat apply Exists.intro); exact ⟨⟨0, by omega, rfl, Below.refl _ _⟩, rfl⟩)
    case round =>
      obtain ⟨j, hj, rfl, hb⟩ := hrel
      have HBr := Lib.hid hb
      clear hb
      by_cases hc : (j : Int) < 63
      · skip
        have hjn : j < 63 := by omega
        have hj0 : (0 : Int) ≤ j := by omega
        have HJ := Lib.hid hjn
        obtain ⟨b1, o1, rfl, L1⟩ := (HC1.out.keep HBr.out).lies (by rw [allN_len]; omega)
        obtain ⟨b2, o2, rfl, L2⟩ := (HC2.out.keep HBr.out).lies (by rw [allN_len]; omega)
        have hx1 := L1 j (by rw [allN_len]; omega)
        have hx2 := L2 j (by rw [allN_len]; omega)
        rw [allN_at hjn] at hx1 hx2
        obtain ⟨q, hq⟩ : ∃ q, q = lat j := ⟨_, rfl⟩
        have hA := HA.out j hjn
        rw [← hq] at hx1 hx2 hA
        have HX1 := Lib.hid hx1
        have HX2 := Lib.hid hx2
        have HAq := Lib.hid hA
        clear L1 L2 hx1 hx2 hq hA HA HC1 HC2 hjn hj HS HM CA CR AW
        have ML := Lib.hid fun w' (B : Below wr.heap.size wr w') => MO.out q w' (belowT HS10.out.below (belowT HBr.out B))
        clear MO
        have sm := SM.out q
        clear SM
        by_cases he : md q = m
        · skip
          have hm : (md q == m) = true := by rw [he]; exact beq_self_eq_true m
          clear he HAq
          have hS81 := Sp.none wr
          have HS81 := Lib.hid hS81
          clear hS81
          go_upto_region 9 with fail
          obtain ⟨bs21, hbs⟩ : ∃ bs : List (Nat × List (Option Value)), bs = [] := ⟨_, rfl⟩
          have hT := (HS81.out).cast hbs
          have q1_0 : ∀ w', Sp wr bs21 w' → w'.cell? ⟨b1, o1 + j * 6, none⟩ = some (.int .i64 q.u) := fun w' h => keepc h.below (HX1.out 0 _ rfl)
          have q1_1 : ∀ w', Sp wr bs21 w' → w'.cell? ⟨b1, o1 + j * 6 + 1, none⟩ = some (.bool q.am) := fun w' h => keepc h.below (HX1.out 1 _ rfl)
          have q1_2 : ∀ w', Sp wr bs21 w' → w'.cell? ⟨b1, o1 + j * 6 + 2, none⟩ = some (.int .i64 q.al) := fun w' h => keepc h.below (HX1.out 2 _ rfl)
          have q1_3 : ∀ w', Sp wr bs21 w' → w'.cell? ⟨b1, o1 + j * 6 + 3, none⟩ = some (.int .i64 q.sp) := fun w' h => keepc h.below (HX1.out 3 _ rfl)
          have q1_4 : ∀ w', Sp wr bs21 w' → w'.cell? ⟨b1, o1 + j * 6 + 4, none⟩ = some (.bool q.fo) := fun w' h => keepc h.below (HX1.out 4 _ rfl)
          have q1_5 : ∀ w', Sp wr bs21 w' → w'.cell? ⟨b1, o1 + j * 6 + 5, none⟩ = some (.bool q.no) := fun w' h => keepc h.below (HX1.out 5 _ rfl)
          have q2_0 : ∀ w', Sp wr bs21 w' → w'.cell? ⟨b2, o2 + j * 6, none⟩ = some (.int .i64 q.u) := fun w' h => keepc h.below (HX2.out 0 _ rfl)
          have q2_1 : ∀ w', Sp wr bs21 w' → w'.cell? ⟨b2, o2 + j * 6 + 1, none⟩ = some (.bool q.am) := fun w' h => keepc h.below (HX2.out 1 _ rfl)
          have q2_2 : ∀ w', Sp wr bs21 w' → w'.cell? ⟨b2, o2 + j * 6 + 2, none⟩ = some (.int .i64 q.al) := fun w' h => keepc h.below (HX2.out 2 _ rfl)
          have q2_3 : ∀ w', Sp wr bs21 w' → w'.cell? ⟨b2, o2 + j * 6 + 3, none⟩ = some (.int .i64 q.sp) := fun w' h => keepc h.below (HX2.out 3 _ rfl)
          have q2_4 : ∀ w', Sp wr bs21 w' → w'.cell? ⟨b2, o2 + j * 6 + 4, none⟩ = some (.bool q.fo) := fun w' h => keepc h.below (HX2.out 4 _ rfl)
          have q2_5 : ∀ w', Sp wr bs21 w' → w'.cell? ⟨b2, o2 + j * 6 + 5, none⟩ = some (.bool q.no) := fun w' h => keepc h.below (HX2.out 5 _ rfl)
          have nx : ∀ w', Sp wr bs21 w' → Sp wr [] w' := by rw [hbs]; exact fun w' h => h
          have kS : ∀ w1 w2, Sp wr bs21 w1 → Below w1.heap.size w1 w2 → Sp wr bs21 w2 := fun _ _ h hb => h.keep hb
          clear hbs HS81
          change (Code.region 9 ldcau9 true).wp Tryd.prog _ _ _
          refine wp_region_noPanic ?_
          refine wp_region_held_drew (S := (Sp wr bs21)) (by kernel_rfl) (hT.drew) (fun hHeld => ?_)
          refine wpAnyH_take (i := 0) (oi := ({ dst := some 56, op := .move (.tmp 5), type := 32, pos := "law.go:39", after := #[], guard := none } : Oper)) (v := ?vs3_0) rfl ldcau9_plain (by as_aux_lemma => kernel_rfl) (by as_aux_lemma => kernel_rfl) (fun _ _ _ h => h) (Or.inl ⟨by rfl, ?ys3_0⟩) (by assumption) ?rs3_0
          case ys3_0 => (intro w hSw; (try dsimp only at hSw); go_simp; try with_reducible rfl)
          try simp only [Act.put, List.setIfInBounds_toArray, List.set_cons_zero, List.set_cons_succ]
          refine wpAnyH_take (i := 1) (oi := ({ dst := some 57, op := .move (.tmp 11), type := 3, pos := "law.go:39", after := #[], guard := none } : Oper)) (v := ?vs3_1) rfl ldcau9_plain (by as_aux_lemma => kernel_rfl) (by as_aux_lemma => kernel_rfl) (fun _ _ _ h => h) (Or.inl ⟨by rfl, ?ys3_1⟩) (by assumption) ?rs3_1
          case ys3_1 => (intro w hSw; (try dsimp only at hSw); go_simp; try with_reducible rfl)
          try simp only [Act.put, List.setIfInBounds_toArray, List.set_cons_zero, List.set_cons_succ]
          refine wpAnyH_take (i := 2) (oi := ({ dst := some 58, op := .indexAddr 32 (.tmp 56) (.tmp 57), type := 0, pos := "law.go:39", after := #[{ on := 0, ground := .data }, { on := 1, ground := .data }], guard := none } : Oper)) (v := ?vs3_2) rfl ldcau9_plain (by as_aux_lemma => kernel_rfl) (by as_aux_lemma => kernel_rfl) (fun _ _ _ h => h) (Or.inl ⟨by rfl, ?ys3_2⟩) (by assumption) ?rs3_2
          case ys3_2 => (intro w hSw; (try dsimp only at hSw); go_simp; try with_reducible rfl)
          try simp only [Act.put, List.setIfInBounds_toArray, List.set_cons_zero, List.set_cons_succ]
          refine wpAnyH_take (i := 3) (oi := ({ dst := some 59, op := .load 23 (.tmp 58), type := 23, pos := "law.go:39", after := #[{ on := 2, ground := .data }], guard := none } : Oper)) (v := ?vs3_3) rfl ldcau9_plain (by as_aux_lemma => kernel_rfl) (by as_aux_lemma => kernel_rfl) (fun _ _ _ h => h) (Or.inl ⟨by rfl, ?ys3_3⟩) (by assumption) ?rs3_3
          case ys3_3 => (intro w hSw; (try dsimp only at hSw); go_simp; try with_reducible rfl)
          try simp only [Act.put, List.setIfInBounds_toArray, List.set_cons_zero, List.set_cons_succ]
          refine wpAnyH_take (i := 4) (oi := ({ dst := some 60, op := .move (.tmp 6), type := 32, pos := "law.go:39", after := #[], guard := none } : Oper)) (v := ?vs3_4) rfl ldcau9_plain (by as_aux_lemma => kernel_rfl) (by as_aux_lemma => kernel_rfl) (fun _ _ _ h => h) (Or.inl ⟨by rfl, ?ys3_4⟩) (by assumption) ?rs3_4
          case ys3_4 => (intro w hSw; (try dsimp only at hSw); go_simp; try with_reducible rfl)
          try simp only [Act.put, List.setIfInBounds_toArray, List.set_cons_zero, List.set_cons_succ]
          refine wpAnyH_take (i := 5) (oi := ({ dst := some 61, op := .move (.tmp 11), type := 3, pos := "law.go:39", after := #[], guard := none } : Oper)) (v := ?vs3_5) rfl ldcau9_plain (by as_aux_lemma => kernel_rfl) (by as_aux_lemma => kernel_rfl) (fun _ _ _ h => h) (Or.inl ⟨by rfl, ?ys3_5⟩) (by assumption) ?rs3_5
          case ys3_5 => (intro w hSw; (try dsimp only at hSw); go_simp; try with_reducible rfl)
          try simp only [Act.put, List.setIfInBounds_toArray, List.set_cons_zero, List.set_cons_succ]
          refine wpAnyH_take (i := 6) (oi := ({ dst := some 62, op := .indexAddr 32 (.tmp 60) (.tmp 61), type := 0, pos := "law.go:39", after := #[{ on := 4, ground := .data }, { on := 5, ground := .data }], guard := none } : Oper)) (v := ?vs3_6) rfl ldcau9_plain (by as_aux_lemma => kernel_rfl) (by as_aux_lemma => kernel_rfl) (fun _ _ _ h => h) (Or.inl ⟨by rfl, ?ys3_6⟩) (by assumption) ?rs3_6
          case ys3_6 => (intro w hSw; (try dsimp only at hSw); go_simp; try with_reducible rfl)
          try simp only [Act.put, List.setIfInBounds_toArray, List.set_cons_zero, List.set_cons_succ]
          refine wpAnyH_take (i := 7) (oi := ({ dst := some 63, op := .load 23 (.tmp 62), type := 23, pos := "law.go:39", after := #[{ on := 6, ground := .data }], guard := none } : Oper)) (v := ?vs3_7) rfl ldcau9_plain (by as_aux_lemma => kernel_rfl) (by as_aux_lemma => kernel_rfl) (fun _ _ _ h => h) (Or.inl ⟨by rfl, ?ys3_7⟩) (by assumption) ?rs3_7
          case ys3_7 => (intro w hSw; (try dsimp only at hSw); go_simp; try with_reducible rfl)
          try simp only [Act.put, List.setIfInBounds_toArray, List.set_cons_zero, List.set_cons_succ]
          refine wpAnyH_take (i := 8) (oi := ({ dst := some 64, op := .binOp .neq 23 (.tmp 59) (.tmp 63) 23, type := 4, pos := "law.go:39", after := #[{ on := 3, ground := .data }, { on := 7, ground := .data }], guard := none } : Oper)) (v := ?vs3_8) rfl ldcau9_plain (by as_aux_lemma => kernel_rfl) (by as_aux_lemma => kernel_rfl) (fun _ _ _ h => h) (Or.inl ⟨by rfl, ?ys3_8⟩) (by assumption) ?rs3_8
          case ys3_8 => (intro w hSw; (try dsimp only at hSw); go_simp; try with_reducible rfl)
          try simp only [Act.put, List.setIfInBounds_toArray, List.set_cons_zero, List.set_cons_succ]
          refine wpAnyH_take (i := 9) (oi := ({ dst := some 65, op := .move (.tmp 64), type := 4, pos := "law.go:39", after := #[{ on := 8, ground := .data }], guard := none } : Oper)) (v := ?vs3_9) rfl ldcau9_plain (by as_aux_lemma => kernel_rfl) (by as_aux_lemma => kernel_rfl) (fun _ _ _ h => h) (Or.inl ⟨by rfl, ?ys3_9⟩) (by assumption) ?rs3_9
          case ys3_9 => (intro w hSw; (try dsimp only at hSw); go_simp; try with_reducible rfl)
          try simp only [Act.put, List.setIfInBounds_toArray, List.set_cons_zero, List.set_cons_succ]
          refine wpAnyH_take (i := 10) (oi := ({ dst := some 66, op := .move (.tmp 5), type := 32, pos := "law.go:39", after := #[{ on := 9, ground := .guard }], guard := some (9, false) } : Oper)) (v := ?vs3_10) rfl ldcau9_plain (by as_aux_lemma => kernel_rfl) (by as_aux_lemma => kernel_rfl) (fun _ _ _ h => h) (Or.inl ⟨by rfl, ?ys3_10⟩) (by assumption) ?rs3_10
          case ys3_10 => (intro w hSw; (try dsimp only at hSw); go_simp; try with_reducible rfl)
          try simp only [Act.put, List.setIfInBounds_toArray, List.set_cons_zero, List.set_cons_succ]
          refine wpAnyH_take (i := 11) (oi := ({ dst := some 67, op := .move (.tmp 11), type := 3, pos := "law.go:39", after := #[{ on := 9, ground := .guard }], guard := some (9, false) } : Oper)) (v := ?vs3_11) rfl ldcau9_plain (by as_aux_lemma => kernel_rfl) (by as_aux_lemma => kernel_rfl) (fun _ _ _ h => h) (Or.inl ⟨by rfl, ?ys3_11⟩) (by assumption) ?rs3_11
          case ys3_11 => (intro w hSw; (try dsimp only at hSw); go_simp; try with_reducible rfl)
          try simp only [Act.put, List.setIfInBounds_toArray, List.set_cons_zero, List.set_cons_succ]
          refine wpAnyH_take (i := 12) (oi := ({ dst := some 68, op := .indexAddr 32 (.tmp 66) (.tmp 67), type := 0, pos := "law.go:39", after := #[{ on := 10, ground := .data }, { on := 11, ground := .data }, { on := 9, ground := .guard }], guard := some (9, false) } : Oper)) (v := ?vs3_12) rfl ldcau9_plain (by as_aux_lemma => kernel_rfl) (by as_aux_lemma => kernel_rfl) (fun _ _ _ h => h) (Or.inl ⟨by rfl, ?ys3_12⟩) (by assumption) ?rs3_12
          case ys3_12 => (intro w hSw; (try dsimp only at hSw); go_simp; try with_reducible rfl)
          try simp only [Act.put, List.setIfInBounds_toArray, List.set_cons_zero, List.set_cons_succ]
          refine wpAnyH_take (i := 13) (oi := ({ dst := some 69, op := .load 23 (.tmp 68), type := 23, pos := "law.go:39", after := #[{ on := 12, ground := .data }, { on := 9, ground := .guard }], guard := some (9, false) } : Oper)) (v := ?vs3_13) rfl ldcau9_plain (by as_aux_lemma => kernel_rfl) (by as_aux_lemma => kernel_rfl) (fun _ _ _ h => h) (Or.inl ⟨by rfl, ?ys3_13⟩) (by assumption) ?rs3_13
          case ys3_13 => (intro w hSw; (try dsimp only at hSw); go_simp; try with_reducible rfl)
          try simp only [Act.put, List.setIfInBounds_toArray, List.set_cons_zero, List.set_cons_succ]
          refine wpAnyH_take (i := 15) (oi := ({ dst := some 71, op := .move (.tmp 1), type := 3, pos := "law.go:39", after := #[{ on := 9, ground := .guard }], guard := some (9, false) } : Oper)) (v := ?vs3_15) rfl ldcau9_plain (by as_aux_lemma => kernel_rfl) (by as_aux_lemma => kernel_rfl) (fun _ _ _ h => h) (Or.inl ⟨by rfl, ?ys3_15⟩) (by assumption) ?rs3_15
          case ys3_15 => (intro w hSw; (try dsimp only at hSw); go_simp; try with_reducible rfl)
          try simp only [Act.put, List.setIfInBounds_toArray, List.set_cons_zero, List.set_cons_succ]
          refine wpAnyH_ready (rs := [14]) (by as_aux_lemma => kernel_rfl) (by simp) ?_
          refine AllReadyH.cons (o := ({ dst := some 70, op := .call { callee := .value (.func 10), args := #[.tmp 69], argTypes := #[23] }, type := 3, pos := "law.go:39", after := #[{ on := 13, ground := .data }, { on := 9, ground := .chain }, { on := 9, ground := .guard }], guard := some (9, false) } : Oper)) rfl (fun KK hK => ?_) AllReadyH.nil
          rw [if_pos (by rfl)]
          go_simp
          go_at_call 10; refine (ML.out _ (Sp.below (by assumption))).mono ?_; rintro e w60 ⟨rfl, hb60⟩
          go_wp2_with fail
          refine hK.out _ _ ?_ (fun hHeld60 => ?_)
          · exact kS _ _ (by assumption) hb60
          clear hK KK hb60
          try simp only [Act.put, List.setIfInBounds_toArray, List.set_cons_zero, List.set_cons_succ]
          refine wpAnyH_take (i := 16) (oi := ({ dst := some 72, op := .binOp .eql 3 (.tmp 70) (.tmp 71) 3, type := 4, pos := "law.go:39", after := #[{ on := 14, ground := .data }, { on := 15, ground := .data }, { on := 9, ground := .guard }], guard := some (9, false) } : Oper)) (v := ?vs3_16) rfl ldcau9_plain (by as_aux_lemma => kernel_rfl) (by as_aux_lemma => kernel_rfl) (fun _ _ _ h => h) (Or.inl ⟨by rfl, ?ys3_16⟩) (by assumption) ?rs3_16
          case ys3_16 => (intro w hSw; (try dsimp only at hSw); go_simp; try with_reducible rfl)
          try simp only [Act.put, List.setIfInBounds_toArray, List.set_cons_zero, List.set_cons_succ]
          refine wpAnyH_take (i := 17) (oi := ({ dst := some 73, op := .move (.tmp 72), type := 4, pos := "law.go:39", after := #[{ on := 16, ground := .data }, { on := 14, ground := .chain }, { on := 9, ground := .guard }], guard := some (9, false) } : Oper)) (v := ?vs3_17) rfl ldcau9_plain (by as_aux_lemma => kernel_rfl) (by as_aux_lemma => kernel_rfl) (fun _ _ _ h => h) (Or.inl ⟨by rfl, ?ys3_17⟩) (by assumption) ?rs3_17
          case ys3_17 => (intro w hSw; (try dsimp only at hSw); go_simp; try with_reducible rfl)
          try simp only [Act.put, List.setIfInBounds_toArray, List.set_cons_zero, List.set_cons_succ]
          refine wpAnyH_take (i := 18) (oi := ({ dst := some 74, op := .move (.tmp 8), type := 4, pos := "law.go:39", after := #[{ on := 17, ground := .guard }], guard := some (17, true) } : Oper)) (v := ?vs3_18) rfl ldcau9_plain (by as_aux_lemma => kernel_rfl) (by as_aux_lemma => kernel_rfl) (fun _ _ _ h => h) (Or.inl ⟨by rfl, ?ys3_18⟩) (by assumption) ?rs3_18
          case ys3_18 => (intro w hSw; (try dsimp only at hSw); go_simp; try with_reducible rfl)
          try simp only [Act.put, List.setIfInBounds_toArray, List.set_cons_zero, List.set_cons_succ]
          refine wpAnyH_take (i := 19) (oi := ({ dst := some 75, op := .unOp .not 4 (.tmp 74), type := 4, pos := "law.go:39", after := #[{ on := 18, ground := .data }, { on := 17, ground := .guard }], guard := some (17, true) } : Oper)) (v := ?vs3_19) rfl ldcau9_plain (by as_aux_lemma => kernel_rfl) (by as_aux_lemma => kernel_rfl) (fun _ _ _ h => h) (Or.inl ⟨by rfl, ?ys3_19⟩) (by assumption) ?rs3_19
          case ys3_19 => (intro w hSw; (try dsimp only at hSw); go_simp; try with_reducible rfl)
          try simp only [Act.put, List.setIfInBounds_toArray, List.set_cons_zero, List.set_cons_succ]
          refine wpAnyH_take (i := 20) (oi := ({ dst := some 76, op := .pick (.tmp 73) (.tmp 75) (.const (.bool false)), type := 4, pos := "law.go:39", after := #[{ on := 17, ground := .data }, { on := 19, ground := .data }, { on := 9, ground := .guard }], guard := some (9, false) } : Oper)) (v := ?vs3_20) rfl ldcau9_plain (by as_aux_lemma => kernel_rfl) (by as_aux_lemma => kernel_rfl) (fun _ _ _ h => h) (Or.inl ⟨by rfl, ?ys3_20⟩) (by assumption) ?rs3_20
          case ys3_20 => (intro w hSw; (try dsimp only at hSw); go_simp; try with_reducible rfl)
          try simp only [Act.put, List.setIfInBounds_toArray, List.set_cons_zero, List.set_cons_succ]
          refine wpAnyH_take (i := 21) (oi := ({ dst := some 77, op := .pick (.tmp 65) (.const (.bool true)) (.tmp 76), type := 4, pos := "law.go:39", after := #[{ on := 9, ground := .data }, { on := 20, ground := .data }], guard := none } : Oper)) (v := ?vs3_21) rfl ldcau9_plain (by as_aux_lemma => kernel_rfl) (by as_aux_lemma => kernel_rfl) (fun _ _ _ h => h) (Or.inl ⟨by rfl, ?ys3_21⟩) (by assumption) ?rs3_21
          case ys3_21 => (intro w hSw; (try dsimp only at hSw); go_simp; try with_reducible rfl)
          try simp only [Act.put, List.setIfInBounds_toArray, List.set_cons_zero, List.set_cons_succ]
          refine wpAnyH_done (by as_aux_lemma => kernel_rfl) ?_ _
          refine NoPanic.normal ?_
          have N1 := nx _ hHeld60
          have HS82 := Lib.hid N1
          clear q1_0 q1_1 q1_2 q1_3 q1_4 q1_5 q2_0 q2_1 q2_2 q2_3 q2_4 q2_5 nx kS hT N1
          have HBn := Lib.hid (belowT HBr.out HS82.out.below)
          go_wp2_with fail
          go_roundw
          case rel => first | exact ⟨j + 1, by have := HJ.out; omega, rfl, HBn.out⟩ | ((repeat apply Exists.intro); exact ⟨⟨j + 1, by have := HJ.out; omega, rfl, HBn.out⟩, rfl⟩)
          case measure => simp [intOf]; omega
        · skip
          have hm : (md q == m) = false := by simpa using he
          clear he HAq
          have hS81 := Sp.none wr
          have HS81 := Lib.hid hS81
          clear hS81
          go_upto_region 9 with fail
          obtain ⟨bs21, hbs⟩ : ∃ bs : List (Nat × List (Option Value)), bs = [] := ⟨_, rfl⟩
          have hT := (HS81.out).cast hbs
          have q1_0 : ∀ w', Sp wr bs21 w' → w'.cell? ⟨b1, o1 + j * 6, none⟩ = some (.int .i64 q.u) := fun w' h => keepc h.below (HX1.out 0 _ rfl)
          have q1_1 : ∀ w', Sp wr bs21 w' → w'.cell? ⟨b1, o1 + j * 6 + 1, none⟩ = some (.bool q.am) := fun w' h => keepc h.below (HX1.out 1 _ rfl)
          have q1_2 : ∀ w', Sp wr bs21 w' → w'.cell? ⟨b1, o1 + j * 6 + 2, none⟩ = some (.int .i64 q.al) := fun w' h => keepc h.below (HX1.out 2 _ rfl)
          have q1_3 : ∀ w', Sp wr bs21 w' → w'.cell? ⟨b1, o1 + j * 6 + 3, none⟩ = some (.int .i64 q.sp) := fun w' h => keepc h.below (HX1.out 3 _ rfl)
          have q1_4 : ∀ w', Sp wr bs21 w' → w'.cell? ⟨b1, o1 + j * 6 + 4, none⟩ = some (.bool q.fo) := fun w' h => keepc h.below (HX1.out 4 _ rfl)
          have q1_5 : ∀ w', Sp wr bs21 w' → w'.cell? ⟨b1, o1 + j * 6 + 5, none⟩ = some (.bool q.no) := fun w' h => keepc h.below (HX1.out 5 _ rfl)
          have q2_0 : ∀ w', Sp wr bs21 w' → w'.cell? ⟨b2, o2 + j * 6, none⟩ = some (.int .i64 q.u) := fun w' h => keepc h.below (HX2.out 0 _ rfl)
          have q2_1 : ∀ w', Sp wr bs21 w' → w'.cell? ⟨b2, o2 + j * 6 + 1, none⟩ = some (.bool q.am) := fun w' h => keepc h.below (HX2.out 1 _ rfl)
          have q2_2 : ∀ w', Sp wr bs21 w' → w'.cell? ⟨b2, o2 + j * 6 + 2, none⟩ = some (.int .i64 q.al) := fun w' h => keepc h.below (HX2.out 2 _ rfl)
          have q2_3 : ∀ w', Sp wr bs21 w' → w'.cell? ⟨b2, o2 + j * 6 + 3, none⟩ = some (.int .i64 q.sp) := fun w' h => keepc h.below (HX2.out 3 _ rfl)
          have q2_4 : ∀ w', Sp wr bs21 w' → w'.cell? ⟨b2, o2 + j * 6 + 4, none⟩ = some (.bool q.fo) := fun w' h => keepc h.below (HX2.out 4 _ rfl)
          have q2_5 : ∀ w', Sp wr bs21 w' → w'.cell? ⟨b2, o2 + j * 6 + 5, none⟩ = some (.bool q.no) := fun w' h => keepc h.below (HX2.out 5 _ rfl)
          have nx : ∀ w', Sp wr bs21 w' → Sp wr [] w' := by rw [hbs]; exact fun w' h => h
          have kS : ∀ w1 w2, Sp wr bs21 w1 → Below w1.heap.size w1 w2 → Sp wr bs21 w2 := fun _ _ h hb => h.keep hb
          clear hbs HS81
          change (Code.region 9 ldcau9 true).wp Tryd.prog _ _ _
          refine wp_region_noPanic ?_
          refine wp_region_held_drew (S := (Sp wr bs21)) (by kernel_rfl) (hT.drew) (fun hHeld => ?_)
          refine wpAnyH_take (i := 0) (oi := ({ dst := some 56, op := .move (.tmp 5), type := 32, pos := "law.go:39", after := #[], guard := none } : Oper)) (v := ?vs4_0) rfl ldcau9_plain (by as_aux_lemma => kernel_rfl) (by as_aux_lemma => kernel_rfl) (fun _ _ _ h => h) (Or.inl ⟨by rfl, ?ys4_0⟩) (by assumption) ?rs4_0
          case ys4_0 => (intro w hSw; (try dsimp only at hSw); go_simp; try with_reducible rfl)
          try simp only [Act.put, List.setIfInBounds_toArray, List.set_cons_zero, List.set_cons_succ]
          refine wpAnyH_take (i := 1) (oi := ({ dst := some 57, op := .move (.tmp 11), type := 3, pos := "law.go:39", after := #[], guard := none } : Oper)) (v := ?vs4_1) rfl ldcau9_plain (by as_aux_lemma => kernel_rfl) (by as_aux_lemma => kernel_rfl) (fun _ _ _ h => h) (Or.inl ⟨by rfl, ?ys4_1⟩) (by assumption) ?rs4_1
          case ys4_1 => (intro w hSw; (try dsimp only at hSw); go_simp; try with_reducible rfl)
          try simp only [Act.put, List.setIfInBounds_toArray, List.set_cons_zero, List.set_cons_succ]
          refine wpAnyH_take (i := 2) (oi := ({ dst := some 58, op := .indexAddr 32 (.tmp 56) (.tmp 57), type := 0, pos := "law.go:39", after := #[{ on := 0, ground := .data }, { on := 1, ground := .data }], guard := none } : Oper)) (v := ?vs4_2) rfl ldcau9_plain (by as_aux_lemma => kernel_rfl) (by as_aux_lemma => kernel_rfl) (fun _ _ _ h => h) (Or.inl ⟨by rfl, ?ys4_2⟩) (by assumption) ?rs4_2
          case ys4_2 => (intro w hSw; (try dsimp only at hSw); go_simp; try with_reducible rfl)
          try simp only [Act.put, List.setIfInBounds_toArray, List.set_cons_zero, List.set_cons_succ]
          refine wpAnyH_take (i := 3) (oi := ({ dst := some 59, op := .load 23 (.tmp 58), type := 23, pos := "law.go:39", after := #[{ on := 2, ground := .data }], guard := none } : Oper)) (v := ?vs4_3) rfl ldcau9_plain (by as_aux_lemma => kernel_rfl) (by as_aux_lemma => kernel_rfl) (fun _ _ _ h => h) (Or.inl ⟨by rfl, ?ys4_3⟩) (by assumption) ?rs4_3
          case ys4_3 => (intro w hSw; (try dsimp only at hSw); go_simp; try with_reducible rfl)
          try simp only [Act.put, List.setIfInBounds_toArray, List.set_cons_zero, List.set_cons_succ]
          refine wpAnyH_take (i := 4) (oi := ({ dst := some 60, op := .move (.tmp 6), type := 32, pos := "law.go:39", after := #[], guard := none } : Oper)) (v := ?vs4_4) rfl ldcau9_plain (by as_aux_lemma => kernel_rfl) (by as_aux_lemma => kernel_rfl) (fun _ _ _ h => h) (Or.inl ⟨by rfl, ?ys4_4⟩) (by assumption) ?rs4_4
          case ys4_4 => (intro w hSw; (try dsimp only at hSw); go_simp; try with_reducible rfl)
          try simp only [Act.put, List.setIfInBounds_toArray, List.set_cons_zero, List.set_cons_succ]
          refine wpAnyH_take (i := 5) (oi := ({ dst := some 61, op := .move (.tmp 11), type := 3, pos := "law.go:39", after := #[], guard := none } : Oper)) (v := ?vs4_5) rfl ldcau9_plain (by as_aux_lemma => kernel_rfl) (by as_aux_lemma => kernel_rfl) (fun _ _ _ h => h) (Or.inl ⟨by rfl, ?ys4_5⟩) (by assumption) ?rs4_5
          case ys4_5 => (intro w hSw; (try dsimp only at hSw); go_simp; try with_reducible rfl)
          try simp only [Act.put, List.setIfInBounds_toArray, List.set_cons_zero, List.set_cons_succ]
          refine wpAnyH_take (i := 6) (oi := ({ dst := some 62, op := .indexAddr 32 (.tmp 60) (.tmp 61), type := 0, pos := "law.go:39", after := #[{ on := 4, ground := .data }, { on := 5, ground := .data }], guard := none } : Oper)) (v := ?vs4_6) rfl ldcau9_plain (by as_aux_lemma => kernel_rfl) (by as_aux_lemma => kernel_rfl) (fun _ _ _ h => h) (Or.inl ⟨by rfl, ?ys4_6⟩) (by assumption) ?rs4_6
          case ys4_6 => (intro w hSw; (try dsimp only at hSw); go_simp; try with_reducible rfl)
          try simp only [Act.put, List.setIfInBounds_toArray, List.set_cons_zero, List.set_cons_succ]
          refine wpAnyH_take (i := 7) (oi := ({ dst := some 63, op := .load 23 (.tmp 62), type := 23, pos := "law.go:39", after := #[{ on := 6, ground := .data }], guard := none } : Oper)) (v := ?vs4_7) rfl ldcau9_plain (by as_aux_lemma => kernel_rfl) (by as_aux_lemma => kernel_rfl) (fun _ _ _ h => h) (Or.inl ⟨by rfl, ?ys4_7⟩) (by assumption) ?rs4_7
          case ys4_7 => (intro w hSw; (try dsimp only at hSw); go_simp; try with_reducible rfl)
          try simp only [Act.put, List.setIfInBounds_toArray, List.set_cons_zero, List.set_cons_succ]
          refine wpAnyH_take (i := 8) (oi := ({ dst := some 64, op := .binOp .neq 23 (.tmp 59) (.tmp 63) 23, type := 4, pos := "law.go:39", after := #[{ on := 3, ground := .data }, { on := 7, ground := .data }], guard := none } : Oper)) (v := ?vs4_8) rfl ldcau9_plain (by as_aux_lemma => kernel_rfl) (by as_aux_lemma => kernel_rfl) (fun _ _ _ h => h) (Or.inl ⟨by rfl, ?ys4_8⟩) (by assumption) ?rs4_8
          case ys4_8 => (intro w hSw; (try dsimp only at hSw); go_simp; try with_reducible rfl)
          try simp only [Act.put, List.setIfInBounds_toArray, List.set_cons_zero, List.set_cons_succ]
          refine wpAnyH_take (i := 9) (oi := ({ dst := some 65, op := .move (.tmp 64), type := 4, pos := "law.go:39", after := #[{ on := 8, ground := .data }], guard := none } : Oper)) (v := ?vs4_9) rfl ldcau9_plain (by as_aux_lemma => kernel_rfl) (by as_aux_lemma => kernel_rfl) (fun _ _ _ h => h) (Or.inl ⟨by rfl, ?ys4_9⟩) (by assumption) ?rs4_9
          case ys4_9 => (intro w hSw; (try dsimp only at hSw); go_simp; try with_reducible rfl)
          try simp only [Act.put, List.setIfInBounds_toArray, List.set_cons_zero, List.set_cons_succ]
          refine wpAnyH_take (i := 10) (oi := ({ dst := some 66, op := .move (.tmp 5), type := 32, pos := "law.go:39", after := #[{ on := 9, ground := .guard }], guard := some (9, false) } : Oper)) (v := ?vs4_10) rfl ldcau9_plain (by as_aux_lemma => kernel_rfl) (by as_aux_lemma => kernel_rfl) (fun _ _ _ h => h) (Or.inl ⟨by rfl, ?ys4_10⟩) (by assumption) ?rs4_10
          case ys4_10 => (intro w hSw; (try dsimp only at hSw); go_simp; try with_reducible rfl)
          try simp only [Act.put, List.setIfInBounds_toArray, List.set_cons_zero, List.set_cons_succ]
          refine wpAnyH_take (i := 11) (oi := ({ dst := some 67, op := .move (.tmp 11), type := 3, pos := "law.go:39", after := #[{ on := 9, ground := .guard }], guard := some (9, false) } : Oper)) (v := ?vs4_11) rfl ldcau9_plain (by as_aux_lemma => kernel_rfl) (by as_aux_lemma => kernel_rfl) (fun _ _ _ h => h) (Or.inl ⟨by rfl, ?ys4_11⟩) (by assumption) ?rs4_11
          case ys4_11 => (intro w hSw; (try dsimp only at hSw); go_simp; try with_reducible rfl)
          try simp only [Act.put, List.setIfInBounds_toArray, List.set_cons_zero, List.set_cons_succ]
          refine wpAnyH_take (i := 12) (oi := ({ dst := some 68, op := .indexAddr 32 (.tmp 66) (.tmp 67), type := 0, pos := "law.go:39", after := #[{ on := 10, ground := .data }, { on := 11, ground := .data }, { on := 9, ground := .guard }], guard := some (9, false) } : Oper)) (v := ?vs4_12) rfl ldcau9_plain (by as_aux_lemma => kernel_rfl) (by as_aux_lemma => kernel_rfl) (fun _ _ _ h => h) (Or.inl ⟨by rfl, ?ys4_12⟩) (by assumption) ?rs4_12
          case ys4_12 => (intro w hSw; (try dsimp only at hSw); go_simp; try with_reducible rfl)
          try simp only [Act.put, List.setIfInBounds_toArray, List.set_cons_zero, List.set_cons_succ]
          refine wpAnyH_take (i := 13) (oi := ({ dst := some 69, op := .load 23 (.tmp 68), type := 23, pos := "law.go:39", after := #[{ on := 12, ground := .data }, { on := 9, ground := .guard }], guard := some (9, false) } : Oper)) (v := ?vs4_13) rfl ldcau9_plain (by as_aux_lemma => kernel_rfl) (by as_aux_lemma => kernel_rfl) (fun _ _ _ h => h) (Or.inl ⟨by rfl, ?ys4_13⟩) (by assumption) ?rs4_13
          case ys4_13 => (intro w hSw; (try dsimp only at hSw); go_simp; try with_reducible rfl)
          try simp only [Act.put, List.setIfInBounds_toArray, List.set_cons_zero, List.set_cons_succ]
          refine wpAnyH_take (i := 15) (oi := ({ dst := some 71, op := .move (.tmp 1), type := 3, pos := "law.go:39", after := #[{ on := 9, ground := .guard }], guard := some (9, false) } : Oper)) (v := ?vs4_15) rfl ldcau9_plain (by as_aux_lemma => kernel_rfl) (by as_aux_lemma => kernel_rfl) (fun _ _ _ h => h) (Or.inl ⟨by rfl, ?ys4_15⟩) (by assumption) ?rs4_15
          case ys4_15 => (intro w hSw; (try dsimp only at hSw); go_simp; try with_reducible rfl)
          try simp only [Act.put, List.setIfInBounds_toArray, List.set_cons_zero, List.set_cons_succ]
          refine wpAnyH_ready (rs := [14]) (by as_aux_lemma => kernel_rfl) (by simp) ?_
          refine AllReadyH.cons (o := ({ dst := some 70, op := .call { callee := .value (.func 10), args := #[.tmp 69], argTypes := #[23] }, type := 3, pos := "law.go:39", after := #[{ on := 13, ground := .data }, { on := 9, ground := .chain }, { on := 9, ground := .guard }], guard := some (9, false) } : Oper)) rfl (fun KK hK => ?_) AllReadyH.nil
          rw [if_pos (by rfl)]
          go_simp
          go_at_call 10; refine (ML.out _ (Sp.below (by assumption))).mono ?_; rintro e w60 ⟨rfl, hb60⟩
          go_wp2_with fail
          refine hK.out _ _ ?_ (fun hHeld60 => ?_)
          · exact kS _ _ (by assumption) hb60
          clear hK KK hb60
          try simp only [Act.put, List.setIfInBounds_toArray, List.set_cons_zero, List.set_cons_succ]
          refine wpAnyH_take (i := 16) (oi := ({ dst := some 72, op := .binOp .eql 3 (.tmp 70) (.tmp 71) 3, type := 4, pos := "law.go:39", after := #[{ on := 14, ground := .data }, { on := 15, ground := .data }, { on := 9, ground := .guard }], guard := some (9, false) } : Oper)) (v := ?vs4_16) rfl ldcau9_plain (by as_aux_lemma => kernel_rfl) (by as_aux_lemma => kernel_rfl) (fun _ _ _ h => h) (Or.inl ⟨by rfl, ?ys4_16⟩) (by assumption) ?rs4_16
          case ys4_16 => (intro w hSw; (try dsimp only at hSw); go_simp; try with_reducible rfl)
          try simp only [Act.put, List.setIfInBounds_toArray, List.set_cons_zero, List.set_cons_succ]
          refine wpAnyH_take (i := 17) (oi := ({ dst := some 73, op := .move (.tmp 72), type := 4, pos := "law.go:39", after := #[{ on := 16, ground := .data }, { on := 14, ground := .chain }, { on := 9, ground := .guard }], guard := some (9, false) } : Oper)) (v := ?vs4_17) rfl ldcau9_plain (by as_aux_lemma => kernel_rfl) (by as_aux_lemma => kernel_rfl) (fun _ _ _ h => h) (Or.inl ⟨by rfl, ?ys4_17⟩) (by assumption) ?rs4_17
          case ys4_17 => (intro w hSw; (try dsimp only at hSw); go_simp; try with_reducible rfl)
          try simp only [Act.put, List.setIfInBounds_toArray, List.set_cons_zero, List.set_cons_succ]
          refine wpAnyH_take (i := 18) (oi := ({ dst := some 74, op := .move (.tmp 8), type := 4, pos := "law.go:39", after := #[{ on := 17, ground := .guard }], guard := some (17, true) } : Oper)) (v := undef) rfl ldcau9_plain (by as_aux_lemma => kernel_rfl) (by as_aux_lemma => kernel_rfl) (fun _ _ _ h => h) (Or.inr ⟨by rfl, rfl⟩) (by assumption) ?_
          try simp only [Act.put, List.setIfInBounds_toArray, List.set_cons_zero, List.set_cons_succ]
          refine wpAnyH_take (i := 19) (oi := ({ dst := some 75, op := .unOp .not 4 (.tmp 74), type := 4, pos := "law.go:39", after := #[{ on := 18, ground := .data }, { on := 17, ground := .guard }], guard := some (17, true) } : Oper)) (v := undef) rfl ldcau9_plain (by as_aux_lemma => kernel_rfl) (by as_aux_lemma => kernel_rfl) (fun _ _ _ h => h) (Or.inr ⟨by rfl, rfl⟩) (by assumption) ?_
          try simp only [Act.put, List.setIfInBounds_toArray, List.set_cons_zero, List.set_cons_succ]
          refine wpAnyH_take (i := 20) (oi := ({ dst := some 76, op := .pick (.tmp 73) (.tmp 75) (.const (.bool false)), type := 4, pos := "law.go:39", after := #[{ on := 17, ground := .data }, { on := 19, ground := .data }, { on := 9, ground := .guard }], guard := some (9, false) } : Oper)) (v := ?vs4_20) rfl ldcau9_plain (by as_aux_lemma => kernel_rfl) (by as_aux_lemma => kernel_rfl) (fun _ _ _ h => h) (Or.inl ⟨by rfl, ?ys4_20⟩) (by assumption) ?rs4_20
          case ys4_20 => (intro w hSw; (try dsimp only at hSw); go_simp; try with_reducible rfl)
          try simp only [Act.put, List.setIfInBounds_toArray, List.set_cons_zero, List.set_cons_succ]
          refine wpAnyH_take (i := 21) (oi := ({ dst := some 77, op := .pick (.tmp 65) (.const (.bool true)) (.tmp 76), type := 4, pos := "law.go:39", after := #[{ on := 9, ground := .data }, { on := 20, ground := .data }], guard := none } : Oper)) (v := ?vs4_21) rfl ldcau9_plain (by as_aux_lemma => kernel_rfl) (by as_aux_lemma => kernel_rfl) (fun _ _ _ h => h) (Or.inl ⟨by rfl, ?ys4_21⟩) (by assumption) ?rs4_21
          case ys4_21 => (intro w hSw; (try dsimp only at hSw); go_simp; try with_reducible rfl)
          try simp only [Act.put, List.setIfInBounds_toArray, List.set_cons_zero, List.set_cons_succ]
          refine wpAnyH_done (by as_aux_lemma => kernel_rfl) ?_ _
          refine NoPanic.normal ?_
          have N1 := nx _ hHeld60
          have HS82 := Lib.hid N1
          clear q1_0 q1_1 q1_2 q1_3 q1_4 q1_5 q2_0 q2_1 q2_2 q2_3 q2_4 q2_5 nx kS hT N1
          have HBn := Lib.hid (belowT HBr.out HS82.out.below)
          go_wp2_with fail
          go_roundw
          case rel => first | exact ⟨j + 1, by have := HJ.out; omega, rfl, HBn.out⟩ | ((repeat apply Exists.intro); exact ⟨⟨j + 1, by have := HJ.out; omega, rfl, HBn.out⟩, rfl⟩)
          case measure => simp [intOf]; omega
      · obtain rfl : j = 63 := by omega
        have hS := HS10.out.keep HBr.out
        have HS11 := Lib.hid hS
        clear hS HS10 HC1 HC2 HA hc hj
        have hs := HS.out
        have hm := HM.out
        have ML := Lib.hid (MO.out l)
        clear HS HM MO SM
        go_upto_region 12 with fail
        obtain ⟨bs2, hbs⟩ : ∃ bs : List (Nat × List (Option Value)), bs = [(w.heap.size, [some (.int .i64 l.u), some (.bool l.am), some (.int .i64 l.al), some (.int .i64 l.sp), some (.bool l.fo), some (.bool l.no)]), (w5.heap.size, [some (.int .i64 x.u), some (.bool x.am), some (.int .i64 x.al), some (.int .i64 x.sp), some (.bool x.fo), some (.bool x.no)]), (w7.heap.size, [some (.int .i64 x.u), some (.bool x.am), some (.int .i64 x.al), some (.int .i64 x.sp), some (.bool x.fo), some (.bool x.no)])] := ⟨_, rfl⟩
        have hT := (HS11.out).cast hbs
        have c0_0 : ∀ w', Sp w bs2 w' → w'.cell? ⟨w.heap.size, 0, none⟩ = some (.int .i64 l.u) := by rw [hbs]; exact fun w' h => h.at 0 rfl 0 rfl
        have c0_1 : ∀ w', Sp w bs2 w' → w'.cell? ⟨w.heap.size, 1, none⟩ = some (.bool l.am) := by rw [hbs]; exact fun w' h => h.at 0 rfl 1 rfl
        have c0_2 : ∀ w', Sp w bs2 w' → w'.cell? ⟨w.heap.size, 2, none⟩ = some (.int .i64 l.al) := by rw [hbs]; exact fun w' h => h.at 0 rfl 2 rfl
        have c0_3 : ∀ w', Sp w bs2 w' → w'.cell? ⟨w.heap.size, 3, none⟩ = some (.int .i64 l.sp) := by rw [hbs]; exact fun w' h => h.at 0 rfl 3 rfl
        have c0_4 : ∀ w', Sp w bs2 w' → w'.cell? ⟨w.heap.size, 4, none⟩ = some (.bool l.fo) := by rw [hbs]; exact fun w' h => h.at 0 rfl 4 rfl
        have c0_5 : ∀ w', Sp w bs2 w' → w'.cell? ⟨w.heap.size, 5, none⟩ = some (.bool l.no) := by rw [hbs]; exact fun w' h => h.at 0 rfl 5 rfl
        have nx : ∀ w', Sp w bs2 w' → Sp w [(w.heap.size, [some (.int .i64 l.u), some (.bool l.am), some (.int .i64 l.al), some (.int .i64 l.sp), some (.bool l.fo), some (.bool l.no)]), (w5.heap.size, [some (.int .i64 x.u), some (.bool x.am), some (.int .i64 x.al), some (.int .i64 x.sp), some (.bool x.fo), some (.bool x.no)]), (w7.heap.size, [some (.int .i64 x.u), some (.bool x.am), some (.int .i64 x.al), some (.int .i64 x.sp), some (.bool x.fo), some (.bool x.no)])] w' := by rw [hbs]; exact fun w' h => h
        have kS : ∀ w1 w2, Sp w bs2 w1 → Below w1.heap.size w1 w2 → Sp w bs2 w2 := fun _ _ h hb => h.keep hb
        clear hbs HS11
        change (Code.region 12 ldcau12 true).wp Tryd.prog _ _ _
        refine wp_region_noPanic ?_
        refine wp_region_held_drew (S := (Sp w bs2)) (by kernel_rfl) (hT.drew) (fun hHeld => ?_)
        refine wpAnyH_take (i := 0) (oi := ({ dst := some 79, op := .load 23 (.tmp 2), type := 23, pos := "law.go:43", after := #[], guard := none } : Oper)) (v := ?vs5_0) rfl ldcau12_plain (by as_aux_lemma => kernel_rfl) (by as_aux_lemma => kernel_rfl) (fun _ _ _ h => h) (Or.inl ⟨by rfl, ?ys5_0⟩) (by assumption) ?rs5_0
        case ys5_0 => (intro w hSw; (try dsimp only at hSw); go_simp; try with_reducible rfl)
        try simp only [Act.put, List.setIfInBounds_toArray, List.set_cons_zero, List.set_cons_succ]
        refine wpAnyH_take (i := 2) (oi := ({ dst := some 81, op := .load 23 (.tmp 2), type := 23, pos := "law.go:43", after := #[], guard := none } : Oper)) (v := ?vs5_2) rfl ldcau12_plain (by as_aux_lemma => kernel_rfl) (by as_aux_lemma => kernel_rfl) (fun _ _ _ h => h) (Or.inl ⟨by rfl, ?ys5_2⟩) (by assumption) ?rs5_2
        case ys5_2 => (intro w hSw; (try dsimp only at hSw); go_simp; try with_reducible rfl)
        try simp only [Act.put, List.setIfInBounds_toArray, List.set_cons_zero, List.set_cons_succ]
        refine wpAnyH_ready (rs := [1]) (by as_aux_lemma => kernel_rfl) (by simp) ?_
        refine AllReadyH.cons (o := ({ dst := some 80, op := .call { callee := .value (.func 21), args := #[.tmp 79], argTypes := #[23] }, type := 9, pos := "law.go:43", after := #[{ on := 0, ground := .data }], guard := none } : Oper)) rfl (fun KK hK => ?_) AllReadyH.nil
        rw [if_pos (by rfl)]
        go_simp
        go_at_call 21; refine (CA.out _ (Sp.below (by assumption))).mono ?_; rintro e w10 ⟨rfl, hb10⟩
        go_wp2_with fail
        refine hK.out _ _ ?_ (fun hHeld10 => ?_)
        · exact kS _ _ (by assumption) hb10
        clear hK KK hb10
        try simp only [Act.put, List.setIfInBounds_toArray, List.set_cons_zero, List.set_cons_succ]
        refine wpAnyH_ready (rs := [3]) (by as_aux_lemma => kernel_rfl) (by simp) ?_
        refine AllReadyH.cons (o := ({ dst := some 82, op := .call { callee := .value (.func 22), args := #[.tmp 81], argTypes := #[23] }, type := 9, pos := "law.go:43", after := #[{ on := 2, ground := .data }, { on := 1, ground := .chain }], guard := none } : Oper)) rfl (fun KK hK => ?_) AllReadyH.nil
        rw [if_pos (by rfl)]
        go_simp
        go_at_call 22; refine (CR.out _ (Sp.below (by assumption))).mono ?_; rintro e w11 ⟨rfl, hb11⟩
        go_wp2_with fail
        refine hK.out _ _ ?_ (fun hHeld11 => ?_)
        · exact kS _ _ (by assumption) hb11
        clear hK KK hb11 hHeld10
        try simp only [Act.put, List.setIfInBounds_toArray, List.set_cons_zero, List.set_cons_succ]
        refine wpAnyH_take (i := 4) (oi := ({ dst := some 83, op := .binOp .eql 9 (.tmp 80) (.tmp 82) 9, type := 4, pos := "law.go:43", after := #[{ on := 1, ground := .data }, { on := 3, ground := .data }], guard := none } : Oper)) (v := ?vs5_4) rfl ldcau12_plain (by as_aux_lemma => kernel_rfl) (by as_aux_lemma => kernel_rfl) (fun _ _ _ h => h) (Or.inl ⟨by rfl, ?ys5_4⟩) (by assumption) ?rs5_4
        case ys5_4 => (intro w hSw; (try dsimp only at hSw); go_simp; try with_reducible rfl)
        try simp only [Act.put, List.setIfInBounds_toArray, List.set_cons_zero, List.set_cons_succ]
        refine wpAnyH_take (i := 5) (oi := ({ dst := some 84, op := .move (.tmp 83), type := 4, pos := "law.go:43", after := #[{ on := 4, ground := .data }, { on := 3, ground := .chain }], guard := none } : Oper)) (v := ?vs5_5) rfl ldcau12_plain (by as_aux_lemma => kernel_rfl) (by as_aux_lemma => kernel_rfl) (fun _ _ _ h => h) (Or.inl ⟨by rfl, ?ys5_5⟩) (by assumption) ?rs5_5
        case ys5_5 => (intro w hSw; (try dsimp only at hSw); go_simp; try with_reducible rfl)
        try simp only [Act.put, List.setIfInBounds_toArray, List.set_cons_zero, List.set_cons_succ]
        refine wpAnyH_take (i := 6) (oi := ({ dst := some 85, op := .load 23 (.tmp 2), type := 23, pos := "law.go:43", after := #[{ on := 5, ground := .guard }], guard := some (5, true) } : Oper)) (v := ?vs5_6) rfl ldcau12_plain (by as_aux_lemma => kernel_rfl) (by as_aux_lemma => kernel_rfl) (fun _ _ _ h => h) (Or.inl ⟨by rfl, ?ys5_6⟩) (by assumption) ?rs5_6
        case ys5_6 => (intro w hSw; (try dsimp only at hSw); go_simp; try with_reducible rfl)
        try simp only [Act.put, List.setIfInBounds_toArray, List.set_cons_zero, List.set_cons_succ]
        refine wpAnyH_take (i := 9) (oi := ({ dst := some 88, op := .load 23 (.tmp 2), type := 23, pos := "law.go:43", after := #[{ on := 5, ground := .guard }], guard := some (5, true) } : Oper)) (v := ?vs5_9) rfl ldcau12_plain (by as_aux_lemma => kernel_rfl) (by as_aux_lemma => kernel_rfl) (fun _ _ _ h => h) (Or.inl ⟨by rfl, ?ys5_9⟩) (by assumption) ?rs5_9
        case ys5_9 => (intro w hSw; (try dsimp only at hSw); go_simp; try with_reducible rfl)
        try simp only [Act.put, List.setIfInBounds_toArray, List.set_cons_zero, List.set_cons_succ]
        refine wpAnyH_ready (rs := [7]) (by as_aux_lemma => kernel_rfl) (by simp) ?_
        refine AllReadyH.cons (o := ({ dst := some 86, op := .call { callee := .value (.func 21), args := #[.tmp 85], argTypes := #[23] }, type := 9, pos := "law.go:43", after := #[{ on := 6, ground := .data }, { on := 5, ground := .chain }, { on := 5, ground := .guard }], guard := some (5, true) } : Oper)) rfl (fun KK hK => ?_) AllReadyH.nil
        rw [if_pos (by rfl)]
        go_simp
        go_at_call 21; refine (CA.out _ (Sp.below (by assumption))).mono ?_; rintro e w12 ⟨rfl, hb12⟩
        go_wp2_with fail
        refine hK.out _ _ ?_ (fun hHeld12 => ?_)
        · exact kS _ _ (by assumption) hb12
        clear hK KK hb12 hHeld11
        try simp only [Act.put, List.setIfInBounds_toArray, List.set_cons_zero, List.set_cons_succ]
        refine wpAnyH_take (i := 8) (oi := ({ dst := some 87, op := .binOp .eql 9 (.tmp 86) (.const (.string { data := #[] })) 9, type := 4, pos := "law.go:43", after := #[{ on := 7, ground := .data }, { on := 5, ground := .guard }], guard := some (5, true) } : Oper)) (v := ?vs5_8) rfl ldcau12_plain (by as_aux_lemma => kernel_rfl) (by as_aux_lemma => kernel_rfl) (fun _ _ _ h => h) (Or.inl ⟨by rfl, ?ys5_8⟩) (by assumption) ?rs5_8
        case ys5_8 => (intro w hSw; (try dsimp only at hSw); go_simp; try with_reducible rfl)
        try simp only [Act.put, List.setIfInBounds_toArray, List.set_cons_zero, List.set_cons_succ]
        refine wpAnyH_ready (rs := [10]) (by as_aux_lemma => kernel_rfl) (by simp) ?_
        refine AllReadyH.cons (o := ({ dst := some 89, op := .call { callee := .value (.func 10), args := #[.tmp 88], argTypes := #[23] }, type := 3, pos := "law.go:43", after := #[{ on := 9, ground := .data }, { on := 7, ground := .chain }, { on := 5, ground := .guard }], guard := some (5, true) } : Oper)) rfl (fun KK hK => ?_) AllReadyH.nil
        rw [if_pos (by rfl)]
        go_simp
        go_at_call 10; refine (ML.out _ (Sp.below (by assumption))).mono ?_; rintro e w13 ⟨rfl, hb13⟩
        go_wp2_with fail
        refine hK.out _ _ ?_ (fun hHeld13 => ?_)
        · exact kS _ _ (by assumption) hb13
        clear hK KK hb13 hHeld12
        try simp only [Act.put, List.setIfInBounds_toArray, List.set_cons_zero, List.set_cons_succ]
        refine wpAnyH_take (i := 11) (oi := ({ dst := some 90, op := .binOp .eql 3 (.tmp 89) (.const (.int .i64 0)) 3, type := 4, pos := "law.go:43", after := #[{ on := 10, ground := .data }, { on := 5, ground := .guard }], guard := some (5, true) } : Oper)) (v := ?vs5_11) rfl ldcau12_plain (by as_aux_lemma => kernel_rfl) (by as_aux_lemma => kernel_rfl) (fun _ _ _ h => h) (Or.inl ⟨by rfl, ?ys5_11⟩) (by assumption) ?rs5_11
        case ys5_11 => (intro w hSw; (try dsimp only at hSw); go_simp; try with_reducible rfl)
        try simp only [Act.put, List.setIfInBounds_toArray, List.set_cons_zero, List.set_cons_succ]
        refine wpAnyH_take (i := 12) (oi := ({ dst := some 91, op := .binOp .eql 4 (.tmp 87) (.tmp 90) 4, type := 4, pos := "law.go:43", after := #[{ on := 8, ground := .data }, { on := 11, ground := .data }, { on := 5, ground := .guard }], guard := some (5, true) } : Oper)) (v := ?vs5_12) rfl ldcau12_plain (by as_aux_lemma => kernel_rfl) (by as_aux_lemma => kernel_rfl) (fun _ _ _ h => h) (Or.inl ⟨by rfl, ?ys5_12⟩) (by assumption) ?rs5_12
        case ys5_12 => (intro w hSw; (try dsimp only at hSw); go_simp; try with_reducible rfl)
        try simp only [Act.put, List.setIfInBounds_toArray, List.set_cons_zero, List.set_cons_succ]
        refine wpAnyH_take (i := 13) (oi := ({ dst := some 92, op := .pick (.tmp 84) (.tmp 91) (.const (.bool false)), type := 4, pos := "law.go:43", after := #[{ on := 5, ground := .data }, { on := 12, ground := .data }], guard := none } : Oper)) (v := ?vs5_13) rfl ldcau12_plain (by as_aux_lemma => kernel_rfl) (by as_aux_lemma => kernel_rfl) (fun _ _ _ h => h) (Or.inl ⟨by rfl, ?ys5_13⟩) (by assumption) ?rs5_13
        case ys5_13 => (intro w hSw; (try dsimp only at hSw); go_simp; try with_reducible rfl)
        try simp only [Act.put, List.setIfInBounds_toArray, List.set_cons_zero, List.set_cons_succ]
        refine wpAnyH_take (i := 14) (oi := ({ dst := some 93, op := .move (.tmp 92), type := 4, pos := "law.go:43", after := #[{ on := 13, ground := .data }, { on := 10, ground := .chain }], guard := none } : Oper)) (v := ?vs5_14) rfl ldcau12_plain (by as_aux_lemma => kernel_rfl) (by as_aux_lemma => kernel_rfl) (fun _ _ _ h => h) (Or.inl ⟨by rfl, ?ys5_14⟩) (by assumption) ?rs5_14
        case ys5_14 => (intro w hSw; (try dsimp only at hSw); go_simp; try with_reducible rfl)
        try simp only [Act.put, List.setIfInBounds_toArray, List.set_cons_zero, List.set_cons_succ]
        refine wpAnyH_ready (rs := [15]) (by as_aux_lemma => kernel_rfl) (by simp) ?_
        refine AllReadyH.cons (o := ({ dst := some 94, op := .call { callee := .value (.func 16), args := #[], argTypes := #[] }, type := 4, pos := "law.go:43", after := #[{ on := 14, ground := .chain }, { on := 14, ground := .guard }], guard := some (14, true) } : Oper)) rfl (fun KK hK => ?_) AllReadyH.nil
        rw [if_pos (by rfl)]
        go_simp
        go_at_call 16; refine (AW.out _ (Sp.below (by assumption))).mono ?_; rintro e w14 ⟨rfl, hb14⟩
        go_wp2_with fail
        refine hK.out _ _ ?_ (fun hHeld14 => ?_)
        · exact kS _ _ (by assumption) hb14
        clear hK KK hb14 hHeld13
        try simp only [Act.put, List.setIfInBounds_toArray, List.set_cons_zero, List.set_cons_succ]
        refine wpAnyH_take (i := 16) (oi := ({ dst := some 95, op := .pick (.tmp 93) (.tmp 94) (.const (.bool false)), type := 4, pos := "law.go:43", after := #[{ on := 14, ground := .data }, { on := 15, ground := .data }], guard := none } : Oper)) (v := ?vs5_16) rfl ldcau12_plain (by as_aux_lemma => kernel_rfl) (by as_aux_lemma => kernel_rfl) (fun _ _ _ h => h) (Or.inl ⟨by rfl, ?ys5_16⟩) (by assumption) ?rs5_16
        case ys5_16 => (intro w hSw; (try dsimp only at hSw); go_simp; try with_reducible rfl)
        try simp only [Act.put, List.setIfInBounds_toArray, List.set_cons_zero, List.set_cons_succ]
        refine wpAnyH_take (i := 17) (oi := ({ dst := some 4, op := .assign (.tmp 95), type := 4, pos := "law.go:43", after := #[{ on := 16, ground := .data }, { on := 15, ground := .chain }, { on := 0, ground := .phase }, { on := 1, ground := .phase }, { on := 2, ground := .phase }, { on := 3, ground := .phase }, { on := 4, ground := .phase }, { on := 5, ground := .phase }, { on := 6, ground := .phase }, { on := 7, ground := .phase }, { on := 8, ground := .phase }, { on := 9, ground := .phase }, { on := 10, ground := .phase }, { on := 11, ground := .phase }, { on := 12, ground := .phase }, { on := 13, ground := .phase }, { on := 14, ground := .phase }, { on := 15, ground := .phase }, { on := 16, ground := .phase }], guard := none } : Oper)) (v := ?vs5_17) rfl ldcau12_plain (by as_aux_lemma => kernel_rfl) (by as_aux_lemma => kernel_rfl) (fun _ _ _ h => h) (Or.inl ⟨by rfl, ?ys5_17⟩) (by assumption) ?rs5_17
        case ys5_17 => (intro w hSw; (try dsimp only at hSw); go_simp; try with_reducible rfl)
        try simp only [Act.put, List.setIfInBounds_toArray, List.set_cons_zero, List.set_cons_succ]
        refine wpAnyH_done (by as_aux_lemma => kernel_rfl) ?_ _
        refine NoPanic.normal ?_
        have N1 := nx _ hHeld14
        have HS12 := Lib.hid N1
        clear c0_0 c0_1 c0_2 c0_3 c0_4 c0_5 nx kS hT N1
        have BH := Lib.hid HS12.out.below
        go_wp2_with fail
        exact bodyPost_ret (v := .bool true) (by simp [results, Tryd.results5, go_sem, *]) rfl ⟨rfl, BH.out⟩
theorem Causes_all (l : La) (m : Int) (w : World) (N : NamesAt w) : Calls Tryd.prog 5 #[lv l, .int .i64 m] w fun e w' => e = .returned (.bool true) ∧ Below w.heap.size w w' :=
  Causes_core l (bestR m 0).1 m (bestR m 0).2 (decide (mode l = 0)) mode (cause l) w (Lib.hid fun w' _ => All_any w') (Lib.hid fun w' _ => Ref.All_any w') (Lib.hid fun w' _ => Best_any m w') (Lib.hid fun w' _ => Ref.Best_any m w') (Lib.hid fun l w' _ => Mode_any l w') (Lib.hid fun w' _ => Cause_any l w') (Lib.hid fun w' _ => Ref.Cause_any l w') (Lib.hid fun w' B => awake_any w' (N.keep B))
    (Lib.hid la_same) (Lib.hid (best_mode m)) (Lib.hid (best_has m)) (Lib.hid (cause_none l)) (Lib.hid rfl)

end Go.Proofs.YtmenicgoabmcmaaDoor
