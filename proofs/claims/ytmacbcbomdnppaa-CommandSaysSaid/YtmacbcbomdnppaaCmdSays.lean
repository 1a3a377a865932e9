/- CommandSays, CommandBack. -/
import Derived.Test.YtmacbcbomdnppaaCmdAwake
import Derived.Deep.CutBlock
import Derived.Deep.CutRange
namespace Go.Proofs.Ytmacbcbomdnppaa
open Go.RowKit

namespace Law34
theorem says_long (c : Cm) (ba : Option Addr) (k cap : Nat) (w : World) (h : (100 : Int) < k) :
    Calls Try.prog 3 #[cv c, .slice ba k cap] w fun e w' => e = .returned (.bool true) ∧ Below w.heap.size w w' := by
  have AW := Lib.hid fun w => awake_any w
  obtain ⟨x, y⟩ := c
  simp only [cv]
  have B1 := Lib.hid (below1 w (.cells #[.int .i64 x, .int .i64 y] 23))
  go_enter Try.func3, Try.ntmps3
  go_wp2_with fail
  refine (AW.out _).mono ?_; rintro e w1 ⟨rfl, hb1⟩
  have HB := Lib.hid (belowT B1.out hb1)
  clear B1 hb1
  go_wp2
  go_ret
  exact ⟨rfl, HB.out⟩
theorem back_long (c : Cm) (ba : Option Addr) (k cap : Nat) (w : World) (h : (100 : Int) < k) :
    Calls Try.prog 5 #[cv c, .slice ba k cap] w fun e w' => e = .returned (.bool true) ∧ Below w.heap.size w w' := by
  have AW := Lib.hid fun w => awake_any w
  obtain ⟨x, y⟩ := c
  simp only [cv]
  have B1 := Lib.hid (below1 w (.cells #[.int .i64 x, .int .i64 y] 23))
  go_enter Try.func5, Try.ntmps5
  go_wp2_with fail
  refine (AW.out _).mono ?_; rintro e w1 ⟨rfl, hb1⟩
  have HB := Lib.hid (belowT B1.out hb1)
  clear B1 hb1
  go_wp2
  go_ret
  exact ⟨rfl, HB.out⟩

/-- The operations of a drawn region, as the translation has them. -/
def says7 : Array Oper := #[
  { dst := some 37, op := .load 23 (.tmp 2), type := 23, pos := "law.go:29", after := #[], guard := none },
  { dst := some 38, op := .call { callee := .value (.func 11), args := #[.tmp 37], argTypes := #[23] }, type := 4, pos := "law.go:29", after := #[{ on := 0, ground := .data }], guard := none },
  { dst := some 39, op := .load 23 (.tmp 2), type := 23, pos := "law.go:29", after := #[], guard := none },
  { dst := some 40, op := .call { callee := .value (.func 12), args := #[.tmp 39], argTypes := #[23] }, type := 4, pos := "law.go:29", after := #[{ on := 2, ground := .data }, { on := 1, ground := .chain }], guard := none },
  { dst := some 41, op := .binOp .eql 4 (.tmp 38) (.tmp 40) 4, type := 4, pos := "law.go:29", after := #[{ on := 1, ground := .data }, { on := 3, ground := .data }], guard := none },
  { dst := some 42, op := .move (.tmp 41), type := 4, pos := "law.go:29", after := #[{ on := 4, ground := .data }, { on := 3, ground := .chain }], guard := none },
  { dst := some 43, op := .move (.tmp 5), type := 24, pos := "law.go:29", after := #[{ on := 5, ground := .guard }], guard := some (5, true) },
  { dst := some 44, op := .convert 24 9 (.tmp 43), type := 9, pos := "law.go:29", after := #[{ on := 6, ground := .data }, { on := 5, ground := .guard }], guard := some (5, true) },
  { dst := some 45, op := .move (.tmp 7), type := 24, pos := "law.go:29", after := #[{ on := 5, ground := .guard }], guard := some (5, true) },
  { dst := some 46, op := .convert 24 9 (.tmp 45), type := 9, pos := "law.go:29", after := #[{ on := 8, ground := .data }, { on := 5, ground := .guard }], guard := some (5, true) },
  { dst := some 47, op := .binOp .eql 9 (.tmp 44) (.tmp 46) 9, type := 4, pos := "law.go:29", after := #[{ on := 7, ground := .data }, { on := 9, ground := .data }, { on := 5, ground := .guard }], guard := some (5, true) },
  { dst := some 48, op := .pick (.tmp 42) (.tmp 47) (.const (.bool false)), type := 4, pos := "law.go:29", after := #[{ on := 5, ground := .data }, { on := 10, ground := .data }], guard := none },
  { dst := some 49, op := .move (.tmp 48), type := 4, pos := "law.go:29", after := #[{ on := 11, ground := .data }, { on := 5, ground := .chain }], guard := none },
  { dst := some 50, op := .move (.tmp 6), type := 26, pos := "law.go:29", after := #[{ on := 12, ground := .guard }], guard := some (12, true) },
  { dst := some 51, op := .move (.tmp 8), type := 26, pos := "law.go:29", after := #[{ on := 12, ground := .guard }], guard := some (12, true) },
  { dst := some 52, op := .binOp .eql 26 (.tmp 50) (.tmp 51) 26, type := 4, pos := "law.go:29", after := #[{ on := 13, ground := .data }, { on := 14, ground := .data }, { on := 12, ground := .guard }], guard := some (12, true) },
  { dst := some 53, op := .pick (.tmp 49) (.tmp 52) (.const (.bool false)), type := 4, pos := "law.go:29", after := #[{ on := 12, ground := .data }, { on := 15, ground := .data }], guard := none },
  { dst := some 54, op := .move (.tmp 53), type := 4, pos := "law.go:29", after := #[{ on := 16, ground := .data }, { on := 12, ground := .chain }], guard := none },
  { dst := some 55, op := .load 23 (.tmp 9), type := 23, pos := "law.go:29", after := #[{ on := 17, ground := .guard }], guard := some (17, true) },
  { dst := some 56, op := .load 23 (.tmp 11), type := 23, pos := "law.go:29", after := #[{ on := 17, ground := .guard }], guard := some (17, true) },
  { dst := some 57, op := .binOp .eql 23 (.tmp 55) (.tmp 56) 23, type := 4, pos := "law.go:29", after := #[{ on := 18, ground := .data }, { on := 19, ground := .data }, { on := 17, ground := .guard }], guard := some (17, true) },
  { dst := some 58, op := .pick (.tmp 54) (.tmp 57) (.const (.bool false)), type := 4, pos := "law.go:29", after := #[{ on := 17, ground := .data }, { on := 20, ground := .data }], guard := none },
  { dst := some 59, op := .move (.tmp 58), type := 4, pos := "law.go:29", after := #[{ on := 21, ground := .data }, { on := 17, ground := .chain }], guard := none },
  { dst := some 60, op := .move (.tmp 10), type := 26, pos := "law.go:29", after := #[{ on := 22, ground := .guard }], guard := some (22, true) },
  { dst := some 61, op := .move (.tmp 12), type := 26, pos := "law.go:29", after := #[{ on := 22, ground := .guard }], guard := some (22, true) },
  { dst := some 62, op := .binOp .eql 26 (.tmp 60) (.tmp 61) 26, type := 4, pos := "law.go:29", after := #[{ on := 23, ground := .data }, { on := 24, ground := .data }, { on := 22, ground := .guard }], guard := some (22, true) },
  { dst := some 63, op := .pick (.tmp 59) (.tmp 62) (.const (.bool false)), type := 4, pos := "law.go:29", after := #[{ on := 22, ground := .data }, { on := 25, ground := .data }], guard := none },
  { dst := some 64, op := .move (.tmp 63), type := 4, pos := "law.go:29", after := #[{ on := 26, ground := .data }, { on := 22, ground := .chain }], guard := none },
  { dst := some 65, op := .call { callee := .value (.func 6), args := #[], argTypes := #[] }, type := 4, pos := "law.go:29", after := #[{ on := 27, ground := .chain }, { on := 27, ground := .guard }], guard := some (27, true) },
  { dst := some 66, op := .pick (.tmp 64) (.tmp 65) (.const (.bool false)), type := 4, pos := "law.go:29", after := #[{ on := 27, ground := .data }, { on := 28, ground := .data }], guard := none },
  { dst := some 4, op := .assign (.tmp 66), type := 4, pos := "law.go:29", after := #[{ on := 29, ground := .data }, { on := 28, ground := .chain }, { on := 0, ground := .phase }, { on := 1, ground := .phase }, { on := 2, ground := .phase }, { on := 3, ground := .phase }, { on := 4, ground := .phase }, { on := 5, ground := .phase }, { on := 6, ground := .phase }, { on := 7, ground := .phase }, { on := 8, ground := .phase }, { on := 9, ground := .phase }, { on := 10, ground := .phase }, { on := 11, ground := .phase }, { on := 12, ground := .phase }, { on := 13, ground := .phase }, { on := 14, ground := .phase }, { on := 15, ground := .phase }, { on := 16, ground := .phase }, { on := 17, ground := .phase }, { on := 18, ground := .phase }, { on := 19, ground := .phase }, { on := 20, ground := .phase }, { on := 21, ground := .phase }, { on := 22, ground := .phase }, { on := 23, ground := .phase }, { on := 24, ground := .phase }, { on := 25, ground := .phase }, { on := 26, ground := .phase }, { on := 27, ground := .phase }, { on := 28, ground := .phase }, { on := 29, ground := .phase }], guard := none }]
theorem says7_plain : Region.noSelect says7 = true := by kernel_rfl

set_option maxHeartbeats 8000000 in
set_option maxRecDepth 100000 in
theorem says_core (c : Cm) (ba : Option Addr) (cap : Nat) (l : List UInt8) (w : World) (C : Came w ba cap l) (h : ¬ (100 : Int) < l.length) :
    Calls Try.prog 3 #[cv c, .slice ba l.length cap] w fun e w' => e = .returned (.bool true) ∧ Below w.heap.size w w' := by
  have AW := Lib.hid fun w => awake_any w
  have OB := Lib.hid fun w => Lan34.Bytes_any c w
  have RB := Lib.hid fun w => Ref34.Bytes_any c w
  have OR := Lib.hid fun w => Lan34.Right_any c w
  have RR := Lib.hid fun w => Ref34.Right_any c w
  have OD := Lib.hid fun w (C : Came w ba cap l) => Lan34.Read_came C
  have RD := Lib.hid fun w (C : Came w ba cap l) => Ref34.Read_came C
  generalize bytesC c = bt at *
  obtain ⟨out, er⟩ := bt
  generalize rightC c = rt at *
  generalize readC l = rr at *
  obtain ⟨⟨x', y'⟩, re⟩ := rr
  obtain ⟨x, y⟩ := c
  simp only [cv] at OB RB OR RR OD RD ⊢
  have B1 := Lib.hid (below1 w (.cells #[.int .i64 x, .int .i64 y] 23))
  have H1 := Lib.hid (hasl w [.int .i64 x, .int .i64 y] 23)
  have HC := Lib.hid C
  clear C
  go_enter Try.func3, Try.ntmps3
  go_wp2_with fail
  refine (OB.out _).mono ?_; rintro e w1 ⟨b1, c1, rfl, U, hb1⟩
  have HB1 := Lib.hid (belowT B1.out hb1)
  have H2 := Lib.hid (H1.out.keep hb1)
  have q0 := H2.out.at 0 rfl
  have q1 := H2.out.at 1 rfl
  have U1 := Lib.hid U
  clear H1 B1 hb1 OB U
  go_wp2_with fail
  refine (RB.out _).mono ?_; rintro e w2 ⟨b2, c2, rfl, U, hb2⟩
  have HB2 := Lib.hid (belowT HB1.out hb2)
  have H3 := Lib.hid (H2.out.keep hb2)
  have U1b := Lib.hid (U1.out.keep hb2)
  have U2 := Lib.hid U
  clear H2 HB1 hb2 RB U1 q0 q1 U
  go_wp2_with fail
  refine (OD.out w2 (HC.out.keep HB2.out)).mono ?_; rintro e w3 ⟨rfl, hb3⟩
  have hb3a := belowT hb3 (below1 w3 (.cells #[.int .i64 x', .int .i64 y'] 23))
  have HB3 := Lib.hid (belowT HB2.out hb3a)
  have H4 := Lib.hid (H3.out.keep hb3a)
  have U1c := Lib.hid (U1b.out.keep hb3a)
  have U2b := Lib.hid (U2.out.keep hb3a)
  have K1 := Lib.hid (hasl w3 [.int .i64 x', .int .i64 y'] 23)
  clear HB2 H3 U1b U2 hb3 hb3a OD
  go_wp2_with fail
  refine (RD.out _ (HC.out.keep HB3.out)).mono ?_; rintro e w4 ⟨rfl, hb4⟩
  have hb4a := belowT hb4 (below1 w4 (.cells #[.int .i64 x', .int .i64 y'] 23))
  have HB4 := Lib.hid (belowT HB3.out hb4a)
  have H5 := H4.out.keep hb4a
  have U1d := U1c.out.keep hb4a
  have U2c := U2b.out.keep hb4a
  have K2 := K1.out.keep hb4a
  have K3 := hasl w4 [.int .i64 x', .int .i64 y'] 23
  clear HB3 H4 U1c U2b hb4 hb4a RD K1
  go_upto_region 7 with fail
  obtain ⟨W0, hW0⟩ : ∃ W0, W0 = w4.alloc (.cells #[.int .i64 x', .int .i64 y'] 23) := ⟨_, rfl⟩
  rw [← hW0]
  rw [← hW0] at HB4 H5 U1d U2c K2 K3
  clear hW0
  have rq0 : ∀ w', Below W0.heap.size W0 w' → w'.cell? ⟨w.heap.size, 0, none⟩ = some (.int .i64 x) := fun w' h => keepc h (H5.at 0 rfl)
  have rq1 : ∀ w', Below W0.heap.size W0 w' → w'.cell? ⟨w.heap.size, 1, none⟩ = some (.int .i64 y) := fun w' h => keepc h (H5.at 1 rfl)
  have rp0 : ∀ w', Below W0.heap.size W0 w' → w'.cell? ⟨w3.heap.size, 0, none⟩ = some (.int .i64 x') := fun w' h => keepc h (K2.at 0 rfl)
  have rp1 : ∀ w', Below W0.heap.size W0 w' → w'.cell? ⟨w3.heap.size, 1, none⟩ = some (.int .i64 y') := fun w' h => keepc h (K2.at 1 rfl)
  have rm0 : ∀ w', Below W0.heap.size W0 w' → w'.cell? ⟨w4.heap.size, 0, none⟩ = some (.int .i64 x') := fun w' h => keepc h (K3.at 0 rfl)
  have rm1 : ∀ w', Below W0.heap.size W0 w' → w'.cell? ⟨w4.heap.size, 1, none⟩ = some (.int .i64 y') := fun w' h => keepc h (K3.at 1 rfl)
  have rs : ∀ w', Below W0.heap.size W0 w' → (convert 24 9 (.slice b1 out.length c1)).run Try.prog w' = .ok (.string ⟨out.toArray⟩) w' := fun w' h => (U1d.keep h).string
  have rt2 : ∀ w', Below W0.heap.size W0 w' → (convert 24 9 (.slice b2 out.length c2)).run Try.prog w' = .ok (.string ⟨out.toArray⟩) w' := fun w' h => (U2c.keep h).string
  generalize (⟨out.toArray⟩ : ByteArray) = st at *
  clear H5 U1d U2c K2 K3
  change (Code.region 7 says7 true).wp Try.prog _ _ _
  refine wp_region_noPanic ?_
  refine wp_region_held_drew (S := fun w' => Below W0.heap.size W0 w') (by kernel_rfl) ((Below.refl _ _).drew) (fun hHeld => ?_)
  refine wpAnyH_take (i := 0) (oi := ({ dst := some 37, op := .load 23 (.tmp 2), type := 23, pos := "law.go:29", after := #[], guard := none } : Oper)) (v := ?vs1_0) rfl says7_plain (by as_aux_lemma => kernel_rfl) (by as_aux_lemma => kernel_rfl) (fun _ _ _ h => h) (Or.inl ⟨by rfl, ?ys1_0⟩) (by assumption) ?rs1_0
  case ys1_0 => (intro w hSw; (try dsimp only at hSw); go_simp; try with_reducible rfl)
  try simp only [Act.put, List.setIfInBounds_toArray, List.set_cons_zero, List.set_cons_succ]
  refine wpAnyH_take (i := 2) (oi := ({ dst := some 39, op := .load 23 (.tmp 2), type := 23, pos := "law.go:29", after := #[], guard := none } : Oper)) (v := ?vs1_2) rfl says7_plain (by as_aux_lemma => kernel_rfl) (by as_aux_lemma => kernel_rfl) (fun _ _ _ h => h) (Or.inl ⟨by rfl, ?ys1_2⟩) (by assumption) ?rs1_2
  case ys1_2 => (intro w hSw; (try dsimp only at hSw); go_simp; try with_reducible rfl)
  try simp only [Act.put, List.setIfInBounds_toArray, List.set_cons_zero, List.set_cons_succ]
  refine wpAnyH_ready (rs := [1]) (by as_aux_lemma => kernel_rfl) (by simp) ?_
  refine AllReadyH.cons (o := ({ dst := some 38, op := .call { callee := .value (.func 11), args := #[.tmp 37], argTypes := #[23] }, type := 4, pos := "law.go:29", after := #[{ on := 0, ground := .data }], guard := none } : Oper)) rfl (fun KK hK => ?_) AllReadyH.nil
  rw [if_pos (by rfl)]
  go_simp
  go_at_call 11; refine (OR.out _).mono ?_; rintro e w5 ⟨rfl, hb5⟩
  go_wp2_with fail
  refine hK.out _ _ ?_ (fun hHeld5 => ?_)
  · exact belowT (by assumption) hb5
  clear hK KK hb5
  try simp only [Act.put, List.setIfInBounds_toArray, List.set_cons_zero, List.set_cons_succ]
  refine wpAnyH_ready (rs := [3]) (by as_aux_lemma => kernel_rfl) (by simp) ?_
  refine AllReadyH.cons (o := ({ dst := some 40, op := .call { callee := .value (.func 12), args := #[.tmp 39], argTypes := #[23] }, type := 4, pos := "law.go:29", after := #[{ on := 2, ground := .data }, { on := 1, ground := .chain }], guard := none } : Oper)) rfl (fun KK hK => ?_) AllReadyH.nil
  rw [if_pos (by rfl)]
  go_simp
  go_at_call 12; refine (RR.out _).mono ?_; rintro e w6 ⟨rfl, hb6⟩
  go_wp2_with fail
  refine hK.out _ _ ?_ (fun hHeld6 => ?_)
  · exact belowT (by assumption) hb6
  clear hK KK hb6 hHeld5
  try simp only [Act.put, List.setIfInBounds_toArray, List.set_cons_zero, List.set_cons_succ]
  refine wpAnyH_take (i := 4) (oi := ({ dst := some 41, op := .binOp .eql 4 (.tmp 38) (.tmp 40) 4, type := 4, pos := "law.go:29", after := #[{ on := 1, ground := .data }, { on := 3, ground := .data }], guard := none } : Oper)) (v := ?vs1_4) rfl says7_plain (by as_aux_lemma => kernel_rfl) (by as_aux_lemma => kernel_rfl) (fun _ _ _ h => h) (Or.inl ⟨by rfl, ?ys1_4⟩) (by assumption) ?rs1_4
  case ys1_4 => (intro w hSw; (try dsimp only at hSw); go_simp; try with_reducible rfl)
  try simp only [Act.put, List.setIfInBounds_toArray, List.set_cons_zero, List.set_cons_succ]
  refine wpAnyH_take (i := 5) (oi := ({ dst := some 42, op := .move (.tmp 41), type := 4, pos := "law.go:29", after := #[{ on := 4, ground := .data }, { on := 3, ground := .chain }], guard := none } : Oper)) (v := ?vs1_5) rfl says7_plain (by as_aux_lemma => kernel_rfl) (by as_aux_lemma => kernel_rfl) (fun _ _ _ h => h) (Or.inl ⟨by rfl, ?ys1_5⟩) (by assumption) ?rs1_5
  case ys1_5 => (intro w hSw; (try dsimp only at hSw); go_simp; try with_reducible rfl)
  try simp only [Act.put, List.setIfInBounds_toArray, List.set_cons_zero, List.set_cons_succ]
  refine wpAnyH_take (i := 6) (oi := ({ dst := some 43, op := .move (.tmp 5), type := 24, pos := "law.go:29", after := #[{ on := 5, ground := .guard }], guard := some (5, true) } : Oper)) (v := ?vs1_6) rfl says7_plain (by as_aux_lemma => kernel_rfl) (by as_aux_lemma => kernel_rfl) (fun _ _ _ h => h) (Or.inl ⟨by rfl, ?ys1_6⟩) (by assumption) ?rs1_6
  case ys1_6 => (intro w hSw; (try dsimp only at hSw); go_simp; try with_reducible rfl)
  try simp only [Act.put, List.setIfInBounds_toArray, List.set_cons_zero, List.set_cons_succ]
  refine wpAnyH_take (i := 7) (oi := ({ dst := some 44, op := .convert 24 9 (.tmp 43), type := 9, pos := "law.go:29", after := #[{ on := 6, ground := .data }, { on := 5, ground := .guard }], guard := some (5, true) } : Oper)) (v := ?vs1_7) rfl says7_plain (by as_aux_lemma => kernel_rfl) (by as_aux_lemma => kernel_rfl) (fun _ _ _ h => h) (Or.inl ⟨by rfl, ?ys1_7⟩) (by assumption) ?rs1_7
  case ys1_7 => (intro w hSw; (try dsimp only at hSw); go_simp; try with_reducible rfl)
  try simp only [Act.put, List.setIfInBounds_toArray, List.set_cons_zero, List.set_cons_succ]
  refine wpAnyH_take (i := 8) (oi := ({ dst := some 45, op := .move (.tmp 7), type := 24, pos := "law.go:29", after := #[{ on := 5, ground := .guard }], guard := some (5, true) } : Oper)) (v := ?vs1_8) rfl says7_plain (by as_aux_lemma => kernel_rfl) (by as_aux_lemma => kernel_rfl) (fun _ _ _ h => h) (Or.inl ⟨by rfl, ?ys1_8⟩) (by assumption) ?rs1_8
  case ys1_8 => (intro w hSw; (try dsimp only at hSw); go_simp; try with_reducible rfl)
  try simp only [Act.put, List.setIfInBounds_toArray, List.set_cons_zero, List.set_cons_succ]
  refine wpAnyH_take (i := 9) (oi := ({ dst := some 46, op := .convert 24 9 (.tmp 45), type := 9, pos := "law.go:29", after := #[{ on := 8, ground := .data }, { on := 5, ground := .guard }], guard := some (5, true) } : Oper)) (v := ?vs1_9) rfl says7_plain (by as_aux_lemma => kernel_rfl) (by as_aux_lemma => kernel_rfl) (fun _ _ _ h => h) (Or.inl ⟨by rfl, ?ys1_9⟩) (by assumption) ?rs1_9
  case ys1_9 => (intro w hSw; (try dsimp only at hSw); go_simp; try with_reducible rfl)
  try simp only [Act.put, List.setIfInBounds_toArray, List.set_cons_zero, List.set_cons_succ]
  refine wpAnyH_take (i := 10) (oi := ({ dst := some 47, op := .binOp .eql 9 (.tmp 44) (.tmp 46) 9, type := 4, pos := "law.go:29", after := #[{ on := 7, ground := .data }, { on := 9, ground := .data }, { on := 5, ground := .guard }], guard := some (5, true) } : Oper)) (v := ?vs1_10) rfl says7_plain (by as_aux_lemma => kernel_rfl) (by as_aux_lemma => kernel_rfl) (fun _ _ _ h => h) (Or.inl ⟨by rfl, ?ys1_10⟩) (by assumption) ?rs1_10
  case ys1_10 => (intro w hSw; (try dsimp only at hSw); go_simp; try with_reducible rfl)
  try simp only [Act.put, List.setIfInBounds_toArray, List.set_cons_zero, List.set_cons_succ]
  refine wpAnyH_take (i := 11) (oi := ({ dst := some 48, op := .pick (.tmp 42) (.tmp 47) (.const (.bool false)), type := 4, pos := "law.go:29", after := #[{ on := 5, ground := .data }, { on := 10, ground := .data }], guard := none } : Oper)) (v := ?vs1_11) rfl says7_plain (by as_aux_lemma => kernel_rfl) (by as_aux_lemma => kernel_rfl) (fun _ _ _ h => h) (Or.inl ⟨by rfl, ?ys1_11⟩) (by assumption) ?rs1_11
  case ys1_11 => (intro w hSw; (try dsimp only at hSw); go_simp; try with_reducible rfl)
  try simp only [Act.put, List.setIfInBounds_toArray, List.set_cons_zero, List.set_cons_succ]
  refine wpAnyH_take (i := 12) (oi := ({ dst := some 49, op := .move (.tmp 48), type := 4, pos := "law.go:29", after := #[{ on := 11, ground := .data }, { on := 5, ground := .chain }], guard := none } : Oper)) (v := ?vs1_12) rfl says7_plain (by as_aux_lemma => kernel_rfl) (by as_aux_lemma => kernel_rfl) (fun _ _ _ h => h) (Or.inl ⟨by rfl, ?ys1_12⟩) (by assumption) ?rs1_12
  case ys1_12 => (intro w hSw; (try dsimp only at hSw); go_simp; try with_reducible rfl)
  try simp only [Act.put, List.setIfInBounds_toArray, List.set_cons_zero, List.set_cons_succ]
  refine wpAnyH_take (i := 13) (oi := ({ dst := some 50, op := .move (.tmp 6), type := 26, pos := "law.go:29", after := #[{ on := 12, ground := .guard }], guard := some (12, true) } : Oper)) (v := ?vs1_13) rfl says7_plain (by as_aux_lemma => kernel_rfl) (by as_aux_lemma => kernel_rfl) (fun _ _ _ h => h) (Or.inl ⟨by rfl, ?ys1_13⟩) (by assumption) ?rs1_13
  case ys1_13 => (intro w hSw; (try dsimp only at hSw); go_simp; try with_reducible rfl)
  try simp only [Act.put, List.setIfInBounds_toArray, List.set_cons_zero, List.set_cons_succ]
  refine wpAnyH_take (i := 14) (oi := ({ dst := some 51, op := .move (.tmp 8), type := 26, pos := "law.go:29", after := #[{ on := 12, ground := .guard }], guard := some (12, true) } : Oper)) (v := ?vs1_14) rfl says7_plain (by as_aux_lemma => kernel_rfl) (by as_aux_lemma => kernel_rfl) (fun _ _ _ h => h) (Or.inl ⟨by rfl, ?ys1_14⟩) (by assumption) ?rs1_14
  case ys1_14 => (intro w hSw; (try dsimp only at hSw); go_simp; try with_reducible rfl)
  try simp only [Act.put, List.setIfInBounds_toArray, List.set_cons_zero, List.set_cons_succ]
  refine wpAnyH_take (i := 15) (oi := ({ dst := some 52, op := .binOp .eql 26 (.tmp 50) (.tmp 51) 26, type := 4, pos := "law.go:29", after := #[{ on := 13, ground := .data }, { on := 14, ground := .data }, { on := 12, ground := .guard }], guard := some (12, true) } : Oper)) (v := ?vs1_15) rfl says7_plain (by as_aux_lemma => kernel_rfl) (by as_aux_lemma => kernel_rfl) (fun _ _ _ h => h) (Or.inl ⟨by rfl, ?ys1_15⟩) (by assumption) ?rs1_15
  case ys1_15 => (intro w hSw; (try dsimp only at hSw); go_simp; try with_reducible rfl)
  try simp only [Act.put, List.setIfInBounds_toArray, List.set_cons_zero, List.set_cons_succ]
  refine wpAnyH_take (i := 16) (oi := ({ dst := some 53, op := .pick (.tmp 49) (.tmp 52) (.const (.bool false)), type := 4, pos := "law.go:29", after := #[{ on := 12, ground := .data }, { on := 15, ground := .data }], guard := none } : Oper)) (v := ?vs1_16) rfl says7_plain (by as_aux_lemma => kernel_rfl) (by as_aux_lemma => kernel_rfl) (fun _ _ _ h => h) (Or.inl ⟨by rfl, ?ys1_16⟩) (by assumption) ?rs1_16
  case ys1_16 => (intro w hSw; (try dsimp only at hSw); go_simp; try with_reducible rfl)
  try simp only [Act.put, List.setIfInBounds_toArray, List.set_cons_zero, List.set_cons_succ]
  refine wpAnyH_take (i := 17) (oi := ({ dst := some 54, op := .move (.tmp 53), type := 4, pos := "law.go:29", after := #[{ on := 16, ground := .data }, { on := 12, ground := .chain }], guard := none } : Oper)) (v := ?vs1_17) rfl says7_plain (by as_aux_lemma => kernel_rfl) (by as_aux_lemma => kernel_rfl) (fun _ _ _ h => h) (Or.inl ⟨by rfl, ?ys1_17⟩) (by assumption) ?rs1_17
  case ys1_17 => (intro w hSw; (try dsimp only at hSw); go_simp; try with_reducible rfl)
  try simp only [Act.put, List.setIfInBounds_toArray, List.set_cons_zero, List.set_cons_succ]
  refine wpAnyH_take (i := 18) (oi := ({ dst := some 55, op := .load 23 (.tmp 9), type := 23, pos := "law.go:29", after := #[{ on := 17, ground := .guard }], guard := some (17, true) } : Oper)) (v := ?vs1_18) rfl says7_plain (by as_aux_lemma => kernel_rfl) (by as_aux_lemma => kernel_rfl) (fun _ _ _ h => h) (Or.inl ⟨by rfl, ?ys1_18⟩) (by assumption) ?rs1_18
  case ys1_18 => (intro w hSw; (try dsimp only at hSw); go_simp; try with_reducible rfl)
  try simp only [Act.put, List.setIfInBounds_toArray, List.set_cons_zero, List.set_cons_succ]
  refine wpAnyH_take (i := 19) (oi := ({ dst := some 56, op := .load 23 (.tmp 11), type := 23, pos := "law.go:29", after := #[{ on := 17, ground := .guard }], guard := some (17, true) } : Oper)) (v := ?vs1_19) rfl says7_plain (by as_aux_lemma => kernel_rfl) (by as_aux_lemma => kernel_rfl) (fun _ _ _ h => h) (Or.inl ⟨by rfl, ?ys1_19⟩) (by assumption) ?rs1_19
  case ys1_19 => (intro w hSw; (try dsimp only at hSw); go_simp; try with_reducible rfl)
  try simp only [Act.put, List.setIfInBounds_toArray, List.set_cons_zero, List.set_cons_succ]
  refine wpAnyH_take (i := 20) (oi := ({ dst := some 57, op := .binOp .eql 23 (.tmp 55) (.tmp 56) 23, type := 4, pos := "law.go:29", after := #[{ on := 18, ground := .data }, { on := 19, ground := .data }, { on := 17, ground := .guard }], guard := some (17, true) } : Oper)) (v := ?vs1_20) rfl says7_plain (by as_aux_lemma => kernel_rfl) (by as_aux_lemma => kernel_rfl) (fun _ _ _ h => h) (Or.inl ⟨by rfl, ?ys1_20⟩) (by assumption) ?rs1_20
  case ys1_20 => (intro w hSw; (try dsimp only at hSw); go_simp; try with_reducible rfl)
  try simp only [Act.put, List.setIfInBounds_toArray, List.set_cons_zero, List.set_cons_succ]
  refine wpAnyH_take (i := 21) (oi := ({ dst := some 58, op := .pick (.tmp 54) (.tmp 57) (.const (.bool false)), type := 4, pos := "law.go:29", after := #[{ on := 17, ground := .data }, { on := 20, ground := .data }], guard := none } : Oper)) (v := ?vs1_21) rfl says7_plain (by as_aux_lemma => kernel_rfl) (by as_aux_lemma => kernel_rfl) (fun _ _ _ h => h) (Or.inl ⟨by rfl, ?ys1_21⟩) (by assumption) ?rs1_21
  case ys1_21 => (intro w hSw; (try dsimp only at hSw); go_simp; try with_reducible rfl)
  try simp only [Act.put, List.setIfInBounds_toArray, List.set_cons_zero, List.set_cons_succ]
  refine wpAnyH_take (i := 22) (oi := ({ dst := some 59, op := .move (.tmp 58), type := 4, pos := "law.go:29", after := #[{ on := 21, ground := .data }, { on := 17, ground := .chain }], guard := none } : Oper)) (v := ?vs1_22) rfl says7_plain (by as_aux_lemma => kernel_rfl) (by as_aux_lemma => kernel_rfl) (fun _ _ _ h => h) (Or.inl ⟨by rfl, ?ys1_22⟩) (by assumption) ?rs1_22
  case ys1_22 => (intro w hSw; (try dsimp only at hSw); go_simp; try with_reducible rfl)
  try simp only [Act.put, List.setIfInBounds_toArray, List.set_cons_zero, List.set_cons_succ]
  refine wpAnyH_take (i := 23) (oi := ({ dst := some 60, op := .move (.tmp 10), type := 26, pos := "law.go:29", after := #[{ on := 22, ground := .guard }], guard := some (22, true) } : Oper)) (v := ?vs1_23) rfl says7_plain (by as_aux_lemma => kernel_rfl) (by as_aux_lemma => kernel_rfl) (fun _ _ _ h => h) (Or.inl ⟨by rfl, ?ys1_23⟩) (by assumption) ?rs1_23
  case ys1_23 => (intro w hSw; (try dsimp only at hSw); go_simp; try with_reducible rfl)
  try simp only [Act.put, List.setIfInBounds_toArray, List.set_cons_zero, List.set_cons_succ]
  refine wpAnyH_take (i := 24) (oi := ({ dst := some 61, op := .move (.tmp 12), type := 26, pos := "law.go:29", after := #[{ on := 22, ground := .guard }], guard := some (22, true) } : Oper)) (v := ?vs1_24) rfl says7_plain (by as_aux_lemma => kernel_rfl) (by as_aux_lemma => kernel_rfl) (fun _ _ _ h => h) (Or.inl ⟨by rfl, ?ys1_24⟩) (by assumption) ?rs1_24
  case ys1_24 => (intro w hSw; (try dsimp only at hSw); go_simp; try with_reducible rfl)
  try simp only [Act.put, List.setIfInBounds_toArray, List.set_cons_zero, List.set_cons_succ]
  refine wpAnyH_take (i := 25) (oi := ({ dst := some 62, op := .binOp .eql 26 (.tmp 60) (.tmp 61) 26, type := 4, pos := "law.go:29", after := #[{ on := 23, ground := .data }, { on := 24, ground := .data }, { on := 22, ground := .guard }], guard := some (22, true) } : Oper)) (v := ?vs1_25) rfl says7_plain (by as_aux_lemma => kernel_rfl) (by as_aux_lemma => kernel_rfl) (fun _ _ _ h => h) (Or.inl ⟨by rfl, ?ys1_25⟩) (by assumption) ?rs1_25
  case ys1_25 => (intro w hSw; (try dsimp only at hSw); go_simp; try with_reducible rfl)
  try simp only [Act.put, List.setIfInBounds_toArray, List.set_cons_zero, List.set_cons_succ]
  refine wpAnyH_take (i := 26) (oi := ({ dst := some 63, op := .pick (.tmp 59) (.tmp 62) (.const (.bool false)), type := 4, pos := "law.go:29", after := #[{ on := 22, ground := .data }, { on := 25, ground := .data }], guard := none } : Oper)) (v := ?vs1_26) rfl says7_plain (by as_aux_lemma => kernel_rfl) (by as_aux_lemma => kernel_rfl) (fun _ _ _ h => h) (Or.inl ⟨by rfl, ?ys1_26⟩) (by assumption) ?rs1_26
  case ys1_26 => (intro w hSw; (try dsimp only at hSw); go_simp; try with_reducible rfl)
  try simp only [Act.put, List.setIfInBounds_toArray, List.set_cons_zero, List.set_cons_succ]
  refine wpAnyH_take (i := 27) (oi := ({ dst := some 64, op := .move (.tmp 63), type := 4, pos := "law.go:29", after := #[{ on := 26, ground := .data }, { on := 22, ground := .chain }], guard := none } : Oper)) (v := ?vs1_27) rfl says7_plain (by as_aux_lemma => kernel_rfl) (by as_aux_lemma => kernel_rfl) (fun _ _ _ h => h) (Or.inl ⟨by rfl, ?ys1_27⟩) (by assumption) ?rs1_27
  case ys1_27 => (intro w hSw; (try dsimp only at hSw); go_simp; try with_reducible rfl)
  try simp only [Act.put, List.setIfInBounds_toArray, List.set_cons_zero, List.set_cons_succ]
  refine wpAnyH_ready (rs := [28]) (by as_aux_lemma => kernel_rfl) (by simp) ?_
  refine AllReadyH.cons (o := ({ dst := some 65, op := .call { callee := .value (.func 6), args := #[], argTypes := #[] }, type := 4, pos := "law.go:29", after := #[{ on := 27, ground := .chain }, { on := 27, ground := .guard }], guard := some (27, true) } : Oper)) rfl (fun KK hK => ?_) AllReadyH.nil
  rw [if_pos (by rfl)]
  go_simp
  go_at_call 6; refine (AW.out _).mono ?_; rintro e w7 ⟨rfl, hb7⟩
  go_wp2_with fail
  refine hK.out _ _ ?_ (fun hHeld7 => ?_)
  · exact belowT (by assumption) hb7
  clear hK KK hb7 hHeld6
  try simp only [Act.put, List.setIfInBounds_toArray, List.set_cons_zero, List.set_cons_succ]
  refine wpAnyH_take (i := 29) (oi := ({ dst := some 66, op := .pick (.tmp 64) (.tmp 65) (.const (.bool false)), type := 4, pos := "law.go:29", after := #[{ on := 27, ground := .data }, { on := 28, ground := .data }], guard := none } : Oper)) (v := ?vs1_29) rfl says7_plain (by as_aux_lemma => kernel_rfl) (by as_aux_lemma => kernel_rfl) (fun _ _ _ h => h) (Or.inl ⟨by rfl, ?ys1_29⟩) (by assumption) ?rs1_29
  case ys1_29 => (intro w hSw; (try dsimp only at hSw); go_simp; try with_reducible rfl)
  try simp only [Act.put, List.setIfInBounds_toArray, List.set_cons_zero, List.set_cons_succ]
  refine wpAnyH_take (i := 30) (oi := ({ dst := some 4, op := .assign (.tmp 66), type := 4, pos := "law.go:29", after := #[{ on := 29, ground := .data }, { on := 28, ground := .chain }, { on := 0, ground := .phase }, { on := 1, ground := .phase }, { on := 2, ground := .phase }, { on := 3, ground := .phase }, { on := 4, ground := .phase }, { on := 5, ground := .phase }, { on := 6, ground := .phase }, { on := 7, ground := .phase }, { on := 8, ground := .phase }, { on := 9, ground := .phase }, { on := 10, ground := .phase }, { on := 11, ground := .phase }, { on := 12, ground := .phase }, { on := 13, ground := .phase }, { on := 14, ground := .phase }, { on := 15, ground := .phase }, { on := 16, ground := .phase }, { on := 17, ground := .phase }, { on := 18, ground := .phase }, { on := 19, ground := .phase }, { on := 20, ground := .phase }, { on := 21, ground := .phase }, { on := 22, ground := .phase }, { on := 23, ground := .phase }, { on := 24, ground := .phase }, { on := 25, ground := .phase }, { on := 26, ground := .phase }, { on := 27, ground := .phase }, { on := 28, ground := .phase }, { on := 29, ground := .phase }], guard := none } : Oper)) (v := ?vs1_30) rfl says7_plain (by as_aux_lemma => kernel_rfl) (by as_aux_lemma => kernel_rfl) (fun _ _ _ h => h) (Or.inl ⟨by rfl, ?ys1_30⟩) (by assumption) ?rs1_30
  case ys1_30 => (intro w hSw; (try dsimp only at hSw); go_simp; try with_reducible rfl)
  try simp only [Act.put, List.setIfInBounds_toArray, List.set_cons_zero, List.set_cons_succ]
  refine wpAnyH_done (by as_aux_lemma => kernel_rfl) ?_ _
  refine NoPanic.normal ?_
  go_wp2_with fail
  go_ret
  exact ⟨rfl, belowT HB4.out (by assumption)⟩

theorem Says34_all (c : Cm) (ba : Option Addr) (cap : Nat) (l : List UInt8) (w : World) (C : Came w ba cap l) :
    Calls Try.prog 3 #[cv c, .slice ba l.length cap] w fun e w' => e = .returned (.bool true) ∧ Below w.heap.size w w' := by
  by_cases h : (100 : Int) < l.length
  · exact says_long c ba l.length cap w h
  · exact says_core c ba cap l w C h

/-- Bytes, right or not -/
theorem bytes_both (c : Cm) (w : World) : Calls Try.prog 7 #[cv c] w fun e w' => ∃ ba cap n er, e = .returned (.tuple #[.slice ba n cap, .int .i64 er]) ∧ Below w.heap.size w w' ∧
    (er = 0 ∧ n = 5 ∧ rightC c = true ∧ Came w' ba cap (cmdC c) ∨ er = 1 ∧ rightC c = false) := by
  refine (Lan34.Bytes_any c w).mono fun e w' hk => ?_
  obtain ⟨ba, cap, he, C, hb⟩ := hk
  unfold bytesC at he C
  cases h : rightC c
  · rw [h] at he
    exact ⟨ba, cap, _, _, he, hb, .inr ⟨rfl, rfl⟩⟩
  · rw [h] at he C
    exact ⟨ba, cap, _, _, he, hb, .inl ⟨rfl, rfl, rfl, C⟩⟩

set_option maxHeartbeats 8000000 in
set_option maxRecDepth 100000 in
theorem back_core (c : Cm) (ba : Option Addr) (cap : Nat) (l : List UInt8) (w : World) (C : Came w ba cap l) (h : ¬ (100 : Int) < l.length) :
    Calls Try.prog 5 #[cv c, .slice ba l.length cap] w fun e w' => e = .returned (.bool true) ∧ Below w.heap.size w w' := by
  have AW := Lib.hid fun w => awake_any w
  have OB := Lib.hid fun w => bytes_both c w
  have RF : Hid (rightC c = true → ∀ w ba cap, Came w ba cap (cmdC c) → Calls Try.prog 9 #[.slice ba 5 cap] w fun e w' => e = .returned (.tuple #[cv c, .int .i64 0]) ∧ Below w.heap.size w w') := Lib.hid fun hr w ba cap C => by
    have k := Lan34.Read_came C
    rw [read_cmd c hr] at k
    exact k
  generalize cmdC c = L at *
  generalize rightC c = rt at *
  obtain ⟨x, y⟩ := c
  simp only [cv] at OB RF ⊢
  have B1 := Lib.hid (below1 w (.cells #[.int .i64 x, .int .i64 y] 23))
  have H1 := Lib.hid (hasl w [.int .i64 x, .int .i64 y] 23)
  have HC := Lib.hid C
  clear C
  go_enter Try.func5, Try.ntmps5
  go_wp2_with fail
  refine (OB.out _).mono ?_; rintro e w1 ⟨b1, c1, n1, er, rfl, hb1, hcase⟩
  have HB1 := Lib.hid (belowT B1.out hb1)
  have H2 := Lib.hid (H1.out.keep hb1)
  have HK := Lib.hid hcase
  clear H1 B1 hb1 OB hcase
  go_upto_if 23 with fail
  go_cut [] from 7 to 61 (fun wx => Below w1.heap.size w1 wx)
  case first =>
    rcases HK.out with ⟨rfl, rfl, hr, C1⟩ | ⟨rfl, hr⟩
    · have RD := Lib.hid (RF.out hr w1 b1 c1 C1)
      clear C1 RF HK hr AW
      go_wp2_with fail
      refine RD.out.mono ?_; rintro e w2 ⟨rfl, hb2⟩
      have hb2a := belowT hb2 (below1 w2 (.cells #[.int .i64 x, .int .i64 y] 23))
      have K := H2.out.keep hb2a
      have q0 := K.at 0 rfl
      have q1 := K.at 1 rfl
      have BE := Lib.hid hb2a
      clear RD hb2 hb2a K
      go_wp2_with fail
      go_meet
      exact BE.out
    · go_wp2_with fail
      go_meet
      exact Below.refl _ _
  case rest =>
    rename World => wx
    have HX := Lib.hid (belowT HB1.out hcut)
    have RD := Lib.hid (Lan34.Read_came (HC.out.keep HX.out))
    have RB := Lib.hid (read_cmd_back l)
    generalize readC l = rr at *
    obtain ⟨⟨x', y'⟩, re⟩ := rr
    simp only [cv] at RD
    clear HB1 hcut H2 HK RF
    go_wp2_with fail
    refine RD.out.mono ?_; rintro e w3 ⟨rfl, hb3⟩
    have HB3 := Lib.hid (belowT (belowT HX.out hb3) (below1 w3 (.cells #[.int .i64 x', .int .i64 y'] 23)))
    clear RD HX hb3
    by_cases hre : re = 0
    · subst hre
      obtain ⟨hr, h5, hF⟩ := RB.out _ rfl
      have OB : Hid (∀ w, Calls Try.prog 7 #[.agg #[.int .i64 x', .int .i64 y']] w fun e w' => ∃ ba cap, e = .returned (.tuple #[.slice ba 5 cap, .int .i64 0]) ∧ Came w' ba cap l ∧ Below w.heap.size w w') := Lib.hid fun w => by
        have k := Lan34.Bytes_any ⟨x', y'⟩ w
        rw [bytes_ok hr] at k
        simp only [hF, h5] at k
        exact k
      have H5 := Lib.hid h5
      clear hr h5 hF RB
      go_wp2_with fail
      refine (OB.out _).mono ?_; rintro e w4 ⟨b4, c4, rfl, C4, hb4⟩
      have HB4 := Lib.hid (belowT HB3.out hb4)
      have s4 := C4.string
      rw [H5.out] at s4
      have s0 := (HC.out.keep HB4.out).string
      generalize (⟨l.toArray⟩ : ByteArray) = st at *
      clear OB HB3 C4 hb4
      go_wp2_with fail
      refine (AW.out _).mono ?_; rintro e w5 ⟨rfl, hb5⟩
      have HB5 := Lib.hid (belowT HB4.out hb5)
      clear AW HB4 hb5 s4 s0
      go_wp2
      go_ret
      exact ⟨rfl, HB5.out⟩
    · have hq : (re == 0) = false := by simpa using hre
      clear RB hre
      go_wp2_with fail
      refine (AW.out _).mono ?_; rintro e w4 ⟨rfl, hb4⟩
      have HB4 := Lib.hid (belowT HB3.out hb4)
      clear HB3 hb4
      go_wp2
      go_ret
      exact ⟨rfl, HB4.out⟩

theorem Back34_all (c : Cm) (ba : Option Addr) (cap : Nat) (l : List UInt8) (w : World) (C : Came w ba cap l) :
    Calls Try.prog 5 #[cv c, .slice ba l.length cap] w fun e w' => e = .returned (.bool true) ∧ Below w.heap.size w w' := by
  by_cases h : (100 : Int) < l.length
  · exact back_long c ba l.length cap w h
  · exact back_core c ba cap l w C h
end Law34
end Go.Proofs.Ytmacbcbomdnppaa
