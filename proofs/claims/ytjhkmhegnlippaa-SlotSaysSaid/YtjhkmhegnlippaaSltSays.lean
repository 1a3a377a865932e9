/- SlotSays, SlotBack, SlotTorn over Own18. -/
import Derived.Test.YtjhkmhegnlippaaSltAwake
import Derived.Deep.CutBlock
import Derived.Deep.CutRange
namespace Go.Proofs.Ytjhkmhegnlippaa
open Go.RowKit

theorem says_long (O : Own18) (n : Nt) (s : Nat) (ba : Option Addr) (k cap : Nat) (w : World) (h : (300 : Int) < k) :
    Calls Try.prog 3 #[nv n, .int .u32 s, .slice ba k cap] w fun e w' => e = .returned (.bool true) ∧ Below w.heap.size w w' := by
  have AW := Lib.hid fun w => awake_any O w
  obtain ⟨x, y, z⟩ := n
  simp only [nv]
  have B1 := Lib.hid (below1 w (.cells #[.int .i64 x, .int .i64 y, .int .i64 z] 23))
  go_enter Try.func3, Try.ntmps3
  go_wp2_with fail
  refine (AW.out _).mono ?_; rintro e w1 ⟨rfl, hb1⟩
  have HB := Lib.hid (belowT B1.out hb1)
  clear B1 hb1
  go_wp2
  go_ret
  exact ⟨rfl, HB.out⟩

theorem back_long (O : Own18) (n : Nt) (s : Nat) (ba : Option Addr) (k cap : Nat) (w : World) (h : (300 : Int) < k) :
    Calls Try.prog 4 #[nv n, .int .u32 s, .slice ba k cap] w fun e w' => e = .returned (.bool true) ∧ Below w.heap.size w w' := by
  have AW := Lib.hid fun w => awake_any O w
  obtain ⟨x, y, z⟩ := n
  simp only [nv]
  have B1 := Lib.hid (below1 w (.cells #[.int .i64 x, .int .i64 y, .int .i64 z] 23))
  go_enter Try.func4, Try.ntmps4
  go_wp2_with fail
  refine (AW.out _).mono ?_; rintro e w1 ⟨rfl, hb1⟩
  have HB := Lib.hid (belowT B1.out hb1)
  clear B1 hb1
  go_wp2
  go_ret
  exact ⟨rfl, HB.out⟩

/-- The operations of a drawn region, as the translation has them. -/
def says7 : Array Oper := #[
  { dst := some 45, op := .load 23 (.tmp 3), type := 23, pos := "law.go:32", after := #[], guard := none },
  { dst := some 46, op := .call { callee := .value (.func 11), args := #[.tmp 45], argTypes := #[23] }, type := 4, pos := "law.go:32", after := #[{ on := 0, ground := .data }], guard := none },
  { dst := some 47, op := .load 23 (.tmp 3), type := 23, pos := "law.go:32", after := #[], guard := none },
  { dst := some 48, op := .call { callee := .value (.func 12), args := #[.tmp 47], argTypes := #[23] }, type := 4, pos := "law.go:32", after := #[{ on := 2, ground := .data }, { on := 1, ground := .chain }], guard := none },
  { dst := some 49, op := .binOp .eql 4 (.tmp 46) (.tmp 48) 4, type := 4, pos := "law.go:32", after := #[{ on := 1, ground := .data }, { on := 3, ground := .data }], guard := none },
  { dst := some 50, op := .move (.tmp 49), type := 4, pos := "law.go:32", after := #[{ on := 4, ground := .data }, { on := 3, ground := .chain }], guard := none },
  { dst := some 51, op := .move (.tmp 7), type := 25, pos := "law.go:32", after := #[{ on := 5, ground := .guard }], guard := some (5, true) },
  { dst := some 52, op := .convert 25 9 (.tmp 51), type := 9, pos := "law.go:32", after := #[{ on := 6, ground := .data }, { on := 5, ground := .guard }], guard := some (5, true) },
  { dst := some 53, op := .move (.tmp 9), type := 25, pos := "law.go:32", after := #[{ on := 5, ground := .guard }], guard := some (5, true) },
  { dst := some 54, op := .convert 25 9 (.tmp 53), type := 9, pos := "law.go:32", after := #[{ on := 8, ground := .data }, { on := 5, ground := .guard }], guard := some (5, true) },
  { dst := some 55, op := .binOp .eql 9 (.tmp 52) (.tmp 54) 9, type := 4, pos := "law.go:32", after := #[{ on := 7, ground := .data }, { on := 9, ground := .data }, { on := 5, ground := .guard }], guard := some (5, true) },
  { dst := some 56, op := .pick (.tmp 50) (.tmp 55) (.const (.bool false)), type := 4, pos := "law.go:32", after := #[{ on := 5, ground := .data }, { on := 10, ground := .data }], guard := none },
  { dst := some 57, op := .move (.tmp 56), type := 4, pos := "law.go:32", after := #[{ on := 11, ground := .data }, { on := 5, ground := .chain }], guard := none },
  { dst := some 58, op := .move (.tmp 8), type := 27, pos := "law.go:32", after := #[{ on := 12, ground := .guard }], guard := some (12, true) },
  { dst := some 59, op := .move (.tmp 10), type := 27, pos := "law.go:32", after := #[{ on := 12, ground := .guard }], guard := some (12, true) },
  { dst := some 60, op := .binOp .eql 27 (.tmp 58) (.tmp 59) 27, type := 4, pos := "law.go:32", after := #[{ on := 13, ground := .data }, { on := 14, ground := .data }, { on := 12, ground := .guard }], guard := some (12, true) },
  { dst := some 61, op := .pick (.tmp 57) (.tmp 60) (.const (.bool false)), type := 4, pos := "law.go:32", after := #[{ on := 12, ground := .data }, { on := 15, ground := .data }], guard := none },
  { dst := some 62, op := .move (.tmp 61), type := 4, pos := "law.go:32", after := #[{ on := 16, ground := .data }, { on := 12, ground := .chain }], guard := none },
  { dst := some 63, op := .load 23 (.tmp 11), type := 23, pos := "law.go:32", after := #[{ on := 17, ground := .guard }], guard := some (17, true) },
  { dst := some 64, op := .load 23 (.tmp 14), type := 23, pos := "law.go:32", after := #[{ on := 17, ground := .guard }], guard := some (17, true) },
  { dst := some 65, op := .binOp .eql 23 (.tmp 63) (.tmp 64) 23, type := 4, pos := "law.go:32", after := #[{ on := 18, ground := .data }, { on := 19, ground := .data }, { on := 17, ground := .guard }], guard := some (17, true) },
  { dst := some 66, op := .pick (.tmp 62) (.tmp 65) (.const (.bool false)), type := 4, pos := "law.go:32", after := #[{ on := 17, ground := .data }, { on := 20, ground := .data }], guard := none },
  { dst := some 67, op := .move (.tmp 66), type := 4, pos := "law.go:32", after := #[{ on := 21, ground := .data }, { on := 17, ground := .chain }], guard := none },
  { dst := some 68, op := .move (.tmp 12), type := 24, pos := "law.go:32", after := #[{ on := 22, ground := .guard }], guard := some (22, true) },
  { dst := some 69, op := .move (.tmp 15), type := 24, pos := "law.go:32", after := #[{ on := 22, ground := .guard }], guard := some (22, true) },
  { dst := some 70, op := .binOp .eql 24 (.tmp 68) (.tmp 69) 24, type := 4, pos := "law.go:32", after := #[{ on := 23, ground := .data }, { on := 24, ground := .data }, { on := 22, ground := .guard }], guard := some (22, true) },
  { dst := some 71, op := .pick (.tmp 67) (.tmp 70) (.const (.bool false)), type := 4, pos := "law.go:32", after := #[{ on := 22, ground := .data }, { on := 25, ground := .data }], guard := none },
  { dst := some 72, op := .move (.tmp 71), type := 4, pos := "law.go:32", after := #[{ on := 26, ground := .data }, { on := 22, ground := .chain }], guard := none },
  { dst := some 73, op := .move (.tmp 13), type := 27, pos := "law.go:32", after := #[{ on := 27, ground := .guard }], guard := some (27, true) },
  { dst := some 74, op := .move (.tmp 16), type := 27, pos := "law.go:32", after := #[{ on := 27, ground := .guard }], guard := some (27, true) },
  { dst := some 75, op := .binOp .eql 27 (.tmp 73) (.tmp 74) 27, type := 4, pos := "law.go:32", after := #[{ on := 28, ground := .data }, { on := 29, ground := .data }, { on := 27, ground := .guard }], guard := some (27, true) },
  { dst := some 76, op := .pick (.tmp 72) (.tmp 75) (.const (.bool false)), type := 4, pos := "law.go:32", after := #[{ on := 27, ground := .data }, { on := 30, ground := .data }], guard := none },
  { dst := some 77, op := .move (.tmp 76), type := 4, pos := "law.go:32", after := #[{ on := 31, ground := .data }, { on := 27, ground := .chain }], guard := none },
  { dst := some 78, op := .move (.tmp 2), type := 25, pos := "law.go:32", after := #[{ on := 32, ground := .guard }], guard := some (32, true) },
  { dst := some 79, op := .call { callee := .value (.func 13), args := #[.tmp 78], argTypes := #[25] }, type := 24, pos := "law.go:32", after := #[{ on := 33, ground := .data }, { on := 32, ground := .chain }, { on := 32, ground := .guard }], guard := some (32, true) },
  { dst := some 80, op := .move (.tmp 2), type := 25, pos := "law.go:32", after := #[{ on := 32, ground := .guard }], guard := some (32, true) },
  { dst := some 81, op := .call { callee := .value (.func 14), args := #[.tmp 80], argTypes := #[25] }, type := 24, pos := "law.go:32", after := #[{ on := 35, ground := .data }, { on := 34, ground := .chain }, { on := 32, ground := .guard }], guard := some (32, true) },
  { dst := some 82, op := .binOp .eql 24 (.tmp 79) (.tmp 81) 24, type := 4, pos := "law.go:32", after := #[{ on := 34, ground := .data }, { on := 36, ground := .data }, { on := 32, ground := .guard }], guard := some (32, true) },
  { dst := some 83, op := .pick (.tmp 77) (.tmp 82) (.const (.bool false)), type := 4, pos := "law.go:32", after := #[{ on := 32, ground := .data }, { on := 37, ground := .data }], guard := none },
  { dst := some 84, op := .move (.tmp 83), type := 4, pos := "law.go:32", after := #[{ on := 38, ground := .data }, { on := 36, ground := .chain }], guard := none },
  { dst := some 85, op := .call { callee := .value (.func 6), args := #[], argTypes := #[] }, type := 4, pos := "law.go:32", after := #[{ on := 39, ground := .chain }, { on := 39, ground := .guard }], guard := some (39, true) },
  { dst := some 86, op := .pick (.tmp 84) (.tmp 85) (.const (.bool false)), type := 4, pos := "law.go:32", after := #[{ on := 39, ground := .data }, { on := 40, ground := .data }], guard := none },
  { dst := some 6, op := .assign (.tmp 86), type := 4, pos := "law.go:32", after := #[{ on := 41, ground := .data }, { on := 40, ground := .chain }, { on := 0, ground := .phase }, { on := 1, ground := .phase }, { on := 2, ground := .phase }, { on := 3, ground := .phase }, { on := 4, ground := .phase }, { on := 5, ground := .phase }, { on := 6, ground := .phase }, { on := 7, ground := .phase }, { on := 8, ground := .phase }, { on := 9, ground := .phase }, { on := 10, ground := .phase }, { on := 11, ground := .phase }, { on := 12, ground := .phase }, { on := 13, ground := .phase }, { on := 14, ground := .phase }, { on := 15, ground := .phase }, { on := 16, ground := .phase }, { on := 17, ground := .phase }, { on := 18, ground := .phase }, { on := 19, ground := .phase }, { on := 20, ground := .phase }, { on := 21, ground := .phase }, { on := 22, ground := .phase }, { on := 23, ground := .phase }, { on := 24, ground := .phase }, { on := 25, ground := .phase }, { on := 26, ground := .phase }, { on := 27, ground := .phase }, { on := 28, ground := .phase }, { on := 29, ground := .phase }, { on := 30, ground := .phase }, { on := 31, ground := .phase }, { on := 32, ground := .phase }, { on := 33, ground := .phase }, { on := 34, ground := .phase }, { on := 35, ground := .phase }, { on := 36, ground := .phase }, { on := 37, ground := .phase }, { on := 38, ground := .phase }, { on := 39, ground := .phase }, { on := 40, ground := .phase }, { on := 41, ground := .phase }], guard := none }]
theorem says7_plain : Region.noSelect says7 = true := by kernel_rfl

set_option maxHeartbeats 8000000 in
set_option maxRecDepth 100000 in
theorem says_core (O : Own18) (n : Nt) (s : Nat) (hs : s < 4294967296) (ba : Option Addr) (cap : Nat) (l : List UInt8) (w : World) (C : Came w ba cap l) (h : ¬ (300 : Int) < l.length) :
    Calls Try.prog 3 #[nv n, .int .u32 s, .slice ba l.length cap] w fun e w' => e = .returned (.bool true) ∧ Below w.heap.size w w' := by
  have AW := Lib.hid fun w => awake_any O w
  have OB := Lib.hid fun w => O.bytes n s w hs
  have RB := Lib.hid fun w => Ref18.Bytes_any n s w hs
  have OR := Lib.hid fun w => O.right n w
  have RR := Lib.hid fun w => Ref18.Right_any n w
  have OD := Lib.hid fun w (C : Came w ba cap l) => O.read w ba cap l C (by omega)
  have RD := Lib.hid fun w (C : Came w ba cap l) => Ref18.Read_came C
  have OQ := Lib.hid fun w (C : Came w ba cap l) => O.seq w ba cap l C (by omega)
  have RQ := Lib.hid fun w (C : Came w ba cap l) => Ref18.Seq_came C
  generalize bytesN n s = bt at *
  obtain ⟨out, er⟩ := bt
  generalize rightN n = rt at *
  generalize readN l = rr at *
  obtain ⟨⟨x', y', z'⟩, t, re⟩ := rr
  obtain ⟨x, y, z⟩ := n
  simp only [nv] at OB RB OR RR OD RD OQ RQ ⊢
  have B1 := Lib.hid (below1 w (.cells #[.int .i64 x, .int .i64 y, .int .i64 z] 23))
  have H1 := Lib.hid (hasl w [.int .i64 x, .int .i64 y, .int .i64 z] 23)
  have HC := Lib.hid C
  clear C
  go_enter Try.func3, Try.ntmps3
  go_wp2_with fail
  refine (OB.out _).mono ?_; rintro e w1 ⟨b1, c1, rfl, U, hb1⟩
  have HB1 := Lib.hid (belowT B1.out hb1)
  have H2 := Lib.hid (H1.out.keep hb1)
  have q0 := H2.out.at 0 rfl
  have q1 := H2.out.at 1 rfl
  have q2 := H2.out.at 2 rfl
  have U1 := Lib.hid U
  clear H1 B1 hb1 OB U
  go_wp2_with fail
  refine (RB.out _).mono ?_; rintro e w2 ⟨b2, c2, rfl, U, hb2⟩
  have HB2 := Lib.hid (belowT HB1.out hb2)
  have H3 := Lib.hid (H2.out.keep hb2)
  have U1b := Lib.hid (U1.out.keep hb2)
  have U2 := Lib.hid U
  clear H2 HB1 hb2 RB U1 q0 q1 q2 U
  go_wp2_with fail
  refine (OD.out w2 (HC.out.keep HB2.out)).mono ?_; rintro e w3 ⟨rfl, hb3⟩
  have hb3a := belowT hb3 (below1 w3 (.cells #[.int .i64 x', .int .i64 y', .int .i64 z'] 23))
  have HB3 := Lib.hid (belowT HB2.out hb3a)
  have H4 := Lib.hid (H3.out.keep hb3a)
  have U1c := Lib.hid (U1b.out.keep hb3a)
  have U2b := Lib.hid (U2.out.keep hb3a)
  have K1 := Lib.hid (hasl w3 [.int .i64 x', .int .i64 y', .int .i64 z'] 23)
  clear HB2 H3 U1b U2 hb3 hb3a OD
  go_wp2_with fail
  refine (RD.out _ (HC.out.keep HB3.out)).mono ?_; rintro e w4 ⟨rfl, hb4⟩
  have hb4a := belowT hb4 (below1 w4 (.cells #[.int .i64 x', .int .i64 y', .int .i64 z'] 23))
  have HB4 := Lib.hid (belowT HB3.out hb4a)
  have H5 := H4.out.keep hb4a
  have U1d := U1c.out.keep hb4a
  have U2c := U2b.out.keep hb4a
  have K2 := K1.out.keep hb4a
  have K3 := hasl w4 [.int .i64 x', .int .i64 y', .int .i64 z'] 23
  clear HB3 H4 U1c U2b hb4 hb4a RD K1
  go_upto_region 7 with fail
  obtain ⟨W0, hW0⟩ : ∃ W0, W0 = w4.alloc (.cells #[.int .i64 x', .int .i64 y', .int .i64 z'] 23) := ⟨_, rfl⟩
  rw [← hW0]
  rw [← hW0] at HB4 H5 U1d U2c K2 K3
  clear hW0
  have rq0 : ∀ w', Below W0.heap.size W0 w' → w'.cell? ⟨w.heap.size, 0, none⟩ = some (.int .i64 x) := fun w' h => keepc h (H5.at 0 rfl)
  have rq1 : ∀ w', Below W0.heap.size W0 w' → w'.cell? ⟨w.heap.size, 1, none⟩ = some (.int .i64 y) := fun w' h => keepc h (H5.at 1 rfl)
  have rq2 : ∀ w', Below W0.heap.size W0 w' → w'.cell? ⟨w.heap.size, 2, none⟩ = some (.int .i64 z) := fun w' h => keepc h (H5.at 2 rfl)
  have rp0 : ∀ w', Below W0.heap.size W0 w' → w'.cell? ⟨w3.heap.size, 0, none⟩ = some (.int .i64 x') := fun w' h => keepc h (K2.at 0 rfl)
  have rp1 : ∀ w', Below W0.heap.size W0 w' → w'.cell? ⟨w3.heap.size, 1, none⟩ = some (.int .i64 y') := fun w' h => keepc h (K2.at 1 rfl)
  have rp2 : ∀ w', Below W0.heap.size W0 w' → w'.cell? ⟨w3.heap.size, 2, none⟩ = some (.int .i64 z') := fun w' h => keepc h (K2.at 2 rfl)
  have rm0 : ∀ w', Below W0.heap.size W0 w' → w'.cell? ⟨w4.heap.size, 0, none⟩ = some (.int .i64 x') := fun w' h => keepc h (K3.at 0 rfl)
  have rm1 : ∀ w', Below W0.heap.size W0 w' → w'.cell? ⟨w4.heap.size, 1, none⟩ = some (.int .i64 y') := fun w' h => keepc h (K3.at 1 rfl)
  have rm2 : ∀ w', Below W0.heap.size W0 w' → w'.cell? ⟨w4.heap.size, 2, none⟩ = some (.int .i64 z') := fun w' h => keepc h (K3.at 2 rfl)
  have rs : ∀ w', Below W0.heap.size W0 w' → (convert 25 9 (.slice b1 out.length c1)).run Try.prog w' = .ok (.string ⟨out.toArray⟩) w' := fun w' h => (U1d.keep h).string
  have rt2 : ∀ w', Below W0.heap.size W0 w' → (convert 25 9 (.slice b2 out.length c2)).run Try.prog w' = .ok (.string ⟨out.toArray⟩) w' := fun w' h => (U2c.keep h).string
  generalize (⟨out.toArray⟩ : ByteArray) = st at *
  clear H5 U1d U2c K2 K3
  change (Code.region 7 says7 true).wp Try.prog _ _ _
  refine wp_region_noPanic ?_
  refine wp_region_held_drew (S := fun w' => Below W0.heap.size W0 w') (by kernel_rfl) ((Below.refl _ _).drew) (fun hHeld => ?_)
  refine wpAnyH_take (i := 0) (oi := ({ dst := some 45, op := .load 23 (.tmp 3), type := 23, pos := "law.go:32", after := #[], guard := none } : Oper)) (v := ?vs7_0) rfl says7_plain (by as_aux_lemma => kernel_rfl) (by as_aux_lemma => kernel_rfl) (fun _ _ _ h => h) (Or.inl ⟨by rfl, ?ys7_0⟩) (by assumption) ?rs7_0
  case ys7_0 => (intro w hSw; (try dsimp only at hSw); go_simp; try with_reducible rfl)
  try simp only [Act.put, List.setIfInBounds_toArray, List.set_cons_zero, List.set_cons_succ]
  refine wpAnyH_take (i := 2) (oi := ({ dst := some 47, op := .load 23 (.tmp 3), type := 23, pos := "law.go:32", after := #[], guard := none } : Oper)) (v := ?vs7_2) rfl says7_plain (by as_aux_lemma => kernel_rfl) (by as_aux_lemma => kernel_rfl) (fun _ _ _ h => h) (Or.inl ⟨by rfl, ?ys7_2⟩) (by assumption) ?rs7_2
  case ys7_2 => (intro w hSw; (try dsimp only at hSw); go_simp; try with_reducible rfl)
  try simp only [Act.put, List.setIfInBounds_toArray, List.set_cons_zero, List.set_cons_succ]
  refine wpAnyH_ready (rs := [1]) (by as_aux_lemma => kernel_rfl) (by simp) ?_
  refine AllReadyH.cons (o := ({ dst := some 46, op := .call { callee := .value (.func 11), args := #[.tmp 45], argTypes := #[23] }, type := 4, pos := "law.go:32", after := #[{ on := 0, ground := .data }], guard := none } : Oper)) rfl (fun KK hK => ?_) AllReadyH.nil
  rw [if_pos (by rfl)]
  go_simp
  go_at_call 11; refine (OR.out _).mono ?_; rintro e w5 ⟨rfl, hb5⟩
  go_wp2_with fail
  refine hK.out _ _ ?_ (fun hHeld5 => ?_)
  · exact belowT (by assumption) hb5
  clear hK KK hb5
  try simp only [Act.put, List.setIfInBounds_toArray, List.set_cons_zero, List.set_cons_succ]
  refine wpAnyH_ready (rs := [3]) (by as_aux_lemma => kernel_rfl) (by simp) ?_
  refine AllReadyH.cons (o := ({ dst := some 48, op := .call { callee := .value (.func 12), args := #[.tmp 47], argTypes := #[23] }, type := 4, pos := "law.go:32", after := #[{ on := 2, ground := .data }, { on := 1, ground := .chain }], guard := none } : Oper)) rfl (fun KK hK => ?_) AllReadyH.nil
  rw [if_pos (by rfl)]
  go_simp
  go_at_call 12; refine (RR.out _).mono ?_; rintro e w6 ⟨rfl, hb6⟩
  go_wp2_with fail
  refine hK.out _ _ ?_ (fun hHeld6 => ?_)
  · exact belowT (by assumption) hb6
  clear hK KK hb6 hHeld5
  try simp only [Act.put, List.setIfInBounds_toArray, List.set_cons_zero, List.set_cons_succ]
  refine wpAnyH_take (i := 4) (oi := ({ dst := some 49, op := .binOp .eql 4 (.tmp 46) (.tmp 48) 4, type := 4, pos := "law.go:32", after := #[{ on := 1, ground := .data }, { on := 3, ground := .data }], guard := none } : Oper)) (v := ?vs7_4) rfl says7_plain (by as_aux_lemma => kernel_rfl) (by as_aux_lemma => kernel_rfl) (fun _ _ _ h => h) (Or.inl ⟨by rfl, ?ys7_4⟩) (by assumption) ?rs7_4
  case ys7_4 => (intro w hSw; (try dsimp only at hSw); go_simp; try with_reducible rfl)
  try simp only [Act.put, List.setIfInBounds_toArray, List.set_cons_zero, List.set_cons_succ]
  refine wpAnyH_take (i := 5) (oi := ({ dst := some 50, op := .move (.tmp 49), type := 4, pos := "law.go:32", after := #[{ on := 4, ground := .data }, { on := 3, ground := .chain }], guard := none } : Oper)) (v := ?vs7_5) rfl says7_plain (by as_aux_lemma => kernel_rfl) (by as_aux_lemma => kernel_rfl) (fun _ _ _ h => h) (Or.inl ⟨by rfl, ?ys7_5⟩) (by assumption) ?rs7_5
  case ys7_5 => (intro w hSw; (try dsimp only at hSw); go_simp; try with_reducible rfl)
  try simp only [Act.put, List.setIfInBounds_toArray, List.set_cons_zero, List.set_cons_succ]
  refine wpAnyH_take (i := 6) (oi := ({ dst := some 51, op := .move (.tmp 7), type := 25, pos := "law.go:32", after := #[{ on := 5, ground := .guard }], guard := some (5, true) } : Oper)) (v := ?vs7_6) rfl says7_plain (by as_aux_lemma => kernel_rfl) (by as_aux_lemma => kernel_rfl) (fun _ _ _ h => h) (Or.inl ⟨by rfl, ?ys7_6⟩) (by assumption) ?rs7_6
  case ys7_6 => (intro w hSw; (try dsimp only at hSw); go_simp; try with_reducible rfl)
  try simp only [Act.put, List.setIfInBounds_toArray, List.set_cons_zero, List.set_cons_succ]
  refine wpAnyH_take (i := 7) (oi := ({ dst := some 52, op := .convert 25 9 (.tmp 51), type := 9, pos := "law.go:32", after := #[{ on := 6, ground := .data }, { on := 5, ground := .guard }], guard := some (5, true) } : Oper)) (v := ?vs7_7) rfl says7_plain (by as_aux_lemma => kernel_rfl) (by as_aux_lemma => kernel_rfl) (fun _ _ _ h => h) (Or.inl ⟨by rfl, ?ys7_7⟩) (by assumption) ?rs7_7
  case ys7_7 => (intro w hSw; (try dsimp only at hSw); go_simp; try with_reducible rfl)
  try simp only [Act.put, List.setIfInBounds_toArray, List.set_cons_zero, List.set_cons_succ]
  refine wpAnyH_take (i := 8) (oi := ({ dst := some 53, op := .move (.tmp 9), type := 25, pos := "law.go:32", after := #[{ on := 5, ground := .guard }], guard := some (5, true) } : Oper)) (v := ?vs7_8) rfl says7_plain (by as_aux_lemma => kernel_rfl) (by as_aux_lemma => kernel_rfl) (fun _ _ _ h => h) (Or.inl ⟨by rfl, ?ys7_8⟩) (by assumption) ?rs7_8
  case ys7_8 => (intro w hSw; (try dsimp only at hSw); go_simp; try with_reducible rfl)
  try simp only [Act.put, List.setIfInBounds_toArray, List.set_cons_zero, List.set_cons_succ]
  refine wpAnyH_take (i := 9) (oi := ({ dst := some 54, op := .convert 25 9 (.tmp 53), type := 9, pos := "law.go:32", after := #[{ on := 8, ground := .data }, { on := 5, ground := .guard }], guard := some (5, true) } : Oper)) (v := ?vs7_9) rfl says7_plain (by as_aux_lemma => kernel_rfl) (by as_aux_lemma => kernel_rfl) (fun _ _ _ h => h) (Or.inl ⟨by rfl, ?ys7_9⟩) (by assumption) ?rs7_9
  case ys7_9 => (intro w hSw; (try dsimp only at hSw); go_simp; try with_reducible rfl)
  try simp only [Act.put, List.setIfInBounds_toArray, List.set_cons_zero, List.set_cons_succ]
  refine wpAnyH_take (i := 10) (oi := ({ dst := some 55, op := .binOp .eql 9 (.tmp 52) (.tmp 54) 9, type := 4, pos := "law.go:32", after := #[{ on := 7, ground := .data }, { on := 9, ground := .data }, { on := 5, ground := .guard }], guard := some (5, true) } : Oper)) (v := ?vs7_10) rfl says7_plain (by as_aux_lemma => kernel_rfl) (by as_aux_lemma => kernel_rfl) (fun _ _ _ h => h) (Or.inl ⟨by rfl, ?ys7_10⟩) (by assumption) ?rs7_10
  case ys7_10 => (intro w hSw; (try dsimp only at hSw); go_simp; try with_reducible rfl)
  try simp only [Act.put, List.setIfInBounds_toArray, List.set_cons_zero, List.set_cons_succ]
  refine wpAnyH_take (i := 11) (oi := ({ dst := some 56, op := .pick (.tmp 50) (.tmp 55) (.const (.bool false)), type := 4, pos := "law.go:32", after := #[{ on := 5, ground := .data }, { on := 10, ground := .data }], guard := none } : Oper)) (v := ?vs7_11) rfl says7_plain (by as_aux_lemma => kernel_rfl) (by as_aux_lemma => kernel_rfl) (fun _ _ _ h => h) (Or.inl ⟨by rfl, ?ys7_11⟩) (by assumption) ?rs7_11
  case ys7_11 => (intro w hSw; (try dsimp only at hSw); go_simp; try with_reducible rfl)
  try simp only [Act.put, List.setIfInBounds_toArray, List.set_cons_zero, List.set_cons_succ]
  refine wpAnyH_take (i := 12) (oi := ({ dst := some 57, op := .move (.tmp 56), type := 4, pos := "law.go:32", after := #[{ on := 11, ground := .data }, { on := 5, ground := .chain }], guard := none } : Oper)) (v := ?vs7_12) rfl says7_plain (by as_aux_lemma => kernel_rfl) (by as_aux_lemma => kernel_rfl) (fun _ _ _ h => h) (Or.inl ⟨by rfl, ?ys7_12⟩) (by assumption) ?rs7_12
  case ys7_12 => (intro w hSw; (try dsimp only at hSw); go_simp; try with_reducible rfl)
  try simp only [Act.put, List.setIfInBounds_toArray, List.set_cons_zero, List.set_cons_succ]
  refine wpAnyH_take (i := 13) (oi := ({ dst := some 58, op := .move (.tmp 8), type := 27, pos := "law.go:32", after := #[{ on := 12, ground := .guard }], guard := some (12, true) } : Oper)) (v := ?vs7_13) rfl says7_plain (by as_aux_lemma => kernel_rfl) (by as_aux_lemma => kernel_rfl) (fun _ _ _ h => h) (Or.inl ⟨by rfl, ?ys7_13⟩) (by assumption) ?rs7_13
  case ys7_13 => (intro w hSw; (try dsimp only at hSw); go_simp; try with_reducible rfl)
  try simp only [Act.put, List.setIfInBounds_toArray, List.set_cons_zero, List.set_cons_succ]
  refine wpAnyH_take (i := 14) (oi := ({ dst := some 59, op := .move (.tmp 10), type := 27, pos := "law.go:32", after := #[{ on := 12, ground := .guard }], guard := some (12, true) } : Oper)) (v := ?vs7_14) rfl says7_plain (by as_aux_lemma => kernel_rfl) (by as_aux_lemma => kernel_rfl) (fun _ _ _ h => h) (Or.inl ⟨by rfl, ?ys7_14⟩) (by assumption) ?rs7_14
  case ys7_14 => (intro w hSw; (try dsimp only at hSw); go_simp; try with_reducible rfl)
  try simp only [Act.put, List.setIfInBounds_toArray, List.set_cons_zero, List.set_cons_succ]
  refine wpAnyH_take (i := 15) (oi := ({ dst := some 60, op := .binOp .eql 27 (.tmp 58) (.tmp 59) 27, type := 4, pos := "law.go:32", after := #[{ on := 13, ground := .data }, { on := 14, ground := .data }, { on := 12, ground := .guard }], guard := some (12, true) } : Oper)) (v := ?vs7_15) rfl says7_plain (by as_aux_lemma => kernel_rfl) (by as_aux_lemma => kernel_rfl) (fun _ _ _ h => h) (Or.inl ⟨by rfl, ?ys7_15⟩) (by assumption) ?rs7_15
  case ys7_15 => (intro w hSw; (try dsimp only at hSw); go_simp; try with_reducible rfl)
  try simp only [Act.put, List.setIfInBounds_toArray, List.set_cons_zero, List.set_cons_succ]
  refine wpAnyH_take (i := 16) (oi := ({ dst := some 61, op := .pick (.tmp 57) (.tmp 60) (.const (.bool false)), type := 4, pos := "law.go:32", after := #[{ on := 12, ground := .data }, { on := 15, ground := .data }], guard := none } : Oper)) (v := ?vs7_16) rfl says7_plain (by as_aux_lemma => kernel_rfl) (by as_aux_lemma => kernel_rfl) (fun _ _ _ h => h) (Or.inl ⟨by rfl, ?ys7_16⟩) (by assumption) ?rs7_16
  case ys7_16 => (intro w hSw; (try dsimp only at hSw); go_simp; try with_reducible rfl)
  try simp only [Act.put, List.setIfInBounds_toArray, List.set_cons_zero, List.set_cons_succ]
  refine wpAnyH_take (i := 17) (oi := ({ dst := some 62, op := .move (.tmp 61), type := 4, pos := "law.go:32", after := #[{ on := 16, ground := .data }, { on := 12, ground := .chain }], guard := none } : Oper)) (v := ?vs7_17) rfl says7_plain (by as_aux_lemma => kernel_rfl) (by as_aux_lemma => kernel_rfl) (fun _ _ _ h => h) (Or.inl ⟨by rfl, ?ys7_17⟩) (by assumption) ?rs7_17
  case ys7_17 => (intro w hSw; (try dsimp only at hSw); go_simp; try with_reducible rfl)
  try simp only [Act.put, List.setIfInBounds_toArray, List.set_cons_zero, List.set_cons_succ]
  refine wpAnyH_take (i := 18) (oi := ({ dst := some 63, op := .load 23 (.tmp 11), type := 23, pos := "law.go:32", after := #[{ on := 17, ground := .guard }], guard := some (17, true) } : Oper)) (v := ?vs7_18) rfl says7_plain (by as_aux_lemma => kernel_rfl) (by as_aux_lemma => kernel_rfl) (fun _ _ _ h => h) (Or.inl ⟨by rfl, ?ys7_18⟩) (by assumption) ?rs7_18
  case ys7_18 => (intro w hSw; (try dsimp only at hSw); go_simp; try with_reducible rfl)
  try simp only [Act.put, List.setIfInBounds_toArray, List.set_cons_zero, List.set_cons_succ]
  refine wpAnyH_take (i := 19) (oi := ({ dst := some 64, op := .load 23 (.tmp 14), type := 23, pos := "law.go:32", after := #[{ on := 17, ground := .guard }], guard := some (17, true) } : Oper)) (v := ?vs7_19) rfl says7_plain (by as_aux_lemma => kernel_rfl) (by as_aux_lemma => kernel_rfl) (fun _ _ _ h => h) (Or.inl ⟨by rfl, ?ys7_19⟩) (by assumption) ?rs7_19
  case ys7_19 => (intro w hSw; (try dsimp only at hSw); go_simp; try with_reducible rfl)
  try simp only [Act.put, List.setIfInBounds_toArray, List.set_cons_zero, List.set_cons_succ]
  refine wpAnyH_take (i := 20) (oi := ({ dst := some 65, op := .binOp .eql 23 (.tmp 63) (.tmp 64) 23, type := 4, pos := "law.go:32", after := #[{ on := 18, ground := .data }, { on := 19, ground := .data }, { on := 17, ground := .guard }], guard := some (17, true) } : Oper)) (v := ?vs7_20) rfl says7_plain (by as_aux_lemma => kernel_rfl) (by as_aux_lemma => kernel_rfl) (fun _ _ _ h => h) (Or.inl ⟨by rfl, ?ys7_20⟩) (by assumption) ?rs7_20
  case ys7_20 => (intro w hSw; (try dsimp only at hSw); go_simp; try with_reducible rfl)
  try simp only [Act.put, List.setIfInBounds_toArray, List.set_cons_zero, List.set_cons_succ]
  refine wpAnyH_take (i := 21) (oi := ({ dst := some 66, op := .pick (.tmp 62) (.tmp 65) (.const (.bool false)), type := 4, pos := "law.go:32", after := #[{ on := 17, ground := .data }, { on := 20, ground := .data }], guard := none } : Oper)) (v := ?vs7_21) rfl says7_plain (by as_aux_lemma => kernel_rfl) (by as_aux_lemma => kernel_rfl) (fun _ _ _ h => h) (Or.inl ⟨by rfl, ?ys7_21⟩) (by assumption) ?rs7_21
  case ys7_21 => (intro w hSw; (try dsimp only at hSw); go_simp; try with_reducible rfl)
  try simp only [Act.put, List.setIfInBounds_toArray, List.set_cons_zero, List.set_cons_succ]
  refine wpAnyH_take (i := 22) (oi := ({ dst := some 67, op := .move (.tmp 66), type := 4, pos := "law.go:32", after := #[{ on := 21, ground := .data }, { on := 17, ground := .chain }], guard := none } : Oper)) (v := ?vs7_22) rfl says7_plain (by as_aux_lemma => kernel_rfl) (by as_aux_lemma => kernel_rfl) (fun _ _ _ h => h) (Or.inl ⟨by rfl, ?ys7_22⟩) (by assumption) ?rs7_22
  case ys7_22 => (intro w hSw; (try dsimp only at hSw); go_simp; try with_reducible rfl)
  try simp only [Act.put, List.setIfInBounds_toArray, List.set_cons_zero, List.set_cons_succ]
  refine wpAnyH_take (i := 23) (oi := ({ dst := some 68, op := .move (.tmp 12), type := 24, pos := "law.go:32", after := #[{ on := 22, ground := .guard }], guard := some (22, true) } : Oper)) (v := ?vs7_23) rfl says7_plain (by as_aux_lemma => kernel_rfl) (by as_aux_lemma => kernel_rfl) (fun _ _ _ h => h) (Or.inl ⟨by rfl, ?ys7_23⟩) (by assumption) ?rs7_23
  case ys7_23 => (intro w hSw; (try dsimp only at hSw); go_simp; try with_reducible rfl)
  try simp only [Act.put, List.setIfInBounds_toArray, List.set_cons_zero, List.set_cons_succ]
  refine wpAnyH_take (i := 24) (oi := ({ dst := some 69, op := .move (.tmp 15), type := 24, pos := "law.go:32", after := #[{ on := 22, ground := .guard }], guard := some (22, true) } : Oper)) (v := ?vs7_24) rfl says7_plain (by as_aux_lemma => kernel_rfl) (by as_aux_lemma => kernel_rfl) (fun _ _ _ h => h) (Or.inl ⟨by rfl, ?ys7_24⟩) (by assumption) ?rs7_24
  case ys7_24 => (intro w hSw; (try dsimp only at hSw); go_simp; try with_reducible rfl)
  try simp only [Act.put, List.setIfInBounds_toArray, List.set_cons_zero, List.set_cons_succ]
  refine wpAnyH_take (i := 25) (oi := ({ dst := some 70, op := .binOp .eql 24 (.tmp 68) (.tmp 69) 24, type := 4, pos := "law.go:32", after := #[{ on := 23, ground := .data }, { on := 24, ground := .data }, { on := 22, ground := .guard }], guard := some (22, true) } : Oper)) (v := ?vs7_25) rfl says7_plain (by as_aux_lemma => kernel_rfl) (by as_aux_lemma => kernel_rfl) (fun _ _ _ h => h) (Or.inl ⟨by rfl, ?ys7_25⟩) (by assumption) ?rs7_25
  case ys7_25 => (intro w hSw; (try dsimp only at hSw); go_simp; try with_reducible rfl)
  try simp only [Act.put, List.setIfInBounds_toArray, List.set_cons_zero, List.set_cons_succ]
  refine wpAnyH_take (i := 26) (oi := ({ dst := some 71, op := .pick (.tmp 67) (.tmp 70) (.const (.bool false)), type := 4, pos := "law.go:32", after := #[{ on := 22, ground := .data }, { on := 25, ground := .data }], guard := none } : Oper)) (v := ?vs7_26) rfl says7_plain (by as_aux_lemma => kernel_rfl) (by as_aux_lemma => kernel_rfl) (fun _ _ _ h => h) (Or.inl ⟨by rfl, ?ys7_26⟩) (by assumption) ?rs7_26
  case ys7_26 => (intro w hSw; (try dsimp only at hSw); go_simp; try with_reducible rfl)
  try simp only [Act.put, List.setIfInBounds_toArray, List.set_cons_zero, List.set_cons_succ]
  refine wpAnyH_take (i := 27) (oi := ({ dst := some 72, op := .move (.tmp 71), type := 4, pos := "law.go:32", after := #[{ on := 26, ground := .data }, { on := 22, ground := .chain }], guard := none } : Oper)) (v := ?vs7_27) rfl says7_plain (by as_aux_lemma => kernel_rfl) (by as_aux_lemma => kernel_rfl) (fun _ _ _ h => h) (Or.inl ⟨by rfl, ?ys7_27⟩) (by assumption) ?rs7_27
  case ys7_27 => (intro w hSw; (try dsimp only at hSw); go_simp; try with_reducible rfl)
  try simp only [Act.put, List.setIfInBounds_toArray, List.set_cons_zero, List.set_cons_succ]
  refine wpAnyH_take (i := 28) (oi := ({ dst := some 73, op := .move (.tmp 13), type := 27, pos := "law.go:32", after := #[{ on := 27, ground := .guard }], guard := some (27, true) } : Oper)) (v := ?vs7_28) rfl says7_plain (by as_aux_lemma => kernel_rfl) (by as_aux_lemma => kernel_rfl) (fun _ _ _ h => h) (Or.inl ⟨by rfl, ?ys7_28⟩) (by assumption) ?rs7_28
  case ys7_28 => (intro w hSw; (try dsimp only at hSw); go_simp; try with_reducible rfl)
  try simp only [Act.put, List.setIfInBounds_toArray, List.set_cons_zero, List.set_cons_succ]
  refine wpAnyH_take (i := 29) (oi := ({ dst := some 74, op := .move (.tmp 16), type := 27, pos := "law.go:32", after := #[{ on := 27, ground := .guard }], guard := some (27, true) } : Oper)) (v := ?vs7_29) rfl says7_plain (by as_aux_lemma => kernel_rfl) (by as_aux_lemma => kernel_rfl) (fun _ _ _ h => h) (Or.inl ⟨by rfl, ?ys7_29⟩) (by assumption) ?rs7_29
  case ys7_29 => (intro w hSw; (try dsimp only at hSw); go_simp; try with_reducible rfl)
  try simp only [Act.put, List.setIfInBounds_toArray, List.set_cons_zero, List.set_cons_succ]
  refine wpAnyH_take (i := 30) (oi := ({ dst := some 75, op := .binOp .eql 27 (.tmp 73) (.tmp 74) 27, type := 4, pos := "law.go:32", after := #[{ on := 28, ground := .data }, { on := 29, ground := .data }, { on := 27, ground := .guard }], guard := some (27, true) } : Oper)) (v := ?vs7_30) rfl says7_plain (by as_aux_lemma => kernel_rfl) (by as_aux_lemma => kernel_rfl) (fun _ _ _ h => h) (Or.inl ⟨by rfl, ?ys7_30⟩) (by assumption) ?rs7_30
  case ys7_30 => (intro w hSw; (try dsimp only at hSw); go_simp; try with_reducible rfl)
  try simp only [Act.put, List.setIfInBounds_toArray, List.set_cons_zero, List.set_cons_succ]
  refine wpAnyH_take (i := 31) (oi := ({ dst := some 76, op := .pick (.tmp 72) (.tmp 75) (.const (.bool false)), type := 4, pos := "law.go:32", after := #[{ on := 27, ground := .data }, { on := 30, ground := .data }], guard := none } : Oper)) (v := ?vs7_31) rfl says7_plain (by as_aux_lemma => kernel_rfl) (by as_aux_lemma => kernel_rfl) (fun _ _ _ h => h) (Or.inl ⟨by rfl, ?ys7_31⟩) (by assumption) ?rs7_31
  case ys7_31 => (intro w hSw; (try dsimp only at hSw); go_simp; try with_reducible rfl)
  try simp only [Act.put, List.setIfInBounds_toArray, List.set_cons_zero, List.set_cons_succ]
  refine wpAnyH_take (i := 32) (oi := ({ dst := some 77, op := .move (.tmp 76), type := 4, pos := "law.go:32", after := #[{ on := 31, ground := .data }, { on := 27, ground := .chain }], guard := none } : Oper)) (v := ?vs7_32) rfl says7_plain (by as_aux_lemma => kernel_rfl) (by as_aux_lemma => kernel_rfl) (fun _ _ _ h => h) (Or.inl ⟨by rfl, ?ys7_32⟩) (by assumption) ?rs7_32
  case ys7_32 => (intro w hSw; (try dsimp only at hSw); go_simp; try with_reducible rfl)
  try simp only [Act.put, List.setIfInBounds_toArray, List.set_cons_zero, List.set_cons_succ]
  refine wpAnyH_take (i := 33) (oi := ({ dst := some 78, op := .move (.tmp 2), type := 25, pos := "law.go:32", after := #[{ on := 32, ground := .guard }], guard := some (32, true) } : Oper)) (v := ?vs7_33) rfl says7_plain (by as_aux_lemma => kernel_rfl) (by as_aux_lemma => kernel_rfl) (fun _ _ _ h => h) (Or.inl ⟨by rfl, ?ys7_33⟩) (by assumption) ?rs7_33
  case ys7_33 => (intro w hSw; (try dsimp only at hSw); go_simp; try with_reducible rfl)
  try simp only [Act.put, List.setIfInBounds_toArray, List.set_cons_zero, List.set_cons_succ]
  refine wpAnyH_take (i := 35) (oi := ({ dst := some 80, op := .move (.tmp 2), type := 25, pos := "law.go:32", after := #[{ on := 32, ground := .guard }], guard := some (32, true) } : Oper)) (v := ?vs7_35) rfl says7_plain (by as_aux_lemma => kernel_rfl) (by as_aux_lemma => kernel_rfl) (fun _ _ _ h => h) (Or.inl ⟨by rfl, ?ys7_35⟩) (by assumption) ?rs7_35
  case ys7_35 => (intro w hSw; (try dsimp only at hSw); go_simp; try with_reducible rfl)
  try simp only [Act.put, List.setIfInBounds_toArray, List.set_cons_zero, List.set_cons_succ]
  refine wpAnyH_ready (rs := [34]) (by as_aux_lemma => kernel_rfl) (by simp) ?_
  refine AllReadyH.cons (o := ({ dst := some 79, op := .call { callee := .value (.func 13), args := #[.tmp 78], argTypes := #[25] }, type := 24, pos := "law.go:32", after := #[{ on := 33, ground := .data }, { on := 32, ground := .chain }, { on := 32, ground := .guard }], guard := some (32, true) } : Oper)) rfl (fun KK hK => ?_) AllReadyH.nil
  rw [if_pos (by rfl)]
  go_simp
  go_at_call 13; refine (OQ.out _ (HC.out.keep (belowT HB4.out (by assumption)))).mono ?_; rintro e w7 ⟨rfl, hb7⟩
  go_wp2_with fail
  refine hK.out _ _ ?_ (fun hHeld7 => ?_)
  · exact belowT (by assumption) hb7
  clear hK KK hb7 hHeld6
  try simp only [Act.put, List.setIfInBounds_toArray, List.set_cons_zero, List.set_cons_succ]
  refine wpAnyH_ready (rs := [36]) (by as_aux_lemma => kernel_rfl) (by simp) ?_
  refine AllReadyH.cons (o := ({ dst := some 81, op := .call { callee := .value (.func 14), args := #[.tmp 80], argTypes := #[25] }, type := 24, pos := "law.go:32", after := #[{ on := 35, ground := .data }, { on := 34, ground := .chain }, { on := 32, ground := .guard }], guard := some (32, true) } : Oper)) rfl (fun KK hK => ?_) AllReadyH.nil
  rw [if_pos (by rfl)]
  go_simp
  go_at_call 14; refine (RQ.out _ (HC.out.keep (belowT HB4.out (by assumption)))).mono ?_; rintro e w8 ⟨rfl, hb8⟩
  go_wp2_with fail
  refine hK.out _ _ ?_ (fun hHeld8 => ?_)
  · exact belowT (by assumption) hb8
  clear hK KK hb8 hHeld7
  try simp only [Act.put, List.setIfInBounds_toArray, List.set_cons_zero, List.set_cons_succ]
  refine wpAnyH_take (i := 37) (oi := ({ dst := some 82, op := .binOp .eql 24 (.tmp 79) (.tmp 81) 24, type := 4, pos := "law.go:32", after := #[{ on := 34, ground := .data }, { on := 36, ground := .data }, { on := 32, ground := .guard }], guard := some (32, true) } : Oper)) (v := ?vs7_37) rfl says7_plain (by as_aux_lemma => kernel_rfl) (by as_aux_lemma => kernel_rfl) (fun _ _ _ h => h) (Or.inl ⟨by rfl, ?ys7_37⟩) (by assumption) ?rs7_37
  case ys7_37 => (intro w hSw; (try dsimp only at hSw); go_simp; try with_reducible rfl)
  try simp only [Act.put, List.setIfInBounds_toArray, List.set_cons_zero, List.set_cons_succ]
  refine wpAnyH_take (i := 38) (oi := ({ dst := some 83, op := .pick (.tmp 77) (.tmp 82) (.const (.bool false)), type := 4, pos := "law.go:32", after := #[{ on := 32, ground := .data }, { on := 37, ground := .data }], guard := none } : Oper)) (v := ?vs7_38) rfl says7_plain (by as_aux_lemma => kernel_rfl) (by as_aux_lemma => kernel_rfl) (fun _ _ _ h => h) (Or.inl ⟨by rfl, ?ys7_38⟩) (by assumption) ?rs7_38
  case ys7_38 => (intro w hSw; (try dsimp only at hSw); go_simp; try with_reducible rfl)
  try simp only [Act.put, List.setIfInBounds_toArray, List.set_cons_zero, List.set_cons_succ]
  refine wpAnyH_take (i := 39) (oi := ({ dst := some 84, op := .move (.tmp 83), type := 4, pos := "law.go:32", after := #[{ on := 38, ground := .data }, { on := 36, ground := .chain }], guard := none } : Oper)) (v := ?vs7_39) rfl says7_plain (by as_aux_lemma => kernel_rfl) (by as_aux_lemma => kernel_rfl) (fun _ _ _ h => h) (Or.inl ⟨by rfl, ?ys7_39⟩) (by assumption) ?rs7_39
  case ys7_39 => (intro w hSw; (try dsimp only at hSw); go_simp; try with_reducible rfl)
  try simp only [Act.put, List.setIfInBounds_toArray, List.set_cons_zero, List.set_cons_succ]
  refine wpAnyH_ready (rs := [40]) (by as_aux_lemma => kernel_rfl) (by simp) ?_
  refine AllReadyH.cons (o := ({ dst := some 85, op := .call { callee := .value (.func 6), args := #[], argTypes := #[] }, type := 4, pos := "law.go:32", after := #[{ on := 39, ground := .chain }, { on := 39, ground := .guard }], guard := some (39, true) } : Oper)) rfl (fun KK hK => ?_) AllReadyH.nil
  rw [if_pos (by rfl)]
  go_simp
  go_at_call 6; refine (AW.out _).mono ?_; rintro e w9 ⟨rfl, hb9⟩
  go_wp2_with fail
  refine hK.out _ _ ?_ (fun hHeld9 => ?_)
  · exact belowT (by assumption) hb9
  clear hK KK hb9 hHeld8
  try simp only [Act.put, List.setIfInBounds_toArray, List.set_cons_zero, List.set_cons_succ]
  refine wpAnyH_take (i := 41) (oi := ({ dst := some 86, op := .pick (.tmp 84) (.tmp 85) (.const (.bool false)), type := 4, pos := "law.go:32", after := #[{ on := 39, ground := .data }, { on := 40, ground := .data }], guard := none } : Oper)) (v := ?vs7_41) rfl says7_plain (by as_aux_lemma => kernel_rfl) (by as_aux_lemma => kernel_rfl) (fun _ _ _ h => h) (Or.inl ⟨by rfl, ?ys7_41⟩) (by assumption) ?rs7_41
  case ys7_41 => (intro w hSw; (try dsimp only at hSw); go_simp; try with_reducible rfl)
  try simp only [Act.put, List.setIfInBounds_toArray, List.set_cons_zero, List.set_cons_succ]
  refine wpAnyH_take (i := 42) (oi := ({ dst := some 6, op := .assign (.tmp 86), type := 4, pos := "law.go:32", after := #[{ on := 41, ground := .data }, { on := 40, ground := .chain }, { on := 0, ground := .phase }, { on := 1, ground := .phase }, { on := 2, ground := .phase }, { on := 3, ground := .phase }, { on := 4, ground := .phase }, { on := 5, ground := .phase }, { on := 6, ground := .phase }, { on := 7, ground := .phase }, { on := 8, ground := .phase }, { on := 9, ground := .phase }, { on := 10, ground := .phase }, { on := 11, ground := .phase }, { on := 12, ground := .phase }, { on := 13, ground := .phase }, { on := 14, ground := .phase }, { on := 15, ground := .phase }, { on := 16, ground := .phase }, { on := 17, ground := .phase }, { on := 18, ground := .phase }, { on := 19, ground := .phase }, { on := 20, ground := .phase }, { on := 21, ground := .phase }, { on := 22, ground := .phase }, { on := 23, ground := .phase }, { on := 24, ground := .phase }, { on := 25, ground := .phase }, { on := 26, ground := .phase }, { on := 27, ground := .phase }, { on := 28, ground := .phase }, { on := 29, ground := .phase }, { on := 30, ground := .phase }, { on := 31, ground := .phase }, { on := 32, ground := .phase }, { on := 33, ground := .phase }, { on := 34, ground := .phase }, { on := 35, ground := .phase }, { on := 36, ground := .phase }, { on := 37, ground := .phase }, { on := 38, ground := .phase }, { on := 39, ground := .phase }, { on := 40, ground := .phase }, { on := 41, ground := .phase }], guard := none } : Oper)) (v := ?vs7_42) rfl says7_plain (by as_aux_lemma => kernel_rfl) (by as_aux_lemma => kernel_rfl) (fun _ _ _ h => h) (Or.inl ⟨by rfl, ?ys7_42⟩) (by assumption) ?rs7_42
  case ys7_42 => (intro w hSw; (try dsimp only at hSw); go_simp; try with_reducible rfl)
  try simp only [Act.put, List.setIfInBounds_toArray, List.set_cons_zero, List.set_cons_succ]
  refine wpAnyH_done (by as_aux_lemma => kernel_rfl) ?_ _
  refine NoPanic.normal ?_
  go_wp2_with fail
  go_ret
  exact ⟨rfl, belowT HB4.out (by assumption)⟩

theorem Says18_all (O : Own18) (n : Nt) (s : Nat) (hs : s < 4294967296) (ba : Option Addr) (cap : Nat) (l : List UInt8) (w : World) (C : Came w ba cap l) :
    Calls Try.prog 3 #[nv n, .int .u32 s, .slice ba l.length cap] w fun e w' => e = .returned (.bool true) ∧ Below w.heap.size w w' := by
  by_cases h : (300 : Int) < l.length
  · exact says_long O n s ba l.length cap w h
  · exact says_core O n s hs ba cap l w C h
end Go.Proofs.Ytjhkmhegnlippaa
