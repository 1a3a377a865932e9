/- FrameSays' law. -/
import Derived.Test.YtmbmpgedoopjlaaFrmBack
import Derived.Test.YtmbmpgedoopjlaaFrmRefB
import Derived.Test.YtmbmpgedoopjlaaFrmRefC
namespace Go.Proofs.Ytmbmpgedoopjlaa
open Go.RowKit

def erF (f : Fr) : Int := if rightF f then 0 else 1
def outF (f : Fr) : List UInt8 := if rightF f then frameF f else []
theorem nil_bytes {w w' : World} (hb : Below w.heap.size w w') : Bytes w.heap.size w w' (.slice none 0 0) [] := ⟨World.ownsRowF_nil _ _ _ _, hb, hb.size⟩
theorem own_bytes (O : Own14) (f : Fr) (w : World) : Calls Try.prog 7 #[fv f] w fun e w' => ∃ u, e = .returned (.tuple #[u, .int .i64 (erF f)]) ∧ Bytes w.heap.size w w' u (outF f) := by
  unfold erF outF
  cases h : rightF f
  · refine (O.no f w h).mono fun e w' hk => ?_
    obtain ⟨he, hb⟩ := hk
    exact ⟨_, he, nil_bytes hb⟩
  · refine (O.bytes f w h).mono fun e w' hk => ?_
    obtain ⟨u, he, hu⟩ := hk
    exact ⟨_, he, hu.bytes⟩
theorem ref_bytes (f : Fr) (w : World) : Calls Try.prog 8 #[fv f] w fun e w' => ∃ u, e = .returned (.tuple #[u, .int .i64 (erF f)]) ∧ Bytes w.heap.size w w' u (outF f) := by
  unfold erF outF
  cases h : rightF f
  · refine (Ref14.Bytes_no f w h).mono fun e w' hk => ?_
    obtain ⟨he, hb⟩ := hk
    exact ⟨_, he, nil_bytes hb⟩
  · obtain ⟨_, _, _, _, h5, h6⟩ := (right_iff f).1 h
    refine (Ref14.Bytes_ok f w h ⟨by omega, by omega⟩).mono fun e w' hk => ?_
    obtain ⟨u, he, hu⟩ := hk
    exact ⟨_, he, hu⟩

theorem says_long (O : Own14) (f : Fr) (ba : Option Addr) (n cap : Nat) (w : World) (h : (300 : Int) < n) :
    Calls Try.prog 3 #[fv f, .slice ba n cap] w fun e w' => e = .returned (.bool true) ∧ Below w.heap.size w w' := by
  have AW := Lib.hid fun w => awake_any O w
  obtain ⟨s, c, b, v⟩ := f
  simp only [fv]
  have B1 := Lib.hid (below1 w (.cells #[.int .i64 s, .int .i64 c, .bool b, .int .i64 v] 23))
  go_enter Try.func3, Try.ntmps3
  go_wp2_with fail
  refine (AW.out _).mono ?_; rintro e w1 ⟨rfl, hb1⟩
  have HB := Lib.hid (belowT B1.out hb1)
  clear B1 hb1
  go_wp2
  go_ret
  exact ⟨rfl, HB.out⟩

/-- The operations of a drawn region, as the translation has them. -/
def says7 : Array Oper := #[
  { dst := some 37, op := .load 23 (.tmp 2), type := 23, pos := "law.go:32", after := #[], guard := none },
  { dst := some 38, op := .call { callee := .value (.func 11), args := #[.tmp 37], argTypes := #[23] }, type := 4, pos := "law.go:32", after := #[{ on := 0, ground := .data }], guard := none },
  { dst := some 39, op := .load 23 (.tmp 2), type := 23, pos := "law.go:32", after := #[], guard := none },
  { dst := some 40, op := .call { callee := .value (.func 12), args := #[.tmp 39], argTypes := #[23] }, type := 4, pos := "law.go:32", after := #[{ on := 2, ground := .data }, { on := 1, ground := .chain }], guard := none },
  { dst := some 41, op := .binOp .eql 4 (.tmp 38) (.tmp 40) 4, type := 4, pos := "law.go:32", after := #[{ on := 1, ground := .data }, { on := 3, ground := .data }], guard := none },
  { dst := some 42, op := .move (.tmp 41), type := 4, pos := "law.go:32", after := #[{ on := 4, ground := .data }, { on := 3, ground := .chain }], guard := none },
  { dst := some 43, op := .move (.tmp 1), type := 24, pos := "law.go:32", after := #[{ on := 5, ground := .guard }], guard := some (5, true) },
  { dst := some 44, op := .call { callee := .value (.func 13), args := #[.tmp 43], argTypes := #[24] }, type := 4, pos := "law.go:32", after := #[{ on := 6, ground := .data }, { on := 5, ground := .chain }, { on := 5, ground := .guard }], guard := some (5, true) },
  { dst := some 45, op := .move (.tmp 1), type := 24, pos := "law.go:32", after := #[{ on := 5, ground := .guard }], guard := some (5, true) },
  { dst := some 46, op := .call { callee := .value (.func 14), args := #[.tmp 45], argTypes := #[24] }, type := 4, pos := "law.go:32", after := #[{ on := 8, ground := .data }, { on := 7, ground := .chain }, { on := 5, ground := .guard }], guard := some (5, true) },
  { dst := some 47, op := .binOp .eql 4 (.tmp 44) (.tmp 46) 4, type := 4, pos := "law.go:32", after := #[{ on := 7, ground := .data }, { on := 9, ground := .data }, { on := 5, ground := .guard }], guard := some (5, true) },
  { dst := some 48, op := .pick (.tmp 42) (.tmp 47) (.const (.bool false)), type := 4, pos := "law.go:32", after := #[{ on := 5, ground := .data }, { on := 10, ground := .data }], guard := none },
  { dst := some 49, op := .move (.tmp 48), type := 4, pos := "law.go:32", after := #[{ on := 11, ground := .data }, { on := 9, ground := .chain }], guard := none },
  { dst := some 50, op := .move (.tmp 5), type := 24, pos := "law.go:32", after := #[{ on := 12, ground := .guard }], guard := some (12, true) },
  { dst := some 51, op := .convert 24 9 (.tmp 50), type := 9, pos := "law.go:32", after := #[{ on := 13, ground := .data }, { on := 12, ground := .guard }], guard := some (12, true) },
  { dst := some 52, op := .move (.tmp 7), type := 24, pos := "law.go:32", after := #[{ on := 12, ground := .guard }], guard := some (12, true) },
  { dst := some 53, op := .convert 24 9 (.tmp 52), type := 9, pos := "law.go:32", after := #[{ on := 15, ground := .data }, { on := 12, ground := .guard }], guard := some (12, true) },
  { dst := some 54, op := .binOp .eql 9 (.tmp 51) (.tmp 53) 9, type := 4, pos := "law.go:32", after := #[{ on := 14, ground := .data }, { on := 16, ground := .data }, { on := 12, ground := .guard }], guard := some (12, true) },
  { dst := some 55, op := .pick (.tmp 49) (.tmp 54) (.const (.bool false)), type := 4, pos := "law.go:32", after := #[{ on := 12, ground := .data }, { on := 17, ground := .data }], guard := none },
  { dst := some 56, op := .move (.tmp 55), type := 4, pos := "law.go:32", after := #[{ on := 18, ground := .data }, { on := 12, ground := .chain }], guard := none },
  { dst := some 57, op := .move (.tmp 6), type := 26, pos := "law.go:32", after := #[{ on := 19, ground := .guard }], guard := some (19, true) },
  { dst := some 58, op := .move (.tmp 8), type := 26, pos := "law.go:32", after := #[{ on := 19, ground := .guard }], guard := some (19, true) },
  { dst := some 59, op := .binOp .eql 26 (.tmp 57) (.tmp 58) 26, type := 4, pos := "law.go:32", after := #[{ on := 20, ground := .data }, { on := 21, ground := .data }, { on := 19, ground := .guard }], guard := some (19, true) },
  { dst := some 60, op := .pick (.tmp 56) (.tmp 59) (.const (.bool false)), type := 4, pos := "law.go:32", after := #[{ on := 19, ground := .data }, { on := 22, ground := .data }], guard := none },
  { dst := some 61, op := .move (.tmp 60), type := 4, pos := "law.go:32", after := #[{ on := 23, ground := .data }, { on := 19, ground := .chain }], guard := none },
  { dst := some 62, op := .load 23 (.tmp 9), type := 23, pos := "law.go:32", after := #[{ on := 24, ground := .guard }], guard := some (24, true) },
  { dst := some 63, op := .load 23 (.tmp 11), type := 23, pos := "law.go:32", after := #[{ on := 24, ground := .guard }], guard := some (24, true) },
  { dst := some 64, op := .binOp .eql 23 (.tmp 62) (.tmp 63) 23, type := 4, pos := "law.go:32", after := #[{ on := 25, ground := .data }, { on := 26, ground := .data }, { on := 24, ground := .guard }], guard := some (24, true) },
  { dst := some 65, op := .pick (.tmp 61) (.tmp 64) (.const (.bool false)), type := 4, pos := "law.go:32", after := #[{ on := 24, ground := .data }, { on := 27, ground := .data }], guard := none },
  { dst := some 66, op := .move (.tmp 65), type := 4, pos := "law.go:32", after := #[{ on := 28, ground := .data }, { on := 24, ground := .chain }], guard := none },
  { dst := some 67, op := .move (.tmp 10), type := 26, pos := "law.go:32", after := #[{ on := 29, ground := .guard }], guard := some (29, true) },
  { dst := some 68, op := .move (.tmp 12), type := 26, pos := "law.go:32", after := #[{ on := 29, ground := .guard }], guard := some (29, true) },
  { dst := some 69, op := .binOp .eql 26 (.tmp 67) (.tmp 68) 26, type := 4, pos := "law.go:32", after := #[{ on := 30, ground := .data }, { on := 31, ground := .data }, { on := 29, ground := .guard }], guard := some (29, true) },
  { dst := some 70, op := .pick (.tmp 66) (.tmp 69) (.const (.bool false)), type := 4, pos := "law.go:32", after := #[{ on := 29, ground := .data }, { on := 32, ground := .data }], guard := none },
  { dst := some 71, op := .move (.tmp 70), type := 4, pos := "law.go:32", after := #[{ on := 33, ground := .data }, { on := 29, ground := .chain }], guard := none },
  { dst := some 72, op := .call { callee := .value (.func 6), args := #[], argTypes := #[] }, type := 4, pos := "law.go:32", after := #[{ on := 34, ground := .chain }, { on := 34, ground := .guard }], guard := some (34, true) },
  { dst := some 73, op := .pick (.tmp 71) (.tmp 72) (.const (.bool false)), type := 4, pos := "law.go:32", after := #[{ on := 34, ground := .data }, { on := 35, ground := .data }], guard := none },
  { dst := some 4, op := .assign (.tmp 73), type := 4, pos := "law.go:32", after := #[{ on := 36, ground := .data }, { on := 35, ground := .chain }, { on := 0, ground := .phase }, { on := 1, ground := .phase }, { on := 2, ground := .phase }, { on := 3, ground := .phase }, { on := 4, ground := .phase }, { on := 5, ground := .phase }, { on := 6, ground := .phase }, { on := 7, ground := .phase }, { on := 8, ground := .phase }, { on := 9, ground := .phase }, { on := 10, ground := .phase }, { on := 11, ground := .phase }, { on := 12, ground := .phase }, { on := 13, ground := .phase }, { on := 14, ground := .phase }, { on := 15, ground := .phase }, { on := 16, ground := .phase }, { on := 17, ground := .phase }, { on := 18, ground := .phase }, { on := 19, ground := .phase }, { on := 20, ground := .phase }, { on := 21, ground := .phase }, { on := 22, ground := .phase }, { on := 23, ground := .phase }, { on := 24, ground := .phase }, { on := 25, ground := .phase }, { on := 26, ground := .phase }, { on := 27, ground := .phase }, { on := 28, ground := .phase }, { on := 29, ground := .phase }, { on := 30, ground := .phase }, { on := 31, ground := .phase }, { on := 32, ground := .phase }, { on := 33, ground := .phase }, { on := 34, ground := .phase }, { on := 35, ground := .phase }, { on := 36, ground := .phase }], guard := none }]
theorem says7_plain : Region.noSelect says7 = true := by kernel_rfl

set_option maxHeartbeats 8000000 in
set_option maxRecDepth 100000 in
theorem says_core (O : Own14) (f : Fr) (ba : Option Addr) (cap : Nat) (l : List UInt8) (w : World) (C : Came w ba cap l) (h : ¬ (300 : Int) < l.length) :
    Calls Try.prog 3 #[fv f, .slice ba l.length cap] w fun e w' => e = .returned (.bool true) ∧ Below w.heap.size w w' := by
  have AW := Lib.hid fun w => awake_any O w
  have OB := Lib.hid fun w => own_bytes O f w
  have RB := Lib.hid fun w => ref_bytes f w
  have OR := Lib.hid fun w => O.right f w
  have RR := Lib.hid fun w => Ref14.Right_any f w
  have OG := Lib.hid fun w (C : Came w ba cap l) => O.begins w ba cap l C
  have RG := Lib.hid fun w (C : Came w ba cap l) => Ref14.Begins_came C
  have OD := Lib.hid fun w (C : Came w ba cap l) => O.read w ba cap l C (by omega)
  have RD := Lib.hid fun w (C : Came w ba cap l) => Ref14.Read_came C
  generalize erF f = er at *
  generalize outF f = out at *
  generalize rightF f = rt at *
  generalize beginsF l = bg at *
  generalize readF l = rr at *
  obtain ⟨⟨s', c', b', v'⟩, re⟩ := rr
  obtain ⟨s, c, b, v⟩ := f
  simp only [fv] at OB RB OR RR OD RD ⊢
  have B1 := Lib.hid (below1 w (.cells #[.int .i64 s, .int .i64 c, .bool b, .int .i64 v] 23))
  have H1 := Lib.hid (hasl w [.int .i64 s, .int .i64 c, .bool b, .int .i64 v] 23)
  have HC := Lib.hid C
  clear C
  go_enter Try.func3, Try.ntmps3
  go_wp2_with fail
  refine (OB.out _).mono ?_; rintro e w1 ⟨u1, rfl, hu1⟩
  have HB1 := Lib.hid (belowT B1.out hu1.below)
  have H2 := Lib.hid (H1.out.keep hu1.below)
  have q0 := H2.out.at 0 rfl
  have q1 := H2.out.at 1 rfl
  have q2 := H2.out.at 2 rfl
  have q3 := H2.out.at 3 rfl
  have U1 := Lib.hid hu1
  clear H1 B1 hu1 OB
  go_wp2_with fail
  refine (RB.out _).mono ?_; rintro e w2 ⟨u2, rfl, hu2⟩
  have HB2 := Lib.hid (belowT HB1.out hu2.below)
  have H3 := Lib.hid (H2.out.keep hu2.below)
  have U1b := Lib.hid (U1.out.keep hu2.below)
  have U2 := Lib.hid hu2
  clear H2 HB1 hu2 RB U1 q0 q1 q2 q3
  go_wp2_with fail
  refine (OD.out w2 (HC.out.keep HB2.out)).mono ?_; rintro e w3 ⟨rfl, hb3⟩
  have hb3a := belowT hb3 (below1 w3 (.cells #[.int .i64 s', .int .i64 c', .bool b', .int .i64 v'] 23))
  have HB3 := Lib.hid (belowT HB2.out hb3a)
  have H4 := Lib.hid (H3.out.keep hb3a)
  have U1c := Lib.hid (U1b.out.keep hb3a)
  have U2b := Lib.hid (U2.out.keep hb3a)
  have K1 := Lib.hid (hasl w3 [.int .i64 s', .int .i64 c', .bool b', .int .i64 v'] 23)
  clear HB2 H3 U1b U2 hb3 hb3a OD
  go_wp2_with fail
  refine (RD.out _ (HC.out.keep HB3.out)).mono ?_; rintro e w4 ⟨rfl, hb4⟩
  have hb4a := belowT hb4 (below1 w4 (.cells #[.int .i64 s', .int .i64 c', .bool b', .int .i64 v'] 23))
  have HB4 := Lib.hid (belowT HB3.out hb4a)
  have H5 := H4.out.keep hb4a
  have U1d := U1c.out.keep hb4a
  have U2c := U2b.out.keep hb4a
  have K2 := K1.out.keep hb4a
  have K3 := hasl w4 [.int .i64 s', .int .i64 c', .bool b', .int .i64 v'] 23
  clear HB3 H4 U1c U2b hb4 hb4a RD K1
  go_upto_region 7 with fail
  obtain ⟨W0, hW0⟩ : ∃ W0, W0 = w4.alloc (.cells #[.int .i64 s', .int .i64 c', .bool b', .int .i64 v'] 23) := ⟨_, rfl⟩
  rw [← hW0]
  rw [← hW0] at HB4 H5 U1d U2c K2 K3
  clear hW0
  have q0 := H5.at 0 rfl
  have q1 := H5.at 1 rfl
  have q2 := H5.at 2 rfl
  have q3 := H5.at 3 rfl
  have p0 := K2.at 0 rfl
  have p1 := K2.at 1 rfl
  have p2 := K2.at 2 rfl
  have p3 := K2.at 3 rfl
  have m0 := K3.at 0 rfl
  have m1 := K3.at 1 rfl
  have m2 := K3.at 2 rfl
  have m3 := K3.at 3 rfl
  have rq0 : ∀ w', Below W0.heap.size W0 w' → w'.cell? ⟨w.heap.size, 0, none⟩ = some (.int .i64 s) := fun w' h => keepc h q0
  have rq1 : ∀ w', Below W0.heap.size W0 w' → w'.cell? ⟨w.heap.size, 1, none⟩ = some (.int .i64 c) := fun w' h => keepc h q1
  have rq2 : ∀ w', Below W0.heap.size W0 w' → w'.cell? ⟨w.heap.size, 2, none⟩ = some (.bool b) := fun w' h => keepc h q2
  have rq3 : ∀ w', Below W0.heap.size W0 w' → w'.cell? ⟨w.heap.size, 3, none⟩ = some (.int .i64 v) := fun w' h => keepc h q3
  have rp0 : ∀ w', Below W0.heap.size W0 w' → w'.cell? ⟨w3.heap.size, 0, none⟩ = some (.int .i64 s') := fun w' h => keepc h p0
  have rp1 : ∀ w', Below W0.heap.size W0 w' → w'.cell? ⟨w3.heap.size, 1, none⟩ = some (.int .i64 c') := fun w' h => keepc h p1
  have rp2 : ∀ w', Below W0.heap.size W0 w' → w'.cell? ⟨w3.heap.size, 2, none⟩ = some (.bool b') := fun w' h => keepc h p2
  have rp3 : ∀ w', Below W0.heap.size W0 w' → w'.cell? ⟨w3.heap.size, 3, none⟩ = some (.int .i64 v') := fun w' h => keepc h p3
  have rm0 : ∀ w', Below W0.heap.size W0 w' → w'.cell? ⟨w4.heap.size, 0, none⟩ = some (.int .i64 s') := fun w' h => keepc h m0
  have rm1 : ∀ w', Below W0.heap.size W0 w' → w'.cell? ⟨w4.heap.size, 1, none⟩ = some (.int .i64 c') := fun w' h => keepc h m1
  have rm2 : ∀ w', Below W0.heap.size W0 w' → w'.cell? ⟨w4.heap.size, 2, none⟩ = some (.bool b') := fun w' h => keepc h m2
  have rm3 : ∀ w', Below W0.heap.size W0 w' → w'.cell? ⟨w4.heap.size, 3, none⟩ = some (.int .i64 v') := fun w' h => keepc h m3
  have rs : ∀ w', Below W0.heap.size W0 w' → (convert 24 9 u1).run Try.prog w' = .ok (.string ⟨out.toArray⟩) w' := fun w' h => U1d.string w' h
  have rt2 : ∀ w', Below W0.heap.size W0 w' → (convert 24 9 u2).run Try.prog w' = .ok (.string ⟨out.toArray⟩) w' := fun w' h => U2c.string w' h
  generalize (⟨out.toArray⟩ : ByteArray) = st at *
  clear H5 U1d U2c K2 K3 q0 q1 q2 q3 p0 p1 p2 p3 m0 m1 m2 m3
  change (Code.region 7 says7 true).wp Try.prog _ _ _
  refine wp_region_noPanic ?_
  refine wp_region_held_drew (S := fun w' => Below W0.heap.size W0 w') (by kernel_rfl) ((Below.refl _ _).drew) (fun hHeld => ?_)
  refine wpAnyH_take (i := 0) (oi := ({ dst := some 37, op := .load 23 (.tmp 2), type := 23, pos := "law.go:32", after := #[], guard := none } : Oper)) (v := ?vs6_0) rfl says7_plain (by as_aux_lemma => kernel_rfl) (by as_aux_lemma => kernel_rfl) (fun _ _ _ h => h) (Or.inl ⟨by rfl, ?ys6_0⟩) (by assumption) ?rs6_0
  case ys6_0 => (intro w hSw; (try dsimp only at hSw); go_simp; try with_reducible rfl)
  try simp only [Act.put, List.setIfInBounds_toArray, List.set_cons_zero, List.set_cons_succ]
  refine wpAnyH_take (i := 2) (oi := ({ dst := some 39, op := .load 23 (.tmp 2), type := 23, pos := "law.go:32", after := #[], guard := none } : Oper)) (v := ?vs6_2) rfl says7_plain (by as_aux_lemma => kernel_rfl) (by as_aux_lemma => kernel_rfl) (fun _ _ _ h => h) (Or.inl ⟨by rfl, ?ys6_2⟩) (by assumption) ?rs6_2
  case ys6_2 => (intro w hSw; (try dsimp only at hSw); go_simp; try with_reducible rfl)
  try simp only [Act.put, List.setIfInBounds_toArray, List.set_cons_zero, List.set_cons_succ]
  refine wpAnyH_ready (rs := [1]) (by as_aux_lemma => kernel_rfl) (by simp) ?_
  refine AllReadyH.cons (o := ({ dst := some 38, op := .call { callee := .value (.func 11), args := #[.tmp 37], argTypes := #[23] }, type := 4, pos := "law.go:32", after := #[{ on := 0, ground := .data }], guard := none } : Oper)) rfl (fun KK hK => ?_) AllReadyH.nil
  rw [if_pos (by rfl)]
  go_simp
  go_at_call 11; refine (OR.out _).mono ?_; rintro e w5 ⟨rfl, hb5⟩
  go_wp2_with fail
  refine hK.out _ _ ?_ (fun hHeld5 => ?_)
  · exact belowT (by assumption) hb5
  clear hK KK hb5
  try simp only [Act.put, List.setIfInBounds_toArray, List.set_cons_zero, List.set_cons_succ]
  refine wpAnyH_ready (rs := [3]) (by as_aux_lemma => kernel_rfl) (by simp) ?_
  refine AllReadyH.cons (o := ({ dst := some 40, op := .call { callee := .value (.func 12), args := #[.tmp 39], argTypes := #[23] }, type := 4, pos := "law.go:32", after := #[{ on := 2, ground := .data }, { on := 1, ground := .chain }], guard := none } : Oper)) rfl (fun KK hK => ?_) AllReadyH.nil
  rw [if_pos (by rfl)]
  go_simp
  go_at_call 12; refine (RR.out _).mono ?_; rintro e w6 ⟨rfl, hb6⟩
  go_wp2_with fail
  refine hK.out _ _ ?_ (fun hHeld6 => ?_)
  · exact belowT (by assumption) hb6
  clear hK KK hb6 hHeld5
  try simp only [Act.put, List.setIfInBounds_toArray, List.set_cons_zero, List.set_cons_succ]
  refine wpAnyH_take (i := 4) (oi := ({ dst := some 41, op := .binOp .eql 4 (.tmp 38) (.tmp 40) 4, type := 4, pos := "law.go:32", after := #[{ on := 1, ground := .data }, { on := 3, ground := .data }], guard := none } : Oper)) (v := ?vs6_4) rfl says7_plain (by as_aux_lemma => kernel_rfl) (by as_aux_lemma => kernel_rfl) (fun _ _ _ h => h) (Or.inl ⟨by rfl, ?ys6_4⟩) (by assumption) ?rs6_4
  case ys6_4 => (intro w hSw; (try dsimp only at hSw); go_simp; try with_reducible rfl)
  try simp only [Act.put, List.setIfInBounds_toArray, List.set_cons_zero, List.set_cons_succ]
  refine wpAnyH_take (i := 5) (oi := ({ dst := some 42, op := .move (.tmp 41), type := 4, pos := "law.go:32", after := #[{ on := 4, ground := .data }, { on := 3, ground := .chain }], guard := none } : Oper)) (v := ?vs6_5) rfl says7_plain (by as_aux_lemma => kernel_rfl) (by as_aux_lemma => kernel_rfl) (fun _ _ _ h => h) (Or.inl ⟨by rfl, ?ys6_5⟩) (by assumption) ?rs6_5
  case ys6_5 => (intro w hSw; (try dsimp only at hSw); go_simp; try with_reducible rfl)
  try simp only [Act.put, List.setIfInBounds_toArray, List.set_cons_zero, List.set_cons_succ]
  refine wpAnyH_take (i := 6) (oi := ({ dst := some 43, op := .move (.tmp 1), type := 24, pos := "law.go:32", after := #[{ on := 5, ground := .guard }], guard := some (5, true) } : Oper)) (v := ?vs6_6) rfl says7_plain (by as_aux_lemma => kernel_rfl) (by as_aux_lemma => kernel_rfl) (fun _ _ _ h => h) (Or.inl ⟨by rfl, ?ys6_6⟩) (by assumption) ?rs6_6
  case ys6_6 => (intro w hSw; (try dsimp only at hSw); go_simp; try with_reducible rfl)
  try simp only [Act.put, List.setIfInBounds_toArray, List.set_cons_zero, List.set_cons_succ]
  refine wpAnyH_take (i := 8) (oi := ({ dst := some 45, op := .move (.tmp 1), type := 24, pos := "law.go:32", after := #[{ on := 5, ground := .guard }], guard := some (5, true) } : Oper)) (v := ?vs6_8) rfl says7_plain (by as_aux_lemma => kernel_rfl) (by as_aux_lemma => kernel_rfl) (fun _ _ _ h => h) (Or.inl ⟨by rfl, ?ys6_8⟩) (by assumption) ?rs6_8
  case ys6_8 => (intro w hSw; (try dsimp only at hSw); go_simp; try with_reducible rfl)
  try simp only [Act.put, List.setIfInBounds_toArray, List.set_cons_zero, List.set_cons_succ]
  refine wpAnyH_ready (rs := [7]) (by as_aux_lemma => kernel_rfl) (by simp) ?_
  refine AllReadyH.cons (o := ({ dst := some 44, op := .call { callee := .value (.func 13), args := #[.tmp 43], argTypes := #[24] }, type := 4, pos := "law.go:32", after := #[{ on := 6, ground := .data }, { on := 5, ground := .chain }, { on := 5, ground := .guard }], guard := some (5, true) } : Oper)) rfl (fun KK hK => ?_) AllReadyH.nil
  rw [if_pos (by rfl)]
  go_simp
  go_at_call 13; refine (OG.out _ (HC.out.keep (belowT HB4.out (by assumption)))).mono ?_; rintro e w7 ⟨rfl, hb7⟩
  go_wp2_with fail
  refine hK.out _ _ ?_ (fun hHeld7 => ?_)
  · exact belowT (by assumption) hb7
  clear hK KK hb7 hHeld6
  try simp only [Act.put, List.setIfInBounds_toArray, List.set_cons_zero, List.set_cons_succ]
  refine wpAnyH_ready (rs := [9]) (by as_aux_lemma => kernel_rfl) (by simp) ?_
  refine AllReadyH.cons (o := ({ dst := some 46, op := .call { callee := .value (.func 14), args := #[.tmp 45], argTypes := #[24] }, type := 4, pos := "law.go:32", after := #[{ on := 8, ground := .data }, { on := 7, ground := .chain }, { on := 5, ground := .guard }], guard := some (5, true) } : Oper)) rfl (fun KK hK => ?_) AllReadyH.nil
  rw [if_pos (by rfl)]
  go_simp
  go_at_call 14; refine (RG.out _ (HC.out.keep (belowT HB4.out (by assumption)))).mono ?_; rintro e w8 ⟨rfl, hb8⟩
  go_wp2_with fail
  refine hK.out _ _ ?_ (fun hHeld8 => ?_)
  · exact belowT (by assumption) hb8
  clear hK KK hb8 hHeld7
  try simp only [Act.put, List.setIfInBounds_toArray, List.set_cons_zero, List.set_cons_succ]
  refine wpAnyH_take (i := 10) (oi := ({ dst := some 47, op := .binOp .eql 4 (.tmp 44) (.tmp 46) 4, type := 4, pos := "law.go:32", after := #[{ on := 7, ground := .data }, { on := 9, ground := .data }, { on := 5, ground := .guard }], guard := some (5, true) } : Oper)) (v := ?vs6_10) rfl says7_plain (by as_aux_lemma => kernel_rfl) (by as_aux_lemma => kernel_rfl) (fun _ _ _ h => h) (Or.inl ⟨by rfl, ?ys6_10⟩) (by assumption) ?rs6_10
  case ys6_10 => (intro w hSw; (try dsimp only at hSw); go_simp; try with_reducible rfl)
  try simp only [Act.put, List.setIfInBounds_toArray, List.set_cons_zero, List.set_cons_succ]
  refine wpAnyH_take (i := 11) (oi := ({ dst := some 48, op := .pick (.tmp 42) (.tmp 47) (.const (.bool false)), type := 4, pos := "law.go:32", after := #[{ on := 5, ground := .data }, { on := 10, ground := .data }], guard := none } : Oper)) (v := ?vs6_11) rfl says7_plain (by as_aux_lemma => kernel_rfl) (by as_aux_lemma => kernel_rfl) (fun _ _ _ h => h) (Or.inl ⟨by rfl, ?ys6_11⟩) (by assumption) ?rs6_11
  case ys6_11 => (intro w hSw; (try dsimp only at hSw); go_simp; try with_reducible rfl)
  try simp only [Act.put, List.setIfInBounds_toArray, List.set_cons_zero, List.set_cons_succ]
  refine wpAnyH_take (i := 12) (oi := ({ dst := some 49, op := .move (.tmp 48), type := 4, pos := "law.go:32", after := #[{ on := 11, ground := .data }, { on := 9, ground := .chain }], guard := none } : Oper)) (v := ?vs6_12) rfl says7_plain (by as_aux_lemma => kernel_rfl) (by as_aux_lemma => kernel_rfl) (fun _ _ _ h => h) (Or.inl ⟨by rfl, ?ys6_12⟩) (by assumption) ?rs6_12
  case ys6_12 => (intro w hSw; (try dsimp only at hSw); go_simp; try with_reducible rfl)
  try simp only [Act.put, List.setIfInBounds_toArray, List.set_cons_zero, List.set_cons_succ]
  refine wpAnyH_take (i := 13) (oi := ({ dst := some 50, op := .move (.tmp 5), type := 24, pos := "law.go:32", after := #[{ on := 12, ground := .guard }], guard := some (12, true) } : Oper)) (v := ?vs6_13) rfl says7_plain (by as_aux_lemma => kernel_rfl) (by as_aux_lemma => kernel_rfl) (fun _ _ _ h => h) (Or.inl ⟨by rfl, ?ys6_13⟩) (by assumption) ?rs6_13
  case ys6_13 => (intro w hSw; (try dsimp only at hSw); go_simp; try with_reducible rfl)
  try simp only [Act.put, List.setIfInBounds_toArray, List.set_cons_zero, List.set_cons_succ]
  refine wpAnyH_take (i := 14) (oi := ({ dst := some 51, op := .convert 24 9 (.tmp 50), type := 9, pos := "law.go:32", after := #[{ on := 13, ground := .data }, { on := 12, ground := .guard }], guard := some (12, true) } : Oper)) (v := ?vs6_14) rfl says7_plain (by as_aux_lemma => kernel_rfl) (by as_aux_lemma => kernel_rfl) (fun _ _ _ h => h) (Or.inl ⟨by rfl, ?ys6_14⟩) (by assumption) ?rs6_14
  case ys6_14 => (intro w hSw; (try dsimp only at hSw); go_simp; try with_reducible rfl)
  try simp only [Act.put, List.setIfInBounds_toArray, List.set_cons_zero, List.set_cons_succ]
  refine wpAnyH_take (i := 15) (oi := ({ dst := some 52, op := .move (.tmp 7), type := 24, pos := "law.go:32", after := #[{ on := 12, ground := .guard }], guard := some (12, true) } : Oper)) (v := ?vs6_15) rfl says7_plain (by as_aux_lemma => kernel_rfl) (by as_aux_lemma => kernel_rfl) (fun _ _ _ h => h) (Or.inl ⟨by rfl, ?ys6_15⟩) (by assumption) ?rs6_15
  case ys6_15 => (intro w hSw; (try dsimp only at hSw); go_simp; try with_reducible rfl)
  try simp only [Act.put, List.setIfInBounds_toArray, List.set_cons_zero, List.set_cons_succ]
  refine wpAnyH_take (i := 16) (oi := ({ dst := some 53, op := .convert 24 9 (.tmp 52), type := 9, pos := "law.go:32", after := #[{ on := 15, ground := .data }, { on := 12, ground := .guard }], guard := some (12, true) } : Oper)) (v := ?vs6_16) rfl says7_plain (by as_aux_lemma => kernel_rfl) (by as_aux_lemma => kernel_rfl) (fun _ _ _ h => h) (Or.inl ⟨by rfl, ?ys6_16⟩) (by assumption) ?rs6_16
  case ys6_16 => (intro w hSw; (try dsimp only at hSw); go_simp; try with_reducible rfl)
  try simp only [Act.put, List.setIfInBounds_toArray, List.set_cons_zero, List.set_cons_succ]
  refine wpAnyH_take (i := 17) (oi := ({ dst := some 54, op := .binOp .eql 9 (.tmp 51) (.tmp 53) 9, type := 4, pos := "law.go:32", after := #[{ on := 14, ground := .data }, { on := 16, ground := .data }, { on := 12, ground := .guard }], guard := some (12, true) } : Oper)) (v := ?vs6_17) rfl says7_plain (by as_aux_lemma => kernel_rfl) (by as_aux_lemma => kernel_rfl) (fun _ _ _ h => h) (Or.inl ⟨by rfl, ?ys6_17⟩) (by assumption) ?rs6_17
  case ys6_17 => (intro w hSw; (try dsimp only at hSw); go_simp; try with_reducible rfl)
  try simp only [Act.put, List.setIfInBounds_toArray, List.set_cons_zero, List.set_cons_succ]
  refine wpAnyH_take (i := 18) (oi := ({ dst := some 55, op := .pick (.tmp 49) (.tmp 54) (.const (.bool false)), type := 4, pos := "law.go:32", after := #[{ on := 12, ground := .data }, { on := 17, ground := .data }], guard := none } : Oper)) (v := ?vs6_18) rfl says7_plain (by as_aux_lemma => kernel_rfl) (by as_aux_lemma => kernel_rfl) (fun _ _ _ h => h) (Or.inl ⟨by rfl, ?ys6_18⟩) (by assumption) ?rs6_18
  case ys6_18 => (intro w hSw; (try dsimp only at hSw); go_simp; try with_reducible rfl)
  try simp only [Act.put, List.setIfInBounds_toArray, List.set_cons_zero, List.set_cons_succ]
  refine wpAnyH_take (i := 19) (oi := ({ dst := some 56, op := .move (.tmp 55), type := 4, pos := "law.go:32", after := #[{ on := 18, ground := .data }, { on := 12, ground := .chain }], guard := none } : Oper)) (v := ?vs6_19) rfl says7_plain (by as_aux_lemma => kernel_rfl) (by as_aux_lemma => kernel_rfl) (fun _ _ _ h => h) (Or.inl ⟨by rfl, ?ys6_19⟩) (by assumption) ?rs6_19
  case ys6_19 => (intro w hSw; (try dsimp only at hSw); go_simp; try with_reducible rfl)
  try simp only [Act.put, List.setIfInBounds_toArray, List.set_cons_zero, List.set_cons_succ]
  refine wpAnyH_take (i := 20) (oi := ({ dst := some 57, op := .move (.tmp 6), type := 26, pos := "law.go:32", after := #[{ on := 19, ground := .guard }], guard := some (19, true) } : Oper)) (v := ?vs6_20) rfl says7_plain (by as_aux_lemma => kernel_rfl) (by as_aux_lemma => kernel_rfl) (fun _ _ _ h => h) (Or.inl ⟨by rfl, ?ys6_20⟩) (by assumption) ?rs6_20
  case ys6_20 => (intro w hSw; (try dsimp only at hSw); go_simp; try with_reducible rfl)
  try simp only [Act.put, List.setIfInBounds_toArray, List.set_cons_zero, List.set_cons_succ]
  refine wpAnyH_take (i := 21) (oi := ({ dst := some 58, op := .move (.tmp 8), type := 26, pos := "law.go:32", after := #[{ on := 19, ground := .guard }], guard := some (19, true) } : Oper)) (v := ?vs6_21) rfl says7_plain (by as_aux_lemma => kernel_rfl) (by as_aux_lemma => kernel_rfl) (fun _ _ _ h => h) (Or.inl ⟨by rfl, ?ys6_21⟩) (by assumption) ?rs6_21
  case ys6_21 => (intro w hSw; (try dsimp only at hSw); go_simp; try with_reducible rfl)
  try simp only [Act.put, List.setIfInBounds_toArray, List.set_cons_zero, List.set_cons_succ]
  refine wpAnyH_take (i := 22) (oi := ({ dst := some 59, op := .binOp .eql 26 (.tmp 57) (.tmp 58) 26, type := 4, pos := "law.go:32", after := #[{ on := 20, ground := .data }, { on := 21, ground := .data }, { on := 19, ground := .guard }], guard := some (19, true) } : Oper)) (v := ?vs6_22) rfl says7_plain (by as_aux_lemma => kernel_rfl) (by as_aux_lemma => kernel_rfl) (fun _ _ _ h => h) (Or.inl ⟨by rfl, ?ys6_22⟩) (by assumption) ?rs6_22
  case ys6_22 => (intro w hSw; (try dsimp only at hSw); go_simp; try with_reducible rfl)
  try simp only [Act.put, List.setIfInBounds_toArray, List.set_cons_zero, List.set_cons_succ]
  refine wpAnyH_take (i := 23) (oi := ({ dst := some 60, op := .pick (.tmp 56) (.tmp 59) (.const (.bool false)), type := 4, pos := "law.go:32", after := #[{ on := 19, ground := .data }, { on := 22, ground := .data }], guard := none } : Oper)) (v := ?vs6_23) rfl says7_plain (by as_aux_lemma => kernel_rfl) (by as_aux_lemma => kernel_rfl) (fun _ _ _ h => h) (Or.inl ⟨by rfl, ?ys6_23⟩) (by assumption) ?rs6_23
  case ys6_23 => (intro w hSw; (try dsimp only at hSw); go_simp; try with_reducible rfl)
  try simp only [Act.put, List.setIfInBounds_toArray, List.set_cons_zero, List.set_cons_succ]
  refine wpAnyH_take (i := 24) (oi := ({ dst := some 61, op := .move (.tmp 60), type := 4, pos := "law.go:32", after := #[{ on := 23, ground := .data }, { on := 19, ground := .chain }], guard := none } : Oper)) (v := ?vs6_24) rfl says7_plain (by as_aux_lemma => kernel_rfl) (by as_aux_lemma => kernel_rfl) (fun _ _ _ h => h) (Or.inl ⟨by rfl, ?ys6_24⟩) (by assumption) ?rs6_24
  case ys6_24 => (intro w hSw; (try dsimp only at hSw); go_simp; try with_reducible rfl)
  try simp only [Act.put, List.setIfInBounds_toArray, List.set_cons_zero, List.set_cons_succ]
  refine wpAnyH_take (i := 25) (oi := ({ dst := some 62, op := .load 23 (.tmp 9), type := 23, pos := "law.go:32", after := #[{ on := 24, ground := .guard }], guard := some (24, true) } : Oper)) (v := ?vs6_25) rfl says7_plain (by as_aux_lemma => kernel_rfl) (by as_aux_lemma => kernel_rfl) (fun _ _ _ h => h) (Or.inl ⟨by rfl, ?ys6_25⟩) (by assumption) ?rs6_25
  case ys6_25 => (intro w hSw; (try dsimp only at hSw); go_simp; try with_reducible rfl)
  try simp only [Act.put, List.setIfInBounds_toArray, List.set_cons_zero, List.set_cons_succ]
  refine wpAnyH_take (i := 26) (oi := ({ dst := some 63, op := .load 23 (.tmp 11), type := 23, pos := "law.go:32", after := #[{ on := 24, ground := .guard }], guard := some (24, true) } : Oper)) (v := ?vs6_26) rfl says7_plain (by as_aux_lemma => kernel_rfl) (by as_aux_lemma => kernel_rfl) (fun _ _ _ h => h) (Or.inl ⟨by rfl, ?ys6_26⟩) (by assumption) ?rs6_26
  case ys6_26 => (intro w hSw; (try dsimp only at hSw); go_simp; try with_reducible rfl)
  try simp only [Act.put, List.setIfInBounds_toArray, List.set_cons_zero, List.set_cons_succ]
  refine wpAnyH_take (i := 27) (oi := ({ dst := some 64, op := .binOp .eql 23 (.tmp 62) (.tmp 63) 23, type := 4, pos := "law.go:32", after := #[{ on := 25, ground := .data }, { on := 26, ground := .data }, { on := 24, ground := .guard }], guard := some (24, true) } : Oper)) (v := ?vs6_27) rfl says7_plain (by as_aux_lemma => kernel_rfl) (by as_aux_lemma => kernel_rfl) (fun _ _ _ h => h) (Or.inl ⟨by rfl, ?ys6_27⟩) (by assumption) ?rs6_27
  case ys6_27 => (intro w hSw; (try dsimp only at hSw); go_simp; try with_reducible rfl)
  try simp only [Act.put, List.setIfInBounds_toArray, List.set_cons_zero, List.set_cons_succ]
  refine wpAnyH_take (i := 28) (oi := ({ dst := some 65, op := .pick (.tmp 61) (.tmp 64) (.const (.bool false)), type := 4, pos := "law.go:32", after := #[{ on := 24, ground := .data }, { on := 27, ground := .data }], guard := none } : Oper)) (v := ?vs6_28) rfl says7_plain (by as_aux_lemma => kernel_rfl) (by as_aux_lemma => kernel_rfl) (fun _ _ _ h => h) (Or.inl ⟨by rfl, ?ys6_28⟩) (by assumption) ?rs6_28
  case ys6_28 => (intro w hSw; (try dsimp only at hSw); go_simp; try with_reducible rfl)
  try simp only [Act.put, List.setIfInBounds_toArray, List.set_cons_zero, List.set_cons_succ]
  refine wpAnyH_take (i := 29) (oi := ({ dst := some 66, op := .move (.tmp 65), type := 4, pos := "law.go:32", after := #[{ on := 28, ground := .data }, { on := 24, ground := .chain }], guard := none } : Oper)) (v := ?vs6_29) rfl says7_plain (by as_aux_lemma => kernel_rfl) (by as_aux_lemma => kernel_rfl) (fun _ _ _ h => h) (Or.inl ⟨by rfl, ?ys6_29⟩) (by assumption) ?rs6_29
  case ys6_29 => (intro w hSw; (try dsimp only at hSw); go_simp; try with_reducible rfl)
  try simp only [Act.put, List.setIfInBounds_toArray, List.set_cons_zero, List.set_cons_succ]
  refine wpAnyH_take (i := 30) (oi := ({ dst := some 67, op := .move (.tmp 10), type := 26, pos := "law.go:32", after := #[{ on := 29, ground := .guard }], guard := some (29, true) } : Oper)) (v := ?vs6_30) rfl says7_plain (by as_aux_lemma => kernel_rfl) (by as_aux_lemma => kernel_rfl) (fun _ _ _ h => h) (Or.inl ⟨by rfl, ?ys6_30⟩) (by assumption) ?rs6_30
  case ys6_30 => (intro w hSw; (try dsimp only at hSw); go_simp; try with_reducible rfl)
  try simp only [Act.put, List.setIfInBounds_toArray, List.set_cons_zero, List.set_cons_succ]
  refine wpAnyH_take (i := 31) (oi := ({ dst := some 68, op := .move (.tmp 12), type := 26, pos := "law.go:32", after := #[{ on := 29, ground := .guard }], guard := some (29, true) } : Oper)) (v := ?vs6_31) rfl says7_plain (by as_aux_lemma => kernel_rfl) (by as_aux_lemma => kernel_rfl) (fun _ _ _ h => h) (Or.inl ⟨by rfl, ?ys6_31⟩) (by assumption) ?rs6_31
  case ys6_31 => (intro w hSw; (try dsimp only at hSw); go_simp; try with_reducible rfl)
  try simp only [Act.put, List.setIfInBounds_toArray, List.set_cons_zero, List.set_cons_succ]
  refine wpAnyH_take (i := 32) (oi := ({ dst := some 69, op := .binOp .eql 26 (.tmp 67) (.tmp 68) 26, type := 4, pos := "law.go:32", after := #[{ on := 30, ground := .data }, { on := 31, ground := .data }, { on := 29, ground := .guard }], guard := some (29, true) } : Oper)) (v := ?vs6_32) rfl says7_plain (by as_aux_lemma => kernel_rfl) (by as_aux_lemma => kernel_rfl) (fun _ _ _ h => h) (Or.inl ⟨by rfl, ?ys6_32⟩) (by assumption) ?rs6_32
  case ys6_32 => (intro w hSw; (try dsimp only at hSw); go_simp; try with_reducible rfl)
  try simp only [Act.put, List.setIfInBounds_toArray, List.set_cons_zero, List.set_cons_succ]
  refine wpAnyH_take (i := 33) (oi := ({ dst := some 70, op := .pick (.tmp 66) (.tmp 69) (.const (.bool false)), type := 4, pos := "law.go:32", after := #[{ on := 29, ground := .data }, { on := 32, ground := .data }], guard := none } : Oper)) (v := ?vs6_33) rfl says7_plain (by as_aux_lemma => kernel_rfl) (by as_aux_lemma => kernel_rfl) (fun _ _ _ h => h) (Or.inl ⟨by rfl, ?ys6_33⟩) (by assumption) ?rs6_33
  case ys6_33 => (intro w hSw; (try dsimp only at hSw); go_simp; try with_reducible rfl)
  try simp only [Act.put, List.setIfInBounds_toArray, List.set_cons_zero, List.set_cons_succ]
  refine wpAnyH_take (i := 34) (oi := ({ dst := some 71, op := .move (.tmp 70), type := 4, pos := "law.go:32", after := #[{ on := 33, ground := .data }, { on := 29, ground := .chain }], guard := none } : Oper)) (v := ?vs6_34) rfl says7_plain (by as_aux_lemma => kernel_rfl) (by as_aux_lemma => kernel_rfl) (fun _ _ _ h => h) (Or.inl ⟨by rfl, ?ys6_34⟩) (by assumption) ?rs6_34
  case ys6_34 => (intro w hSw; (try dsimp only at hSw); go_simp; try with_reducible rfl)
  try simp only [Act.put, List.setIfInBounds_toArray, List.set_cons_zero, List.set_cons_succ]
  refine wpAnyH_ready (rs := [35]) (by as_aux_lemma => kernel_rfl) (by simp) ?_
  refine AllReadyH.cons (o := ({ dst := some 72, op := .call { callee := .value (.func 6), args := #[], argTypes := #[] }, type := 4, pos := "law.go:32", after := #[{ on := 34, ground := .chain }, { on := 34, ground := .guard }], guard := some (34, true) } : Oper)) rfl (fun KK hK => ?_) AllReadyH.nil
  rw [if_pos (by rfl)]
  go_simp
  go_at_call 6; refine (AW.out _).mono ?_; rintro e w9 ⟨rfl, hb9⟩
  go_wp2_with fail
  refine hK.out _ _ ?_ (fun hHeld9 => ?_)
  · exact belowT (by assumption) hb9
  clear hK KK hb9 hHeld8
  try simp only [Act.put, List.setIfInBounds_toArray, List.set_cons_zero, List.set_cons_succ]
  refine wpAnyH_take (i := 36) (oi := ({ dst := some 73, op := .pick (.tmp 71) (.tmp 72) (.const (.bool false)), type := 4, pos := "law.go:32", after := #[{ on := 34, ground := .data }, { on := 35, ground := .data }], guard := none } : Oper)) (v := ?vs6_36) rfl says7_plain (by as_aux_lemma => kernel_rfl) (by as_aux_lemma => kernel_rfl) (fun _ _ _ h => h) (Or.inl ⟨by rfl, ?ys6_36⟩) (by assumption) ?rs6_36
  case ys6_36 => (intro w hSw; (try dsimp only at hSw); go_simp; try with_reducible rfl)
  try simp only [Act.put, List.setIfInBounds_toArray, List.set_cons_zero, List.set_cons_succ]
  refine wpAnyH_take (i := 37) (oi := ({ dst := some 4, op := .assign (.tmp 73), type := 4, pos := "law.go:32", after := #[{ on := 36, ground := .data }, { on := 35, ground := .chain }, { on := 0, ground := .phase }, { on := 1, ground := .phase }, { on := 2, ground := .phase }, { on := 3, ground := .phase }, { on := 4, ground := .phase }, { on := 5, ground := .phase }, { on := 6, ground := .phase }, { on := 7, ground := .phase }, { on := 8, ground := .phase }, { on := 9, ground := .phase }, { on := 10, ground := .phase }, { on := 11, ground := .phase }, { on := 12, ground := .phase }, { on := 13, ground := .phase }, { on := 14, ground := .phase }, { on := 15, ground := .phase }, { on := 16, ground := .phase }, { on := 17, ground := .phase }, { on := 18, ground := .phase }, { on := 19, ground := .phase }, { on := 20, ground := .phase }, { on := 21, ground := .phase }, { on := 22, ground := .phase }, { on := 23, ground := .phase }, { on := 24, ground := .phase }, { on := 25, ground := .phase }, { on := 26, ground := .phase }, { on := 27, ground := .phase }, { on := 28, ground := .phase }, { on := 29, ground := .phase }, { on := 30, ground := .phase }, { on := 31, ground := .phase }, { on := 32, ground := .phase }, { on := 33, ground := .phase }, { on := 34, ground := .phase }, { on := 35, ground := .phase }, { on := 36, ground := .phase }], guard := none } : Oper)) (v := ?vs6_37) rfl says7_plain (by as_aux_lemma => kernel_rfl) (by as_aux_lemma => kernel_rfl) (fun _ _ _ h => h) (Or.inl ⟨by rfl, ?ys6_37⟩) (by assumption) ?rs6_37
  case ys6_37 => (intro w hSw; (try dsimp only at hSw); go_simp; try with_reducible rfl)
  try simp only [Act.put, List.setIfInBounds_toArray, List.set_cons_zero, List.set_cons_succ]
  refine wpAnyH_done (by as_aux_lemma => kernel_rfl) ?_ _
  refine NoPanic.normal ?_
  go_wp2_with fail
  go_ret
  exact ⟨rfl, belowT HB4.out (by assumption)⟩

theorem Says14_all (O : Own14) (f : Fr) (ba : Option Addr) (cap : Nat) (l : List UInt8) (w : World) (C : Came w ba cap l) :
    Calls Try.prog 3 #[fv f, .slice ba l.length cap] w fun e w' => e = .returned (.bool true) ∧ Below w.heap.size w w' := by
  by_cases h : (300 : Int) < l.length
  · exact says_long O f ba l.length cap w h
  · exact says_core O f ba cap l w C h
end Go.Proofs.Ytmbmpgedoopjlaa
