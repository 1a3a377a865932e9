/- The landed frame's Bytes. -/
import Derived.Test.YtnafodnaolmffaaLanFrmA
import Derived.Test.YtnafodnaolmffaaFrmRefB
namespace Go.Proofs.Ytnafodnaolmffaa
open Go.RowKit

namespace Lan14
theorem bytes0_alloc (w : World) (l : List UInt8) (t : TypeId) (ht : t = 5) (hl : l.length ≤ 1024) :
    Bytes0 w.heap.size w (w.alloc (.cells (vals l).toArray t)) (.slice (some ⟨w.heap.size, 0, none⟩) l.length l.length) l := by
  subst ht
  refine ⟨⟨by simp [vals], Or.inr ⟨w.heap.size, l.length, (vals l).toArray, rfl, Nat.le_refl _, by show (w.heap.push _)[w.heap.size]? = _; simp, Nat.le_refl _, by unfold maxLen; omega, by simp [vals], ?_⟩⟩, below1 w _, by simp⟩
  rw [List.take_of_length_le (by simp [vals])]

set_option maxRecDepth 100000 in
theorem Bytes_no (f : Fr) (w : World) (h : rightF f = false) :
    Calls Try.prog 15 #[fv f] w fun e w' => e = .returned (.tuple #[.slice none 0 0, .int .i64 1]) ∧ Below w.heap.size w w' := by
  have HR := Lib.hid fun w => Right_any f w
  rw [h] at HR
  obtain ⟨s, c, b, v⟩ := f
  simp only [fv] at HR ⊢
  have B1 := Lib.hid (below1 w (.cells #[.int .i64 s, .int .i64 c, .bool b, .int .i64 v] 35))
  go_enter Try.func15, Try.ntmps15
  go_wp2_with fail
  refine (HR.out _).mono ?_; rintro e w1 ⟨rfl, hb1⟩
  have HB := Lib.hid (belowT B1.out hb1)
  clear hb1 B1
  go_wp2
  go_ret2
  exact ⟨rfl, HB.out⟩

/-- The operations of a drawn region, as the translation has them. -/
def lbytes3 : Array Oper := #[
  { dst := some 9, op := .fieldAddr 35 (.tmp 1) 0, type := 0, pos := "frame.go:57", after := #[], guard := none },
  { dst := some 10, op := .load 3 (.tmp 9), type := 3, pos := "frame.go:57", after := #[{ on := 0, ground := .data }], guard := none },
  { dst := some 11, op := .convert 3 5 (.tmp 10), type := 5, pos := "frame.go:57", after := #[{ on := 1, ground := .data }], guard := none },
  { dst := some 12, op := .fieldAddr 35 (.tmp 1) 1, type := 0, pos := "frame.go:57", after := #[], guard := none },
  { dst := some 13, op := .load 3 (.tmp 12), type := 3, pos := "frame.go:57", after := #[{ on := 3, ground := .data }], guard := none },
  { dst := some 14, op := .convert 3 5 (.tmp 13), type := 5, pos := "frame.go:57", after := #[{ on := 4, ground := .data }], guard := none },
  { dst := some 15, op := .fieldAddr 35 (.tmp 1) 2, type := 0, pos := "frame.go:57", after := #[], guard := none },
  { dst := some 16, op := .load 4 (.tmp 15), type := 4, pos := "frame.go:57", after := #[{ on := 6, ground := .data }], guard := none },
  { dst := some 17, op := .call { callee := .value (.func 27), args := #[.tmp 16], argTypes := #[4] }, type := 5, pos := "frame.go:57", after := #[{ on := 7, ground := .data }], guard := none },
  { dst := some 18, op := .buildSlice 22 5 #[(0, .const (.int .u8 165)), (1, .const (.int .u8 90)), (2, .tmp 11), (3, .tmp 14), (4, .tmp 17)], type := 22, pos := "frame.go:57", after := #[{ on := 2, ground := .data }, { on := 5, ground := .data }, { on := 8, ground := .data }], guard := none },
  { dst := some 4, op := .assign (.tmp 18), type := 22, pos := "frame.go:57", after := #[{ on := 9, ground := .data }, { on := 8, ground := .chain }, { on := 0, ground := .phase }, { on := 1, ground := .phase }, { on := 2, ground := .phase }, { on := 3, ground := .phase }, { on := 4, ground := .phase }, { on := 5, ground := .phase }, { on := 6, ground := .phase }, { on := 7, ground := .phase }, { on := 8, ground := .phase }, { on := 9, ground := .phase }], guard := none }]
theorem lbytes3_plain : Region.noSelect lbytes3 = true := by kernel_rfl

set_option maxHeartbeats 4000000 in
set_option maxRecDepth 100000 in
theorem bytes_core (s c v : Int) (b : Bool) (c2 c3 c4 : UInt8) (n : Nat) (body l9 : List UInt8) (x : BitVec 16) (w : World) (e2 : IntKind.u8.wrap s = (c2.toNat : Int)) (e3 : IntKind.u8.wrap c = (c3.toNat : Int))
    (en : IntKind.u64.wrap v = (n : Int)) (hn : (n : Int) ≤ 18446744073709551615) (hbody : [165, 90, c2, c3, c4] ++ Oct.be 4 n = l9) (hl9 : l9.length = 9) (hd : l9.drop 2 = body) (hx : sumOf body = x)
    (HR : Hid (∀ w, Calls Try.prog 26 #[.agg #[.int .i64 s, .int .i64 c, .bool b, .int .i64 v]] w fun e w' => e = .returned (.bool true) ∧ Below w.heap.size w w'))
    (WB : Hid (∀ w, Calls Try.prog 27 #[.bool b] w fun e w' => e = .returned (.int .u8 (c4.toNat : Int)) ∧ Below w.heap.size w w')) :
    Calls Try.prog 15 #[.agg #[.int .i64 s, .int .i64 c, .bool b, .int .i64 v]] w fun e w' => ∃ u, e = .returned (.tuple #[u, .int .i64 0]) ∧ Bytes0 w.heap.size w w' u (l9 ++ [hiB x, loB x]) := by
  have B1 := Lib.hid (below1 w (.cells #[.int .i64 s, .int .i64 c, .bool b, .int .i64 v] 35))
  have H1 := Lib.hid (hasl w [.int .i64 s, .int .i64 c, .bool b, .int .i64 v] 35)
  have HL := Lib.hid (And.intro hbody (And.intro hl9 (And.intro hd hx)))
  clear hbody hl9 hd hx
  go_enter Try.func15, Try.ntmps15
  go_wp2_with fail
  refine (HR.out _).mono ?_; rintro e w1 ⟨rfl, hb1⟩
  have HB1 := Lib.hid (belowT B1.out hb1)
  have H2 := Lib.hid (H1.out.keep hb1)
  clear hb1 B1 H1 HR
  go_upto_region 3 with fail
  obtain ⟨W0, rfl⟩ : ∃ W0, W0 = w1 := ⟨_, rfl⟩
  have q0 := H2.out.at 0 rfl
  have q1 := H2.out.at 1 rfl
  have q2 := H2.out.at 2 rfl
  have r0 : ∀ w', Below W0.heap.size W0 w' → w'.cell? ⟨w.heap.size, 0, none⟩ = some (.int .i64 s) := fun w' h => keepc h q0
  have r1 : ∀ w', Below W0.heap.size W0 w' → w'.cell? ⟨w.heap.size, 1, none⟩ = some (.int .i64 c) := fun w' h => keepc h q1
  have r2 : ∀ w', Below W0.heap.size W0 w' → w'.cell? ⟨w.heap.size, 2, none⟩ = some (.bool b) := fun w' h => keepc h q2
  clear q0 q1 q2
  change (Code.region 3 lbytes3 true).wp Try.prog _ _ _
  refine wp_region_noPanic ?_
  refine wp_region_held_drew (S := fun w' => Below W0.heap.size W0 w') (by kernel_rfl) ((Below.refl _ _).drew) (fun hHeld => ?_)
  refine wpAnyH_take (i := 0) (oi := ({ dst := some 9, op := .fieldAddr 35 (.tmp 1) 0, type := 0, pos := "frame.go:57", after := #[], guard := none } : Oper)) (v := ?vs11_0) rfl lbytes3_plain (by as_aux_lemma => kernel_rfl) (by as_aux_lemma => kernel_rfl) (fun _ _ _ h => h) (Or.inl ⟨by rfl, ?ys11_0⟩) (by assumption) ?rs11_0
  case ys11_0 => (intro w hSw; (try dsimp only at hSw); go_simp; try with_reducible rfl)
  try simp only [Act.put, List.setIfInBounds_toArray, List.set_cons_zero, List.set_cons_succ]
  refine wpAnyH_take (i := 1) (oi := ({ dst := some 10, op := .load 3 (.tmp 9), type := 3, pos := "frame.go:57", after := #[{ on := 0, ground := .data }], guard := none } : Oper)) (v := ?vs11_1) rfl lbytes3_plain (by as_aux_lemma => kernel_rfl) (by as_aux_lemma => kernel_rfl) (fun _ _ _ h => h) (Or.inl ⟨by rfl, ?ys11_1⟩) (by assumption) ?rs11_1
  case ys11_1 => (intro w hSw; (try dsimp only at hSw); go_simp; try with_reducible rfl)
  try simp only [Act.put, List.setIfInBounds_toArray, List.set_cons_zero, List.set_cons_succ]
  refine wpAnyH_take (i := 2) (oi := ({ dst := some 11, op := .convert 3 5 (.tmp 10), type := 5, pos := "frame.go:57", after := #[{ on := 1, ground := .data }], guard := none } : Oper)) (v := ?vs11_2) rfl lbytes3_plain (by as_aux_lemma => kernel_rfl) (by as_aux_lemma => kernel_rfl) (fun _ _ _ h => h) (Or.inl ⟨by rfl, ?ys11_2⟩) (by assumption) ?rs11_2
  case ys11_2 => (intro w hSw; (try dsimp only at hSw); go_simp; try with_reducible rfl)
  try simp only [Act.put, List.setIfInBounds_toArray, List.set_cons_zero, List.set_cons_succ]
  refine wpAnyH_take (i := 3) (oi := ({ dst := some 12, op := .fieldAddr 35 (.tmp 1) 1, type := 0, pos := "frame.go:57", after := #[], guard := none } : Oper)) (v := ?vs11_3) rfl lbytes3_plain (by as_aux_lemma => kernel_rfl) (by as_aux_lemma => kernel_rfl) (fun _ _ _ h => h) (Or.inl ⟨by rfl, ?ys11_3⟩) (by assumption) ?rs11_3
  case ys11_3 => (intro w hSw; (try dsimp only at hSw); go_simp; try with_reducible rfl)
  try simp only [Act.put, List.setIfInBounds_toArray, List.set_cons_zero, List.set_cons_succ]
  refine wpAnyH_take (i := 4) (oi := ({ dst := some 13, op := .load 3 (.tmp 12), type := 3, pos := "frame.go:57", after := #[{ on := 3, ground := .data }], guard := none } : Oper)) (v := ?vs11_4) rfl lbytes3_plain (by as_aux_lemma => kernel_rfl) (by as_aux_lemma => kernel_rfl) (fun _ _ _ h => h) (Or.inl ⟨by rfl, ?ys11_4⟩) (by assumption) ?rs11_4
  case ys11_4 => (intro w hSw; (try dsimp only at hSw); go_simp; try with_reducible rfl)
  try simp only [Act.put, List.setIfInBounds_toArray, List.set_cons_zero, List.set_cons_succ]
  refine wpAnyH_take (i := 5) (oi := ({ dst := some 14, op := .convert 3 5 (.tmp 13), type := 5, pos := "frame.go:57", after := #[{ on := 4, ground := .data }], guard := none } : Oper)) (v := ?vs11_5) rfl lbytes3_plain (by as_aux_lemma => kernel_rfl) (by as_aux_lemma => kernel_rfl) (fun _ _ _ h => h) (Or.inl ⟨by rfl, ?ys11_5⟩) (by assumption) ?rs11_5
  case ys11_5 => (intro w hSw; (try dsimp only at hSw); go_simp; try with_reducible rfl)
  try simp only [Act.put, List.setIfInBounds_toArray, List.set_cons_zero, List.set_cons_succ]
  refine wpAnyH_take (i := 6) (oi := ({ dst := some 15, op := .fieldAddr 35 (.tmp 1) 2, type := 0, pos := "frame.go:57", after := #[], guard := none } : Oper)) (v := ?vs11_6) rfl lbytes3_plain (by as_aux_lemma => kernel_rfl) (by as_aux_lemma => kernel_rfl) (fun _ _ _ h => h) (Or.inl ⟨by rfl, ?ys11_6⟩) (by assumption) ?rs11_6
  case ys11_6 => (intro w hSw; (try dsimp only at hSw); go_simp; try with_reducible rfl)
  try simp only [Act.put, List.setIfInBounds_toArray, List.set_cons_zero, List.set_cons_succ]
  refine wpAnyH_take (i := 7) (oi := ({ dst := some 16, op := .load 4 (.tmp 15), type := 4, pos := "frame.go:57", after := #[{ on := 6, ground := .data }], guard := none } : Oper)) (v := ?vs11_7) rfl lbytes3_plain (by as_aux_lemma => kernel_rfl) (by as_aux_lemma => kernel_rfl) (fun _ _ _ h => h) (Or.inl ⟨by rfl, ?ys11_7⟩) (by assumption) ?rs11_7
  case ys11_7 => (intro w hSw; (try dsimp only at hSw); go_simp; try with_reducible rfl)
  try simp only [Act.put, List.setIfInBounds_toArray, List.set_cons_zero, List.set_cons_succ]
  refine wpAnyH_ready (rs := [8]) (by as_aux_lemma => kernel_rfl) (by simp) ?_
  refine AllReadyH.cons (o := ({ dst := some 17, op := .call { callee := .value (.func 27), args := #[.tmp 16], argTypes := #[4] }, type := 5, pos := "frame.go:57", after := #[{ on := 7, ground := .data }], guard := none } : Oper)) rfl (fun KK hK => ?_) AllReadyH.nil
  rw [if_pos (by rfl)]
  go_simp
  go_at_call 27; refine (WB.out _).mono ?_; rintro e w2 ⟨rfl, hb2⟩
  go_wp2_with fail
  refine hK.out _ _ ?_ (fun hHeld2 => ?_)
  · exact belowT (by assumption) hb2
  clear hK KK hb2
  try simp only [Act.put, List.setIfInBounds_toArray, List.set_cons_zero, List.set_cons_succ]
  refine wpAnyH_ready (rs := [9]) (by as_aux_lemma => kernel_rfl) (by simp) ?_
  refine AllReadyH.cons (o := ({ dst := some 18, op := .buildSlice 22 5 #[(0, .const (.int .u8 165)), (1, .const (.int .u8 90)), (2, .tmp 11), (3, .tmp 14), (4, .tmp 17)], type := 22, pos := "frame.go:57", after := #[{ on := 2, ground := .data }, { on := 5, ground := .data }, { on := 8, ground := .data }], guard := none } : Oper)) rfl (fun KK hK => ?_) AllReadyH.nil
  rw [if_pos (by rfl)]
  go_simp
  have hv : Bytes0 w2.heap.size w2 (w2.alloc (.cells #[.int .u8 165, .int .u8 90, .int .u8 (c2.toNat : Int), .int .u8 (c3.toNat : Int), .int .u8 (c4.toNat : Int)] 5)) (.slice (some ⟨w2.heap.size, 0, none⟩) 5 5) [165, 90, c2, c3, c4] := bytes0_alloc w2 [165, 90, c2, c3, c4] _ rfl (by simp)
  have hvb := belowT hHeld2 hv.below
  replace hv := hv.low (belowT HB1.out hHeld2)
  obtain ⟨g3, hg3⟩ : ∃ g, g = w2.heap.size := ⟨_, rfl⟩
  rw [← hg3] at hv ⊢
  clear hg3
  obtain ⟨w3, hw3⟩ : ∃ x, x = w2.alloc (.cells #[.int .u8 165, .int .u8 90, .int .u8 (c2.toNat : Int), .int .u8 (c3.toNat : Int), .int .u8 (c4.toNat : Int)] 5) := ⟨_, rfl⟩
  rw [← hw3] at hv hvb ⊢
  clear hw3
  refine hK.out _ _ ?_ (fun hHeldA => ?_)
  · exact hvb
  clear hK KK hHeld2
  try simp only [Act.put, List.setIfInBounds_toArray, List.set_cons_zero, List.set_cons_succ]
  refine wpAnyH_take (i := 10) (oi := ({ dst := some 4, op := .assign (.tmp 18), type := 22, pos := "frame.go:57", after := #[{ on := 9, ground := .data }, { on := 8, ground := .chain }, { on := 0, ground := .phase }, { on := 1, ground := .phase }, { on := 2, ground := .phase }, { on := 3, ground := .phase }, { on := 4, ground := .phase }, { on := 5, ground := .phase }, { on := 6, ground := .phase }, { on := 7, ground := .phase }, { on := 8, ground := .phase }, { on := 9, ground := .phase }], guard := none } : Oper)) (v := ?vs11_10) rfl lbytes3_plain (by as_aux_lemma => kernel_rfl) (by as_aux_lemma => kernel_rfl) (fun _ _ _ h => h) (Or.inl ⟨by rfl, ?ys11_10⟩) (by assumption) ?rs11_10
  case ys11_10 => (intro w hSw; (try dsimp only at hSw); go_simp; try with_reducible rfl)
  try simp only [Act.put, List.setIfInBounds_toArray, List.set_cons_zero, List.set_cons_succ]
  refine wpAnyH_done (by as_aux_lemma => kernel_rfl) ?_ _
  refine NoPanic.normal ?_
  have q3 := keepc hHeldA (H2.out.at 3 rfl)
  have hbe : (Oct.be 4 n).length = 4 := Oct.be_length 4 n
  clear r0 r1 r2 H2 hvb WB e2 e3
  go_wp2_with fail
  refine (Own.Put_any n 4 4 w3 hn (by decide)).mono ?_; rintro e w4 ⟨rfl, hw⟩
  have hp : Lies w4 w3.heap.size 0 (Oct.be 4 n) := hw ▸ lies_alloc _ _ _
  have hv4 := hv.keep (hw ▸ below1 _ _ : Below w3.heap.size w3 w4)
  have C4 : Came w4 (some ⟨w3.heap.size, 0, none⟩) 4 (Oct.be 4 n) := ⟨by omega, by decide, fun e => (by cases e), fun _ => ⟨_, _, rfl, hp⟩⟩
  clear hw hv hp q3 en
  go_wp2_with (at_builtin; refine list_append_came0 (v := .slice (some ⟨g3, 0, none⟩) 5 5) (m := Oct.be 4 n) (c := 4) rfl rfl rfl hv4 (by rw [hbe]; rfl) C4 ?c1 ?_)
  case c1 => rw [hbe]; simp
  intro v5 w5 hv5
  rw [show (165 :: 90 :: c2 :: c3 :: c4 :: Oct.be 4 n : List UInt8) = l9 from HL.out.1] at hv5
  obtain ⟨ba, cap, rfl, C5⟩ := hv5.bytes.came
  obtain ⟨bt, ct, hs, T5⟩ := came_tail C5 2 (by rw [HL.out.2.1]; decide)
  rw [HL.out.2.2.1] at hs T5
  replace hs : ∀ W, (Instr.sliceAt 22 (.slice ba l9.length cap) (some (.int .i64 2)) none none).run Try.prog W = .ok (.slice bt body.length ct) W := hs
  have OF := Lib.hid (Own6.Of_any T5)
  rw [show Crc.sum (bv body) = x from HL.out.2.2.2] at OF
  have V5 := Lib.hid hv5
  clear hv4 C4 hbe C5 T5 hv5
  go_wp2_with fail
  refine OF.out.mono ?_; rintro e w6 ⟨rfl, hb6⟩
  have V6 := Lib.hid (V5.out.keep hb6)
  have hx1 : (x.toNat : Int) ≤ 18446744073709551615 := by have := x.isLt; omega
  have ew : IntKind.u64.wrap (x.toNat : Int) = (x.toNat : Int) := by rw [IntKind.wrap_u64]; omega
  clear OF V5 hb6 hs
  go_wp2_with fail
  refine (Own.Put_any x.toNat 2 2 w6 hx1 (by decide)).mono ?_; rintro e w7 ⟨rfl, hw⟩
  have hp : Lies w7 w6.heap.size 0 (Oct.be 2 x.toNat) := hw ▸ lies_alloc _ _ _
  have hv7 := V6.out.keep (hw ▸ below1 _ _ : Below w6.heap.size w6 w7)
  rw [be2_sum] at hp
  have C7 : Came w7 (some ⟨w6.heap.size, 0, none⟩) 2 [hiB x, loB x] := ⟨by simp, by decide, fun e => (by cases e), fun _ => ⟨_, _, rfl, hp⟩⟩
  clear hw hp V6
  go_wp2_with (at_builtin; refine list_append_came0 (v := .slice ba l9.length cap) (m := [hiB x, loB x]) (c := 2) rfl rfl rfl hv7 rfl C7 ?c2 ?_)
  case c2 => rw [HL.out.2.1]; simp
  intro v8 w8 hv8
  have HV := Lib.hid hv8
  clear hv8 hv7 C7
  go_wp2
  go_ret2
  exact ⟨v8, rfl, HV.out⟩

theorem Bytes_ok (f : Fr) (w : World) (h : rightF f = true) :
    Calls Try.prog 15 #[fv f] w fun e w' => ∃ u, e = .returned (.tuple #[u, .int .i64 0]) ∧ Bytes0 w.heap.size w w' u (frameF f) := by
  obtain ⟨h1, h2, h3, h4, h5, h6⟩ := (right_iff f).1 h
  obtain ⟨a, b', c', d, e, eb⟩ := body_seven f
  have HR := Lib.hid fun w => Right_any f w
  rw [h] at HR
  have k := bytes_core f.src f.cnt f.val f.well (UInt8.ofNat f.src.toNat) (UInt8.ofNat f.cnt.toNat) _ (f.val % 18446744073709551616).toNat (bodyF f) ([165, 90] ++ bodyF f) (sumOf (bodyF f)) w (u8_nat _ h1 (by omega)) (u8_nat _ h3 h4)
    (by rw [IntKind.wrap_u64]; omega) (by omega) (by rw [be4_wrap]; rfl) (by rw [eb]; rfl) rfl rfl HR (Lib.hid fun w => well_any f.well w)
  refine k.mono fun e w' hk => ?_
  obtain ⟨u, he, hu⟩ := hk
  exact ⟨u, he, by unfold frameF withSum; rw [List.append_assoc] at hu; exact hu⟩
end Lan14
end Go.Proofs.Ytnafodnaolmffaa
