/- Kernel of the document's own answers for layer 8. -/
import Derived.Test.YtjdpcmcekockgaaMatRank
import Derived.Test.YtjdpcmcekockgaaSt
namespace Go.Proofs.Ytjdpcmcekockgaa
open Go.RowKit
def M3.kernel (m : M3) : V3 :=
  if m.a.cross m.b ≠ V3.zero then m.a.cross m.b else
  if m.a.cross m.c ≠ V3.zero then m.a.cross m.c else
  if m.b.cross m.c ≠ V3.zero then m.b.cross m.c else
  if m.a.cross (V3.one 0) ≠ V3.zero then m.a.cross (V3.one 0) else
  if m.a.cross (V3.one 1) ≠ V3.zero then m.a.cross (V3.one 1) else
  if m.a.cross (V3.one 2) ≠ V3.zero then m.a.cross (V3.one 2) else
  if m.b.cross (V3.one 0) ≠ V3.zero then m.b.cross (V3.one 0) else
  if m.b.cross (V3.one 1) ≠ V3.zero then m.b.cross (V3.one 1) else
  if m.b.cross (V3.one 2) ≠ V3.zero then m.b.cross (V3.one 2) else
  if m.c.cross (V3.one 0) ≠ V3.zero then m.c.cross (V3.one 0) else
  if m.c.cross (V3.one 1) ≠ V3.zero then m.c.cross (V3.one 1) else
  if m.c.cross (V3.one 2) ≠ V3.zero then m.c.cross (V3.one 2) else
  V3.one 0
/-- m's block, the result's -/
def kerB (w : World) (m : M3) : List (Nat × List (Option Value)) := [(w.heap.size, (ml m).map some), (w.heap.size + 1, [none, none, none])]
theorem vec_row (m : M3) (w : World) : ((Instr.index 25 (mv m) (.int .i64 0)).run Try.prog w = .ok (vv m.a) w) ∧ ((Instr.index 25 (mv m) (.int .i64 1)).run Try.prog w = .ok (vv m.b) w) ∧ ((Instr.index 25 (mv m) (.int .i64 2)).run Try.prog w = .ok (vv m.c) w) :=
  ⟨by kernel_rfl, by kernel_rfl, by kernel_rfl⟩
namespace Ref8
/-- The operations of a drawn region, as the translation has them. -/
def kernel9 : Array Oper := #[
  { dst := some 24, op := .move (.tmp 4), type := 3, pos := "ref.go:105", after := #[], guard := none },
  { dst := some 25, op := .indexAddr 25 (.tmp 1) (.tmp 24), type := 0, pos := "ref.go:105", after := #[{ on := 0, ground := .data }], guard := none },
  { dst := some 26, op := .load 23 (.tmp 25), type := 23, pos := "ref.go:105", after := #[{ on := 1, ground := .data }], guard := none },
  { dst := some 27, op := .move (.tmp 5), type := 3, pos := "ref.go:105", after := #[], guard := none },
  { dst := some 28, op := .indexAddr 25 (.tmp 1) (.tmp 27), type := 0, pos := "ref.go:105", after := #[{ on := 3, ground := .data }], guard := none },
  { dst := some 29, op := .load 23 (.tmp 28), type := 23, pos := "ref.go:105", after := #[{ on := 4, ground := .data }], guard := none },
  { dst := some 30, op := .call { callee := .value (.func 43), args := #[.tmp 26, .tmp 29], argTypes := #[23, 23] }, type := 23, pos := "ref.go:105", after := #[{ on := 2, ground := .data }, { on := 5, ground := .data }], guard := none },
  { dst := some 6, op := .alloc 23, type := 0, pos := "ref.go:105", after := #[], guard := none },
  { dst := none, op := .store 23 (.tmp 6) (.tmp 30), type := 0, pos := "ref.go:105", after := #[{ on := 7, ground := .data }, { on := 6, ground := .data }, { on := 6, ground := .chain }, { on := 0, ground := .phase }, { on := 1, ground := .phase }, { on := 2, ground := .phase }, { on := 3, ground := .phase }, { on := 4, ground := .phase }, { on := 5, ground := .phase }, { on := 6, ground := .phase }, { on := 7, ground := .phase }], guard := none }]
theorem kernel9_plain : Region.noSelect kernel9 = true := by kernel_rfl

/-- The operations of a drawn region, as the translation has them. -/
def kernel19 : Array Oper := #[
  { dst := some 43, op := .load 23 (.tmp 8), type := 23, pos := "ref.go:112", after := #[], guard := none },
  { dst := some 44, op := .move (.tmp 9), type := 3, pos := "ref.go:112", after := #[], guard := none },
  { dst := some 45, op := .call { callee := .value (.func 44), args := #[.tmp 44], argTypes := #[3] }, type := 23, pos := "ref.go:112", after := #[{ on := 1, ground := .data }], guard := none },
  { dst := some 46, op := .call { callee := .value (.func 43), args := #[.tmp 43, .tmp 45], argTypes := #[23, 23] }, type := 23, pos := "ref.go:112", after := #[{ on := 0, ground := .data }, { on := 2, ground := .data }, { on := 2, ground := .chain }], guard := none },
  { dst := some 10, op := .alloc 23, type := 0, pos := "ref.go:112", after := #[], guard := none },
  { dst := none, op := .store 23 (.tmp 10) (.tmp 46), type := 0, pos := "ref.go:112", after := #[{ on := 4, ground := .data }, { on := 3, ground := .data }, { on := 3, ground := .chain }, { on := 0, ground := .phase }, { on := 1, ground := .phase }, { on := 2, ground := .phase }, { on := 3, ground := .phase }, { on := 4, ground := .phase }], guard := none }]
theorem kernel19_plain : Region.noSelect kernel19 = true := by kernel_rfl

set_option maxHeartbeats 40000000 in
set_option maxRecDepth 100000 in
theorem Kernel_flat (m : M3) (w : World) (hd : m.det = 0) :
    Calls Try.prog 23 #[mv m] w fun e w' => e = .returned (.tuple #[vv m.kernel, .bool true]) ∧ Below w.heap.size w w' := by
  have DE := Lib.hid (Det_any m)
  rw [hd, show (0 : BitVec 64).toInt = 0 by decide] at DE
  clear hd
  have i1 : St w (kerB w m) ((w.alloc (.cells (ml m).toArray 25)).alloc (.cells #[.int .i64 0, .int .i64 0, .int .i64 0] 23)) := by
    have h0 := ((St.none w).more (ml m) 25).more [.int .i64 0, .int .i64 0, .int .i64 0] 23
    rw [heap1] at h0
    refine ⟨h0.below, fun p hp => ?_⟩
    unfold kerB at hp
    simp only [List.mem_cons, List.not_mem_nil, or_false] at hp
    rcases hp with rfl | rfl
    · exact h0.cells 0 rfl
    · exact (h0.cells 1 rfl).blank
  have I1 := Lib.hid i1
  clear i1
  have C0 := Lib.hid (Ref7.Cross_any m.a m.b); have Z0 := vec_zero (m.a.cross m.b)
  have C1 := Lib.hid (Ref7.Cross_any m.a m.c); have Z1 := vec_zero (m.a.cross m.c)
  have C2 := Lib.hid (Ref7.Cross_any m.b m.c); have Z2 := vec_zero (m.b.cross m.c)
  have C3 := Lib.hid (Ref7.Cross_any m.a (V3.one 0)); have Z3 := vec_zero (m.a.cross (V3.one 0))
  have C4 := Lib.hid (Ref7.Cross_any m.a (V3.one 1)); have Z4 := vec_zero (m.a.cross (V3.one 1))
  have C5 := Lib.hid (Ref7.Cross_any m.a (V3.one 2)); have Z5 := vec_zero (m.a.cross (V3.one 2))
  have C6 := Lib.hid (Ref7.Cross_any m.b (V3.one 0)); have Z6 := vec_zero (m.b.cross (V3.one 0))
  have C7 := Lib.hid (Ref7.Cross_any m.b (V3.one 1)); have Z7 := vec_zero (m.b.cross (V3.one 1))
  have C8 := Lib.hid (Ref7.Cross_any m.b (V3.one 2)); have Z8 := vec_zero (m.b.cross (V3.one 2))
  have C9 := Lib.hid (Ref7.Cross_any m.c (V3.one 0)); have Z9 := vec_zero (m.c.cross (V3.one 0))
  have C10 := Lib.hid (Ref7.Cross_any m.c (V3.one 1)); have Z10 := vec_zero (m.c.cross (V3.one 1))
  have C11 := Lib.hid (Ref7.Cross_any m.c (V3.one 2)); have Z11 := vec_zero (m.c.cross (V3.one 2))
  have O0 := Lib.hid (Ref7.One_any 0); have O1 := Lib.hid (Ref7.One_any 1); have O2 := Lib.hid (Ref7.One_any 2)
  have er : m.kernel = if decide (m.a.cross m.b = V3.zero) = false then m.a.cross m.b else if decide (m.a.cross m.c = V3.zero) = false then m.a.cross m.c else if decide (m.b.cross m.c = V3.zero) = false then m.b.cross m.c else if decide (m.a.cross (V3.one 0) = V3.zero) = false then m.a.cross (V3.one 0) else if decide (m.a.cross (V3.one 1) = V3.zero) = false then m.a.cross (V3.one 1) else if decide (m.a.cross (V3.one 2) = V3.zero) = false then m.a.cross (V3.one 2) else if decide (m.b.cross (V3.one 0) = V3.zero) = false then m.b.cross (V3.one 0) else if decide (m.b.cross (V3.one 1) = V3.zero) = false then m.b.cross (V3.one 1) else if decide (m.b.cross (V3.one 2) = V3.zero) = false then m.b.cross (V3.one 2) else if decide (m.c.cross (V3.one 0) = V3.zero) = false then m.c.cross (V3.one 0) else if decide (m.c.cross (V3.one 1) = V3.zero) = false then m.c.cross (V3.one 1) else if decide (m.c.cross (V3.one 2) = V3.zero) = false then m.c.cross (V3.one 2) else V3.one 0 := by
    unfold M3.kernel; simp only [decide_eq_false_iff_not, ne_eq]
  rw [er]
  clear er
  generalize decide (m.a.cross m.b = V3.zero) = q0 at *; generalize m.a.cross m.b = x0 at *
  generalize decide (m.a.cross m.c = V3.zero) = q1 at *; generalize m.a.cross m.c = x1 at *
  generalize decide (m.b.cross m.c = V3.zero) = q2 at *; generalize m.b.cross m.c = x2 at *
  generalize decide (m.a.cross (V3.one 0) = V3.zero) = q3 at *; generalize m.a.cross (V3.one 0) = x3 at *
  generalize decide (m.a.cross (V3.one 1) = V3.zero) = q4 at *; generalize m.a.cross (V3.one 1) = x4 at *
  generalize decide (m.a.cross (V3.one 2) = V3.zero) = q5 at *; generalize m.a.cross (V3.one 2) = x5 at *
  generalize decide (m.b.cross (V3.one 0) = V3.zero) = q6 at *; generalize m.b.cross (V3.one 0) = x6 at *
  generalize decide (m.b.cross (V3.one 1) = V3.zero) = q7 at *; generalize m.b.cross (V3.one 1) = x7 at *
  generalize decide (m.b.cross (V3.one 2) = V3.zero) = q8 at *; generalize m.b.cross (V3.one 2) = x8 at *
  generalize decide (m.c.cross (V3.one 0) = V3.zero) = q9 at *; generalize m.c.cross (V3.one 0) = x9 at *
  generalize decide (m.c.cross (V3.one 1) = V3.zero) = q10 at *; generalize m.c.cross (V3.one 1) = x10 at *
  generalize decide (m.c.cross (V3.one 2) = V3.zero) = q11 at *; generalize m.c.cross (V3.one 2) = x11 at *
  go_enter Try.func23, Try.ntmps23
  go_wp2_with fail
  refine (DE.out _).mono ?_; rintro e W0 ⟨rfl, hb1⟩
  have hz := hb1.size
  rw [heap1, heap1] at hz
  have S1 := I1.out.keep hb1
  clear hb1 I1 DE
  go_wp2_with fail
  refine wp_loop_rounds 4 ?_
  rw [rounds_succ]
  go_wp2_with fail
  refine wp_loop_rounds 3 ?_
  rw [rounds_succ]
  go_upto_region 9 with fail
  have HS := Lib.hid S1
  clear S1
  have r0 : ∀ w', Below W0.heap.size W0 w' → w'.cell? ⟨w.heap.size, 0, none⟩ = some (.int .i64 m.a.x.toInt) := fun w' h => (HS.out.keep h).at 0 rfl 0 rfl
  have r1 : ∀ w', Below W0.heap.size W0 w' → w'.cell? ⟨w.heap.size, 1, none⟩ = some (.int .i64 m.a.y.toInt) := fun w' h => (HS.out.keep h).at 0 rfl 1 rfl
  have r2 : ∀ w', Below W0.heap.size W0 w' → w'.cell? ⟨w.heap.size, 2, none⟩ = some (.int .i64 m.a.z.toInt) := fun w' h => (HS.out.keep h).at 0 rfl 2 rfl
  have r3 : ∀ w', Below W0.heap.size W0 w' → w'.cell? ⟨w.heap.size, 3, none⟩ = some (.int .i64 m.b.x.toInt) := fun w' h => (HS.out.keep h).at 0 rfl 3 rfl
  have r4 : ∀ w', Below W0.heap.size W0 w' → w'.cell? ⟨w.heap.size, 4, none⟩ = some (.int .i64 m.b.y.toInt) := fun w' h => (HS.out.keep h).at 0 rfl 4 rfl
  have r5 : ∀ w', Below W0.heap.size W0 w' → w'.cell? ⟨w.heap.size, 5, none⟩ = some (.int .i64 m.b.z.toInt) := fun w' h => (HS.out.keep h).at 0 rfl 5 rfl
  go_cut [6, 15] from 6 to 31 (fun p q wx => ∃ X, p = .pointer (some ⟨X, 0, none⟩) ∧ q = .int .i64 0 ∧ w.heap.size + 2 ≤ wx.heap.size ∧ St w (kerB w m) wx ∧ OwnL wx X (vl x0))
  case first =>
    change (Code.region 9 kernel9 true).wp Try.prog _ _ _
    refine wp_region_noPanic ?_
    refine wp_region_held_drew (S := fun w' => Below W0.heap.size W0 w') (by kernel_rfl) ((Below.refl _ _).drew) (fun hHeld => ?_)
    refine wpAnyH_take (i := 0) (oi := ({ dst := some 24, op := .move (.tmp 4), type := 3, pos := "ref.go:105", after := #[], guard := none } : Oper)) (v := ?vv4_1_) rfl kernel9_plain (by as_aux_lemma => kernel_rfl) (by as_aux_lemma => kernel_rfl) (fun _ _ _ h => h) (Or.inl ⟨by rfl, ?yv4_1_⟩) (by assumption) ?rv4_1_
    case yv4_1_ => (intro w hSw; (try dsimp only at hSw); go_simp; try with_reducible rfl)
    try simp only [Act.put, List.setIfInBounds_toArray, List.set_cons_zero, List.set_cons_succ]
    refine wpAnyH_take (i := 1) (oi := ({ dst := some 25, op := .indexAddr 25 (.tmp 1) (.tmp 24), type := 0, pos := "ref.go:105", after := #[{ on := 0, ground := .data }], guard := none } : Oper)) (v := ?vv4_2_) rfl kernel9_plain (by as_aux_lemma => kernel_rfl) (by as_aux_lemma => kernel_rfl) (fun _ _ _ h => h) (Or.inl ⟨by rfl, ?yv4_2_⟩) (by assumption) ?rv4_2_
    case yv4_2_ => (intro w hSw; (try dsimp only at hSw); go_simp; try with_reducible rfl)
    try simp only [Act.put, List.setIfInBounds_toArray, List.set_cons_zero, List.set_cons_succ]
    refine wpAnyH_take (i := 2) (oi := ({ dst := some 26, op := .load 23 (.tmp 25), type := 23, pos := "ref.go:105", after := #[{ on := 1, ground := .data }], guard := none } : Oper)) (v := ?vv4_3_) rfl kernel9_plain (by as_aux_lemma => kernel_rfl) (by as_aux_lemma => kernel_rfl) (fun _ _ _ h => h) (Or.inl ⟨by rfl, ?yv4_3_⟩) (by assumption) ?rv4_3_
    case yv4_3_ => (intro w hSw; (try dsimp only at hSw); go_simp; try with_reducible rfl)
    try simp only [Act.put, List.setIfInBounds_toArray, List.set_cons_zero, List.set_cons_succ]
    refine wpAnyH_take (i := 3) (oi := ({ dst := some 27, op := .move (.tmp 5), type := 3, pos := "ref.go:105", after := #[], guard := none } : Oper)) (v := ?vv4_4_) rfl kernel9_plain (by as_aux_lemma => kernel_rfl) (by as_aux_lemma => kernel_rfl) (fun _ _ _ h => h) (Or.inl ⟨by rfl, ?yv4_4_⟩) (by assumption) ?rv4_4_
    case yv4_4_ => (intro w hSw; (try dsimp only at hSw); go_simp; try with_reducible rfl)
    try simp only [Act.put, List.setIfInBounds_toArray, List.set_cons_zero, List.set_cons_succ]
    refine wpAnyH_take (i := 4) (oi := ({ dst := some 28, op := .indexAddr 25 (.tmp 1) (.tmp 27), type := 0, pos := "ref.go:105", after := #[{ on := 3, ground := .data }], guard := none } : Oper)) (v := ?vv4_5_) rfl kernel9_plain (by as_aux_lemma => kernel_rfl) (by as_aux_lemma => kernel_rfl) (fun _ _ _ h => h) (Or.inl ⟨by rfl, ?yv4_5_⟩) (by assumption) ?rv4_5_
    case yv4_5_ => (intro w hSw; (try dsimp only at hSw); go_simp; try with_reducible rfl)
    try simp only [Act.put, List.setIfInBounds_toArray, List.set_cons_zero, List.set_cons_succ]
    refine wpAnyH_take (i := 5) (oi := ({ dst := some 29, op := .load 23 (.tmp 28), type := 23, pos := "ref.go:105", after := #[{ on := 4, ground := .data }], guard := none } : Oper)) (v := ?vv4_6_) rfl kernel9_plain (by as_aux_lemma => kernel_rfl) (by as_aux_lemma => kernel_rfl) (fun _ _ _ h => h) (Or.inl ⟨by rfl, ?yv4_6_⟩) (by assumption) ?rv4_6_
    case yv4_6_ => (intro w hSw; (try dsimp only at hSw); go_simp; try with_reducible rfl)
    try simp only [Act.put, List.setIfInBounds_toArray, List.set_cons_zero, List.set_cons_succ]
    refine wpAnyH_ready (rs := [6, 7]) (by as_aux_lemma => kernel_rfl) (by simp) ?_
    refine AllReadyH.cons (o := ({ dst := some 30, op := .call { callee := .value (.func 43), args := #[.tmp 26, .tmp 29], argTypes := #[23, 23] }, type := 23, pos := "ref.go:105", after := #[{ on := 2, ground := .data }, { on := 5, ground := .data }], guard := none } : Oper)) rfl (fun KK hK => ?_) (AllReadyH.cons (o := ({ dst := some 6, op := .alloc 23, type := 0, pos := "ref.go:105", after := #[], guard := none } : Oper)) rfl (fun KK hK => ?_) AllReadyH.nil)
    · skip
      rw [if_pos (by rfl)]
      go_simp
      go_at_call 43; refine (C0.out _).mono ?_; rintro e w2 ⟨rfl, hb2⟩
      go_wp2_with fail
      refine hK.out _ _ ?_ (fun hHeld2 => ?_)
      · exact belowT (by assumption) hb2
      have H2 : Below W0.heap.size W0 w2 := by assumption
      have S2 := H2.size
      clear hK KK hb2
      try simp only [Act.put, List.setIfInBounds_toArray, List.set_cons_zero, List.set_cons_succ]
      refine wpAnyH_ready (rs := [7]) (by as_aux_lemma => kernel_rfl) (by simp) ?_
      refine AllReadyH.cons (o := ({ dst := some 6, op := .alloc 23, type := 0, pos := "ref.go:105", after := #[], guard := none } : Oper)) rfl (fun KK hK => ?_) AllReadyH.nil
      rw [if_pos (by rfl)]
      go_simp
      refine hK.out _ _ ?_ (fun _hHeldA => ?_)
      · first | exact belowT (by assumption) (below1 _ _) | exact (belowT (by assumption) (below1 _ _)).drew
      clear hK KK
      try simp only [Act.put, List.setIfInBounds_toArray, List.set_cons_zero, List.set_cons_succ]
      refine wpAnyH_ready (rs := [8]) (by as_aux_lemma => kernel_rfl) (by simp) ?_
      refine AllReadyH.cons (o := ({ dst := none, op := .store 23 (.tmp 6) (.tmp 30), type := 0, pos := "ref.go:105", after := #[{ on := 7, ground := .data }, { on := 6, ground := .data }, { on := 6, ground := .chain }, { on := 0, ground := .phase }, { on := 1, ground := .phase }, { on := 2, ground := .phase }, { on := 3, ground := .phase }, { on := 4, ground := .phase }, { on := 5, ground := .phase }, { on := 6, ground := .phase }, { on := 7, ground := .phase }], guard := none } : Oper)) rfl (fun KK hK => ?_) AllReadyH.nil
      rw [if_pos (by rfl)]
      have p0 := (ownl w2 [.int .i64 0, .int .i64 0, .int .i64 0] 23).1.at 0 rfl
      have q0 := (ownl w2 [.int .i64 0, .int .i64 0, .int .i64 0] 23).2 0 (by simp)
      have p1 := (ownl w2 [.int .i64 0, .int .i64 0, .int .i64 0] 23).1.at 1 rfl
      have q1 := (ownl w2 [.int .i64 0, .int .i64 0, .int .i64 0] 23).2 1 (by simp)
      have p2 := (ownl w2 [.int .i64 0, .int .i64 0, .int .i64 0] 23).1.at 2 rfl
      have q2 := (ownl w2 [.int .i64 0, .int .i64 0, .int .i64 0] 23).2 2 (by simp)
      go_simp
      refine hK.out _ _ ?_ (fun _hHeldS => ?_)
      · exact belowT H2 (below1 w2 (.cells #[.int .i64 x0.x.toInt, .int .i64 x0.y.toInt, .int .i64 x0.z.toInt] 23))
      clear hK KK
      try simp only [Act.put, List.setIfInBounds_toArray, List.set_cons_zero, List.set_cons_succ]
      refine wpAnyH_done (by as_aux_lemma => kernel_rfl) ?_ _
      refine NoPanic.normal ?_
      have BF := belowT H2 (below1 w2 (.cells #[.int .i64 x0.x.toInt, .int .i64 x0.y.toInt, .int .i64 x0.z.toInt] 23))
      have OF := ownl w2 [.int .i64 x0.x.toInt, .int .i64 x0.y.toInt, .int .i64 x0.z.toInt] 23
      have SF := HS.out.keep BF
      have zf := BF.size
      go_wp2_with fail
      go_meet
      exact ⟨_, rfl, rfl, by omega, SF, OF⟩
    · skip
      rw [if_pos (by rfl)]
      go_simp
      refine hK.out _ _ ?_ (fun _hHeldA => ?_)
      · first | exact below1 W0 (.cells #[.int .i64 0, .int .i64 0, .int .i64 0] 23) | exact (below1 W0 (.cells #[.int .i64 0, .int .i64 0, .int .i64 0] 23)).drew
      clear hK KK
      try simp only [Act.put, List.setIfInBounds_toArray, List.set_cons_zero, List.set_cons_succ]
      refine wpAnyH_ready (rs := [6]) (by as_aux_lemma => kernel_rfl) (by simp) ?_
      refine AllReadyH.cons (o := ({ dst := some 30, op := .call { callee := .value (.func 43), args := #[.tmp 26, .tmp 29], argTypes := #[23, 23] }, type := 23, pos := "ref.go:105", after := #[{ on := 2, ground := .data }, { on := 5, ground := .data }], guard := none } : Oper)) rfl (fun KK hK => ?_) AllReadyH.nil
      rw [if_pos (by rfl)]
      go_simp
      go_at_call 43; refine (C0.out _).mono ?_; rintro e w2 ⟨rfl, hb2⟩
      go_wp2_with fail
      refine hK.out _ _ ?_ (fun hHeld2 => ?_)
      · exact belowT (by assumption) hb2
      have OA := ((ownl W0 [.int .i64 0, .int .i64 0, .int .i64 0] 23).drew).keep hb2
      have H2 : Below W0.heap.size W0 w2 := by assumption
      have S2 := H2.size
      clear hK KK hb2
      try simp only [Act.put, List.setIfInBounds_toArray, List.set_cons_zero, List.set_cons_succ]
      refine wpAnyH_ready (rs := [8]) (by as_aux_lemma => kernel_rfl) (by simp) ?_
      refine AllReadyH.cons (o := ({ dst := none, op := .store 23 (.tmp 6) (.tmp 30), type := 0, pos := "ref.go:105", after := #[{ on := 7, ground := .data }, { on := 6, ground := .data }, { on := 6, ground := .chain }, { on := 0, ground := .phase }, { on := 1, ground := .phase }, { on := 2, ground := .phase }, { on := 3, ground := .phase }, { on := 4, ground := .phase }, { on := 5, ground := .phase }, { on := 6, ground := .phase }, { on := 7, ground := .phase }], guard := none } : Oper)) rfl (fun KK hK => ?_) AllReadyH.nil
      rw [if_pos (by rfl)]
      have p0 := (OA).1.at 0 rfl
      have q0 := (OA).2 0 (by simp)
      have p1 := (OA).1.at 1 rfl
      have q1 := (OA).2 1 (by simp)
      have p2 := (OA).1.at 2 rfl
      have q2 := (OA).2 2 (by simp)
      go_simp
      refine hK.out _ _ ?_ (fun _hHeldS => ?_)
      · exact (((H2).setCell (p := ⟨W0.heap.size, 0, none⟩) (show W0.heap.size ≤ W0.heap.size by omega) (.int .i64 x0.x.toInt)).setCell (p := ⟨W0.heap.size, 1, none⟩) (show W0.heap.size ≤ W0.heap.size by omega) (.int .i64 x0.y.toInt)).setCell (p := ⟨W0.heap.size, 2, none⟩) (show W0.heap.size ≤ W0.heap.size by omega) (.int .i64 x0.z.toInt)
      clear hK KK
      try simp only [Act.put, List.setIfInBounds_toArray, List.set_cons_zero, List.set_cons_succ]
      refine wpAnyH_done (by as_aux_lemma => kernel_rfl) ?_ _
      refine NoPanic.normal ?_
      have BF := (((H2).setCell (p := ⟨W0.heap.size, 0, none⟩) (show W0.heap.size ≤ W0.heap.size by omega) (.int .i64 x0.x.toInt)).setCell (p := ⟨W0.heap.size, 1, none⟩) (show W0.heap.size ≤ W0.heap.size by omega) (.int .i64 x0.y.toInt)).setCell (p := ⟨W0.heap.size, 2, none⟩) (show W0.heap.size ≤ W0.heap.size by omega) (.int .i64 x0.z.toInt)
      have OF := (((OA).set 0 (.int .i64 x0.x.toInt)).set 1 (.int .i64 x0.y.toInt)).set 2 (.int .i64 x0.z.toInt)
      have SF := HS.out.keep BF
      have zf := BF.size
      go_wp2_with fail
      go_meet
      exact ⟨_, rfl, rfl, by omega, SF, OF⟩
  case rest =>
    clear HS r0 r1 r2 r3 r4 r5
    rename World => W0
    obtain ⟨X, rfl, rfl, hz, S1, OX⟩ := hcut
    have g0 := OX.1.at 0 rfl; have g1 := OX.1.at 1 rfl; have g2 := OX.1.at 2 rfl
    cases q0 with
    | false =>
      obtain ⟨y0, k0, f0⟩ := S1.there 1 rfl 0 rfl; obtain ⟨y1, k1, f1⟩ := S1.there 1 rfl 1 rfl; obtain ⟨y2, k2, f2⟩ := S1.there 1 rfl 2 rfl
      have BH := Lib.hid S1.below
      clear S1 OX
      go_wp2
      refine bodyPost_ret (v := .tuple #[vv x0, .bool true]) (by simp [results, Try.results23, go_sem, *]) rfl ⟨rfl, ?_⟩
      iterate 3 refine Below.setCell (p := ⟨w.heap.size + 1, _, none⟩) ?_ (show w.heap.size ≤ w.heap.size + 1 by omega) _
      exact BH.out
    | true =>
      clear OX
      go_wp2_with fail
      clear g0 g1 g2
      rw [rounds_succ]
      go_upto_region 9 with fail
      have HS := Lib.hid S1
      clear S1
      have r0 : ∀ w', Below W0.heap.size W0 w' → w'.cell? ⟨w.heap.size, 0, none⟩ = some (.int .i64 m.a.x.toInt) := fun w' h => (HS.out.keep h).at 0 rfl 0 rfl
      have r1 : ∀ w', Below W0.heap.size W0 w' → w'.cell? ⟨w.heap.size, 1, none⟩ = some (.int .i64 m.a.y.toInt) := fun w' h => (HS.out.keep h).at 0 rfl 1 rfl
      have r2 : ∀ w', Below W0.heap.size W0 w' → w'.cell? ⟨w.heap.size, 2, none⟩ = some (.int .i64 m.a.z.toInt) := fun w' h => (HS.out.keep h).at 0 rfl 2 rfl
      have r6 : ∀ w', Below W0.heap.size W0 w' → w'.cell? ⟨w.heap.size, 6, none⟩ = some (.int .i64 m.c.x.toInt) := fun w' h => (HS.out.keep h).at 0 rfl 6 rfl
      have r7 : ∀ w', Below W0.heap.size W0 w' → w'.cell? ⟨w.heap.size, 7, none⟩ = some (.int .i64 m.c.y.toInt) := fun w' h => (HS.out.keep h).at 0 rfl 7 rfl
      have r8 : ∀ w', Below W0.heap.size W0 w' → w'.cell? ⟨w.heap.size, 8, none⟩ = some (.int .i64 m.c.z.toInt) := fun w' h => (HS.out.keep h).at 0 rfl 8 rfl
      go_cut [6, 15] from 6 to 31 (fun p q wx => ∃ X, p = .pointer (some ⟨X, 0, none⟩) ∧ q = .int .i64 0 ∧ w.heap.size + 2 ≤ wx.heap.size ∧ St w (kerB w m) wx ∧ OwnL wx X (vl x1))
      case first =>
        change (Code.region 9 kernel9 true).wp Try.prog _ _ _
        refine wp_region_noPanic ?_
        refine wp_region_held_drew (S := fun w' => Below W0.heap.size W0 w') (by kernel_rfl) ((Below.refl _ _).drew) (fun hHeld => ?_)
        refine wpAnyH_take (i := 0) (oi := ({ dst := some 24, op := .move (.tmp 4), type := 3, pos := "ref.go:105", after := #[], guard := none } : Oper)) (v := ?vv5_1_) rfl kernel9_plain (by as_aux_lemma => kernel_rfl) (by as_aux_lemma => kernel_rfl) (fun _ _ _ h => h) (Or.inl ⟨by rfl, ?yv5_1_⟩) (by assumption) ?rv5_1_
        case yv5_1_ => (intro w hSw; (try dsimp only at hSw); go_simp; try with_reducible rfl)
        try simp only [Act.put, List.setIfInBounds_toArray, List.set_cons_zero, List.set_cons_succ]
        refine wpAnyH_take (i := 1) (oi := ({ dst := some 25, op := .indexAddr 25 (.tmp 1) (.tmp 24), type := 0, pos := "ref.go:105", after := #[{ on := 0, ground := .data }], guard := none } : Oper)) (v := ?vv5_2_) rfl kernel9_plain (by as_aux_lemma => kernel_rfl) (by as_aux_lemma => kernel_rfl) (fun _ _ _ h => h) (Or.inl ⟨by rfl, ?yv5_2_⟩) (by assumption) ?rv5_2_
        case yv5_2_ => (intro w hSw; (try dsimp only at hSw); go_simp; try with_reducible rfl)
        try simp only [Act.put, List.setIfInBounds_toArray, List.set_cons_zero, List.set_cons_succ]
        refine wpAnyH_take (i := 2) (oi := ({ dst := some 26, op := .load 23 (.tmp 25), type := 23, pos := "ref.go:105", after := #[{ on := 1, ground := .data }], guard := none } : Oper)) (v := ?vv5_3_) rfl kernel9_plain (by as_aux_lemma => kernel_rfl) (by as_aux_lemma => kernel_rfl) (fun _ _ _ h => h) (Or.inl ⟨by rfl, ?yv5_3_⟩) (by assumption) ?rv5_3_
        case yv5_3_ => (intro w hSw; (try dsimp only at hSw); go_simp; try with_reducible rfl)
        try simp only [Act.put, List.setIfInBounds_toArray, List.set_cons_zero, List.set_cons_succ]
        refine wpAnyH_take (i := 3) (oi := ({ dst := some 27, op := .move (.tmp 5), type := 3, pos := "ref.go:105", after := #[], guard := none } : Oper)) (v := ?vv5_4_) rfl kernel9_plain (by as_aux_lemma => kernel_rfl) (by as_aux_lemma => kernel_rfl) (fun _ _ _ h => h) (Or.inl ⟨by rfl, ?yv5_4_⟩) (by assumption) ?rv5_4_
        case yv5_4_ => (intro w hSw; (try dsimp only at hSw); go_simp; try with_reducible rfl)
        try simp only [Act.put, List.setIfInBounds_toArray, List.set_cons_zero, List.set_cons_succ]
        refine wpAnyH_take (i := 4) (oi := ({ dst := some 28, op := .indexAddr 25 (.tmp 1) (.tmp 27), type := 0, pos := "ref.go:105", after := #[{ on := 3, ground := .data }], guard := none } : Oper)) (v := ?vv5_5_) rfl kernel9_plain (by as_aux_lemma => kernel_rfl) (by as_aux_lemma => kernel_rfl) (fun _ _ _ h => h) (Or.inl ⟨by rfl, ?yv5_5_⟩) (by assumption) ?rv5_5_
        case yv5_5_ => (intro w hSw; (try dsimp only at hSw); go_simp; try with_reducible rfl)
        try simp only [Act.put, List.setIfInBounds_toArray, List.set_cons_zero, List.set_cons_succ]
        refine wpAnyH_take (i := 5) (oi := ({ dst := some 29, op := .load 23 (.tmp 28), type := 23, pos := "ref.go:105", after := #[{ on := 4, ground := .data }], guard := none } : Oper)) (v := ?vv5_6_) rfl kernel9_plain (by as_aux_lemma => kernel_rfl) (by as_aux_lemma => kernel_rfl) (fun _ _ _ h => h) (Or.inl ⟨by rfl, ?yv5_6_⟩) (by assumption) ?rv5_6_
        case yv5_6_ => (intro w hSw; (try dsimp only at hSw); go_simp; try with_reducible rfl)
        try simp only [Act.put, List.setIfInBounds_toArray, List.set_cons_zero, List.set_cons_succ]
        refine wpAnyH_ready (rs := [6, 7]) (by as_aux_lemma => kernel_rfl) (by simp) ?_
        refine AllReadyH.cons (o := ({ dst := some 30, op := .call { callee := .value (.func 43), args := #[.tmp 26, .tmp 29], argTypes := #[23, 23] }, type := 23, pos := "ref.go:105", after := #[{ on := 2, ground := .data }, { on := 5, ground := .data }], guard := none } : Oper)) rfl (fun KK hK => ?_) (AllReadyH.cons (o := ({ dst := some 6, op := .alloc 23, type := 0, pos := "ref.go:105", after := #[], guard := none } : Oper)) rfl (fun KK hK => ?_) AllReadyH.nil)
        · skip
          rw [if_pos (by rfl)]
          go_simp
          go_at_call 43; refine (C1.out _).mono ?_; rintro e w2 ⟨rfl, hb2⟩
          go_wp2_with fail
          refine hK.out _ _ ?_ (fun hHeld2 => ?_)
          · exact belowT (by assumption) hb2
          have H2 : Below W0.heap.size W0 w2 := by assumption
          have S2 := H2.size
          clear hK KK hb2
          try simp only [Act.put, List.setIfInBounds_toArray, List.set_cons_zero, List.set_cons_succ]
          refine wpAnyH_ready (rs := [7]) (by as_aux_lemma => kernel_rfl) (by simp) ?_
          refine AllReadyH.cons (o := ({ dst := some 6, op := .alloc 23, type := 0, pos := "ref.go:105", after := #[], guard := none } : Oper)) rfl (fun KK hK => ?_) AllReadyH.nil
          rw [if_pos (by rfl)]
          go_simp
          refine hK.out _ _ ?_ (fun _hHeldA => ?_)
          · first | exact belowT (by assumption) (below1 _ _) | exact (belowT (by assumption) (below1 _ _)).drew
          clear hK KK
          try simp only [Act.put, List.setIfInBounds_toArray, List.set_cons_zero, List.set_cons_succ]
          refine wpAnyH_ready (rs := [8]) (by as_aux_lemma => kernel_rfl) (by simp) ?_
          refine AllReadyH.cons (o := ({ dst := none, op := .store 23 (.tmp 6) (.tmp 30), type := 0, pos := "ref.go:105", after := #[{ on := 7, ground := .data }, { on := 6, ground := .data }, { on := 6, ground := .chain }, { on := 0, ground := .phase }, { on := 1, ground := .phase }, { on := 2, ground := .phase }, { on := 3, ground := .phase }, { on := 4, ground := .phase }, { on := 5, ground := .phase }, { on := 6, ground := .phase }, { on := 7, ground := .phase }], guard := none } : Oper)) rfl (fun KK hK => ?_) AllReadyH.nil
          rw [if_pos (by rfl)]
          have p0 := (ownl w2 [.int .i64 0, .int .i64 0, .int .i64 0] 23).1.at 0 rfl
          have q0 := (ownl w2 [.int .i64 0, .int .i64 0, .int .i64 0] 23).2 0 (by simp)
          have p1 := (ownl w2 [.int .i64 0, .int .i64 0, .int .i64 0] 23).1.at 1 rfl
          have q1 := (ownl w2 [.int .i64 0, .int .i64 0, .int .i64 0] 23).2 1 (by simp)
          have p2 := (ownl w2 [.int .i64 0, .int .i64 0, .int .i64 0] 23).1.at 2 rfl
          have q2 := (ownl w2 [.int .i64 0, .int .i64 0, .int .i64 0] 23).2 2 (by simp)
          go_simp
          refine hK.out _ _ ?_ (fun _hHeldS => ?_)
          · exact belowT H2 (below1 w2 (.cells #[.int .i64 x1.x.toInt, .int .i64 x1.y.toInt, .int .i64 x1.z.toInt] 23))
          clear hK KK
          try simp only [Act.put, List.setIfInBounds_toArray, List.set_cons_zero, List.set_cons_succ]
          refine wpAnyH_done (by as_aux_lemma => kernel_rfl) ?_ _
          refine NoPanic.normal ?_
          have BF := belowT H2 (below1 w2 (.cells #[.int .i64 x1.x.toInt, .int .i64 x1.y.toInt, .int .i64 x1.z.toInt] 23))
          have OF := ownl w2 [.int .i64 x1.x.toInt, .int .i64 x1.y.toInt, .int .i64 x1.z.toInt] 23
          have SF := HS.out.keep BF
          have zf := BF.size
          go_wp2_with fail
          go_meet
          exact ⟨_, rfl, rfl, by omega, SF, OF⟩
        · skip
          rw [if_pos (by rfl)]
          go_simp
          refine hK.out _ _ ?_ (fun _hHeldA => ?_)
          · first | exact below1 W0 (.cells #[.int .i64 0, .int .i64 0, .int .i64 0] 23) | exact (below1 W0 (.cells #[.int .i64 0, .int .i64 0, .int .i64 0] 23)).drew
          clear hK KK
          try simp only [Act.put, List.setIfInBounds_toArray, List.set_cons_zero, List.set_cons_succ]
          refine wpAnyH_ready (rs := [6]) (by as_aux_lemma => kernel_rfl) (by simp) ?_
          refine AllReadyH.cons (o := ({ dst := some 30, op := .call { callee := .value (.func 43), args := #[.tmp 26, .tmp 29], argTypes := #[23, 23] }, type := 23, pos := "ref.go:105", after := #[{ on := 2, ground := .data }, { on := 5, ground := .data }], guard := none } : Oper)) rfl (fun KK hK => ?_) AllReadyH.nil
          rw [if_pos (by rfl)]
          go_simp
          go_at_call 43; refine (C1.out _).mono ?_; rintro e w2 ⟨rfl, hb2⟩
          go_wp2_with fail
          refine hK.out _ _ ?_ (fun hHeld2 => ?_)
          · exact belowT (by assumption) hb2
          have OA := ((ownl W0 [.int .i64 0, .int .i64 0, .int .i64 0] 23).drew).keep hb2
          have H2 : Below W0.heap.size W0 w2 := by assumption
          have S2 := H2.size
          clear hK KK hb2
          try simp only [Act.put, List.setIfInBounds_toArray, List.set_cons_zero, List.set_cons_succ]
          refine wpAnyH_ready (rs := [8]) (by as_aux_lemma => kernel_rfl) (by simp) ?_
          refine AllReadyH.cons (o := ({ dst := none, op := .store 23 (.tmp 6) (.tmp 30), type := 0, pos := "ref.go:105", after := #[{ on := 7, ground := .data }, { on := 6, ground := .data }, { on := 6, ground := .chain }, { on := 0, ground := .phase }, { on := 1, ground := .phase }, { on := 2, ground := .phase }, { on := 3, ground := .phase }, { on := 4, ground := .phase }, { on := 5, ground := .phase }, { on := 6, ground := .phase }, { on := 7, ground := .phase }], guard := none } : Oper)) rfl (fun KK hK => ?_) AllReadyH.nil
          rw [if_pos (by rfl)]
          have p0 := (OA).1.at 0 rfl
          have q0 := (OA).2 0 (by simp)
          have p1 := (OA).1.at 1 rfl
          have q1 := (OA).2 1 (by simp)
          have p2 := (OA).1.at 2 rfl
          have q2 := (OA).2 2 (by simp)
          go_simp
          refine hK.out _ _ ?_ (fun _hHeldS => ?_)
          · exact (((H2).setCell (p := ⟨W0.heap.size, 0, none⟩) (show W0.heap.size ≤ W0.heap.size by omega) (.int .i64 x1.x.toInt)).setCell (p := ⟨W0.heap.size, 1, none⟩) (show W0.heap.size ≤ W0.heap.size by omega) (.int .i64 x1.y.toInt)).setCell (p := ⟨W0.heap.size, 2, none⟩) (show W0.heap.size ≤ W0.heap.size by omega) (.int .i64 x1.z.toInt)
          clear hK KK
          try simp only [Act.put, List.setIfInBounds_toArray, List.set_cons_zero, List.set_cons_succ]
          refine wpAnyH_done (by as_aux_lemma => kernel_rfl) ?_ _
          refine NoPanic.normal ?_
          have BF := (((H2).setCell (p := ⟨W0.heap.size, 0, none⟩) (show W0.heap.size ≤ W0.heap.size by omega) (.int .i64 x1.x.toInt)).setCell (p := ⟨W0.heap.size, 1, none⟩) (show W0.heap.size ≤ W0.heap.size by omega) (.int .i64 x1.y.toInt)).setCell (p := ⟨W0.heap.size, 2, none⟩) (show W0.heap.size ≤ W0.heap.size by omega) (.int .i64 x1.z.toInt)
          have OF := (((OA).set 0 (.int .i64 x1.x.toInt)).set 1 (.int .i64 x1.y.toInt)).set 2 (.int .i64 x1.z.toInt)
          have SF := HS.out.keep BF
          have zf := BF.size
          go_wp2_with fail
          go_meet
          exact ⟨_, rfl, rfl, by omega, SF, OF⟩
      case rest =>
        clear HS r0 r1 r2 r6 r7 r8
        rename World => W0
        obtain ⟨X, rfl, rfl, hz, S1, OX⟩ := hcut
        have g0 := OX.1.at 0 rfl; have g1 := OX.1.at 1 rfl; have g2 := OX.1.at 2 rfl
        cases q1 with
        | false =>
          obtain ⟨y0, k0, f0⟩ := S1.there 1 rfl 0 rfl; obtain ⟨y1, k1, f1⟩ := S1.there 1 rfl 1 rfl; obtain ⟨y2, k2, f2⟩ := S1.there 1 rfl 2 rfl
          have BH := Lib.hid S1.below
          clear S1 OX
          go_wp2
          refine bodyPost_ret (v := .tuple #[vv x1, .bool true]) (by simp [results, Try.results23, go_sem, *]) rfl ⟨rfl, ?_⟩
          iterate 3 refine Below.setCell (p := ⟨w.heap.size + 1, _, none⟩) ?_ (show w.heap.size ≤ w.heap.size + 1 by omega) _
          exact BH.out
        | true =>
          clear OX
          go_wp2_with fail
          clear g0 g1 g2
          rw [rounds_succ]
          go_wp2_with fail
          rw [rounds_succ]
          go_wp2_with fail
          refine wp_loop_rounds 2 ?_
          rw [rounds_succ]
          go_upto_region 9 with fail
          have HS := Lib.hid S1
          clear S1
          have r3 : ∀ w', Below W0.heap.size W0 w' → w'.cell? ⟨w.heap.size, 3, none⟩ = some (.int .i64 m.b.x.toInt) := fun w' h => (HS.out.keep h).at 0 rfl 3 rfl
          have r4 : ∀ w', Below W0.heap.size W0 w' → w'.cell? ⟨w.heap.size, 4, none⟩ = some (.int .i64 m.b.y.toInt) := fun w' h => (HS.out.keep h).at 0 rfl 4 rfl
          have r5 : ∀ w', Below W0.heap.size W0 w' → w'.cell? ⟨w.heap.size, 5, none⟩ = some (.int .i64 m.b.z.toInt) := fun w' h => (HS.out.keep h).at 0 rfl 5 rfl
          have r6 : ∀ w', Below W0.heap.size W0 w' → w'.cell? ⟨w.heap.size, 6, none⟩ = some (.int .i64 m.c.x.toInt) := fun w' h => (HS.out.keep h).at 0 rfl 6 rfl
          have r7 : ∀ w', Below W0.heap.size W0 w' → w'.cell? ⟨w.heap.size, 7, none⟩ = some (.int .i64 m.c.y.toInt) := fun w' h => (HS.out.keep h).at 0 rfl 7 rfl
          have r8 : ∀ w', Below W0.heap.size W0 w' → w'.cell? ⟨w.heap.size, 8, none⟩ = some (.int .i64 m.c.z.toInt) := fun w' h => (HS.out.keep h).at 0 rfl 8 rfl
          go_cut [6, 15] from 6 to 31 (fun p q wx => ∃ X, p = .pointer (some ⟨X, 0, none⟩) ∧ q = .int .i64 1 ∧ w.heap.size + 2 ≤ wx.heap.size ∧ St w (kerB w m) wx ∧ OwnL wx X (vl x2))
          case first =>
            change (Code.region 9 kernel9 true).wp Try.prog _ _ _
            refine wp_region_noPanic ?_
            refine wp_region_held_drew (S := fun w' => Below W0.heap.size W0 w') (by kernel_rfl) ((Below.refl _ _).drew) (fun hHeld => ?_)
            refine wpAnyH_take (i := 0) (oi := ({ dst := some 24, op := .move (.tmp 4), type := 3, pos := "ref.go:105", after := #[], guard := none } : Oper)) (v := ?vv6_1_) rfl kernel9_plain (by as_aux_lemma => kernel_rfl) (by as_aux_lemma => kernel_rfl) (fun _ _ _ h => h) (Or.inl ⟨by rfl, ?yv6_1_⟩) (by assumption) ?rv6_1_
            case yv6_1_ => (intro w hSw; (try dsimp only at hSw); go_simp; try with_reducible rfl)
            try simp only [Act.put, List.setIfInBounds_toArray, List.set_cons_zero, List.set_cons_succ]
            refine wpAnyH_take (i := 1) (oi := ({ dst := some 25, op := .indexAddr 25 (.tmp 1) (.tmp 24), type := 0, pos := "ref.go:105", after := #[{ on := 0, ground := .data }], guard := none } : Oper)) (v := ?vv6_2_) rfl kernel9_plain (by as_aux_lemma => kernel_rfl) (by as_aux_lemma => kernel_rfl) (fun _ _ _ h => h) (Or.inl ⟨by rfl, ?yv6_2_⟩) (by assumption) ?rv6_2_
            case yv6_2_ => (intro w hSw; (try dsimp only at hSw); go_simp; try with_reducible rfl)
            try simp only [Act.put, List.setIfInBounds_toArray, List.set_cons_zero, List.set_cons_succ]
            refine wpAnyH_take (i := 2) (oi := ({ dst := some 26, op := .load 23 (.tmp 25), type := 23, pos := "ref.go:105", after := #[{ on := 1, ground := .data }], guard := none } : Oper)) (v := ?vv6_3_) rfl kernel9_plain (by as_aux_lemma => kernel_rfl) (by as_aux_lemma => kernel_rfl) (fun _ _ _ h => h) (Or.inl ⟨by rfl, ?yv6_3_⟩) (by assumption) ?rv6_3_
            case yv6_3_ => (intro w hSw; (try dsimp only at hSw); go_simp; try with_reducible rfl)
            try simp only [Act.put, List.setIfInBounds_toArray, List.set_cons_zero, List.set_cons_succ]
            refine wpAnyH_take (i := 3) (oi := ({ dst := some 27, op := .move (.tmp 5), type := 3, pos := "ref.go:105", after := #[], guard := none } : Oper)) (v := ?vv6_4_) rfl kernel9_plain (by as_aux_lemma => kernel_rfl) (by as_aux_lemma => kernel_rfl) (fun _ _ _ h => h) (Or.inl ⟨by rfl, ?yv6_4_⟩) (by assumption) ?rv6_4_
            case yv6_4_ => (intro w hSw; (try dsimp only at hSw); go_simp; try with_reducible rfl)
            try simp only [Act.put, List.setIfInBounds_toArray, List.set_cons_zero, List.set_cons_succ]
            refine wpAnyH_take (i := 4) (oi := ({ dst := some 28, op := .indexAddr 25 (.tmp 1) (.tmp 27), type := 0, pos := "ref.go:105", after := #[{ on := 3, ground := .data }], guard := none } : Oper)) (v := ?vv6_5_) rfl kernel9_plain (by as_aux_lemma => kernel_rfl) (by as_aux_lemma => kernel_rfl) (fun _ _ _ h => h) (Or.inl ⟨by rfl, ?yv6_5_⟩) (by assumption) ?rv6_5_
            case yv6_5_ => (intro w hSw; (try dsimp only at hSw); go_simp; try with_reducible rfl)
            try simp only [Act.put, List.setIfInBounds_toArray, List.set_cons_zero, List.set_cons_succ]
            refine wpAnyH_take (i := 5) (oi := ({ dst := some 29, op := .load 23 (.tmp 28), type := 23, pos := "ref.go:105", after := #[{ on := 4, ground := .data }], guard := none } : Oper)) (v := ?vv6_6_) rfl kernel9_plain (by as_aux_lemma => kernel_rfl) (by as_aux_lemma => kernel_rfl) (fun _ _ _ h => h) (Or.inl ⟨by rfl, ?yv6_6_⟩) (by assumption) ?rv6_6_
            case yv6_6_ => (intro w hSw; (try dsimp only at hSw); go_simp; try with_reducible rfl)
            try simp only [Act.put, List.setIfInBounds_toArray, List.set_cons_zero, List.set_cons_succ]
            refine wpAnyH_ready (rs := [6, 7]) (by as_aux_lemma => kernel_rfl) (by simp) ?_
            refine AllReadyH.cons (o := ({ dst := some 30, op := .call { callee := .value (.func 43), args := #[.tmp 26, .tmp 29], argTypes := #[23, 23] }, type := 23, pos := "ref.go:105", after := #[{ on := 2, ground := .data }, { on := 5, ground := .data }], guard := none } : Oper)) rfl (fun KK hK => ?_) (AllReadyH.cons (o := ({ dst := some 6, op := .alloc 23, type := 0, pos := "ref.go:105", after := #[], guard := none } : Oper)) rfl (fun KK hK => ?_) AllReadyH.nil)
            · skip
              rw [if_pos (by rfl)]
              go_simp
              go_at_call 43; refine (C2.out _).mono ?_; rintro e w2 ⟨rfl, hb2⟩
              go_wp2_with fail
              refine hK.out _ _ ?_ (fun hHeld2 => ?_)
              · exact belowT (by assumption) hb2
              have H2 : Below W0.heap.size W0 w2 := by assumption
              have S2 := H2.size
              clear hK KK hb2
              try simp only [Act.put, List.setIfInBounds_toArray, List.set_cons_zero, List.set_cons_succ]
              refine wpAnyH_ready (rs := [7]) (by as_aux_lemma => kernel_rfl) (by simp) ?_
              refine AllReadyH.cons (o := ({ dst := some 6, op := .alloc 23, type := 0, pos := "ref.go:105", after := #[], guard := none } : Oper)) rfl (fun KK hK => ?_) AllReadyH.nil
              rw [if_pos (by rfl)]
              go_simp
              refine hK.out _ _ ?_ (fun _hHeldA => ?_)
              · first | exact belowT (by assumption) (below1 _ _) | exact (belowT (by assumption) (below1 _ _)).drew
              clear hK KK
              try simp only [Act.put, List.setIfInBounds_toArray, List.set_cons_zero, List.set_cons_succ]
              refine wpAnyH_ready (rs := [8]) (by as_aux_lemma => kernel_rfl) (by simp) ?_
              refine AllReadyH.cons (o := ({ dst := none, op := .store 23 (.tmp 6) (.tmp 30), type := 0, pos := "ref.go:105", after := #[{ on := 7, ground := .data }, { on := 6, ground := .data }, { on := 6, ground := .chain }, { on := 0, ground := .phase }, { on := 1, ground := .phase }, { on := 2, ground := .phase }, { on := 3, ground := .phase }, { on := 4, ground := .phase }, { on := 5, ground := .phase }, { on := 6, ground := .phase }, { on := 7, ground := .phase }], guard := none } : Oper)) rfl (fun KK hK => ?_) AllReadyH.nil
              rw [if_pos (by rfl)]
              have p0 := (ownl w2 [.int .i64 0, .int .i64 0, .int .i64 0] 23).1.at 0 rfl
              have q0 := (ownl w2 [.int .i64 0, .int .i64 0, .int .i64 0] 23).2 0 (by simp)
              have p1 := (ownl w2 [.int .i64 0, .int .i64 0, .int .i64 0] 23).1.at 1 rfl
              have q1 := (ownl w2 [.int .i64 0, .int .i64 0, .int .i64 0] 23).2 1 (by simp)
              have p2 := (ownl w2 [.int .i64 0, .int .i64 0, .int .i64 0] 23).1.at 2 rfl
              have q2 := (ownl w2 [.int .i64 0, .int .i64 0, .int .i64 0] 23).2 2 (by simp)
              go_simp
              refine hK.out _ _ ?_ (fun _hHeldS => ?_)
              · exact belowT H2 (below1 w2 (.cells #[.int .i64 x2.x.toInt, .int .i64 x2.y.toInt, .int .i64 x2.z.toInt] 23))
              clear hK KK
              try simp only [Act.put, List.setIfInBounds_toArray, List.set_cons_zero, List.set_cons_succ]
              refine wpAnyH_done (by as_aux_lemma => kernel_rfl) ?_ _
              refine NoPanic.normal ?_
              have BF := belowT H2 (below1 w2 (.cells #[.int .i64 x2.x.toInt, .int .i64 x2.y.toInt, .int .i64 x2.z.toInt] 23))
              have OF := ownl w2 [.int .i64 x2.x.toInt, .int .i64 x2.y.toInt, .int .i64 x2.z.toInt] 23
              have SF := HS.out.keep BF
              have zf := BF.size
              go_wp2_with fail
              go_meet
              exact ⟨_, rfl, rfl, by omega, SF, OF⟩
            · skip
              rw [if_pos (by rfl)]
              go_simp
              refine hK.out _ _ ?_ (fun _hHeldA => ?_)
              · first | exact below1 W0 (.cells #[.int .i64 0, .int .i64 0, .int .i64 0] 23) | exact (below1 W0 (.cells #[.int .i64 0, .int .i64 0, .int .i64 0] 23)).drew
              clear hK KK
              try simp only [Act.put, List.setIfInBounds_toArray, List.set_cons_zero, List.set_cons_succ]
              refine wpAnyH_ready (rs := [6]) (by as_aux_lemma => kernel_rfl) (by simp) ?_
              refine AllReadyH.cons (o := ({ dst := some 30, op := .call { callee := .value (.func 43), args := #[.tmp 26, .tmp 29], argTypes := #[23, 23] }, type := 23, pos := "ref.go:105", after := #[{ on := 2, ground := .data }, { on := 5, ground := .data }], guard := none } : Oper)) rfl (fun KK hK => ?_) AllReadyH.nil
              rw [if_pos (by rfl)]
              go_simp
              go_at_call 43; refine (C2.out _).mono ?_; rintro e w2 ⟨rfl, hb2⟩
              go_wp2_with fail
              refine hK.out _ _ ?_ (fun hHeld2 => ?_)
              · exact belowT (by assumption) hb2
              have OA := ((ownl W0 [.int .i64 0, .int .i64 0, .int .i64 0] 23).drew).keep hb2
              have H2 : Below W0.heap.size W0 w2 := by assumption
              have S2 := H2.size
              clear hK KK hb2
              try simp only [Act.put, List.setIfInBounds_toArray, List.set_cons_zero, List.set_cons_succ]
              refine wpAnyH_ready (rs := [8]) (by as_aux_lemma => kernel_rfl) (by simp) ?_
              refine AllReadyH.cons (o := ({ dst := none, op := .store 23 (.tmp 6) (.tmp 30), type := 0, pos := "ref.go:105", after := #[{ on := 7, ground := .data }, { on := 6, ground := .data }, { on := 6, ground := .chain }, { on := 0, ground := .phase }, { on := 1, ground := .phase }, { on := 2, ground := .phase }, { on := 3, ground := .phase }, { on := 4, ground := .phase }, { on := 5, ground := .phase }, { on := 6, ground := .phase }, { on := 7, ground := .phase }], guard := none } : Oper)) rfl (fun KK hK => ?_) AllReadyH.nil
              rw [if_pos (by rfl)]
              have p0 := (OA).1.at 0 rfl
              have q0 := (OA).2 0 (by simp)
              have p1 := (OA).1.at 1 rfl
              have q1 := (OA).2 1 (by simp)
              have p2 := (OA).1.at 2 rfl
              have q2 := (OA).2 2 (by simp)
              go_simp
              refine hK.out _ _ ?_ (fun _hHeldS => ?_)
              · exact (((H2).setCell (p := ⟨W0.heap.size, 0, none⟩) (show W0.heap.size ≤ W0.heap.size by omega) (.int .i64 x2.x.toInt)).setCell (p := ⟨W0.heap.size, 1, none⟩) (show W0.heap.size ≤ W0.heap.size by omega) (.int .i64 x2.y.toInt)).setCell (p := ⟨W0.heap.size, 2, none⟩) (show W0.heap.size ≤ W0.heap.size by omega) (.int .i64 x2.z.toInt)
              clear hK KK
              try simp only [Act.put, List.setIfInBounds_toArray, List.set_cons_zero, List.set_cons_succ]
              refine wpAnyH_done (by as_aux_lemma => kernel_rfl) ?_ _
              refine NoPanic.normal ?_
              have BF := (((H2).setCell (p := ⟨W0.heap.size, 0, none⟩) (show W0.heap.size ≤ W0.heap.size by omega) (.int .i64 x2.x.toInt)).setCell (p := ⟨W0.heap.size, 1, none⟩) (show W0.heap.size ≤ W0.heap.size by omega) (.int .i64 x2.y.toInt)).setCell (p := ⟨W0.heap.size, 2, none⟩) (show W0.heap.size ≤ W0.heap.size by omega) (.int .i64 x2.z.toInt)
              have OF := (((OA).set 0 (.int .i64 x2.x.toInt)).set 1 (.int .i64 x2.y.toInt)).set 2 (.int .i64 x2.z.toInt)
              have SF := HS.out.keep BF
              have zf := BF.size
              go_wp2_with fail
              go_meet
              exact ⟨_, rfl, rfl, by omega, SF, OF⟩
          case rest =>
            clear HS r3 r4 r5 r6 r7 r8
            rename World => W0
            obtain ⟨X, rfl, rfl, hz, S1, OX⟩ := hcut
            have g0 := OX.1.at 0 rfl; have g1 := OX.1.at 1 rfl; have g2 := OX.1.at 2 rfl
            cases q2 with
            | false =>
              obtain ⟨y0, k0, f0⟩ := S1.there 1 rfl 0 rfl; obtain ⟨y1, k1, f1⟩ := S1.there 1 rfl 1 rfl; obtain ⟨y2, k2, f2⟩ := S1.there 1 rfl 2 rfl
              have BH := Lib.hid S1.below
              clear S1 OX
              go_wp2
              refine bodyPost_ret (v := .tuple #[vv x2, .bool true]) (by simp [results, Try.results23, go_sem, *]) rfl ⟨rfl, ?_⟩
              iterate 3 refine Below.setCell (p := ⟨w.heap.size + 1, _, none⟩) ?_ (show w.heap.size ≤ w.heap.size + 1 by omega) _
              exact BH.out
            | true =>
              clear OX
              go_wp2_with fail
              clear g0 g1 g2
              rw [rounds_succ]
              go_wp2_with fail
              rw [rounds_succ]
              go_wp2_with fail
              refine wp_loop_rounds 1 ?_
              rw [rounds_succ]
              go_wp2_with fail
              rw [rounds_succ]
              have a0 := S1.at 0 rfl 0 (v := .int .i64 m.a.x.toInt) rfl
              have a1 := S1.at 0 rfl 1 (v := .int .i64 m.a.y.toInt) rfl
              have a2 := S1.at 0 rfl 2 (v := .int .i64 m.a.z.toInt) rfl
              have a3 := S1.at 0 rfl 3 (v := .int .i64 m.b.x.toInt) rfl
              have a4 := S1.at 0 rfl 4 (v := .int .i64 m.b.y.toInt) rfl
              have a5 := S1.at 0 rfl 5 (v := .int .i64 m.b.z.toInt) rfl
              have a6 := S1.at 0 rfl 6 (v := .int .i64 m.c.x.toInt) rfl
              have a7 := S1.at 0 rfl 7 (v := .int .i64 m.c.y.toInt) rfl
              have a8 := S1.at 0 rfl 8 (v := .int .i64 m.c.z.toInt) rfl
              have HS := Lib.hid S1
              clear S1
              go_wp2_with fail
              have S1 := HS.out
              clear HS a0 a1 a2 a3 a4 a5 a6 a7 a8
              refine wp_loop_rounds 4 ?_
              rw [rounds_succ]
              have VR := fun w => (vec_row m w).1
              have HR0 := hasl W0 (vl m.a) 23
              have HS := Lib.hid (S1.keep (below1 W0 (.cells (vl m.a).toArray 23)))
              have hz2 : w.heap.size + 2 ≤ (W0.alloc (.cells (vl m.a).toArray 23)).heap.size := by rw [heap1]; omega
              have HR := Lib.hid HR0
              have HZ := Lib.hid hz2
              clear S1 HR0 hz hz2
              go_wp2_with fail
              have S1 := HS.out; have hr := HR.out; have hz := HZ.out
              clear HS HR HZ VR
              obtain ⟨Ar, hAr⟩ : ∃ Ar, Ar = W0.heap.size := ⟨_, rfl⟩
              rw [← hAr] at hr ⊢
              clear hAr
              obtain ⟨W1, hW1⟩ : ∃ W1, W1 = W0.alloc (.cells (vl m.a).toArray 23) := ⟨_, rfl⟩
              rw [← hW1] at S1 hr hz
              have HW := Lib.hid hW1
              clear hW1
              rw [← HW.out]
              clear HW
              rename World => W0
              refine wp_loop_rounds 4 ?_
              rw [rounds_succ]
              go_upto_region 19 with fail
              have HS := Lib.hid S1; have HR := Lib.hid hr
              have r0 : ∀ w', Below W0.heap.size W0 w' → w'.cell? ⟨Ar, 0, none⟩ = some (.int .i64 m.a.x.toInt) := fun w' h => (HR.out.keep h).at 0 rfl
              have r1 : ∀ w', Below W0.heap.size W0 w' → w'.cell? ⟨Ar, 1, none⟩ = some (.int .i64 m.a.y.toInt) := fun w' h => (HR.out.keep h).at 1 rfl
              have r2 : ∀ w', Below W0.heap.size W0 w' → w'.cell? ⟨Ar, 2, none⟩ = some (.int .i64 m.a.z.toInt) := fun w' h => (HR.out.keep h).at 2 rfl
              clear S1 hr
              go_cut [10, 36, 37, 40] from 10 to 47 (fun p u v q wx => ∃ X, p = .pointer (some ⟨X, 0, none⟩) ∧ u = mv m ∧ v = .int .i64 0 ∧ q = .int .i64 0 ∧ w.heap.size + 2 ≤ wx.heap.size ∧ St w (kerB w m) wx ∧ HasL wx Ar (vl m.a) ∧ OwnL wx X (vl x3))
              case first =>
                change (Code.region 19 kernel19 true).wp Try.prog _ _ _
                refine wp_region_noPanic ?_
                refine wp_region_held_drew (S := fun w' => Below W0.heap.size W0 w') (by kernel_rfl) ((Below.refl _ _).drew) (fun hHeld => ?_)
                refine wpAnyH_take (i := 0) (oi := ({ dst := some 43, op := .load 23 (.tmp 8), type := 23, pos := "ref.go:112", after := #[], guard := none } : Oper)) (v := ?vv7_1_) rfl kernel19_plain (by as_aux_lemma => kernel_rfl) (by as_aux_lemma => kernel_rfl) (fun _ _ _ h => h) (Or.inl ⟨by rfl, ?yv7_1_⟩) (by assumption) ?rv7_1_
                case yv7_1_ => (intro w hSw; (try dsimp only at hSw); go_simp; try with_reducible rfl)
                try simp only [Act.put, List.setIfInBounds_toArray, List.set_cons_zero, List.set_cons_succ]
                refine wpAnyH_take (i := 1) (oi := ({ dst := some 44, op := .move (.tmp 9), type := 3, pos := "ref.go:112", after := #[], guard := none } : Oper)) (v := ?vv7_2_) rfl kernel19_plain (by as_aux_lemma => kernel_rfl) (by as_aux_lemma => kernel_rfl) (fun _ _ _ h => h) (Or.inl ⟨by rfl, ?yv7_2_⟩) (by assumption) ?rv7_2_
                case yv7_2_ => (intro w hSw; (try dsimp only at hSw); go_simp; try with_reducible rfl)
                try simp only [Act.put, List.setIfInBounds_toArray, List.set_cons_zero, List.set_cons_succ]
                refine wpAnyH_ready (rs := [2, 4]) (by as_aux_lemma => kernel_rfl) (by simp) ?_
                refine AllReadyH.cons (o := ({ dst := some 45, op := .call { callee := .value (.func 44), args := #[.tmp 44], argTypes := #[3] }, type := 23, pos := "ref.go:112", after := #[{ on := 1, ground := .data }], guard := none } : Oper)) rfl (fun KK hK => ?_) (AllReadyH.cons (o := ({ dst := some 10, op := .alloc 23, type := 0, pos := "ref.go:112", after := #[], guard := none } : Oper)) rfl (fun KK hK => ?_) AllReadyH.nil)
                · skip
                  rw [if_pos (by rfl)]
                  go_simp
                  go_at_call 44; refine (O0.out _).mono ?_; rintro e w2 ⟨rfl, hb2⟩
                  go_wp2_with fail
                  refine hK.out _ _ ?_ (fun hHeld2 => ?_)
                  · exact belowT (by assumption) hb2
                  have H2 : Below W0.heap.size W0 w2 := by assumption
                  have S2 := H2.size
                  clear hK KK hb2
                  try simp only [Act.put, List.setIfInBounds_toArray, List.set_cons_zero, List.set_cons_succ]
                  refine wpAnyH_ready (rs := [3, 4]) (by as_aux_lemma => kernel_rfl) (by simp) ?_
                  refine AllReadyH.cons (o := ({ dst := some 46, op := .call { callee := .value (.func 43), args := #[.tmp 43, .tmp 45], argTypes := #[23, 23] }, type := 23, pos := "ref.go:112", after := #[{ on := 0, ground := .data }, { on := 2, ground := .data }, { on := 2, ground := .chain }], guard := none } : Oper)) rfl (fun KK hK => ?_) (AllReadyH.cons (o := ({ dst := some 10, op := .alloc 23, type := 0, pos := "ref.go:112", after := #[], guard := none } : Oper)) rfl (fun KK hK => ?_) AllReadyH.nil)
                  · skip
                    rw [if_pos (by rfl)]
                    go_simp
                    go_at_call 43; refine (C3.out _).mono ?_; rintro e w3 ⟨rfl, hb3⟩
                    go_wp2_with fail
                    refine hK.out _ _ ?_ (fun hHeld3 => ?_)
                    · exact belowT (by assumption) hb3
                    have H3 : Below W0.heap.size W0 w3 := by assumption
                    have S3 := H3.size
                    clear hK KK hb3
                    try simp only [Act.put, List.setIfInBounds_toArray, List.set_cons_zero, List.set_cons_succ]
                    refine wpAnyH_ready (rs := [4]) (by as_aux_lemma => kernel_rfl) (by simp) ?_
                    refine AllReadyH.cons (o := ({ dst := some 10, op := .alloc 23, type := 0, pos := "ref.go:112", after := #[], guard := none } : Oper)) rfl (fun KK hK => ?_) AllReadyH.nil
                    rw [if_pos (by rfl)]
                    go_simp
                    refine hK.out _ _ ?_ (fun _hHeldA => ?_)
                    · first | exact belowT (by assumption) (below1 _ _) | exact (belowT (by assumption) (below1 _ _)).drew
                    clear hK KK
                    try simp only [Act.put, List.setIfInBounds_toArray, List.set_cons_zero, List.set_cons_succ]
                    refine wpAnyH_ready (rs := [5]) (by as_aux_lemma => kernel_rfl) (by simp) ?_
                    refine AllReadyH.cons (o := ({ dst := none, op := .store 23 (.tmp 10) (.tmp 46), type := 0, pos := "ref.go:112", after := #[{ on := 4, ground := .data }, { on := 3, ground := .data }, { on := 3, ground := .chain }, { on := 0, ground := .phase }, { on := 1, ground := .phase }, { on := 2, ground := .phase }, { on := 3, ground := .phase }, { on := 4, ground := .phase }], guard := none } : Oper)) rfl (fun KK hK => ?_) AllReadyH.nil
                    rw [if_pos (by rfl)]
                    have p0 := (ownl w3 [.int .i64 0, .int .i64 0, .int .i64 0] 23).1.at 0 rfl
                    have q0 := (ownl w3 [.int .i64 0, .int .i64 0, .int .i64 0] 23).2 0 (by simp)
                    have p1 := (ownl w3 [.int .i64 0, .int .i64 0, .int .i64 0] 23).1.at 1 rfl
                    have q1 := (ownl w3 [.int .i64 0, .int .i64 0, .int .i64 0] 23).2 1 (by simp)
                    have p2 := (ownl w3 [.int .i64 0, .int .i64 0, .int .i64 0] 23).1.at 2 rfl
                    have q2 := (ownl w3 [.int .i64 0, .int .i64 0, .int .i64 0] 23).2 2 (by simp)
                    go_simp
                    refine hK.out _ _ ?_ (fun _hHeldS => ?_)
                    · exact belowT H3 (below1 w3 (.cells #[.int .i64 x3.x.toInt, .int .i64 x3.y.toInt, .int .i64 x3.z.toInt] 23))
                    clear hK KK
                    try simp only [Act.put, List.setIfInBounds_toArray, List.set_cons_zero, List.set_cons_succ]
                    refine wpAnyH_done (by as_aux_lemma => kernel_rfl) ?_ _
                    refine NoPanic.normal ?_
                    have BF := belowT H3 (below1 w3 (.cells #[.int .i64 x3.x.toInt, .int .i64 x3.y.toInt, .int .i64 x3.z.toInt] 23))
                    have OF := ownl w3 [.int .i64 x3.x.toInt, .int .i64 x3.y.toInt, .int .i64 x3.z.toInt] 23
                    have SF := HS.out.keep BF
                    have RF := HR.out.keep BF
                    have zf := BF.size
                    go_wp2_with fail
                    go_meet
                    exact ⟨_, rfl, rfl, rfl, rfl, by omega, SF, RF, OF⟩
                  · skip
                    rw [if_pos (by rfl)]
                    go_simp
                    refine hK.out _ _ ?_ (fun _hHeldA => ?_)
                    · first | exact belowT (by assumption) (below1 _ _) | exact (belowT (by assumption) (below1 _ _)).drew
                    clear hK KK
                    try simp only [Act.put, List.setIfInBounds_toArray, List.set_cons_zero, List.set_cons_succ]
                    refine wpAnyH_ready (rs := [3]) (by as_aux_lemma => kernel_rfl) (by simp) ?_
                    refine AllReadyH.cons (o := ({ dst := some 46, op := .call { callee := .value (.func 43), args := #[.tmp 43, .tmp 45], argTypes := #[23, 23] }, type := 23, pos := "ref.go:112", after := #[{ on := 0, ground := .data }, { on := 2, ground := .data }, { on := 2, ground := .chain }], guard := none } : Oper)) rfl (fun KK hK => ?_) AllReadyH.nil
                    rw [if_pos (by rfl)]
                    go_simp
                    go_at_call 43; refine (C3.out _).mono ?_; rintro e w3 ⟨rfl, hb3⟩
                    go_wp2_with fail
                    refine hK.out _ _ ?_ (fun hHeld3 => ?_)
                    · exact belowT (by assumption) hb3
                    have OA := (ownl w2 [.int .i64 0, .int .i64 0, .int .i64 0] 23).keep hb3
                    have H3 : Below W0.heap.size W0 w3 := by assumption
                    have S3 := H3.size
                    clear hK KK hb3
                    try simp only [Act.put, List.setIfInBounds_toArray, List.set_cons_zero, List.set_cons_succ]
                    refine wpAnyH_ready (rs := [5]) (by as_aux_lemma => kernel_rfl) (by simp) ?_
                    refine AllReadyH.cons (o := ({ dst := none, op := .store 23 (.tmp 10) (.tmp 46), type := 0, pos := "ref.go:112", after := #[{ on := 4, ground := .data }, { on := 3, ground := .data }, { on := 3, ground := .chain }, { on := 0, ground := .phase }, { on := 1, ground := .phase }, { on := 2, ground := .phase }, { on := 3, ground := .phase }, { on := 4, ground := .phase }], guard := none } : Oper)) rfl (fun KK hK => ?_) AllReadyH.nil
                    rw [if_pos (by rfl)]
                    have p0 := (OA).1.at 0 rfl
                    have q0 := (OA).2 0 (by simp)
                    have p1 := (OA).1.at 1 rfl
                    have q1 := (OA).2 1 (by simp)
                    have p2 := (OA).1.at 2 rfl
                    have q2 := (OA).2 2 (by simp)
                    go_simp
                    refine hK.out _ _ ?_ (fun _hHeldS => ?_)
                    · exact (((H3).setCell (p := ⟨w2.heap.size, 0, none⟩) (show W0.heap.size ≤ w2.heap.size by omega) (.int .i64 x3.x.toInt)).setCell (p := ⟨w2.heap.size, 1, none⟩) (show W0.heap.size ≤ w2.heap.size by omega) (.int .i64 x3.y.toInt)).setCell (p := ⟨w2.heap.size, 2, none⟩) (show W0.heap.size ≤ w2.heap.size by omega) (.int .i64 x3.z.toInt)
                    clear hK KK
                    try simp only [Act.put, List.setIfInBounds_toArray, List.set_cons_zero, List.set_cons_succ]
                    refine wpAnyH_done (by as_aux_lemma => kernel_rfl) ?_ _
                    refine NoPanic.normal ?_
                    have BF := (((H3).setCell (p := ⟨w2.heap.size, 0, none⟩) (show W0.heap.size ≤ w2.heap.size by omega) (.int .i64 x3.x.toInt)).setCell (p := ⟨w2.heap.size, 1, none⟩) (show W0.heap.size ≤ w2.heap.size by omega) (.int .i64 x3.y.toInt)).setCell (p := ⟨w2.heap.size, 2, none⟩) (show W0.heap.size ≤ w2.heap.size by omega) (.int .i64 x3.z.toInt)
                    have OF := (((OA).set 0 (.int .i64 x3.x.toInt)).set 1 (.int .i64 x3.y.toInt)).set 2 (.int .i64 x3.z.toInt)
                    have SF := HS.out.keep BF
                    have RF := HR.out.keep BF
                    have zf := BF.size
                    go_wp2_with fail
                    go_meet
                    exact ⟨_, rfl, rfl, rfl, rfl, by omega, SF, RF, OF⟩
                · skip
                  rw [if_pos (by rfl)]
                  go_simp
                  refine hK.out _ _ ?_ (fun _hHeldA => ?_)
                  · first | exact below1 W0 (.cells #[.int .i64 0, .int .i64 0, .int .i64 0] 23) | exact (below1 W0 (.cells #[.int .i64 0, .int .i64 0, .int .i64 0] 23)).drew
                  clear hK KK
                  try simp only [Act.put, List.setIfInBounds_toArray, List.set_cons_zero, List.set_cons_succ]
                  refine wpAnyH_ready (rs := [2]) (by as_aux_lemma => kernel_rfl) (by simp) ?_
                  refine AllReadyH.cons (o := ({ dst := some 45, op := .call { callee := .value (.func 44), args := #[.tmp 44], argTypes := #[3] }, type := 23, pos := "ref.go:112", after := #[{ on := 1, ground := .data }], guard := none } : Oper)) rfl (fun KK hK => ?_) AllReadyH.nil
                  rw [if_pos (by rfl)]
                  go_simp
                  go_at_call 44; refine (O0.out _).mono ?_; rintro e w2 ⟨rfl, hb2⟩
                  go_wp2_with fail
                  refine hK.out _ _ ?_ (fun hHeld2 => ?_)
                  · exact belowT (by assumption) hb2
                  have OA := ((ownl W0 [.int .i64 0, .int .i64 0, .int .i64 0] 23).drew).keep hb2
                  have H2 : Below W0.heap.size W0 w2 := by assumption
                  have S2 := H2.size
                  clear hK KK hb2
                  try simp only [Act.put, List.setIfInBounds_toArray, List.set_cons_zero, List.set_cons_succ]
                  refine wpAnyH_ready (rs := [3]) (by as_aux_lemma => kernel_rfl) (by simp) ?_
                  refine AllReadyH.cons (o := ({ dst := some 46, op := .call { callee := .value (.func 43), args := #[.tmp 43, .tmp 45], argTypes := #[23, 23] }, type := 23, pos := "ref.go:112", after := #[{ on := 0, ground := .data }, { on := 2, ground := .data }, { on := 2, ground := .chain }], guard := none } : Oper)) rfl (fun KK hK => ?_) AllReadyH.nil
                  rw [if_pos (by rfl)]
                  go_simp
                  go_at_call 43; refine (C3.out _).mono ?_; rintro e w3 ⟨rfl, hb3⟩
                  go_wp2_with fail
                  refine hK.out _ _ ?_ (fun hHeld3 => ?_)
                  · exact belowT (by assumption) hb3
                  replace OA := (OA).keep hb3
                  have H3 : Below W0.heap.size W0 w3 := by assumption
                  have S3 := H3.size
                  clear hK KK hb3
                  try simp only [Act.put, List.setIfInBounds_toArray, List.set_cons_zero, List.set_cons_succ]
                  refine wpAnyH_ready (rs := [5]) (by as_aux_lemma => kernel_rfl) (by simp) ?_
                  refine AllReadyH.cons (o := ({ dst := none, op := .store 23 (.tmp 10) (.tmp 46), type := 0, pos := "ref.go:112", after := #[{ on := 4, ground := .data }, { on := 3, ground := .data }, { on := 3, ground := .chain }, { on := 0, ground := .phase }, { on := 1, ground := .phase }, { on := 2, ground := .phase }, { on := 3, ground := .phase }, { on := 4, ground := .phase }], guard := none } : Oper)) rfl (fun KK hK => ?_) AllReadyH.nil
                  rw [if_pos (by rfl)]
                  have p0 := (OA).1.at 0 rfl
                  have q0 := (OA).2 0 (by simp)
                  have p1 := (OA).1.at 1 rfl
                  have q1 := (OA).2 1 (by simp)
                  have p2 := (OA).1.at 2 rfl
                  have q2 := (OA).2 2 (by simp)
                  go_simp
                  refine hK.out _ _ ?_ (fun _hHeldS => ?_)
                  · exact (((H3).setCell (p := ⟨W0.heap.size, 0, none⟩) (show W0.heap.size ≤ W0.heap.size by omega) (.int .i64 x3.x.toInt)).setCell (p := ⟨W0.heap.size, 1, none⟩) (show W0.heap.size ≤ W0.heap.size by omega) (.int .i64 x3.y.toInt)).setCell (p := ⟨W0.heap.size, 2, none⟩) (show W0.heap.size ≤ W0.heap.size by omega) (.int .i64 x3.z.toInt)
                  clear hK KK
                  try simp only [Act.put, List.setIfInBounds_toArray, List.set_cons_zero, List.set_cons_succ]
                  refine wpAnyH_done (by as_aux_lemma => kernel_rfl) ?_ _
                  refine NoPanic.normal ?_
                  have BF := (((H3).setCell (p := ⟨W0.heap.size, 0, none⟩) (show W0.heap.size ≤ W0.heap.size by omega) (.int .i64 x3.x.toInt)).setCell (p := ⟨W0.heap.size, 1, none⟩) (show W0.heap.size ≤ W0.heap.size by omega) (.int .i64 x3.y.toInt)).setCell (p := ⟨W0.heap.size, 2, none⟩) (show W0.heap.size ≤ W0.heap.size by omega) (.int .i64 x3.z.toInt)
                  have OF := (((OA).set 0 (.int .i64 x3.x.toInt)).set 1 (.int .i64 x3.y.toInt)).set 2 (.int .i64 x3.z.toInt)
                  have SF := HS.out.keep BF
                  have RF := HR.out.keep BF
                  have zf := BF.size
                  go_wp2_with fail
                  go_meet
                  exact ⟨_, rfl, rfl, rfl, rfl, by omega, SF, RF, OF⟩
              case rest =>
                clear HS HR r0 r1 r2
                skip
                rename World => W0
                obtain ⟨X, rfl, rfl, rfl, rfl, hz, S1, hr, OX⟩ := hcut
                have g0 := OX.1.at 0 rfl; have g1 := OX.1.at 1 rfl; have g2 := OX.1.at 2 rfl
                cases q3 with
                | false =>
                  obtain ⟨y0, k0, f0⟩ := S1.there 1 rfl 0 rfl; obtain ⟨y1, k1, f1⟩ := S1.there 1 rfl 1 rfl; obtain ⟨y2, k2, f2⟩ := S1.there 1 rfl 2 rfl
                  have BH := Lib.hid S1.below
                  clear S1 OX hr
                  go_wp2
                  refine bodyPost_ret (v := .tuple #[vv x3, .bool true]) (by simp [results, Try.results23, go_sem, *]) rfl ⟨rfl, ?_⟩
                  iterate 3 refine Below.setCell (p := ⟨w.heap.size + 1, _, none⟩) ?_ (show w.heap.size ≤ w.heap.size + 1 by omega) _
                  exact BH.out
                | true =>
                  clear OX
                  go_wp2_with fail
                  clear g0 g1 g2
                  rw [rounds_succ]
                  go_upto_region 19 with fail
                  have HS := Lib.hid S1; have HR := Lib.hid hr
                  have r0 : ∀ w', Below W0.heap.size W0 w' → w'.cell? ⟨Ar, 0, none⟩ = some (.int .i64 m.a.x.toInt) := fun w' h => (HR.out.keep h).at 0 rfl
                  have r1 : ∀ w', Below W0.heap.size W0 w' → w'.cell? ⟨Ar, 1, none⟩ = some (.int .i64 m.a.y.toInt) := fun w' h => (HR.out.keep h).at 1 rfl
                  have r2 : ∀ w', Below W0.heap.size W0 w' → w'.cell? ⟨Ar, 2, none⟩ = some (.int .i64 m.a.z.toInt) := fun w' h => (HR.out.keep h).at 2 rfl
                  clear S1 hr
                  go_cut [10, 36, 37, 40] from 10 to 47 (fun p u v q wx => ∃ X, p = .pointer (some ⟨X, 0, none⟩) ∧ u = mv m ∧ v = .int .i64 0 ∧ q = .int .i64 1 ∧ w.heap.size + 2 ≤ wx.heap.size ∧ St w (kerB w m) wx ∧ HasL wx Ar (vl m.a) ∧ OwnL wx X (vl x4))
                  case first =>
                    change (Code.region 19 kernel19 true).wp Try.prog _ _ _
                    refine wp_region_noPanic ?_
                    refine wp_region_held_drew (S := fun w' => Below W0.heap.size W0 w') (by kernel_rfl) ((Below.refl _ _).drew) (fun hHeld => ?_)
                    refine wpAnyH_take (i := 0) (oi := ({ dst := some 43, op := .load 23 (.tmp 8), type := 23, pos := "ref.go:112", after := #[], guard := none } : Oper)) (v := ?vv8_1_) rfl kernel19_plain (by as_aux_lemma => kernel_rfl) (by as_aux_lemma => kernel_rfl) (fun _ _ _ h => h) (Or.inl ⟨by rfl, ?yv8_1_⟩) (by assumption) ?rv8_1_
                    case yv8_1_ => (intro w hSw; (try dsimp only at hSw); go_simp; try with_reducible rfl)
                    try simp only [Act.put, List.setIfInBounds_toArray, List.set_cons_zero, List.set_cons_succ]
                    refine wpAnyH_take (i := 1) (oi := ({ dst := some 44, op := .move (.tmp 9), type := 3, pos := "ref.go:112", after := #[], guard := none } : Oper)) (v := ?vv8_2_) rfl kernel19_plain (by as_aux_lemma => kernel_rfl) (by as_aux_lemma => kernel_rfl) (fun _ _ _ h => h) (Or.inl ⟨by rfl, ?yv8_2_⟩) (by assumption) ?rv8_2_
                    case yv8_2_ => (intro w hSw; (try dsimp only at hSw); go_simp; try with_reducible rfl)
                    try simp only [Act.put, List.setIfInBounds_toArray, List.set_cons_zero, List.set_cons_succ]
                    refine wpAnyH_ready (rs := [2, 4]) (by as_aux_lemma => kernel_rfl) (by simp) ?_
                    refine AllReadyH.cons (o := ({ dst := some 45, op := .call { callee := .value (.func 44), args := #[.tmp 44], argTypes := #[3] }, type := 23, pos := "ref.go:112", after := #[{ on := 1, ground := .data }], guard := none } : Oper)) rfl (fun KK hK => ?_) (AllReadyH.cons (o := ({ dst := some 10, op := .alloc 23, type := 0, pos := "ref.go:112", after := #[], guard := none } : Oper)) rfl (fun KK hK => ?_) AllReadyH.nil)
                    · skip
                      rw [if_pos (by rfl)]
                      go_simp
                      go_at_call 44; refine (O1.out _).mono ?_; rintro e w2 ⟨rfl, hb2⟩
                      go_wp2_with fail
                      refine hK.out _ _ ?_ (fun hHeld2 => ?_)
                      · exact belowT (by assumption) hb2
                      have H2 : Below W0.heap.size W0 w2 := by assumption
                      have S2 := H2.size
                      clear hK KK hb2
                      try simp only [Act.put, List.setIfInBounds_toArray, List.set_cons_zero, List.set_cons_succ]
                      refine wpAnyH_ready (rs := [3, 4]) (by as_aux_lemma => kernel_rfl) (by simp) ?_
                      refine AllReadyH.cons (o := ({ dst := some 46, op := .call { callee := .value (.func 43), args := #[.tmp 43, .tmp 45], argTypes := #[23, 23] }, type := 23, pos := "ref.go:112", after := #[{ on := 0, ground := .data }, { on := 2, ground := .data }, { on := 2, ground := .chain }], guard := none } : Oper)) rfl (fun KK hK => ?_) (AllReadyH.cons (o := ({ dst := some 10, op := .alloc 23, type := 0, pos := "ref.go:112", after := #[], guard := none } : Oper)) rfl (fun KK hK => ?_) AllReadyH.nil)
                      · skip
                        rw [if_pos (by rfl)]
                        go_simp
                        go_at_call 43; refine (C4.out _).mono ?_; rintro e w3 ⟨rfl, hb3⟩
                        go_wp2_with fail
                        refine hK.out _ _ ?_ (fun hHeld3 => ?_)
                        · exact belowT (by assumption) hb3
                        have H3 : Below W0.heap.size W0 w3 := by assumption
                        have S3 := H3.size
                        clear hK KK hb3
                        try simp only [Act.put, List.setIfInBounds_toArray, List.set_cons_zero, List.set_cons_succ]
                        refine wpAnyH_ready (rs := [4]) (by as_aux_lemma => kernel_rfl) (by simp) ?_
                        refine AllReadyH.cons (o := ({ dst := some 10, op := .alloc 23, type := 0, pos := "ref.go:112", after := #[], guard := none } : Oper)) rfl (fun KK hK => ?_) AllReadyH.nil
                        rw [if_pos (by rfl)]
                        go_simp
                        refine hK.out _ _ ?_ (fun _hHeldA => ?_)
                        · first | exact belowT (by assumption) (below1 _ _) | exact (belowT (by assumption) (below1 _ _)).drew
                        clear hK KK
                        try simp only [Act.put, List.setIfInBounds_toArray, List.set_cons_zero, List.set_cons_succ]
                        refine wpAnyH_ready (rs := [5]) (by as_aux_lemma => kernel_rfl) (by simp) ?_
                        refine AllReadyH.cons (o := ({ dst := none, op := .store 23 (.tmp 10) (.tmp 46), type := 0, pos := "ref.go:112", after := #[{ on := 4, ground := .data }, { on := 3, ground := .data }, { on := 3, ground := .chain }, { on := 0, ground := .phase }, { on := 1, ground := .phase }, { on := 2, ground := .phase }, { on := 3, ground := .phase }, { on := 4, ground := .phase }], guard := none } : Oper)) rfl (fun KK hK => ?_) AllReadyH.nil
                        rw [if_pos (by rfl)]
                        have p0 := (ownl w3 [.int .i64 0, .int .i64 0, .int .i64 0] 23).1.at 0 rfl
                        have q0 := (ownl w3 [.int .i64 0, .int .i64 0, .int .i64 0] 23).2 0 (by simp)
                        have p1 := (ownl w3 [.int .i64 0, .int .i64 0, .int .i64 0] 23).1.at 1 rfl
                        have q1 := (ownl w3 [.int .i64 0, .int .i64 0, .int .i64 0] 23).2 1 (by simp)
                        have p2 := (ownl w3 [.int .i64 0, .int .i64 0, .int .i64 0] 23).1.at 2 rfl
                        have q2 := (ownl w3 [.int .i64 0, .int .i64 0, .int .i64 0] 23).2 2 (by simp)
                        go_simp
                        refine hK.out _ _ ?_ (fun _hHeldS => ?_)
                        · exact belowT H3 (below1 w3 (.cells #[.int .i64 x4.x.toInt, .int .i64 x4.y.toInt, .int .i64 x4.z.toInt] 23))
                        clear hK KK
                        try simp only [Act.put, List.setIfInBounds_toArray, List.set_cons_zero, List.set_cons_succ]
                        refine wpAnyH_done (by as_aux_lemma => kernel_rfl) ?_ _
                        refine NoPanic.normal ?_
                        have BF := belowT H3 (below1 w3 (.cells #[.int .i64 x4.x.toInt, .int .i64 x4.y.toInt, .int .i64 x4.z.toInt] 23))
                        have OF := ownl w3 [.int .i64 x4.x.toInt, .int .i64 x4.y.toInt, .int .i64 x4.z.toInt] 23
                        have SF := HS.out.keep BF
                        have RF := HR.out.keep BF
                        have zf := BF.size
                        go_wp2_with fail
                        go_meet
                        exact ⟨_, rfl, rfl, rfl, rfl, by omega, SF, RF, OF⟩
                      · skip
                        rw [if_pos (by rfl)]
                        go_simp
                        refine hK.out _ _ ?_ (fun _hHeldA => ?_)
                        · first | exact belowT (by assumption) (below1 _ _) | exact (belowT (by assumption) (below1 _ _)).drew
                        clear hK KK
                        try simp only [Act.put, List.setIfInBounds_toArray, List.set_cons_zero, List.set_cons_succ]
                        refine wpAnyH_ready (rs := [3]) (by as_aux_lemma => kernel_rfl) (by simp) ?_
                        refine AllReadyH.cons (o := ({ dst := some 46, op := .call { callee := .value (.func 43), args := #[.tmp 43, .tmp 45], argTypes := #[23, 23] }, type := 23, pos := "ref.go:112", after := #[{ on := 0, ground := .data }, { on := 2, ground := .data }, { on := 2, ground := .chain }], guard := none } : Oper)) rfl (fun KK hK => ?_) AllReadyH.nil
                        rw [if_pos (by rfl)]
                        go_simp
                        go_at_call 43; refine (C4.out _).mono ?_; rintro e w3 ⟨rfl, hb3⟩
                        go_wp2_with fail
                        refine hK.out _ _ ?_ (fun hHeld3 => ?_)
                        · exact belowT (by assumption) hb3
                        have OA := (ownl w2 [.int .i64 0, .int .i64 0, .int .i64 0] 23).keep hb3
                        have H3 : Below W0.heap.size W0 w3 := by assumption
                        have S3 := H3.size
                        clear hK KK hb3
                        try simp only [Act.put, List.setIfInBounds_toArray, List.set_cons_zero, List.set_cons_succ]
                        refine wpAnyH_ready (rs := [5]) (by as_aux_lemma => kernel_rfl) (by simp) ?_
                        refine AllReadyH.cons (o := ({ dst := none, op := .store 23 (.tmp 10) (.tmp 46), type := 0, pos := "ref.go:112", after := #[{ on := 4, ground := .data }, { on := 3, ground := .data }, { on := 3, ground := .chain }, { on := 0, ground := .phase }, { on := 1, ground := .phase }, { on := 2, ground := .phase }, { on := 3, ground := .phase }, { on := 4, ground := .phase }], guard := none } : Oper)) rfl (fun KK hK => ?_) AllReadyH.nil
                        rw [if_pos (by rfl)]
                        have p0 := (OA).1.at 0 rfl
                        have q0 := (OA).2 0 (by simp)
                        have p1 := (OA).1.at 1 rfl
                        have q1 := (OA).2 1 (by simp)
                        have p2 := (OA).1.at 2 rfl
                        have q2 := (OA).2 2 (by simp)
                        go_simp
                        refine hK.out _ _ ?_ (fun _hHeldS => ?_)
                        · exact (((H3).setCell (p := ⟨w2.heap.size, 0, none⟩) (show W0.heap.size ≤ w2.heap.size by omega) (.int .i64 x4.x.toInt)).setCell (p := ⟨w2.heap.size, 1, none⟩) (show W0.heap.size ≤ w2.heap.size by omega) (.int .i64 x4.y.toInt)).setCell (p := ⟨w2.heap.size, 2, none⟩) (show W0.heap.size ≤ w2.heap.size by omega) (.int .i64 x4.z.toInt)
                        clear hK KK
                        try simp only [Act.put, List.setIfInBounds_toArray, List.set_cons_zero, List.set_cons_succ]
                        refine wpAnyH_done (by as_aux_lemma => kernel_rfl) ?_ _
                        refine NoPanic.normal ?_
                        have BF := (((H3).setCell (p := ⟨w2.heap.size, 0, none⟩) (show W0.heap.size ≤ w2.heap.size by omega) (.int .i64 x4.x.toInt)).setCell (p := ⟨w2.heap.size, 1, none⟩) (show W0.heap.size ≤ w2.heap.size by omega) (.int .i64 x4.y.toInt)).setCell (p := ⟨w2.heap.size, 2, none⟩) (show W0.heap.size ≤ w2.heap.size by omega) (.int .i64 x4.z.toInt)
                        have OF := (((OA).set 0 (.int .i64 x4.x.toInt)).set 1 (.int .i64 x4.y.toInt)).set 2 (.int .i64 x4.z.toInt)
                        have SF := HS.out.keep BF
                        have RF := HR.out.keep BF
                        have zf := BF.size
                        go_wp2_with fail
                        go_meet
                        exact ⟨_, rfl, rfl, rfl, rfl, by omega, SF, RF, OF⟩
                    · skip
                      rw [if_pos (by rfl)]
                      go_simp
                      refine hK.out _ _ ?_ (fun _hHeldA => ?_)
                      · first | exact below1 W0 (.cells #[.int .i64 0, .int .i64 0, .int .i64 0] 23) | exact (below1 W0 (.cells #[.int .i64 0, .int .i64 0, .int .i64 0] 23)).drew
                      clear hK KK
                      try simp only [Act.put, List.setIfInBounds_toArray, List.set_cons_zero, List.set_cons_succ]
                      refine wpAnyH_ready (rs := [2]) (by as_aux_lemma => kernel_rfl) (by simp) ?_
                      refine AllReadyH.cons (o := ({ dst := some 45, op := .call { callee := .value (.func 44), args := #[.tmp 44], argTypes := #[3] }, type := 23, pos := "ref.go:112", after := #[{ on := 1, ground := .data }], guard := none } : Oper)) rfl (fun KK hK => ?_) AllReadyH.nil
                      rw [if_pos (by rfl)]
                      go_simp
                      go_at_call 44; refine (O1.out _).mono ?_; rintro e w2 ⟨rfl, hb2⟩
                      go_wp2_with fail
                      refine hK.out _ _ ?_ (fun hHeld2 => ?_)
                      · exact belowT (by assumption) hb2
                      have OA := ((ownl W0 [.int .i64 0, .int .i64 0, .int .i64 0] 23).drew).keep hb2
                      have H2 : Below W0.heap.size W0 w2 := by assumption
                      have S2 := H2.size
                      clear hK KK hb2
                      try simp only [Act.put, List.setIfInBounds_toArray, List.set_cons_zero, List.set_cons_succ]
                      refine wpAnyH_ready (rs := [3]) (by as_aux_lemma => kernel_rfl) (by simp) ?_
                      refine AllReadyH.cons (o := ({ dst := some 46, op := .call { callee := .value (.func 43), args := #[.tmp 43, .tmp 45], argTypes := #[23, 23] }, type := 23, pos := "ref.go:112", after := #[{ on := 0, ground := .data }, { on := 2, ground := .data }, { on := 2, ground := .chain }], guard := none } : Oper)) rfl (fun KK hK => ?_) AllReadyH.nil
                      rw [if_pos (by rfl)]
                      go_simp
                      go_at_call 43; refine (C4.out _).mono ?_; rintro e w3 ⟨rfl, hb3⟩
                      go_wp2_with fail
                      refine hK.out _ _ ?_ (fun hHeld3 => ?_)
                      · exact belowT (by assumption) hb3
                      replace OA := (OA).keep hb3
                      have H3 : Below W0.heap.size W0 w3 := by assumption
                      have S3 := H3.size
                      clear hK KK hb3
                      try simp only [Act.put, List.setIfInBounds_toArray, List.set_cons_zero, List.set_cons_succ]
                      refine wpAnyH_ready (rs := [5]) (by as_aux_lemma => kernel_rfl) (by simp) ?_
                      refine AllReadyH.cons (o := ({ dst := none, op := .store 23 (.tmp 10) (.tmp 46), type := 0, pos := "ref.go:112", after := #[{ on := 4, ground := .data }, { on := 3, ground := .data }, { on := 3, ground := .chain }, { on := 0, ground := .phase }, { on := 1, ground := .phase }, { on := 2, ground := .phase }, { on := 3, ground := .phase }, { on := 4, ground := .phase }], guard := none } : Oper)) rfl (fun KK hK => ?_) AllReadyH.nil
                      rw [if_pos (by rfl)]
                      have p0 := (OA).1.at 0 rfl
                      have q0 := (OA).2 0 (by simp)
                      have p1 := (OA).1.at 1 rfl
                      have q1 := (OA).2 1 (by simp)
                      have p2 := (OA).1.at 2 rfl
                      have q2 := (OA).2 2 (by simp)
                      go_simp
                      refine hK.out _ _ ?_ (fun _hHeldS => ?_)
                      · exact (((H3).setCell (p := ⟨W0.heap.size, 0, none⟩) (show W0.heap.size ≤ W0.heap.size by omega) (.int .i64 x4.x.toInt)).setCell (p := ⟨W0.heap.size, 1, none⟩) (show W0.heap.size ≤ W0.heap.size by omega) (.int .i64 x4.y.toInt)).setCell (p := ⟨W0.heap.size, 2, none⟩) (show W0.heap.size ≤ W0.heap.size by omega) (.int .i64 x4.z.toInt)
                      clear hK KK
                      try simp only [Act.put, List.setIfInBounds_toArray, List.set_cons_zero, List.set_cons_succ]
                      refine wpAnyH_done (by as_aux_lemma => kernel_rfl) ?_ _
                      refine NoPanic.normal ?_
                      have BF := (((H3).setCell (p := ⟨W0.heap.size, 0, none⟩) (show W0.heap.size ≤ W0.heap.size by omega) (.int .i64 x4.x.toInt)).setCell (p := ⟨W0.heap.size, 1, none⟩) (show W0.heap.size ≤ W0.heap.size by omega) (.int .i64 x4.y.toInt)).setCell (p := ⟨W0.heap.size, 2, none⟩) (show W0.heap.size ≤ W0.heap.size by omega) (.int .i64 x4.z.toInt)
                      have OF := (((OA).set 0 (.int .i64 x4.x.toInt)).set 1 (.int .i64 x4.y.toInt)).set 2 (.int .i64 x4.z.toInt)
                      have SF := HS.out.keep BF
                      have RF := HR.out.keep BF
                      have zf := BF.size
                      go_wp2_with fail
                      go_meet
                      exact ⟨_, rfl, rfl, rfl, rfl, by omega, SF, RF, OF⟩
                  case rest =>
                    clear HS HR r0 r1 r2
                    skip
                    rename World => W0
                    obtain ⟨X, rfl, rfl, rfl, rfl, hz, S1, hr, OX⟩ := hcut
                    have g0 := OX.1.at 0 rfl; have g1 := OX.1.at 1 rfl; have g2 := OX.1.at 2 rfl
                    cases q4 with
                    | false =>
                      obtain ⟨y0, k0, f0⟩ := S1.there 1 rfl 0 rfl; obtain ⟨y1, k1, f1⟩ := S1.there 1 rfl 1 rfl; obtain ⟨y2, k2, f2⟩ := S1.there 1 rfl 2 rfl
                      have BH := Lib.hid S1.below
                      clear S1 OX hr
                      go_wp2
                      refine bodyPost_ret (v := .tuple #[vv x4, .bool true]) (by simp [results, Try.results23, go_sem, *]) rfl ⟨rfl, ?_⟩
                      iterate 3 refine Below.setCell (p := ⟨w.heap.size + 1, _, none⟩) ?_ (show w.heap.size ≤ w.heap.size + 1 by omega) _
                      exact BH.out
                    | true =>
                      clear OX
                      go_wp2_with fail
                      clear g0 g1 g2
                      rw [rounds_succ]
                      go_upto_region 19 with fail
                      have HS := Lib.hid S1; have HR := Lib.hid hr
                      have r0 : ∀ w', Below W0.heap.size W0 w' → w'.cell? ⟨Ar, 0, none⟩ = some (.int .i64 m.a.x.toInt) := fun w' h => (HR.out.keep h).at 0 rfl
                      have r1 : ∀ w', Below W0.heap.size W0 w' → w'.cell? ⟨Ar, 1, none⟩ = some (.int .i64 m.a.y.toInt) := fun w' h => (HR.out.keep h).at 1 rfl
                      have r2 : ∀ w', Below W0.heap.size W0 w' → w'.cell? ⟨Ar, 2, none⟩ = some (.int .i64 m.a.z.toInt) := fun w' h => (HR.out.keep h).at 2 rfl
                      clear S1 hr
                      go_cut [10, 36, 37, 40] from 10 to 47 (fun p u v q wx => ∃ X, p = .pointer (some ⟨X, 0, none⟩) ∧ u = mv m ∧ v = .int .i64 0 ∧ q = .int .i64 2 ∧ w.heap.size + 2 ≤ wx.heap.size ∧ St w (kerB w m) wx ∧ HasL wx Ar (vl m.a) ∧ OwnL wx X (vl x5))
                      case first =>
                        change (Code.region 19 kernel19 true).wp Try.prog _ _ _
                        refine wp_region_noPanic ?_
                        refine wp_region_held_drew (S := fun w' => Below W0.heap.size W0 w') (by kernel_rfl) ((Below.refl _ _).drew) (fun hHeld => ?_)
                        refine wpAnyH_take (i := 0) (oi := ({ dst := some 43, op := .load 23 (.tmp 8), type := 23, pos := "ref.go:112", after := #[], guard := none } : Oper)) (v := ?vv9_1_) rfl kernel19_plain (by as_aux_lemma => kernel_rfl) (by as_aux_lemma => kernel_rfl) (fun _ _ _ h => h) (Or.inl ⟨by rfl, ?yv9_1_⟩) (by assumption) ?rv9_1_
                        case yv9_1_ => (intro w hSw; (try dsimp only at hSw); go_simp; try with_reducible rfl)
                        try simp only [Act.put, List.setIfInBounds_toArray, List.set_cons_zero, List.set_cons_succ]
                        refine wpAnyH_take (i := 1) (oi := ({ dst := some 44, op := .move (.tmp 9), type := 3, pos := "ref.go:112", after := #[], guard := none } : Oper)) (v := ?vv9_2_) rfl kernel19_plain (by as_aux_lemma => kernel_rfl) (by as_aux_lemma => kernel_rfl) (fun _ _ _ h => h) (Or.inl ⟨by rfl, ?yv9_2_⟩) (by assumption) ?rv9_2_
                        case yv9_2_ => (intro w hSw; (try dsimp only at hSw); go_simp; try with_reducible rfl)
                        try simp only [Act.put, List.setIfInBounds_toArray, List.set_cons_zero, List.set_cons_succ]
                        refine wpAnyH_ready (rs := [2, 4]) (by as_aux_lemma => kernel_rfl) (by simp) ?_
                        refine AllReadyH.cons (o := ({ dst := some 45, op := .call { callee := .value (.func 44), args := #[.tmp 44], argTypes := #[3] }, type := 23, pos := "ref.go:112", after := #[{ on := 1, ground := .data }], guard := none } : Oper)) rfl (fun KK hK => ?_) (AllReadyH.cons (o := ({ dst := some 10, op := .alloc 23, type := 0, pos := "ref.go:112", after := #[], guard := none } : Oper)) rfl (fun KK hK => ?_) AllReadyH.nil)
                        · skip
                          rw [if_pos (by rfl)]
                          go_simp
                          go_at_call 44; refine (O2.out _).mono ?_; rintro e w2 ⟨rfl, hb2⟩
                          go_wp2_with fail
                          refine hK.out _ _ ?_ (fun hHeld2 => ?_)
                          · exact belowT (by assumption) hb2
                          have H2 : Below W0.heap.size W0 w2 := by assumption
                          have S2 := H2.size
                          clear hK KK hb2
                          try simp only [Act.put, List.setIfInBounds_toArray, List.set_cons_zero, List.set_cons_succ]
                          refine wpAnyH_ready (rs := [3, 4]) (by as_aux_lemma => kernel_rfl) (by simp) ?_
                          refine AllReadyH.cons (o := ({ dst := some 46, op := .call { callee := .value (.func 43), args := #[.tmp 43, .tmp 45], argTypes := #[23, 23] }, type := 23, pos := "ref.go:112", after := #[{ on := 0, ground := .data }, { on := 2, ground := .data }, { on := 2, ground := .chain }], guard := none } : Oper)) rfl (fun KK hK => ?_) (AllReadyH.cons (o := ({ dst := some 10, op := .alloc 23, type := 0, pos := "ref.go:112", after := #[], guard := none } : Oper)) rfl (fun KK hK => ?_) AllReadyH.nil)
                          · skip
                            rw [if_pos (by rfl)]
                            go_simp
                            go_at_call 43; refine (C5.out _).mono ?_; rintro e w3 ⟨rfl, hb3⟩
                            go_wp2_with fail
                            refine hK.out _ _ ?_ (fun hHeld3 => ?_)
                            · exact belowT (by assumption) hb3
                            have H3 : Below W0.heap.size W0 w3 := by assumption
                            have S3 := H3.size
                            clear hK KK hb3
                            try simp only [Act.put, List.setIfInBounds_toArray, List.set_cons_zero, List.set_cons_succ]
                            refine wpAnyH_ready (rs := [4]) (by as_aux_lemma => kernel_rfl) (by simp) ?_
                            refine AllReadyH.cons (o := ({ dst := some 10, op := .alloc 23, type := 0, pos := "ref.go:112", after := #[], guard := none } : Oper)) rfl (fun KK hK => ?_) AllReadyH.nil
                            rw [if_pos (by rfl)]
                            go_simp
                            refine hK.out _ _ ?_ (fun _hHeldA => ?_)
                            · first | exact belowT (by assumption) (below1 _ _) | exact (belowT (by assumption) (below1 _ _)).drew
                            clear hK KK
                            try simp only [Act.put, List.setIfInBounds_toArray, List.set_cons_zero, List.set_cons_succ]
                            refine wpAnyH_ready (rs := [5]) (by as_aux_lemma => kernel_rfl) (by simp) ?_
                            refine AllReadyH.cons (o := ({ dst := none, op := .store 23 (.tmp 10) (.tmp 46), type := 0, pos := "ref.go:112", after := #[{ on := 4, ground := .data }, { on := 3, ground := .data }, { on := 3, ground := .chain }, { on := 0, ground := .phase }, { on := 1, ground := .phase }, { on := 2, ground := .phase }, { on := 3, ground := .phase }, { on := 4, ground := .phase }], guard := none } : Oper)) rfl (fun KK hK => ?_) AllReadyH.nil
                            rw [if_pos (by rfl)]
                            have p0 := (ownl w3 [.int .i64 0, .int .i64 0, .int .i64 0] 23).1.at 0 rfl
                            have q0 := (ownl w3 [.int .i64 0, .int .i64 0, .int .i64 0] 23).2 0 (by simp)
                            have p1 := (ownl w3 [.int .i64 0, .int .i64 0, .int .i64 0] 23).1.at 1 rfl
                            have q1 := (ownl w3 [.int .i64 0, .int .i64 0, .int .i64 0] 23).2 1 (by simp)
                            have p2 := (ownl w3 [.int .i64 0, .int .i64 0, .int .i64 0] 23).1.at 2 rfl
                            have q2 := (ownl w3 [.int .i64 0, .int .i64 0, .int .i64 0] 23).2 2 (by simp)
                            go_simp
                            refine hK.out _ _ ?_ (fun _hHeldS => ?_)
                            · exact belowT H3 (below1 w3 (.cells #[.int .i64 x5.x.toInt, .int .i64 x5.y.toInt, .int .i64 x5.z.toInt] 23))
                            clear hK KK
                            try simp only [Act.put, List.setIfInBounds_toArray, List.set_cons_zero, List.set_cons_succ]
                            refine wpAnyH_done (by as_aux_lemma => kernel_rfl) ?_ _
                            refine NoPanic.normal ?_
                            have BF := belowT H3 (below1 w3 (.cells #[.int .i64 x5.x.toInt, .int .i64 x5.y.toInt, .int .i64 x5.z.toInt] 23))
                            have OF := ownl w3 [.int .i64 x5.x.toInt, .int .i64 x5.y.toInt, .int .i64 x5.z.toInt] 23
                            have SF := HS.out.keep BF
                            have RF := HR.out.keep BF
                            have zf := BF.size
                            go_wp2_with fail
                            go_meet
                            exact ⟨_, rfl, rfl, rfl, rfl, by omega, SF, RF, OF⟩
                          · skip
                            rw [if_pos (by rfl)]
                            go_simp
                            refine hK.out _ _ ?_ (fun _hHeldA => ?_)
                            · first | exact belowT (by assumption) (below1 _ _) | exact (belowT (by assumption) (below1 _ _)).drew
                            clear hK KK
                            try simp only [Act.put, List.setIfInBounds_toArray, List.set_cons_zero, List.set_cons_succ]
                            refine wpAnyH_ready (rs := [3]) (by as_aux_lemma => kernel_rfl) (by simp) ?_
                            refine AllReadyH.cons (o := ({ dst := some 46, op := .call { callee := .value (.func 43), args := #[.tmp 43, .tmp 45], argTypes := #[23, 23] }, type := 23, pos := "ref.go:112", after := #[{ on := 0, ground := .data }, { on := 2, ground := .data }, { on := 2, ground := .chain }], guard := none } : Oper)) rfl (fun KK hK => ?_) AllReadyH.nil
                            rw [if_pos (by rfl)]
                            go_simp
                            go_at_call 43; refine (C5.out _).mono ?_; rintro e w3 ⟨rfl, hb3⟩
                            go_wp2_with fail
                            refine hK.out _ _ ?_ (fun hHeld3 => ?_)
                            · exact belowT (by assumption) hb3
                            have OA := (ownl w2 [.int .i64 0, .int .i64 0, .int .i64 0] 23).keep hb3
                            have H3 : Below W0.heap.size W0 w3 := by assumption
                            have S3 := H3.size
                            clear hK KK hb3
                            try simp only [Act.put, List.setIfInBounds_toArray, List.set_cons_zero, List.set_cons_succ]
                            refine wpAnyH_ready (rs := [5]) (by as_aux_lemma => kernel_rfl) (by simp) ?_
                            refine AllReadyH.cons (o := ({ dst := none, op := .store 23 (.tmp 10) (.tmp 46), type := 0, pos := "ref.go:112", after := #[{ on := 4, ground := .data }, { on := 3, ground := .data }, { on := 3, ground := .chain }, { on := 0, ground := .phase }, { on := 1, ground := .phase }, { on := 2, ground := .phase }, { on := 3, ground := .phase }, { on := 4, ground := .phase }], guard := none } : Oper)) rfl (fun KK hK => ?_) AllReadyH.nil
                            rw [if_pos (by rfl)]
                            have p0 := (OA).1.at 0 rfl
                            have q0 := (OA).2 0 (by simp)
                            have p1 := (OA).1.at 1 rfl
                            have q1 := (OA).2 1 (by simp)
                            have p2 := (OA).1.at 2 rfl
                            have q2 := (OA).2 2 (by simp)
                            go_simp
                            refine hK.out _ _ ?_ (fun _hHeldS => ?_)
                            · exact (((H3).setCell (p := ⟨w2.heap.size, 0, none⟩) (show W0.heap.size ≤ w2.heap.size by omega) (.int .i64 x5.x.toInt)).setCell (p := ⟨w2.heap.size, 1, none⟩) (show W0.heap.size ≤ w2.heap.size by omega) (.int .i64 x5.y.toInt)).setCell (p := ⟨w2.heap.size, 2, none⟩) (show W0.heap.size ≤ w2.heap.size by omega) (.int .i64 x5.z.toInt)
                            clear hK KK
                            try simp only [Act.put, List.setIfInBounds_toArray, List.set_cons_zero, List.set_cons_succ]
                            refine wpAnyH_done (by as_aux_lemma => kernel_rfl) ?_ _
                            refine NoPanic.normal ?_
                            have BF := (((H3).setCell (p := ⟨w2.heap.size, 0, none⟩) (show W0.heap.size ≤ w2.heap.size by omega) (.int .i64 x5.x.toInt)).setCell (p := ⟨w2.heap.size, 1, none⟩) (show W0.heap.size ≤ w2.heap.size by omega) (.int .i64 x5.y.toInt)).setCell (p := ⟨w2.heap.size, 2, none⟩) (show W0.heap.size ≤ w2.heap.size by omega) (.int .i64 x5.z.toInt)
                            have OF := (((OA).set 0 (.int .i64 x5.x.toInt)).set 1 (.int .i64 x5.y.toInt)).set 2 (.int .i64 x5.z.toInt)
                            have SF := HS.out.keep BF
                            have RF := HR.out.keep BF
                            have zf := BF.size
                            go_wp2_with fail
                            go_meet
                            exact ⟨_, rfl, rfl, rfl, rfl, by omega, SF, RF, OF⟩
                        · skip
                          rw [if_pos (by rfl)]
                          go_simp
                          refine hK.out _ _ ?_ (fun _hHeldA => ?_)
                          · first | exact below1 W0 (.cells #[.int .i64 0, .int .i64 0, .int .i64 0] 23) | exact (below1 W0 (.cells #[.int .i64 0, .int .i64 0, .int .i64 0] 23)).drew
                          clear hK KK
                          try simp only [Act.put, List.setIfInBounds_toArray, List.set_cons_zero, List.set_cons_succ]
                          refine wpAnyH_ready (rs := [2]) (by as_aux_lemma => kernel_rfl) (by simp) ?_
                          refine AllReadyH.cons (o := ({ dst := some 45, op := .call { callee := .value (.func 44), args := #[.tmp 44], argTypes := #[3] }, type := 23, pos := "ref.go:112", after := #[{ on := 1, ground := .data }], guard := none } : Oper)) rfl (fun KK hK => ?_) AllReadyH.nil
                          rw [if_pos (by rfl)]
                          go_simp
                          go_at_call 44; refine (O2.out _).mono ?_; rintro e w2 ⟨rfl, hb2⟩
                          go_wp2_with fail
                          refine hK.out _ _ ?_ (fun hHeld2 => ?_)
                          · exact belowT (by assumption) hb2
                          have OA := ((ownl W0 [.int .i64 0, .int .i64 0, .int .i64 0] 23).drew).keep hb2
                          have H2 : Below W0.heap.size W0 w2 := by assumption
                          have S2 := H2.size
                          clear hK KK hb2
                          try simp only [Act.put, List.setIfInBounds_toArray, List.set_cons_zero, List.set_cons_succ]
                          refine wpAnyH_ready (rs := [3]) (by as_aux_lemma => kernel_rfl) (by simp) ?_
                          refine AllReadyH.cons (o := ({ dst := some 46, op := .call { callee := .value (.func 43), args := #[.tmp 43, .tmp 45], argTypes := #[23, 23] }, type := 23, pos := "ref.go:112", after := #[{ on := 0, ground := .data }, { on := 2, ground := .data }, { on := 2, ground := .chain }], guard := none } : Oper)) rfl (fun KK hK => ?_) AllReadyH.nil
                          rw [if_pos (by rfl)]
                          go_simp
                          go_at_call 43; refine (C5.out _).mono ?_; rintro e w3 ⟨rfl, hb3⟩
                          go_wp2_with fail
                          refine hK.out _ _ ?_ (fun hHeld3 => ?_)
                          · exact belowT (by assumption) hb3
                          replace OA := (OA).keep hb3
                          have H3 : Below W0.heap.size W0 w3 := by assumption
                          have S3 := H3.size
                          clear hK KK hb3
                          try simp only [Act.put, List.setIfInBounds_toArray, List.set_cons_zero, List.set_cons_succ]
                          refine wpAnyH_ready (rs := [5]) (by as_aux_lemma => kernel_rfl) (by simp) ?_
                          refine AllReadyH.cons (o := ({ dst := none, op := .store 23 (.tmp 10) (.tmp 46), type := 0, pos := "ref.go:112", after := #[{ on := 4, ground := .data }, { on := 3, ground := .data }, { on := 3, ground := .chain }, { on := 0, ground := .phase }, { on := 1, ground := .phase }, { on := 2, ground := .phase }, { on := 3, ground := .phase }, { on := 4, ground := .phase }], guard := none } : Oper)) rfl (fun KK hK => ?_) AllReadyH.nil
                          rw [if_pos (by rfl)]
                          have p0 := (OA).1.at 0 rfl
                          have q0 := (OA).2 0 (by simp)
                          have p1 := (OA).1.at 1 rfl
                          have q1 := (OA).2 1 (by simp)
                          have p2 := (OA).1.at 2 rfl
                          have q2 := (OA).2 2 (by simp)
                          go_simp
                          refine hK.out _ _ ?_ (fun _hHeldS => ?_)
                          · exact (((H3).setCell (p := ⟨W0.heap.size, 0, none⟩) (show W0.heap.size ≤ W0.heap.size by omega) (.int .i64 x5.x.toInt)).setCell (p := ⟨W0.heap.size, 1, none⟩) (show W0.heap.size ≤ W0.heap.size by omega) (.int .i64 x5.y.toInt)).setCell (p := ⟨W0.heap.size, 2, none⟩) (show W0.heap.size ≤ W0.heap.size by omega) (.int .i64 x5.z.toInt)
                          clear hK KK
                          try simp only [Act.put, List.setIfInBounds_toArray, List.set_cons_zero, List.set_cons_succ]
                          refine wpAnyH_done (by as_aux_lemma => kernel_rfl) ?_ _
                          refine NoPanic.normal ?_
                          have BF := (((H3).setCell (p := ⟨W0.heap.size, 0, none⟩) (show W0.heap.size ≤ W0.heap.size by omega) (.int .i64 x5.x.toInt)).setCell (p := ⟨W0.heap.size, 1, none⟩) (show W0.heap.size ≤ W0.heap.size by omega) (.int .i64 x5.y.toInt)).setCell (p := ⟨W0.heap.size, 2, none⟩) (show W0.heap.size ≤ W0.heap.size by omega) (.int .i64 x5.z.toInt)
                          have OF := (((OA).set 0 (.int .i64 x5.x.toInt)).set 1 (.int .i64 x5.y.toInt)).set 2 (.int .i64 x5.z.toInt)
                          have SF := HS.out.keep BF
                          have RF := HR.out.keep BF
                          have zf := BF.size
                          go_wp2_with fail
                          go_meet
                          exact ⟨_, rfl, rfl, rfl, rfl, by omega, SF, RF, OF⟩
                      case rest =>
                        clear HS HR r0 r1 r2
                        skip
                        rename World => W0
                        obtain ⟨X, rfl, rfl, rfl, rfl, hz, S1, hr, OX⟩ := hcut
                        have g0 := OX.1.at 0 rfl; have g1 := OX.1.at 1 rfl; have g2 := OX.1.at 2 rfl
                        cases q5 with
                        | false =>
                          obtain ⟨y0, k0, f0⟩ := S1.there 1 rfl 0 rfl; obtain ⟨y1, k1, f1⟩ := S1.there 1 rfl 1 rfl; obtain ⟨y2, k2, f2⟩ := S1.there 1 rfl 2 rfl
                          have BH := Lib.hid S1.below
                          clear S1 OX hr
                          go_wp2
                          refine bodyPost_ret (v := .tuple #[vv x5, .bool true]) (by simp [results, Try.results23, go_sem, *]) rfl ⟨rfl, ?_⟩
                          iterate 3 refine Below.setCell (p := ⟨w.heap.size + 1, _, none⟩) ?_ (show w.heap.size ≤ w.heap.size + 1 by omega) _
                          exact BH.out
                        | true =>
                          clear OX
                          go_wp2_with fail
                          clear g0 g1 g2
                          rw [rounds_succ]
                          go_wp2_with fail
                          clear hr
                          rw [rounds_succ]
                          have VR := fun w => (vec_row m w).2.1
                          have HR0 := hasl W0 (vl m.b) 23
                          have HS := Lib.hid (S1.keep (below1 W0 (.cells (vl m.b).toArray 23)))
                          have hz2 : w.heap.size + 2 ≤ (W0.alloc (.cells (vl m.b).toArray 23)).heap.size := by rw [heap1]; omega
                          have HR := Lib.hid HR0
                          have HZ := Lib.hid hz2
                          clear S1 HR0 hz hz2
                          go_wp2_with fail
                          have S1 := HS.out; have hr := HR.out; have hz := HZ.out
                          clear HS HR HZ VR
                          obtain ⟨Ar, hAr⟩ : ∃ Ar, Ar = W0.heap.size := ⟨_, rfl⟩
                          rw [← hAr] at hr ⊢
                          clear hAr
                          obtain ⟨W1, hW1⟩ : ∃ W1, W1 = W0.alloc (.cells (vl m.b).toArray 23) := ⟨_, rfl⟩
                          rw [← hW1] at S1 hr hz
                          have HW := Lib.hid hW1
                          clear hW1
                          rw [← HW.out]
                          clear HW
                          rename World => W0
                          refine wp_loop_rounds 4 ?_
                          rw [rounds_succ]
                          go_upto_region 19 with fail
                          have HS := Lib.hid S1; have HR := Lib.hid hr
                          have r0 : ∀ w', Below W0.heap.size W0 w' → w'.cell? ⟨Ar, 0, none⟩ = some (.int .i64 m.b.x.toInt) := fun w' h => (HR.out.keep h).at 0 rfl
                          have r1 : ∀ w', Below W0.heap.size W0 w' → w'.cell? ⟨Ar, 1, none⟩ = some (.int .i64 m.b.y.toInt) := fun w' h => (HR.out.keep h).at 1 rfl
                          have r2 : ∀ w', Below W0.heap.size W0 w' → w'.cell? ⟨Ar, 2, none⟩ = some (.int .i64 m.b.z.toInt) := fun w' h => (HR.out.keep h).at 2 rfl
                          clear S1 hr
                          go_cut [10, 36, 37, 40] from 10 to 47 (fun p u v q wx => ∃ X, p = .pointer (some ⟨X, 0, none⟩) ∧ u = mv m ∧ v = .int .i64 1 ∧ q = .int .i64 0 ∧ w.heap.size + 2 ≤ wx.heap.size ∧ St w (kerB w m) wx ∧ HasL wx Ar (vl m.b) ∧ OwnL wx X (vl x6))
                          case first =>
                            change (Code.region 19 kernel19 true).wp Try.prog _ _ _
                            refine wp_region_noPanic ?_
                            refine wp_region_held_drew (S := fun w' => Below W0.heap.size W0 w') (by kernel_rfl) ((Below.refl _ _).drew) (fun hHeld => ?_)
                            refine wpAnyH_take (i := 0) (oi := ({ dst := some 43, op := .load 23 (.tmp 8), type := 23, pos := "ref.go:112", after := #[], guard := none } : Oper)) (v := ?vv10_1_) rfl kernel19_plain (by as_aux_lemma => kernel_rfl) (by as_aux_lemma => kernel_rfl) (fun _ _ _ h => h) (Or.inl ⟨by rfl, ?yv10_1_⟩) (by assumption) ?rv10_1_
                            case yv10_1_ => (intro w hSw; (try dsimp only at hSw); go_simp; try with_reducible rfl)
                            try simp only [Act.put, List.setIfInBounds_toArray, List.set_cons_zero, List.set_cons_succ]
                            refine wpAnyH_take (i := 1) (oi := ({ dst := some 44, op := .move (.tmp 9), type := 3, pos := "ref.go:112", after := #[], guard := none } : Oper)) (v := ?vv10_2_) rfl kernel19_plain (by as_aux_lemma => kernel_rfl) (by as_aux_lemma => kernel_rfl) (fun _ _ _ h => h) (Or.inl ⟨by rfl, ?yv10_2_⟩) (by assumption) ?rv10_2_
                            case yv10_2_ => (intro w hSw; (try dsimp only at hSw); go_simp; try with_reducible rfl)
                            try simp only [Act.put, List.setIfInBounds_toArray, List.set_cons_zero, List.set_cons_succ]
                            refine wpAnyH_ready (rs := [2, 4]) (by as_aux_lemma => kernel_rfl) (by simp) ?_
                            refine AllReadyH.cons (o := ({ dst := some 45, op := .call { callee := .value (.func 44), args := #[.tmp 44], argTypes := #[3] }, type := 23, pos := "ref.go:112", after := #[{ on := 1, ground := .data }], guard := none } : Oper)) rfl (fun KK hK => ?_) (AllReadyH.cons (o := ({ dst := some 10, op := .alloc 23, type := 0, pos := "ref.go:112", after := #[], guard := none } : Oper)) rfl (fun KK hK => ?_) AllReadyH.nil)
                            · skip
                              rw [if_pos (by rfl)]
                              go_simp
                              go_at_call 44; refine (O0.out _).mono ?_; rintro e w2 ⟨rfl, hb2⟩
                              go_wp2_with fail
                              refine hK.out _ _ ?_ (fun hHeld2 => ?_)
                              · exact belowT (by assumption) hb2
                              have H2 : Below W0.heap.size W0 w2 := by assumption
                              have S2 := H2.size
                              clear hK KK hb2
                              try simp only [Act.put, List.setIfInBounds_toArray, List.set_cons_zero, List.set_cons_succ]
                              refine wpAnyH_ready (rs := [3, 4]) (by as_aux_lemma => kernel_rfl) (by simp) ?_
                              refine AllReadyH.cons (o := ({ dst := some 46, op := .call { callee := .value (.func 43), args := #[.tmp 43, .tmp 45], argTypes := #[23, 23] }, type := 23, pos := "ref.go:112", after := #[{ on := 0, ground := .data }, { on := 2, ground := .data }, { on := 2, ground := .chain }], guard := none } : Oper)) rfl (fun KK hK => ?_) (AllReadyH.cons (o := ({ dst := some 10, op := .alloc 23, type := 0, pos := "ref.go:112", after := #[], guard := none } : Oper)) rfl (fun KK hK => ?_) AllReadyH.nil)
                              · skip
                                rw [if_pos (by rfl)]
                                go_simp
                                go_at_call 43; refine (C6.out _).mono ?_; rintro e w3 ⟨rfl, hb3⟩
                                go_wp2_with fail
                                refine hK.out _ _ ?_ (fun hHeld3 => ?_)
                                · exact belowT (by assumption) hb3
                                have H3 : Below W0.heap.size W0 w3 := by assumption
                                have S3 := H3.size
                                clear hK KK hb3
                                try simp only [Act.put, List.setIfInBounds_toArray, List.set_cons_zero, List.set_cons_succ]
                                refine wpAnyH_ready (rs := [4]) (by as_aux_lemma => kernel_rfl) (by simp) ?_
                                refine AllReadyH.cons (o := ({ dst := some 10, op := .alloc 23, type := 0, pos := "ref.go:112", after := #[], guard := none } : Oper)) rfl (fun KK hK => ?_) AllReadyH.nil
                                rw [if_pos (by rfl)]
                                go_simp
                                refine hK.out _ _ ?_ (fun _hHeldA => ?_)
                                · first | exact belowT (by assumption) (below1 _ _) | exact (belowT (by assumption) (below1 _ _)).drew
                                clear hK KK
                                try simp only [Act.put, List.setIfInBounds_toArray, List.set_cons_zero, List.set_cons_succ]
                                refine wpAnyH_ready (rs := [5]) (by as_aux_lemma => kernel_rfl) (by simp) ?_
                                refine AllReadyH.cons (o := ({ dst := none, op := .store 23 (.tmp 10) (.tmp 46), type := 0, pos := "ref.go:112", after := #[{ on := 4, ground := .data }, { on := 3, ground := .data }, { on := 3, ground := .chain }, { on := 0, ground := .phase }, { on := 1, ground := .phase }, { on := 2, ground := .phase }, { on := 3, ground := .phase }, { on := 4, ground := .phase }], guard := none } : Oper)) rfl (fun KK hK => ?_) AllReadyH.nil
                                rw [if_pos (by rfl)]
                                have p0 := (ownl w3 [.int .i64 0, .int .i64 0, .int .i64 0] 23).1.at 0 rfl
                                have q0 := (ownl w3 [.int .i64 0, .int .i64 0, .int .i64 0] 23).2 0 (by simp)
                                have p1 := (ownl w3 [.int .i64 0, .int .i64 0, .int .i64 0] 23).1.at 1 rfl
                                have q1 := (ownl w3 [.int .i64 0, .int .i64 0, .int .i64 0] 23).2 1 (by simp)
                                have p2 := (ownl w3 [.int .i64 0, .int .i64 0, .int .i64 0] 23).1.at 2 rfl
                                have q2 := (ownl w3 [.int .i64 0, .int .i64 0, .int .i64 0] 23).2 2 (by simp)
                                go_simp
                                refine hK.out _ _ ?_ (fun _hHeldS => ?_)
                                · exact belowT H3 (below1 w3 (.cells #[.int .i64 x6.x.toInt, .int .i64 x6.y.toInt, .int .i64 x6.z.toInt] 23))
                                clear hK KK
                                try simp only [Act.put, List.setIfInBounds_toArray, List.set_cons_zero, List.set_cons_succ]
                                refine wpAnyH_done (by as_aux_lemma => kernel_rfl) ?_ _
                                refine NoPanic.normal ?_
                                have BF := belowT H3 (below1 w3 (.cells #[.int .i64 x6.x.toInt, .int .i64 x6.y.toInt, .int .i64 x6.z.toInt] 23))
                                have OF := ownl w3 [.int .i64 x6.x.toInt, .int .i64 x6.y.toInt, .int .i64 x6.z.toInt] 23
                                have SF := HS.out.keep BF
                                have RF := HR.out.keep BF
                                have zf := BF.size
                                go_wp2_with fail
                                go_meet
                                exact ⟨_, rfl, rfl, rfl, rfl, by omega, SF, RF, OF⟩
                              · skip
                                rw [if_pos (by rfl)]
                                go_simp
                                refine hK.out _ _ ?_ (fun _hHeldA => ?_)
                                · first | exact belowT (by assumption) (below1 _ _) | exact (belowT (by assumption) (below1 _ _)).drew
                                clear hK KK
                                try simp only [Act.put, List.setIfInBounds_toArray, List.set_cons_zero, List.set_cons_succ]
                                refine wpAnyH_ready (rs := [3]) (by as_aux_lemma => kernel_rfl) (by simp) ?_
                                refine AllReadyH.cons (o := ({ dst := some 46, op := .call { callee := .value (.func 43), args := #[.tmp 43, .tmp 45], argTypes := #[23, 23] }, type := 23, pos := "ref.go:112", after := #[{ on := 0, ground := .data }, { on := 2, ground := .data }, { on := 2, ground := .chain }], guard := none } : Oper)) rfl (fun KK hK => ?_) AllReadyH.nil
                                rw [if_pos (by rfl)]
                                go_simp
                                go_at_call 43; refine (C6.out _).mono ?_; rintro e w3 ⟨rfl, hb3⟩
                                go_wp2_with fail
                                refine hK.out _ _ ?_ (fun hHeld3 => ?_)
                                · exact belowT (by assumption) hb3
                                have OA := (ownl w2 [.int .i64 0, .int .i64 0, .int .i64 0] 23).keep hb3
                                have H3 : Below W0.heap.size W0 w3 := by assumption
                                have S3 := H3.size
                                clear hK KK hb3
                                try simp only [Act.put, List.setIfInBounds_toArray, List.set_cons_zero, List.set_cons_succ]
                                refine wpAnyH_ready (rs := [5]) (by as_aux_lemma => kernel_rfl) (by simp) ?_
                                refine AllReadyH.cons (o := ({ dst := none, op := .store 23 (.tmp 10) (.tmp 46), type := 0, pos := "ref.go:112", after := #[{ on := 4, ground := .data }, { on := 3, ground := .data }, { on := 3, ground := .chain }, { on := 0, ground := .phase }, { on := 1, ground := .phase }, { on := 2, ground := .phase }, { on := 3, ground := .phase }, { on := 4, ground := .phase }], guard := none } : Oper)) rfl (fun KK hK => ?_) AllReadyH.nil
                                rw [if_pos (by rfl)]
                                have p0 := (OA).1.at 0 rfl
                                have q0 := (OA).2 0 (by simp)
                                have p1 := (OA).1.at 1 rfl
                                have q1 := (OA).2 1 (by simp)
                                have p2 := (OA).1.at 2 rfl
                                have q2 := (OA).2 2 (by simp)
                                go_simp
                                refine hK.out _ _ ?_ (fun _hHeldS => ?_)
                                · exact (((H3).setCell (p := ⟨w2.heap.size, 0, none⟩) (show W0.heap.size ≤ w2.heap.size by omega) (.int .i64 x6.x.toInt)).setCell (p := ⟨w2.heap.size, 1, none⟩) (show W0.heap.size ≤ w2.heap.size by omega) (.int .i64 x6.y.toInt)).setCell (p := ⟨w2.heap.size, 2, none⟩) (show W0.heap.size ≤ w2.heap.size by omega) (.int .i64 x6.z.toInt)
                                clear hK KK
                                try simp only [Act.put, List.setIfInBounds_toArray, List.set_cons_zero, List.set_cons_succ]
                                refine wpAnyH_done (by as_aux_lemma => kernel_rfl) ?_ _
                                refine NoPanic.normal ?_
                                have BF := (((H3).setCell (p := ⟨w2.heap.size, 0, none⟩) (show W0.heap.size ≤ w2.heap.size by omega) (.int .i64 x6.x.toInt)).setCell (p := ⟨w2.heap.size, 1, none⟩) (show W0.heap.size ≤ w2.heap.size by omega) (.int .i64 x6.y.toInt)).setCell (p := ⟨w2.heap.size, 2, none⟩) (show W0.heap.size ≤ w2.heap.size by omega) (.int .i64 x6.z.toInt)
                                have OF := (((OA).set 0 (.int .i64 x6.x.toInt)).set 1 (.int .i64 x6.y.toInt)).set 2 (.int .i64 x6.z.toInt)
                                have SF := HS.out.keep BF
                                have RF := HR.out.keep BF
                                have zf := BF.size
                                go_wp2_with fail
                                go_meet
                                exact ⟨_, rfl, rfl, rfl, rfl, by omega, SF, RF, OF⟩
                            · skip
                              rw [if_pos (by rfl)]
                              go_simp
                              refine hK.out _ _ ?_ (fun _hHeldA => ?_)
                              · first | exact below1 W0 (.cells #[.int .i64 0, .int .i64 0, .int .i64 0] 23) | exact (below1 W0 (.cells #[.int .i64 0, .int .i64 0, .int .i64 0] 23)).drew
                              clear hK KK
                              try simp only [Act.put, List.setIfInBounds_toArray, List.set_cons_zero, List.set_cons_succ]
                              refine wpAnyH_ready (rs := [2]) (by as_aux_lemma => kernel_rfl) (by simp) ?_
                              refine AllReadyH.cons (o := ({ dst := some 45, op := .call { callee := .value (.func 44), args := #[.tmp 44], argTypes := #[3] }, type := 23, pos := "ref.go:112", after := #[{ on := 1, ground := .data }], guard := none } : Oper)) rfl (fun KK hK => ?_) AllReadyH.nil
                              rw [if_pos (by rfl)]
                              go_simp
                              go_at_call 44; refine (O0.out _).mono ?_; rintro e w2 ⟨rfl, hb2⟩
                              go_wp2_with fail
                              refine hK.out _ _ ?_ (fun hHeld2 => ?_)
                              · exact belowT (by assumption) hb2
                              have OA := ((ownl W0 [.int .i64 0, .int .i64 0, .int .i64 0] 23).drew).keep hb2
                              have H2 : Below W0.heap.size W0 w2 := by assumption
                              have S2 := H2.size
                              clear hK KK hb2
                              try simp only [Act.put, List.setIfInBounds_toArray, List.set_cons_zero, List.set_cons_succ]
                              refine wpAnyH_ready (rs := [3]) (by as_aux_lemma => kernel_rfl) (by simp) ?_
                              refine AllReadyH.cons (o := ({ dst := some 46, op := .call { callee := .value (.func 43), args := #[.tmp 43, .tmp 45], argTypes := #[23, 23] }, type := 23, pos := "ref.go:112", after := #[{ on := 0, ground := .data }, { on := 2, ground := .data }, { on := 2, ground := .chain }], guard := none } : Oper)) rfl (fun KK hK => ?_) AllReadyH.nil
                              rw [if_pos (by rfl)]
                              go_simp
                              go_at_call 43; refine (C6.out _).mono ?_; rintro e w3 ⟨rfl, hb3⟩
                              go_wp2_with fail
                              refine hK.out _ _ ?_ (fun hHeld3 => ?_)
                              · exact belowT (by assumption) hb3
                              replace OA := (OA).keep hb3
                              have H3 : Below W0.heap.size W0 w3 := by assumption
                              have S3 := H3.size
                              clear hK KK hb3
                              try simp only [Act.put, List.setIfInBounds_toArray, List.set_cons_zero, List.set_cons_succ]
                              refine wpAnyH_ready (rs := [5]) (by as_aux_lemma => kernel_rfl) (by simp) ?_
                              refine AllReadyH.cons (o := ({ dst := none, op := .store 23 (.tmp 10) (.tmp 46), type := 0, pos := "ref.go:112", after := #[{ on := 4, ground := .data }, { on := 3, ground := .data }, { on := 3, ground := .chain }, { on := 0, ground := .phase }, { on := 1, ground := .phase }, { on := 2, ground := .phase }, { on := 3, ground := .phase }, { on := 4, ground := .phase }], guard := none } : Oper)) rfl (fun KK hK => ?_) AllReadyH.nil
                              rw [if_pos (by rfl)]
                              have p0 := (OA).1.at 0 rfl
                              have q0 := (OA).2 0 (by simp)
                              have p1 := (OA).1.at 1 rfl
                              have q1 := (OA).2 1 (by simp)
                              have p2 := (OA).1.at 2 rfl
                              have q2 := (OA).2 2 (by simp)
                              go_simp
                              refine hK.out _ _ ?_ (fun _hHeldS => ?_)
                              · exact (((H3).setCell (p := ⟨W0.heap.size, 0, none⟩) (show W0.heap.size ≤ W0.heap.size by omega) (.int .i64 x6.x.toInt)).setCell (p := ⟨W0.heap.size, 1, none⟩) (show W0.heap.size ≤ W0.heap.size by omega) (.int .i64 x6.y.toInt)).setCell (p := ⟨W0.heap.size, 2, none⟩) (show W0.heap.size ≤ W0.heap.size by omega) (.int .i64 x6.z.toInt)
                              clear hK KK
                              try simp only [Act.put, List.setIfInBounds_toArray, List.set_cons_zero, List.set_cons_succ]
                              refine wpAnyH_done (by as_aux_lemma => kernel_rfl) ?_ _
                              refine NoPanic.normal ?_
                              have BF := (((H3).setCell (p := ⟨W0.heap.size, 0, none⟩) (show W0.heap.size ≤ W0.heap.size by omega) (.int .i64 x6.x.toInt)).setCell (p := ⟨W0.heap.size, 1, none⟩) (show W0.heap.size ≤ W0.heap.size by omega) (.int .i64 x6.y.toInt)).setCell (p := ⟨W0.heap.size, 2, none⟩) (show W0.heap.size ≤ W0.heap.size by omega) (.int .i64 x6.z.toInt)
                              have OF := (((OA).set 0 (.int .i64 x6.x.toInt)).set 1 (.int .i64 x6.y.toInt)).set 2 (.int .i64 x6.z.toInt)
                              have SF := HS.out.keep BF
                              have RF := HR.out.keep BF
                              have zf := BF.size
                              go_wp2_with fail
                              go_meet
                              exact ⟨_, rfl, rfl, rfl, rfl, by omega, SF, RF, OF⟩
                          case rest =>
                            clear HS HR r0 r1 r2
                            skip
                            rename World => W0
                            obtain ⟨X, rfl, rfl, rfl, rfl, hz, S1, hr, OX⟩ := hcut
                            have g0 := OX.1.at 0 rfl; have g1 := OX.1.at 1 rfl; have g2 := OX.1.at 2 rfl
                            cases q6 with
                            | false =>
                              obtain ⟨y0, k0, f0⟩ := S1.there 1 rfl 0 rfl; obtain ⟨y1, k1, f1⟩ := S1.there 1 rfl 1 rfl; obtain ⟨y2, k2, f2⟩ := S1.there 1 rfl 2 rfl
                              have BH := Lib.hid S1.below
                              clear S1 OX hr
                              go_wp2
                              refine bodyPost_ret (v := .tuple #[vv x6, .bool true]) (by simp [results, Try.results23, go_sem, *]) rfl ⟨rfl, ?_⟩
                              iterate 3 refine Below.setCell (p := ⟨w.heap.size + 1, _, none⟩) ?_ (show w.heap.size ≤ w.heap.size + 1 by omega) _
                              exact BH.out
                            | true =>
                              clear OX
                              go_wp2_with fail
                              clear g0 g1 g2
                              rw [rounds_succ]
                              go_upto_region 19 with fail
                              have HS := Lib.hid S1; have HR := Lib.hid hr
                              have r0 : ∀ w', Below W0.heap.size W0 w' → w'.cell? ⟨Ar, 0, none⟩ = some (.int .i64 m.b.x.toInt) := fun w' h => (HR.out.keep h).at 0 rfl
                              have r1 : ∀ w', Below W0.heap.size W0 w' → w'.cell? ⟨Ar, 1, none⟩ = some (.int .i64 m.b.y.toInt) := fun w' h => (HR.out.keep h).at 1 rfl
                              have r2 : ∀ w', Below W0.heap.size W0 w' → w'.cell? ⟨Ar, 2, none⟩ = some (.int .i64 m.b.z.toInt) := fun w' h => (HR.out.keep h).at 2 rfl
                              clear S1 hr
                              go_cut [10, 36, 37, 40] from 10 to 47 (fun p u v q wx => ∃ X, p = .pointer (some ⟨X, 0, none⟩) ∧ u = mv m ∧ v = .int .i64 1 ∧ q = .int .i64 1 ∧ w.heap.size + 2 ≤ wx.heap.size ∧ St w (kerB w m) wx ∧ HasL wx Ar (vl m.b) ∧ OwnL wx X (vl x7))
                              case first =>
                                change (Code.region 19 kernel19 true).wp Try.prog _ _ _
                                refine wp_region_noPanic ?_
                                refine wp_region_held_drew (S := fun w' => Below W0.heap.size W0 w') (by kernel_rfl) ((Below.refl _ _).drew) (fun hHeld => ?_)
                                refine wpAnyH_take (i := 0) (oi := ({ dst := some 43, op := .load 23 (.tmp 8), type := 23, pos := "ref.go:112", after := #[], guard := none } : Oper)) (v := ?vv11_1_) rfl kernel19_plain (by as_aux_lemma => kernel_rfl) (by as_aux_lemma => kernel_rfl) (fun _ _ _ h => h) (Or.inl ⟨by rfl, ?yv11_1_⟩) (by assumption) ?rv11_1_
                                case yv11_1_ => (intro w hSw; (try dsimp only at hSw); go_simp; try with_reducible rfl)
                                try simp only [Act.put, List.setIfInBounds_toArray, List.set_cons_zero, List.set_cons_succ]
                                refine wpAnyH_take (i := 1) (oi := ({ dst := some 44, op := .move (.tmp 9), type := 3, pos := "ref.go:112", after := #[], guard := none } : Oper)) (v := ?vv11_2_) rfl kernel19_plain (by as_aux_lemma => kernel_rfl) (by as_aux_lemma => kernel_rfl) (fun _ _ _ h => h) (Or.inl ⟨by rfl, ?yv11_2_⟩) (by assumption) ?rv11_2_
                                case yv11_2_ => (intro w hSw; (try dsimp only at hSw); go_simp; try with_reducible rfl)
                                try simp only [Act.put, List.setIfInBounds_toArray, List.set_cons_zero, List.set_cons_succ]
                                refine wpAnyH_ready (rs := [2, 4]) (by as_aux_lemma => kernel_rfl) (by simp) ?_
                                refine AllReadyH.cons (o := ({ dst := some 45, op := .call { callee := .value (.func 44), args := #[.tmp 44], argTypes := #[3] }, type := 23, pos := "ref.go:112", after := #[{ on := 1, ground := .data }], guard := none } : Oper)) rfl (fun KK hK => ?_) (AllReadyH.cons (o := ({ dst := some 10, op := .alloc 23, type := 0, pos := "ref.go:112", after := #[], guard := none } : Oper)) rfl (fun KK hK => ?_) AllReadyH.nil)
                                · skip
                                  rw [if_pos (by rfl)]
                                  go_simp
                                  go_at_call 44; refine (O1.out _).mono ?_; rintro e w2 ⟨rfl, hb2⟩
                                  go_wp2_with fail
                                  refine hK.out _ _ ?_ (fun hHeld2 => ?_)
                                  · exact belowT (by assumption) hb2
                                  have H2 : Below W0.heap.size W0 w2 := by assumption
                                  have S2 := H2.size
                                  clear hK KK hb2
                                  try simp only [Act.put, List.setIfInBounds_toArray, List.set_cons_zero, List.set_cons_succ]
                                  refine wpAnyH_ready (rs := [3, 4]) (by as_aux_lemma => kernel_rfl) (by simp) ?_
                                  refine AllReadyH.cons (o := ({ dst := some 46, op := .call { callee := .value (.func 43), args := #[.tmp 43, .tmp 45], argTypes := #[23, 23] }, type := 23, pos := "ref.go:112", after := #[{ on := 0, ground := .data }, { on := 2, ground := .data }, { on := 2, ground := .chain }], guard := none } : Oper)) rfl (fun KK hK => ?_) (AllReadyH.cons (o := ({ dst := some 10, op := .alloc 23, type := 0, pos := "ref.go:112", after := #[], guard := none } : Oper)) rfl (fun KK hK => ?_) AllReadyH.nil)
                                  · skip
                                    rw [if_pos (by rfl)]
                                    go_simp
                                    go_at_call 43; refine (C7.out _).mono ?_; rintro e w3 ⟨rfl, hb3⟩
                                    go_wp2_with fail
                                    refine hK.out _ _ ?_ (fun hHeld3 => ?_)
                                    · exact belowT (by assumption) hb3
                                    have H3 : Below W0.heap.size W0 w3 := by assumption
                                    have S3 := H3.size
                                    clear hK KK hb3
                                    try simp only [Act.put, List.setIfInBounds_toArray, List.set_cons_zero, List.set_cons_succ]
                                    refine wpAnyH_ready (rs := [4]) (by as_aux_lemma => kernel_rfl) (by simp) ?_
                                    refine AllReadyH.cons (o := ({ dst := some 10, op := .alloc 23, type := 0, pos := "ref.go:112", after := #[], guard := none } : Oper)) rfl (fun KK hK => ?_) AllReadyH.nil
                                    rw [if_pos (by rfl)]
                                    go_simp
                                    refine hK.out _ _ ?_ (fun _hHeldA => ?_)
                                    · first | exact belowT (by assumption) (below1 _ _) | exact (belowT (by assumption) (below1 _ _)).drew
                                    clear hK KK
                                    try simp only [Act.put, List.setIfInBounds_toArray, List.set_cons_zero, List.set_cons_succ]
                                    refine wpAnyH_ready (rs := [5]) (by as_aux_lemma => kernel_rfl) (by simp) ?_
                                    refine AllReadyH.cons (o := ({ dst := none, op := .store 23 (.tmp 10) (.tmp 46), type := 0, pos := "ref.go:112", after := #[{ on := 4, ground := .data }, { on := 3, ground := .data }, { on := 3, ground := .chain }, { on := 0, ground := .phase }, { on := 1, ground := .phase }, { on := 2, ground := .phase }, { on := 3, ground := .phase }, { on := 4, ground := .phase }], guard := none } : Oper)) rfl (fun KK hK => ?_) AllReadyH.nil
                                    rw [if_pos (by rfl)]
                                    have p0 := (ownl w3 [.int .i64 0, .int .i64 0, .int .i64 0] 23).1.at 0 rfl
                                    have q0 := (ownl w3 [.int .i64 0, .int .i64 0, .int .i64 0] 23).2 0 (by simp)
                                    have p1 := (ownl w3 [.int .i64 0, .int .i64 0, .int .i64 0] 23).1.at 1 rfl
                                    have q1 := (ownl w3 [.int .i64 0, .int .i64 0, .int .i64 0] 23).2 1 (by simp)
                                    have p2 := (ownl w3 [.int .i64 0, .int .i64 0, .int .i64 0] 23).1.at 2 rfl
                                    have q2 := (ownl w3 [.int .i64 0, .int .i64 0, .int .i64 0] 23).2 2 (by simp)
                                    go_simp
                                    refine hK.out _ _ ?_ (fun _hHeldS => ?_)
                                    · exact belowT H3 (below1 w3 (.cells #[.int .i64 x7.x.toInt, .int .i64 x7.y.toInt, .int .i64 x7.z.toInt] 23))
                                    clear hK KK
                                    try simp only [Act.put, List.setIfInBounds_toArray, List.set_cons_zero, List.set_cons_succ]
                                    refine wpAnyH_done (by as_aux_lemma => kernel_rfl) ?_ _
                                    refine NoPanic.normal ?_
                                    have BF := belowT H3 (below1 w3 (.cells #[.int .i64 x7.x.toInt, .int .i64 x7.y.toInt, .int .i64 x7.z.toInt] 23))
                                    have OF := ownl w3 [.int .i64 x7.x.toInt, .int .i64 x7.y.toInt, .int .i64 x7.z.toInt] 23
                                    have SF := HS.out.keep BF
                                    have RF := HR.out.keep BF
                                    have zf := BF.size
                                    go_wp2_with fail
                                    go_meet
                                    exact ⟨_, rfl, rfl, rfl, rfl, by omega, SF, RF, OF⟩
                                  · skip
                                    rw [if_pos (by rfl)]
                                    go_simp
                                    refine hK.out _ _ ?_ (fun _hHeldA => ?_)
                                    · first | exact belowT (by assumption) (below1 _ _) | exact (belowT (by assumption) (below1 _ _)).drew
                                    clear hK KK
                                    try simp only [Act.put, List.setIfInBounds_toArray, List.set_cons_zero, List.set_cons_succ]
                                    refine wpAnyH_ready (rs := [3]) (by as_aux_lemma => kernel_rfl) (by simp) ?_
                                    refine AllReadyH.cons (o := ({ dst := some 46, op := .call { callee := .value (.func 43), args := #[.tmp 43, .tmp 45], argTypes := #[23, 23] }, type := 23, pos := "ref.go:112", after := #[{ on := 0, ground := .data }, { on := 2, ground := .data }, { on := 2, ground := .chain }], guard := none } : Oper)) rfl (fun KK hK => ?_) AllReadyH.nil
                                    rw [if_pos (by rfl)]
                                    go_simp
                                    go_at_call 43; refine (C7.out _).mono ?_; rintro e w3 ⟨rfl, hb3⟩
                                    go_wp2_with fail
                                    refine hK.out _ _ ?_ (fun hHeld3 => ?_)
                                    · exact belowT (by assumption) hb3
                                    have OA := (ownl w2 [.int .i64 0, .int .i64 0, .int .i64 0] 23).keep hb3
                                    have H3 : Below W0.heap.size W0 w3 := by assumption
                                    have S3 := H3.size
                                    clear hK KK hb3
                                    try simp only [Act.put, List.setIfInBounds_toArray, List.set_cons_zero, List.set_cons_succ]
                                    refine wpAnyH_ready (rs := [5]) (by as_aux_lemma => kernel_rfl) (by simp) ?_
                                    refine AllReadyH.cons (o := ({ dst := none, op := .store 23 (.tmp 10) (.tmp 46), type := 0, pos := "ref.go:112", after := #[{ on := 4, ground := .data }, { on := 3, ground := .data }, { on := 3, ground := .chain }, { on := 0, ground := .phase }, { on := 1, ground := .phase }, { on := 2, ground := .phase }, { on := 3, ground := .phase }, { on := 4, ground := .phase }], guard := none } : Oper)) rfl (fun KK hK => ?_) AllReadyH.nil
                                    rw [if_pos (by rfl)]
                                    have p0 := (OA).1.at 0 rfl
                                    have q0 := (OA).2 0 (by simp)
                                    have p1 := (OA).1.at 1 rfl
                                    have q1 := (OA).2 1 (by simp)
                                    have p2 := (OA).1.at 2 rfl
                                    have q2 := (OA).2 2 (by simp)
                                    go_simp
                                    refine hK.out _ _ ?_ (fun _hHeldS => ?_)
                                    · exact (((H3).setCell (p := ⟨w2.heap.size, 0, none⟩) (show W0.heap.size ≤ w2.heap.size by omega) (.int .i64 x7.x.toInt)).setCell (p := ⟨w2.heap.size, 1, none⟩) (show W0.heap.size ≤ w2.heap.size by omega) (.int .i64 x7.y.toInt)).setCell (p := ⟨w2.heap.size, 2, none⟩) (show W0.heap.size ≤ w2.heap.size by omega) (.int .i64 x7.z.toInt)
                                    clear hK KK
                                    try simp only [Act.put, List.setIfInBounds_toArray, List.set_cons_zero, List.set_cons_succ]
                                    refine wpAnyH_done (by as_aux_lemma => kernel_rfl) ?_ _
                                    refine NoPanic.normal ?_
                                    have BF := (((H3).setCell (p := ⟨w2.heap.size, 0, none⟩) (show W0.heap.size ≤ w2.heap.size by omega) (.int .i64 x7.x.toInt)).setCell (p := ⟨w2.heap.size, 1, none⟩) (show W0.heap.size ≤ w2.heap.size by omega) (.int .i64 x7.y.toInt)).setCell (p := ⟨w2.heap.size, 2, none⟩) (show W0.heap.size ≤ w2.heap.size by omega) (.int .i64 x7.z.toInt)
                                    have OF := (((OA).set 0 (.int .i64 x7.x.toInt)).set 1 (.int .i64 x7.y.toInt)).set 2 (.int .i64 x7.z.toInt)
                                    have SF := HS.out.keep BF
                                    have RF := HR.out.keep BF
                                    have zf := BF.size
                                    go_wp2_with fail
                                    go_meet
                                    exact ⟨_, rfl, rfl, rfl, rfl, by omega, SF, RF, OF⟩
                                · skip
                                  rw [if_pos (by rfl)]
                                  go_simp
                                  refine hK.out _ _ ?_ (fun _hHeldA => ?_)
                                  · first | exact below1 W0 (.cells #[.int .i64 0, .int .i64 0, .int .i64 0] 23) | exact (below1 W0 (.cells #[.int .i64 0, .int .i64 0, .int .i64 0] 23)).drew
                                  clear hK KK
                                  try simp only [Act.put, List.setIfInBounds_toArray, List.set_cons_zero, List.set_cons_succ]
                                  refine wpAnyH_ready (rs := [2]) (by as_aux_lemma => kernel_rfl) (by simp) ?_
                                  refine AllReadyH.cons (o := ({ dst := some 45, op := .call { callee := .value (.func 44), args := #[.tmp 44], argTypes := #[3] }, type := 23, pos := "ref.go:112", after := #[{ on := 1, ground := .data }], guard := none } : Oper)) rfl (fun KK hK => ?_) AllReadyH.nil
                                  rw [if_pos (by rfl)]
                                  go_simp
                                  go_at_call 44; refine (O1.out _).mono ?_; rintro e w2 ⟨rfl, hb2⟩
                                  go_wp2_with fail
                                  refine hK.out _ _ ?_ (fun hHeld2 => ?_)
                                  · exact belowT (by assumption) hb2
                                  have OA := ((ownl W0 [.int .i64 0, .int .i64 0, .int .i64 0] 23).drew).keep hb2
                                  have H2 : Below W0.heap.size W0 w2 := by assumption
                                  have S2 := H2.size
                                  clear hK KK hb2
                                  try simp only [Act.put, List.setIfInBounds_toArray, List.set_cons_zero, List.set_cons_succ]
                                  refine wpAnyH_ready (rs := [3]) (by as_aux_lemma => kernel_rfl) (by simp) ?_
                                  refine AllReadyH.cons (o := ({ dst := some 46, op := .call { callee := .value (.func 43), args := #[.tmp 43, .tmp 45], argTypes := #[23, 23] }, type := 23, pos := "ref.go:112", after := #[{ on := 0, ground := .data }, { on := 2, ground := .data }, { on := 2, ground := .chain }], guard := none } : Oper)) rfl (fun KK hK => ?_) AllReadyH.nil
                                  rw [if_pos (by rfl)]
                                  go_simp
                                  go_at_call 43; refine (C7.out _).mono ?_; rintro e w3 ⟨rfl, hb3⟩
                                  go_wp2_with fail
                                  refine hK.out _ _ ?_ (fun hHeld3 => ?_)
                                  · exact belowT (by assumption) hb3
                                  replace OA := (OA).keep hb3
                                  have H3 : Below W0.heap.size W0 w3 := by assumption
                                  have S3 := H3.size
                                  clear hK KK hb3
                                  try simp only [Act.put, List.setIfInBounds_toArray, List.set_cons_zero, List.set_cons_succ]
                                  refine wpAnyH_ready (rs := [5]) (by as_aux_lemma => kernel_rfl) (by simp) ?_
                                  refine AllReadyH.cons (o := ({ dst := none, op := .store 23 (.tmp 10) (.tmp 46), type := 0, pos := "ref.go:112", after := #[{ on := 4, ground := .data }, { on := 3, ground := .data }, { on := 3, ground := .chain }, { on := 0, ground := .phase }, { on := 1, ground := .phase }, { on := 2, ground := .phase }, { on := 3, ground := .phase }, { on := 4, ground := .phase }], guard := none } : Oper)) rfl (fun KK hK => ?_) AllReadyH.nil
                                  rw [if_pos (by rfl)]
                                  have p0 := (OA).1.at 0 rfl
                                  have q0 := (OA).2 0 (by simp)
                                  have p1 := (OA).1.at 1 rfl
                                  have q1 := (OA).2 1 (by simp)
                                  have p2 := (OA).1.at 2 rfl
                                  have q2 := (OA).2 2 (by simp)
                                  go_simp
                                  refine hK.out _ _ ?_ (fun _hHeldS => ?_)
                                  · exact (((H3).setCell (p := ⟨W0.heap.size, 0, none⟩) (show W0.heap.size ≤ W0.heap.size by omega) (.int .i64 x7.x.toInt)).setCell (p := ⟨W0.heap.size, 1, none⟩) (show W0.heap.size ≤ W0.heap.size by omega) (.int .i64 x7.y.toInt)).setCell (p := ⟨W0.heap.size, 2, none⟩) (show W0.heap.size ≤ W0.heap.size by omega) (.int .i64 x7.z.toInt)
                                  clear hK KK
                                  try simp only [Act.put, List.setIfInBounds_toArray, List.set_cons_zero, List.set_cons_succ]
                                  refine wpAnyH_done (by as_aux_lemma => kernel_rfl) ?_ _
                                  refine NoPanic.normal ?_
                                  have BF := (((H3).setCell (p := ⟨W0.heap.size, 0, none⟩) (show W0.heap.size ≤ W0.heap.size by omega) (.int .i64 x7.x.toInt)).setCell (p := ⟨W0.heap.size, 1, none⟩) (show W0.heap.size ≤ W0.heap.size by omega) (.int .i64 x7.y.toInt)).setCell (p := ⟨W0.heap.size, 2, none⟩) (show W0.heap.size ≤ W0.heap.size by omega) (.int .i64 x7.z.toInt)
                                  have OF := (((OA).set 0 (.int .i64 x7.x.toInt)).set 1 (.int .i64 x7.y.toInt)).set 2 (.int .i64 x7.z.toInt)
                                  have SF := HS.out.keep BF
                                  have RF := HR.out.keep BF
                                  have zf := BF.size
                                  go_wp2_with fail
                                  go_meet
                                  exact ⟨_, rfl, rfl, rfl, rfl, by omega, SF, RF, OF⟩
                              case rest =>
                                clear HS HR r0 r1 r2
                                skip
                                rename World => W0
                                obtain ⟨X, rfl, rfl, rfl, rfl, hz, S1, hr, OX⟩ := hcut
                                have g0 := OX.1.at 0 rfl; have g1 := OX.1.at 1 rfl; have g2 := OX.1.at 2 rfl
                                cases q7 with
                                | false =>
                                  obtain ⟨y0, k0, f0⟩ := S1.there 1 rfl 0 rfl; obtain ⟨y1, k1, f1⟩ := S1.there 1 rfl 1 rfl; obtain ⟨y2, k2, f2⟩ := S1.there 1 rfl 2 rfl
                                  have BH := Lib.hid S1.below
                                  clear S1 OX hr
                                  go_wp2
                                  refine bodyPost_ret (v := .tuple #[vv x7, .bool true]) (by simp [results, Try.results23, go_sem, *]) rfl ⟨rfl, ?_⟩
                                  iterate 3 refine Below.setCell (p := ⟨w.heap.size + 1, _, none⟩) ?_ (show w.heap.size ≤ w.heap.size + 1 by omega) _
                                  exact BH.out
                                | true =>
                                  clear OX
                                  go_wp2_with fail
                                  clear g0 g1 g2
                                  rw [rounds_succ]
                                  go_upto_region 19 with fail
                                  have HS := Lib.hid S1; have HR := Lib.hid hr
                                  have r0 : ∀ w', Below W0.heap.size W0 w' → w'.cell? ⟨Ar, 0, none⟩ = some (.int .i64 m.b.x.toInt) := fun w' h => (HR.out.keep h).at 0 rfl
                                  have r1 : ∀ w', Below W0.heap.size W0 w' → w'.cell? ⟨Ar, 1, none⟩ = some (.int .i64 m.b.y.toInt) := fun w' h => (HR.out.keep h).at 1 rfl
                                  have r2 : ∀ w', Below W0.heap.size W0 w' → w'.cell? ⟨Ar, 2, none⟩ = some (.int .i64 m.b.z.toInt) := fun w' h => (HR.out.keep h).at 2 rfl
                                  clear S1 hr
                                  go_cut [10, 36, 37, 40] from 10 to 47 (fun p u v q wx => ∃ X, p = .pointer (some ⟨X, 0, none⟩) ∧ u = mv m ∧ v = .int .i64 1 ∧ q = .int .i64 2 ∧ w.heap.size + 2 ≤ wx.heap.size ∧ St w (kerB w m) wx ∧ HasL wx Ar (vl m.b) ∧ OwnL wx X (vl x8))
                                  case first =>
                                    change (Code.region 19 kernel19 true).wp Try.prog _ _ _
                                    refine wp_region_noPanic ?_
                                    refine wp_region_held_drew (S := fun w' => Below W0.heap.size W0 w') (by kernel_rfl) ((Below.refl _ _).drew) (fun hHeld => ?_)
                                    refine wpAnyH_take (i := 0) (oi := ({ dst := some 43, op := .load 23 (.tmp 8), type := 23, pos := "ref.go:112", after := #[], guard := none } : Oper)) (v := ?vv12_1_) rfl kernel19_plain (by as_aux_lemma => kernel_rfl) (by as_aux_lemma => kernel_rfl) (fun _ _ _ h => h) (Or.inl ⟨by rfl, ?yv12_1_⟩) (by assumption) ?rv12_1_
                                    case yv12_1_ => (intro w hSw; (try dsimp only at hSw); go_simp; try with_reducible rfl)
                                    try simp only [Act.put, List.setIfInBounds_toArray, List.set_cons_zero, List.set_cons_succ]
                                    refine wpAnyH_take (i := 1) (oi := ({ dst := some 44, op := .move (.tmp 9), type := 3, pos := "ref.go:112", after := #[], guard := none } : Oper)) (v := ?vv12_2_) rfl kernel19_plain (by as_aux_lemma => kernel_rfl) (by as_aux_lemma => kernel_rfl) (fun _ _ _ h => h) (Or.inl ⟨by rfl, ?yv12_2_⟩) (by assumption) ?rv12_2_
                                    case yv12_2_ => (intro w hSw; (try dsimp only at hSw); go_simp; try with_reducible rfl)
                                    try simp only [Act.put, List.setIfInBounds_toArray, List.set_cons_zero, List.set_cons_succ]
                                    refine wpAnyH_ready (rs := [2, 4]) (by as_aux_lemma => kernel_rfl) (by simp) ?_
                                    refine AllReadyH.cons (o := ({ dst := some 45, op := .call { callee := .value (.func 44), args := #[.tmp 44], argTypes := #[3] }, type := 23, pos := "ref.go:112", after := #[{ on := 1, ground := .data }], guard := none } : Oper)) rfl (fun KK hK => ?_) (AllReadyH.cons (o := ({ dst := some 10, op := .alloc 23, type := 0, pos := "ref.go:112", after := #[], guard := none } : Oper)) rfl (fun KK hK => ?_) AllReadyH.nil)
                                    · skip
                                      rw [if_pos (by rfl)]
                                      go_simp
                                      go_at_call 44; refine (O2.out _).mono ?_; rintro e w2 ⟨rfl, hb2⟩
                                      go_wp2_with fail
                                      refine hK.out _ _ ?_ (fun hHeld2 => ?_)
                                      · exact belowT (by assumption) hb2
                                      have H2 : Below W0.heap.size W0 w2 := by assumption
                                      have S2 := H2.size
                                      clear hK KK hb2
                                      try simp only [Act.put, List.setIfInBounds_toArray, List.set_cons_zero, List.set_cons_succ]
                                      refine wpAnyH_ready (rs := [3, 4]) (by as_aux_lemma => kernel_rfl) (by simp) ?_
                                      refine AllReadyH.cons (o := ({ dst := some 46, op := .call { callee := .value (.func 43), args := #[.tmp 43, .tmp 45], argTypes := #[23, 23] }, type := 23, pos := "ref.go:112", after := #[{ on := 0, ground := .data }, { on := 2, ground := .data }, { on := 2, ground := .chain }], guard := none } : Oper)) rfl (fun KK hK => ?_) (AllReadyH.cons (o := ({ dst := some 10, op := .alloc 23, type := 0, pos := "ref.go:112", after := #[], guard := none } : Oper)) rfl (fun KK hK => ?_) AllReadyH.nil)
                                      · skip
                                        rw [if_pos (by rfl)]
                                        go_simp
                                        go_at_call 43; refine (C8.out _).mono ?_; rintro e w3 ⟨rfl, hb3⟩
                                        go_wp2_with fail
                                        refine hK.out _ _ ?_ (fun hHeld3 => ?_)
                                        · exact belowT (by assumption) hb3
                                        have H3 : Below W0.heap.size W0 w3 := by assumption
                                        have S3 := H3.size
                                        clear hK KK hb3
                                        try simp only [Act.put, List.setIfInBounds_toArray, List.set_cons_zero, List.set_cons_succ]
                                        refine wpAnyH_ready (rs := [4]) (by as_aux_lemma => kernel_rfl) (by simp) ?_
                                        refine AllReadyH.cons (o := ({ dst := some 10, op := .alloc 23, type := 0, pos := "ref.go:112", after := #[], guard := none } : Oper)) rfl (fun KK hK => ?_) AllReadyH.nil
                                        rw [if_pos (by rfl)]
                                        go_simp
                                        refine hK.out _ _ ?_ (fun _hHeldA => ?_)
                                        · first | exact belowT (by assumption) (below1 _ _) | exact (belowT (by assumption) (below1 _ _)).drew
                                        clear hK KK
                                        try simp only [Act.put, List.setIfInBounds_toArray, List.set_cons_zero, List.set_cons_succ]
                                        refine wpAnyH_ready (rs := [5]) (by as_aux_lemma => kernel_rfl) (by simp) ?_
                                        refine AllReadyH.cons (o := ({ dst := none, op := .store 23 (.tmp 10) (.tmp 46), type := 0, pos := "ref.go:112", after := #[{ on := 4, ground := .data }, { on := 3, ground := .data }, { on := 3, ground := .chain }, { on := 0, ground := .phase }, { on := 1, ground := .phase }, { on := 2, ground := .phase }, { on := 3, ground := .phase }, { on := 4, ground := .phase }], guard := none } : Oper)) rfl (fun KK hK => ?_) AllReadyH.nil
                                        rw [if_pos (by rfl)]
                                        have p0 := (ownl w3 [.int .i64 0, .int .i64 0, .int .i64 0] 23).1.at 0 rfl
                                        have q0 := (ownl w3 [.int .i64 0, .int .i64 0, .int .i64 0] 23).2 0 (by simp)
                                        have p1 := (ownl w3 [.int .i64 0, .int .i64 0, .int .i64 0] 23).1.at 1 rfl
                                        have q1 := (ownl w3 [.int .i64 0, .int .i64 0, .int .i64 0] 23).2 1 (by simp)
                                        have p2 := (ownl w3 [.int .i64 0, .int .i64 0, .int .i64 0] 23).1.at 2 rfl
                                        have q2 := (ownl w3 [.int .i64 0, .int .i64 0, .int .i64 0] 23).2 2 (by simp)
                                        go_simp
                                        refine hK.out _ _ ?_ (fun _hHeldS => ?_)
                                        · exact belowT H3 (below1 w3 (.cells #[.int .i64 x8.x.toInt, .int .i64 x8.y.toInt, .int .i64 x8.z.toInt] 23))
                                        clear hK KK
                                        try simp only [Act.put, List.setIfInBounds_toArray, List.set_cons_zero, List.set_cons_succ]
                                        refine wpAnyH_done (by as_aux_lemma => kernel_rfl) ?_ _
                                        refine NoPanic.normal ?_
                                        have BF := belowT H3 (below1 w3 (.cells #[.int .i64 x8.x.toInt, .int .i64 x8.y.toInt, .int .i64 x8.z.toInt] 23))
                                        have OF := ownl w3 [.int .i64 x8.x.toInt, .int .i64 x8.y.toInt, .int .i64 x8.z.toInt] 23
                                        have SF := HS.out.keep BF
                                        have RF := HR.out.keep BF
                                        have zf := BF.size
                                        go_wp2_with fail
                                        go_meet
                                        exact ⟨_, rfl, rfl, rfl, rfl, by omega, SF, RF, OF⟩
                                      · skip
                                        rw [if_pos (by rfl)]
                                        go_simp
                                        refine hK.out _ _ ?_ (fun _hHeldA => ?_)
                                        · first | exact belowT (by assumption) (below1 _ _) | exact (belowT (by assumption) (below1 _ _)).drew
                                        clear hK KK
                                        try simp only [Act.put, List.setIfInBounds_toArray, List.set_cons_zero, List.set_cons_succ]
                                        refine wpAnyH_ready (rs := [3]) (by as_aux_lemma => kernel_rfl) (by simp) ?_
                                        refine AllReadyH.cons (o := ({ dst := some 46, op := .call { callee := .value (.func 43), args := #[.tmp 43, .tmp 45], argTypes := #[23, 23] }, type := 23, pos := "ref.go:112", after := #[{ on := 0, ground := .data }, { on := 2, ground := .data }, { on := 2, ground := .chain }], guard := none } : Oper)) rfl (fun KK hK => ?_) AllReadyH.nil
                                        rw [if_pos (by rfl)]
                                        go_simp
                                        go_at_call 43; refine (C8.out _).mono ?_; rintro e w3 ⟨rfl, hb3⟩
                                        go_wp2_with fail
                                        refine hK.out _ _ ?_ (fun hHeld3 => ?_)
                                        · exact belowT (by assumption) hb3
                                        have OA := (ownl w2 [.int .i64 0, .int .i64 0, .int .i64 0] 23).keep hb3
                                        have H3 : Below W0.heap.size W0 w3 := by assumption
                                        have S3 := H3.size
                                        clear hK KK hb3
                                        try simp only [Act.put, List.setIfInBounds_toArray, List.set_cons_zero, List.set_cons_succ]
                                        refine wpAnyH_ready (rs := [5]) (by as_aux_lemma => kernel_rfl) (by simp) ?_
                                        refine AllReadyH.cons (o := ({ dst := none, op := .store 23 (.tmp 10) (.tmp 46), type := 0, pos := "ref.go:112", after := #[{ on := 4, ground := .data }, { on := 3, ground := .data }, { on := 3, ground := .chain }, { on := 0, ground := .phase }, { on := 1, ground := .phase }, { on := 2, ground := .phase }, { on := 3, ground := .phase }, { on := 4, ground := .phase }], guard := none } : Oper)) rfl (fun KK hK => ?_) AllReadyH.nil
                                        rw [if_pos (by rfl)]
                                        have p0 := (OA).1.at 0 rfl
                                        have q0 := (OA).2 0 (by simp)
                                        have p1 := (OA).1.at 1 rfl
                                        have q1 := (OA).2 1 (by simp)
                                        have p2 := (OA).1.at 2 rfl
                                        have q2 := (OA).2 2 (by simp)
                                        go_simp
                                        refine hK.out _ _ ?_ (fun _hHeldS => ?_)
                                        · exact (((H3).setCell (p := ⟨w2.heap.size, 0, none⟩) (show W0.heap.size ≤ w2.heap.size by omega) (.int .i64 x8.x.toInt)).setCell (p := ⟨w2.heap.size, 1, none⟩) (show W0.heap.size ≤ w2.heap.size by omega) (.int .i64 x8.y.toInt)).setCell (p := ⟨w2.heap.size, 2, none⟩) (show W0.heap.size ≤ w2.heap.size by omega) (.int .i64 x8.z.toInt)
                                        clear hK KK
                                        try simp only [Act.put, List.setIfInBounds_toArray, List.set_cons_zero, List.set_cons_succ]
                                        refine wpAnyH_done (by as_aux_lemma => kernel_rfl) ?_ _
                                        refine NoPanic.normal ?_
                                        have BF := (((H3).setCell (p := ⟨w2.heap.size, 0, none⟩) (show W0.heap.size ≤ w2.heap.size by omega) (.int .i64 x8.x.toInt)).setCell (p := ⟨w2.heap.size, 1, none⟩) (show W0.heap.size ≤ w2.heap.size by omega) (.int .i64 x8.y.toInt)).setCell (p := ⟨w2.heap.size, 2, none⟩) (show W0.heap.size ≤ w2.heap.size by omega) (.int .i64 x8.z.toInt)
                                        have OF := (((OA).set 0 (.int .i64 x8.x.toInt)).set 1 (.int .i64 x8.y.toInt)).set 2 (.int .i64 x8.z.toInt)
                                        have SF := HS.out.keep BF
                                        have RF := HR.out.keep BF
                                        have zf := BF.size
                                        go_wp2_with fail
                                        go_meet
                                        exact ⟨_, rfl, rfl, rfl, rfl, by omega, SF, RF, OF⟩
                                    · skip
                                      rw [if_pos (by rfl)]
                                      go_simp
                                      refine hK.out _ _ ?_ (fun _hHeldA => ?_)
                                      · first | exact below1 W0 (.cells #[.int .i64 0, .int .i64 0, .int .i64 0] 23) | exact (below1 W0 (.cells #[.int .i64 0, .int .i64 0, .int .i64 0] 23)).drew
                                      clear hK KK
                                      try simp only [Act.put, List.setIfInBounds_toArray, List.set_cons_zero, List.set_cons_succ]
                                      refine wpAnyH_ready (rs := [2]) (by as_aux_lemma => kernel_rfl) (by simp) ?_
                                      refine AllReadyH.cons (o := ({ dst := some 45, op := .call { callee := .value (.func 44), args := #[.tmp 44], argTypes := #[3] }, type := 23, pos := "ref.go:112", after := #[{ on := 1, ground := .data }], guard := none } : Oper)) rfl (fun KK hK => ?_) AllReadyH.nil
                                      rw [if_pos (by rfl)]
                                      go_simp
                                      go_at_call 44; refine (O2.out _).mono ?_; rintro e w2 ⟨rfl, hb2⟩
                                      go_wp2_with fail
                                      refine hK.out _ _ ?_ (fun hHeld2 => ?_)
                                      · exact belowT (by assumption) hb2
                                      have OA := ((ownl W0 [.int .i64 0, .int .i64 0, .int .i64 0] 23).drew).keep hb2
                                      have H2 : Below W0.heap.size W0 w2 := by assumption
                                      have S2 := H2.size
                                      clear hK KK hb2
                                      try simp only [Act.put, List.setIfInBounds_toArray, List.set_cons_zero, List.set_cons_succ]
                                      refine wpAnyH_ready (rs := [3]) (by as_aux_lemma => kernel_rfl) (by simp) ?_
                                      refine AllReadyH.cons (o := ({ dst := some 46, op := .call { callee := .value (.func 43), args := #[.tmp 43, .tmp 45], argTypes := #[23, 23] }, type := 23, pos := "ref.go:112", after := #[{ on := 0, ground := .data }, { on := 2, ground := .data }, { on := 2, ground := .chain }], guard := none } : Oper)) rfl (fun KK hK => ?_) AllReadyH.nil
                                      rw [if_pos (by rfl)]
                                      go_simp
                                      go_at_call 43; refine (C8.out _).mono ?_; rintro e w3 ⟨rfl, hb3⟩
                                      go_wp2_with fail
                                      refine hK.out _ _ ?_ (fun hHeld3 => ?_)
                                      · exact belowT (by assumption) hb3
                                      replace OA := (OA).keep hb3
                                      have H3 : Below W0.heap.size W0 w3 := by assumption
                                      have S3 := H3.size
                                      clear hK KK hb3
                                      try simp only [Act.put, List.setIfInBounds_toArray, List.set_cons_zero, List.set_cons_succ]
                                      refine wpAnyH_ready (rs := [5]) (by as_aux_lemma => kernel_rfl) (by simp) ?_
                                      refine AllReadyH.cons (o := ({ dst := none, op := .store 23 (.tmp 10) (.tmp 46), type := 0, pos := "ref.go:112", after := #[{ on := 4, ground := .data }, { on := 3, ground := .data }, { on := 3, ground := .chain }, { on := 0, ground := .phase }, { on := 1, ground := .phase }, { on := 2, ground := .phase }, { on := 3, ground := .phase }, { on := 4, ground := .phase }], guard := none } : Oper)) rfl (fun KK hK => ?_) AllReadyH.nil
                                      rw [if_pos (by rfl)]
                                      have p0 := (OA).1.at 0 rfl
                                      have q0 := (OA).2 0 (by simp)
                                      have p1 := (OA).1.at 1 rfl
                                      have q1 := (OA).2 1 (by simp)
                                      have p2 := (OA).1.at 2 rfl
                                      have q2 := (OA).2 2 (by simp)
                                      go_simp
                                      refine hK.out _ _ ?_ (fun _hHeldS => ?_)
                                      · exact (((H3).setCell (p := ⟨W0.heap.size, 0, none⟩) (show W0.heap.size ≤ W0.heap.size by omega) (.int .i64 x8.x.toInt)).setCell (p := ⟨W0.heap.size, 1, none⟩) (show W0.heap.size ≤ W0.heap.size by omega) (.int .i64 x8.y.toInt)).setCell (p := ⟨W0.heap.size, 2, none⟩) (show W0.heap.size ≤ W0.heap.size by omega) (.int .i64 x8.z.toInt)
                                      clear hK KK
                                      try simp only [Act.put, List.setIfInBounds_toArray, List.set_cons_zero, List.set_cons_succ]
                                      refine wpAnyH_done (by as_aux_lemma => kernel_rfl) ?_ _
                                      refine NoPanic.normal ?_
                                      have BF := (((H3).setCell (p := ⟨W0.heap.size, 0, none⟩) (show W0.heap.size ≤ W0.heap.size by omega) (.int .i64 x8.x.toInt)).setCell (p := ⟨W0.heap.size, 1, none⟩) (show W0.heap.size ≤ W0.heap.size by omega) (.int .i64 x8.y.toInt)).setCell (p := ⟨W0.heap.size, 2, none⟩) (show W0.heap.size ≤ W0.heap.size by omega) (.int .i64 x8.z.toInt)
                                      have OF := (((OA).set 0 (.int .i64 x8.x.toInt)).set 1 (.int .i64 x8.y.toInt)).set 2 (.int .i64 x8.z.toInt)
                                      have SF := HS.out.keep BF
                                      have RF := HR.out.keep BF
                                      have zf := BF.size
                                      go_wp2_with fail
                                      go_meet
                                      exact ⟨_, rfl, rfl, rfl, rfl, by omega, SF, RF, OF⟩
                                  case rest =>
                                    clear HS HR r0 r1 r2
                                    skip
                                    rename World => W0
                                    obtain ⟨X, rfl, rfl, rfl, rfl, hz, S1, hr, OX⟩ := hcut
                                    have g0 := OX.1.at 0 rfl; have g1 := OX.1.at 1 rfl; have g2 := OX.1.at 2 rfl
                                    cases q8 with
                                    | false =>
                                      obtain ⟨y0, k0, f0⟩ := S1.there 1 rfl 0 rfl; obtain ⟨y1, k1, f1⟩ := S1.there 1 rfl 1 rfl; obtain ⟨y2, k2, f2⟩ := S1.there 1 rfl 2 rfl
                                      have BH := Lib.hid S1.below
                                      clear S1 OX hr
                                      go_wp2
                                      refine bodyPost_ret (v := .tuple #[vv x8, .bool true]) (by simp [results, Try.results23, go_sem, *]) rfl ⟨rfl, ?_⟩
                                      iterate 3 refine Below.setCell (p := ⟨w.heap.size + 1, _, none⟩) ?_ (show w.heap.size ≤ w.heap.size + 1 by omega) _
                                      exact BH.out
                                    | true =>
                                      clear OX
                                      go_wp2_with fail
                                      clear g0 g1 g2
                                      rw [rounds_succ]
                                      go_wp2_with fail
                                      clear hr
                                      rw [rounds_succ]
                                      have VR := fun w => (vec_row m w).2.2
                                      have HR0 := hasl W0 (vl m.c) 23
                                      have HS := Lib.hid (S1.keep (below1 W0 (.cells (vl m.c).toArray 23)))
                                      have hz2 : w.heap.size + 2 ≤ (W0.alloc (.cells (vl m.c).toArray 23)).heap.size := by rw [heap1]; omega
                                      have HR := Lib.hid HR0
                                      have HZ := Lib.hid hz2
                                      clear S1 HR0 hz hz2
                                      go_wp2_with fail
                                      have S1 := HS.out; have hr := HR.out; have hz := HZ.out
                                      clear HS HR HZ VR
                                      obtain ⟨Ar, hAr⟩ : ∃ Ar, Ar = W0.heap.size := ⟨_, rfl⟩
                                      rw [← hAr] at hr ⊢
                                      clear hAr
                                      obtain ⟨W1, hW1⟩ : ∃ W1, W1 = W0.alloc (.cells (vl m.c).toArray 23) := ⟨_, rfl⟩
                                      rw [← hW1] at S1 hr hz
                                      have HW := Lib.hid hW1
                                      clear hW1
                                      rw [← HW.out]
                                      clear HW
                                      rename World => W0
                                      refine wp_loop_rounds 4 ?_
                                      rw [rounds_succ]
                                      go_upto_region 19 with fail
                                      have HS := Lib.hid S1; have HR := Lib.hid hr
                                      have r0 : ∀ w', Below W0.heap.size W0 w' → w'.cell? ⟨Ar, 0, none⟩ = some (.int .i64 m.c.x.toInt) := fun w' h => (HR.out.keep h).at 0 rfl
                                      have r1 : ∀ w', Below W0.heap.size W0 w' → w'.cell? ⟨Ar, 1, none⟩ = some (.int .i64 m.c.y.toInt) := fun w' h => (HR.out.keep h).at 1 rfl
                                      have r2 : ∀ w', Below W0.heap.size W0 w' → w'.cell? ⟨Ar, 2, none⟩ = some (.int .i64 m.c.z.toInt) := fun w' h => (HR.out.keep h).at 2 rfl
                                      clear S1 hr
                                      go_cut [10, 36, 37, 40] from 10 to 47 (fun p u v q wx => ∃ X, p = .pointer (some ⟨X, 0, none⟩) ∧ u = mv m ∧ v = .int .i64 2 ∧ q = .int .i64 0 ∧ w.heap.size + 2 ≤ wx.heap.size ∧ St w (kerB w m) wx ∧ HasL wx Ar (vl m.c) ∧ OwnL wx X (vl x9))
                                      case first =>
                                        change (Code.region 19 kernel19 true).wp Try.prog _ _ _
                                        refine wp_region_noPanic ?_
                                        refine wp_region_held_drew (S := fun w' => Below W0.heap.size W0 w') (by kernel_rfl) ((Below.refl _ _).drew) (fun hHeld => ?_)
                                        refine wpAnyH_take (i := 0) (oi := ({ dst := some 43, op := .load 23 (.tmp 8), type := 23, pos := "ref.go:112", after := #[], guard := none } : Oper)) (v := ?vv13_1_) rfl kernel19_plain (by as_aux_lemma => kernel_rfl) (by as_aux_lemma => kernel_rfl) (fun _ _ _ h => h) (Or.inl ⟨by rfl, ?yv13_1_⟩) (by assumption) ?rv13_1_
                                        case yv13_1_ => (intro w hSw; (try dsimp only at hSw); go_simp; try with_reducible rfl)
                                        try simp only [Act.put, List.setIfInBounds_toArray, List.set_cons_zero, List.set_cons_succ]
                                        refine wpAnyH_take (i := 1) (oi := ({ dst := some 44, op := .move (.tmp 9), type := 3, pos := "ref.go:112", after := #[], guard := none } : Oper)) (v := ?vv13_2_) rfl kernel19_plain (by as_aux_lemma => kernel_rfl) (by as_aux_lemma => kernel_rfl) (fun _ _ _ h => h) (Or.inl ⟨by rfl, ?yv13_2_⟩) (by assumption) ?rv13_2_
                                        case yv13_2_ => (intro w hSw; (try dsimp only at hSw); go_simp; try with_reducible rfl)
                                        try simp only [Act.put, List.setIfInBounds_toArray, List.set_cons_zero, List.set_cons_succ]
                                        refine wpAnyH_ready (rs := [2, 4]) (by as_aux_lemma => kernel_rfl) (by simp) ?_
                                        refine AllReadyH.cons (o := ({ dst := some 45, op := .call { callee := .value (.func 44), args := #[.tmp 44], argTypes := #[3] }, type := 23, pos := "ref.go:112", after := #[{ on := 1, ground := .data }], guard := none } : Oper)) rfl (fun KK hK => ?_) (AllReadyH.cons (o := ({ dst := some 10, op := .alloc 23, type := 0, pos := "ref.go:112", after := #[], guard := none } : Oper)) rfl (fun KK hK => ?_) AllReadyH.nil)
                                        · skip
                                          rw [if_pos (by rfl)]
                                          go_simp
                                          go_at_call 44; refine (O0.out _).mono ?_; rintro e w2 ⟨rfl, hb2⟩
                                          go_wp2_with fail
                                          refine hK.out _ _ ?_ (fun hHeld2 => ?_)
                                          · exact belowT (by assumption) hb2
                                          have H2 : Below W0.heap.size W0 w2 := by assumption
                                          have S2 := H2.size
                                          clear hK KK hb2
                                          try simp only [Act.put, List.setIfInBounds_toArray, List.set_cons_zero, List.set_cons_succ]
                                          refine wpAnyH_ready (rs := [3, 4]) (by as_aux_lemma => kernel_rfl) (by simp) ?_
                                          refine AllReadyH.cons (o := ({ dst := some 46, op := .call { callee := .value (.func 43), args := #[.tmp 43, .tmp 45], argTypes := #[23, 23] }, type := 23, pos := "ref.go:112", after := #[{ on := 0, ground := .data }, { on := 2, ground := .data }, { on := 2, ground := .chain }], guard := none } : Oper)) rfl (fun KK hK => ?_) (AllReadyH.cons (o := ({ dst := some 10, op := .alloc 23, type := 0, pos := "ref.go:112", after := #[], guard := none } : Oper)) rfl (fun KK hK => ?_) AllReadyH.nil)
                                          · skip
                                            rw [if_pos (by rfl)]
                                            go_simp
                                            go_at_call 43; refine (C9.out _).mono ?_; rintro e w3 ⟨rfl, hb3⟩
                                            go_wp2_with fail
                                            refine hK.out _ _ ?_ (fun hHeld3 => ?_)
                                            · exact belowT (by assumption) hb3
                                            have H3 : Below W0.heap.size W0 w3 := by assumption
                                            have S3 := H3.size
                                            clear hK KK hb3
                                            try simp only [Act.put, List.setIfInBounds_toArray, List.set_cons_zero, List.set_cons_succ]
                                            refine wpAnyH_ready (rs := [4]) (by as_aux_lemma => kernel_rfl) (by simp) ?_
                                            refine AllReadyH.cons (o := ({ dst := some 10, op := .alloc 23, type := 0, pos := "ref.go:112", after := #[], guard := none } : Oper)) rfl (fun KK hK => ?_) AllReadyH.nil
                                            rw [if_pos (by rfl)]
                                            go_simp
                                            refine hK.out _ _ ?_ (fun _hHeldA => ?_)
                                            · first | exact belowT (by assumption) (below1 _ _) | exact (belowT (by assumption) (below1 _ _)).drew
                                            clear hK KK
                                            try simp only [Act.put, List.setIfInBounds_toArray, List.set_cons_zero, List.set_cons_succ]
                                            refine wpAnyH_ready (rs := [5]) (by as_aux_lemma => kernel_rfl) (by simp) ?_
                                            refine AllReadyH.cons (o := ({ dst := none, op := .store 23 (.tmp 10) (.tmp 46), type := 0, pos := "ref.go:112", after := #[{ on := 4, ground := .data }, { on := 3, ground := .data }, { on := 3, ground := .chain }, { on := 0, ground := .phase }, { on := 1, ground := .phase }, { on := 2, ground := .phase }, { on := 3, ground := .phase }, { on := 4, ground := .phase }], guard := none } : Oper)) rfl (fun KK hK => ?_) AllReadyH.nil
                                            rw [if_pos (by rfl)]
                                            have p0 := (ownl w3 [.int .i64 0, .int .i64 0, .int .i64 0] 23).1.at 0 rfl
                                            have q0 := (ownl w3 [.int .i64 0, .int .i64 0, .int .i64 0] 23).2 0 (by simp)
                                            have p1 := (ownl w3 [.int .i64 0, .int .i64 0, .int .i64 0] 23).1.at 1 rfl
                                            have q1 := (ownl w3 [.int .i64 0, .int .i64 0, .int .i64 0] 23).2 1 (by simp)
                                            have p2 := (ownl w3 [.int .i64 0, .int .i64 0, .int .i64 0] 23).1.at 2 rfl
                                            have q2 := (ownl w3 [.int .i64 0, .int .i64 0, .int .i64 0] 23).2 2 (by simp)
                                            go_simp
                                            refine hK.out _ _ ?_ (fun _hHeldS => ?_)
                                            · exact belowT H3 (below1 w3 (.cells #[.int .i64 x9.x.toInt, .int .i64 x9.y.toInt, .int .i64 x9.z.toInt] 23))
                                            clear hK KK
                                            try simp only [Act.put, List.setIfInBounds_toArray, List.set_cons_zero, List.set_cons_succ]
                                            refine wpAnyH_done (by as_aux_lemma => kernel_rfl) ?_ _
                                            refine NoPanic.normal ?_
                                            have BF := belowT H3 (below1 w3 (.cells #[.int .i64 x9.x.toInt, .int .i64 x9.y.toInt, .int .i64 x9.z.toInt] 23))
                                            have OF := ownl w3 [.int .i64 x9.x.toInt, .int .i64 x9.y.toInt, .int .i64 x9.z.toInt] 23
                                            have SF := HS.out.keep BF
                                            have RF := HR.out.keep BF
                                            have zf := BF.size
                                            go_wp2_with fail
                                            go_meet
                                            exact ⟨_, rfl, rfl, rfl, rfl, by omega, SF, RF, OF⟩
                                          · skip
                                            rw [if_pos (by rfl)]
                                            go_simp
                                            refine hK.out _ _ ?_ (fun _hHeldA => ?_)
                                            · first | exact belowT (by assumption) (below1 _ _) | exact (belowT (by assumption) (below1 _ _)).drew
                                            clear hK KK
                                            try simp only [Act.put, List.setIfInBounds_toArray, List.set_cons_zero, List.set_cons_succ]
                                            refine wpAnyH_ready (rs := [3]) (by as_aux_lemma => kernel_rfl) (by simp) ?_
                                            refine AllReadyH.cons (o := ({ dst := some 46, op := .call { callee := .value (.func 43), args := #[.tmp 43, .tmp 45], argTypes := #[23, 23] }, type := 23, pos := "ref.go:112", after := #[{ on := 0, ground := .data }, { on := 2, ground := .data }, { on := 2, ground := .chain }], guard := none } : Oper)) rfl (fun KK hK => ?_) AllReadyH.nil
                                            rw [if_pos (by rfl)]
                                            go_simp
                                            go_at_call 43; refine (C9.out _).mono ?_; rintro e w3 ⟨rfl, hb3⟩
                                            go_wp2_with fail
                                            refine hK.out _ _ ?_ (fun hHeld3 => ?_)
                                            · exact belowT (by assumption) hb3
                                            have OA := (ownl w2 [.int .i64 0, .int .i64 0, .int .i64 0] 23).keep hb3
                                            have H3 : Below W0.heap.size W0 w3 := by assumption
                                            have S3 := H3.size
                                            clear hK KK hb3
                                            try simp only [Act.put, List.setIfInBounds_toArray, List.set_cons_zero, List.set_cons_succ]
                                            refine wpAnyH_ready (rs := [5]) (by as_aux_lemma => kernel_rfl) (by simp) ?_
                                            refine AllReadyH.cons (o := ({ dst := none, op := .store 23 (.tmp 10) (.tmp 46), type := 0, pos := "ref.go:112", after := #[{ on := 4, ground := .data }, { on := 3, ground := .data }, { on := 3, ground := .chain }, { on := 0, ground := .phase }, { on := 1, ground := .phase }, { on := 2, ground := .phase }, { on := 3, ground := .phase }, { on := 4, ground := .phase }], guard := none } : Oper)) rfl (fun KK hK => ?_) AllReadyH.nil
                                            rw [if_pos (by rfl)]
                                            have p0 := (OA).1.at 0 rfl
                                            have q0 := (OA).2 0 (by simp)
                                            have p1 := (OA).1.at 1 rfl
                                            have q1 := (OA).2 1 (by simp)
                                            have p2 := (OA).1.at 2 rfl
                                            have q2 := (OA).2 2 (by simp)
                                            go_simp
                                            refine hK.out _ _ ?_ (fun _hHeldS => ?_)
                                            · exact (((H3).setCell (p := ⟨w2.heap.size, 0, none⟩) (show W0.heap.size ≤ w2.heap.size by omega) (.int .i64 x9.x.toInt)).setCell (p := ⟨w2.heap.size, 1, none⟩) (show W0.heap.size ≤ w2.heap.size by omega) (.int .i64 x9.y.toInt)).setCell (p := ⟨w2.heap.size, 2, none⟩) (show W0.heap.size ≤ w2.heap.size by omega) (.int .i64 x9.z.toInt)
                                            clear hK KK
                                            try simp only [Act.put, List.setIfInBounds_toArray, List.set_cons_zero, List.set_cons_succ]
                                            refine wpAnyH_done (by as_aux_lemma => kernel_rfl) ?_ _
                                            refine NoPanic.normal ?_
                                            have BF := (((H3).setCell (p := ⟨w2.heap.size, 0, none⟩) (show W0.heap.size ≤ w2.heap.size by omega) (.int .i64 x9.x.toInt)).setCell (p := ⟨w2.heap.size, 1, none⟩) (show W0.heap.size ≤ w2.heap.size by omega) (.int .i64 x9.y.toInt)).setCell (p := ⟨w2.heap.size, 2, none⟩) (show W0.heap.size ≤ w2.heap.size by omega) (.int .i64 x9.z.toInt)
                                            have OF := (((OA).set 0 (.int .i64 x9.x.toInt)).set 1 (.int .i64 x9.y.toInt)).set 2 (.int .i64 x9.z.toInt)
                                            have SF := HS.out.keep BF
                                            have RF := HR.out.keep BF
                                            have zf := BF.size
                                            go_wp2_with fail
                                            go_meet
                                            exact ⟨_, rfl, rfl, rfl, rfl, by omega, SF, RF, OF⟩
                                        · skip
                                          rw [if_pos (by rfl)]
                                          go_simp
                                          refine hK.out _ _ ?_ (fun _hHeldA => ?_)
                                          · first | exact below1 W0 (.cells #[.int .i64 0, .int .i64 0, .int .i64 0] 23) | exact (below1 W0 (.cells #[.int .i64 0, .int .i64 0, .int .i64 0] 23)).drew
                                          clear hK KK
                                          try simp only [Act.put, List.setIfInBounds_toArray, List.set_cons_zero, List.set_cons_succ]
                                          refine wpAnyH_ready (rs := [2]) (by as_aux_lemma => kernel_rfl) (by simp) ?_
                                          refine AllReadyH.cons (o := ({ dst := some 45, op := .call { callee := .value (.func 44), args := #[.tmp 44], argTypes := #[3] }, type := 23, pos := "ref.go:112", after := #[{ on := 1, ground := .data }], guard := none } : Oper)) rfl (fun KK hK => ?_) AllReadyH.nil
                                          rw [if_pos (by rfl)]
                                          go_simp
                                          go_at_call 44; refine (O0.out _).mono ?_; rintro e w2 ⟨rfl, hb2⟩
                                          go_wp2_with fail
                                          refine hK.out _ _ ?_ (fun hHeld2 => ?_)
                                          · exact belowT (by assumption) hb2
                                          have OA := ((ownl W0 [.int .i64 0, .int .i64 0, .int .i64 0] 23).drew).keep hb2
                                          have H2 : Below W0.heap.size W0 w2 := by assumption
                                          have S2 := H2.size
                                          clear hK KK hb2
                                          try simp only [Act.put, List.setIfInBounds_toArray, List.set_cons_zero, List.set_cons_succ]
                                          refine wpAnyH_ready (rs := [3]) (by as_aux_lemma => kernel_rfl) (by simp) ?_
                                          refine AllReadyH.cons (o := ({ dst := some 46, op := .call { callee := .value (.func 43), args := #[.tmp 43, .tmp 45], argTypes := #[23, 23] }, type := 23, pos := "ref.go:112", after := #[{ on := 0, ground := .data }, { on := 2, ground := .data }, { on := 2, ground := .chain }], guard := none } : Oper)) rfl (fun KK hK => ?_) AllReadyH.nil
                                          rw [if_pos (by rfl)]
                                          go_simp
                                          go_at_call 43; refine (C9.out _).mono ?_; rintro e w3 ⟨rfl, hb3⟩
                                          go_wp2_with fail
                                          refine hK.out _ _ ?_ (fun hHeld3 => ?_)
                                          · exact belowT (by assumption) hb3
                                          replace OA := (OA).keep hb3
                                          have H3 : Below W0.heap.size W0 w3 := by assumption
                                          have S3 := H3.size
                                          clear hK KK hb3
                                          try simp only [Act.put, List.setIfInBounds_toArray, List.set_cons_zero, List.set_cons_succ]
                                          refine wpAnyH_ready (rs := [5]) (by as_aux_lemma => kernel_rfl) (by simp) ?_
                                          refine AllReadyH.cons (o := ({ dst := none, op := .store 23 (.tmp 10) (.tmp 46), type := 0, pos := "ref.go:112", after := #[{ on := 4, ground := .data }, { on := 3, ground := .data }, { on := 3, ground := .chain }, { on := 0, ground := .phase }, { on := 1, ground := .phase }, { on := 2, ground := .phase }, { on := 3, ground := .phase }, { on := 4, ground := .phase }], guard := none } : Oper)) rfl (fun KK hK => ?_) AllReadyH.nil
                                          rw [if_pos (by rfl)]
                                          have p0 := (OA).1.at 0 rfl
                                          have q0 := (OA).2 0 (by simp)
                                          have p1 := (OA).1.at 1 rfl
                                          have q1 := (OA).2 1 (by simp)
                                          have p2 := (OA).1.at 2 rfl
                                          have q2 := (OA).2 2 (by simp)
                                          go_simp
                                          refine hK.out _ _ ?_ (fun _hHeldS => ?_)
                                          · exact (((H3).setCell (p := ⟨W0.heap.size, 0, none⟩) (show W0.heap.size ≤ W0.heap.size by omega) (.int .i64 x9.x.toInt)).setCell (p := ⟨W0.heap.size, 1, none⟩) (show W0.heap.size ≤ W0.heap.size by omega) (.int .i64 x9.y.toInt)).setCell (p := ⟨W0.heap.size, 2, none⟩) (show W0.heap.size ≤ W0.heap.size by omega) (.int .i64 x9.z.toInt)
                                          clear hK KK
                                          try simp only [Act.put, List.setIfInBounds_toArray, List.set_cons_zero, List.set_cons_succ]
                                          refine wpAnyH_done (by as_aux_lemma => kernel_rfl) ?_ _
                                          refine NoPanic.normal ?_
                                          have BF := (((H3).setCell (p := ⟨W0.heap.size, 0, none⟩) (show W0.heap.size ≤ W0.heap.size by omega) (.int .i64 x9.x.toInt)).setCell (p := ⟨W0.heap.size, 1, none⟩) (show W0.heap.size ≤ W0.heap.size by omega) (.int .i64 x9.y.toInt)).setCell (p := ⟨W0.heap.size, 2, none⟩) (show W0.heap.size ≤ W0.heap.size by omega) (.int .i64 x9.z.toInt)
                                          have OF := (((OA).set 0 (.int .i64 x9.x.toInt)).set 1 (.int .i64 x9.y.toInt)).set 2 (.int .i64 x9.z.toInt)
                                          have SF := HS.out.keep BF
                                          have RF := HR.out.keep BF
                                          have zf := BF.size
                                          go_wp2_with fail
                                          go_meet
                                          exact ⟨_, rfl, rfl, rfl, rfl, by omega, SF, RF, OF⟩
                                      case rest =>
                                        clear HS HR r0 r1 r2
                                        skip
                                        rename World => W0
                                        obtain ⟨X, rfl, rfl, rfl, rfl, hz, S1, hr, OX⟩ := hcut
                                        have g0 := OX.1.at 0 rfl; have g1 := OX.1.at 1 rfl; have g2 := OX.1.at 2 rfl
                                        cases q9 with
                                        | false =>
                                          obtain ⟨y0, k0, f0⟩ := S1.there 1 rfl 0 rfl; obtain ⟨y1, k1, f1⟩ := S1.there 1 rfl 1 rfl; obtain ⟨y2, k2, f2⟩ := S1.there 1 rfl 2 rfl
                                          have BH := Lib.hid S1.below
                                          clear S1 OX hr
                                          go_wp2
                                          refine bodyPost_ret (v := .tuple #[vv x9, .bool true]) (by simp [results, Try.results23, go_sem, *]) rfl ⟨rfl, ?_⟩
                                          iterate 3 refine Below.setCell (p := ⟨w.heap.size + 1, _, none⟩) ?_ (show w.heap.size ≤ w.heap.size + 1 by omega) _
                                          exact BH.out
                                        | true =>
                                          clear OX
                                          go_wp2_with fail
                                          clear g0 g1 g2
                                          rw [rounds_succ]
                                          go_upto_region 19 with fail
                                          have HS := Lib.hid S1; have HR := Lib.hid hr
                                          have r0 : ∀ w', Below W0.heap.size W0 w' → w'.cell? ⟨Ar, 0, none⟩ = some (.int .i64 m.c.x.toInt) := fun w' h => (HR.out.keep h).at 0 rfl
                                          have r1 : ∀ w', Below W0.heap.size W0 w' → w'.cell? ⟨Ar, 1, none⟩ = some (.int .i64 m.c.y.toInt) := fun w' h => (HR.out.keep h).at 1 rfl
                                          have r2 : ∀ w', Below W0.heap.size W0 w' → w'.cell? ⟨Ar, 2, none⟩ = some (.int .i64 m.c.z.toInt) := fun w' h => (HR.out.keep h).at 2 rfl
                                          clear S1 hr
                                          go_cut [10, 36, 37, 40] from 10 to 47 (fun p u v q wx => ∃ X, p = .pointer (some ⟨X, 0, none⟩) ∧ u = mv m ∧ v = .int .i64 2 ∧ q = .int .i64 1 ∧ w.heap.size + 2 ≤ wx.heap.size ∧ St w (kerB w m) wx ∧ HasL wx Ar (vl m.c) ∧ OwnL wx X (vl x10))
                                          case first =>
                                            change (Code.region 19 kernel19 true).wp Try.prog _ _ _
                                            refine wp_region_noPanic ?_
                                            refine wp_region_held_drew (S := fun w' => Below W0.heap.size W0 w') (by kernel_rfl) ((Below.refl _ _).drew) (fun hHeld => ?_)
                                            refine wpAnyH_take (i := 0) (oi := ({ dst := some 43, op := .load 23 (.tmp 8), type := 23, pos := "ref.go:112", after := #[], guard := none } : Oper)) (v := ?vv14_1_) rfl kernel19_plain (by as_aux_lemma => kernel_rfl) (by as_aux_lemma => kernel_rfl) (fun _ _ _ h => h) (Or.inl ⟨by rfl, ?yv14_1_⟩) (by assumption) ?rv14_1_
                                            case yv14_1_ => (intro w hSw; (try dsimp only at hSw); go_simp; try with_reducible rfl)
                                            try simp only [Act.put, List.setIfInBounds_toArray, List.set_cons_zero, List.set_cons_succ]
                                            refine wpAnyH_take (i := 1) (oi := ({ dst := some 44, op := .move (.tmp 9), type := 3, pos := "ref.go:112", after := #[], guard := none } : Oper)) (v := ?vv14_2_) rfl kernel19_plain (by as_aux_lemma => kernel_rfl) (by as_aux_lemma => kernel_rfl) (fun _ _ _ h => h) (Or.inl ⟨by rfl, ?yv14_2_⟩) (by assumption) ?rv14_2_
                                            case yv14_2_ => (intro w hSw; (try dsimp only at hSw); go_simp; try with_reducible rfl)
                                            try simp only [Act.put, List.setIfInBounds_toArray, List.set_cons_zero, List.set_cons_succ]
                                            refine wpAnyH_ready (rs := [2, 4]) (by as_aux_lemma => kernel_rfl) (by simp) ?_
                                            refine AllReadyH.cons (o := ({ dst := some 45, op := .call { callee := .value (.func 44), args := #[.tmp 44], argTypes := #[3] }, type := 23, pos := "ref.go:112", after := #[{ on := 1, ground := .data }], guard := none } : Oper)) rfl (fun KK hK => ?_) (AllReadyH.cons (o := ({ dst := some 10, op := .alloc 23, type := 0, pos := "ref.go:112", after := #[], guard := none } : Oper)) rfl (fun KK hK => ?_) AllReadyH.nil)
                                            · skip
                                              rw [if_pos (by rfl)]
                                              go_simp
                                              go_at_call 44; refine (O1.out _).mono ?_; rintro e w2 ⟨rfl, hb2⟩
                                              go_wp2_with fail
                                              refine hK.out _ _ ?_ (fun hHeld2 => ?_)
                                              · exact belowT (by assumption) hb2
                                              have H2 : Below W0.heap.size W0 w2 := by assumption
                                              have S2 := H2.size
                                              clear hK KK hb2
                                              try simp only [Act.put, List.setIfInBounds_toArray, List.set_cons_zero, List.set_cons_succ]
                                              refine wpAnyH_ready (rs := [3, 4]) (by as_aux_lemma => kernel_rfl) (by simp) ?_
                                              refine AllReadyH.cons (o := ({ dst := some 46, op := .call { callee := .value (.func 43), args := #[.tmp 43, .tmp 45], argTypes := #[23, 23] }, type := 23, pos := "ref.go:112", after := #[{ on := 0, ground := .data }, { on := 2, ground := .data }, { on := 2, ground := .chain }], guard := none } : Oper)) rfl (fun KK hK => ?_) (AllReadyH.cons (o := ({ dst := some 10, op := .alloc 23, type := 0, pos := "ref.go:112", after := #[], guard := none } : Oper)) rfl (fun KK hK => ?_) AllReadyH.nil)
                                              · skip
                                                rw [if_pos (by rfl)]
                                                go_simp
                                                go_at_call 43; refine (C10.out _).mono ?_; rintro e w3 ⟨rfl, hb3⟩
                                                go_wp2_with fail
                                                refine hK.out _ _ ?_ (fun hHeld3 => ?_)
                                                · exact belowT (by assumption) hb3
                                                have H3 : Below W0.heap.size W0 w3 := by assumption
                                                have S3 := H3.size
                                                clear hK KK hb3
                                                try simp only [Act.put, List.setIfInBounds_toArray, List.set_cons_zero, List.set_cons_succ]
                                                refine wpAnyH_ready (rs := [4]) (by as_aux_lemma => kernel_rfl) (by simp) ?_
                                                refine AllReadyH.cons (o := ({ dst := some 10, op := .alloc 23, type := 0, pos := "ref.go:112", after := #[], guard := none } : Oper)) rfl (fun KK hK => ?_) AllReadyH.nil
                                                rw [if_pos (by rfl)]
                                                go_simp
                                                refine hK.out _ _ ?_ (fun _hHeldA => ?_)
                                                · first | exact belowT (by assumption) (below1 _ _) | exact (belowT (by assumption) (below1 _ _)).drew
                                                clear hK KK
                                                try simp only [Act.put, List.setIfInBounds_toArray, List.set_cons_zero, List.set_cons_succ]
                                                refine wpAnyH_ready (rs := [5]) (by as_aux_lemma => kernel_rfl) (by simp) ?_
                                                refine AllReadyH.cons (o := ({ dst := none, op := .store 23 (.tmp 10) (.tmp 46), type := 0, pos := "ref.go:112", after := #[{ on := 4, ground := .data }, { on := 3, ground := .data }, { on := 3, ground := .chain }, { on := 0, ground := .phase }, { on := 1, ground := .phase }, { on := 2, ground := .phase }, { on := 3, ground := .phase }, { on := 4, ground := .phase }], guard := none } : Oper)) rfl (fun KK hK => ?_) AllReadyH.nil
                                                rw [if_pos (by rfl)]
                                                have p0 := (ownl w3 [.int .i64 0, .int .i64 0, .int .i64 0] 23).1.at 0 rfl
                                                have q0 := (ownl w3 [.int .i64 0, .int .i64 0, .int .i64 0] 23).2 0 (by simp)
                                                have p1 := (ownl w3 [.int .i64 0, .int .i64 0, .int .i64 0] 23).1.at 1 rfl
                                                have q1 := (ownl w3 [.int .i64 0, .int .i64 0, .int .i64 0] 23).2 1 (by simp)
                                                have p2 := (ownl w3 [.int .i64 0, .int .i64 0, .int .i64 0] 23).1.at 2 rfl
                                                have q2 := (ownl w3 [.int .i64 0, .int .i64 0, .int .i64 0] 23).2 2 (by simp)
                                                go_simp
                                                refine hK.out _ _ ?_ (fun _hHeldS => ?_)
                                                · exact belowT H3 (below1 w3 (.cells #[.int .i64 x10.x.toInt, .int .i64 x10.y.toInt, .int .i64 x10.z.toInt] 23))
                                                clear hK KK
                                                try simp only [Act.put, List.setIfInBounds_toArray, List.set_cons_zero, List.set_cons_succ]
                                                refine wpAnyH_done (by as_aux_lemma => kernel_rfl) ?_ _
                                                refine NoPanic.normal ?_
                                                have BF := belowT H3 (below1 w3 (.cells #[.int .i64 x10.x.toInt, .int .i64 x10.y.toInt, .int .i64 x10.z.toInt] 23))
                                                have OF := ownl w3 [.int .i64 x10.x.toInt, .int .i64 x10.y.toInt, .int .i64 x10.z.toInt] 23
                                                have SF := HS.out.keep BF
                                                have RF := HR.out.keep BF
                                                have zf := BF.size
                                                go_wp2_with fail
                                                go_meet
                                                exact ⟨_, rfl, rfl, rfl, rfl, by omega, SF, RF, OF⟩
                                              · skip
                                                rw [if_pos (by rfl)]
                                                go_simp
                                                refine hK.out _ _ ?_ (fun _hHeldA => ?_)
                                                · first | exact belowT (by assumption) (below1 _ _) | exact (belowT (by assumption) (below1 _ _)).drew
                                                clear hK KK
                                                try simp only [Act.put, List.setIfInBounds_toArray, List.set_cons_zero, List.set_cons_succ]
                                                refine wpAnyH_ready (rs := [3]) (by as_aux_lemma => kernel_rfl) (by simp) ?_
                                                refine AllReadyH.cons (o := ({ dst := some 46, op := .call { callee := .value (.func 43), args := #[.tmp 43, .tmp 45], argTypes := #[23, 23] }, type := 23, pos := "ref.go:112", after := #[{ on := 0, ground := .data }, { on := 2, ground := .data }, { on := 2, ground := .chain }], guard := none } : Oper)) rfl (fun KK hK => ?_) AllReadyH.nil
                                                rw [if_pos (by rfl)]
                                                go_simp
                                                go_at_call 43; refine (C10.out _).mono ?_; rintro e w3 ⟨rfl, hb3⟩
                                                go_wp2_with fail
                                                refine hK.out _ _ ?_ (fun hHeld3 => ?_)
                                                · exact belowT (by assumption) hb3
                                                have OA := (ownl w2 [.int .i64 0, .int .i64 0, .int .i64 0] 23).keep hb3
                                                have H3 : Below W0.heap.size W0 w3 := by assumption
                                                have S3 := H3.size
                                                clear hK KK hb3
                                                try simp only [Act.put, List.setIfInBounds_toArray, List.set_cons_zero, List.set_cons_succ]
                                                refine wpAnyH_ready (rs := [5]) (by as_aux_lemma => kernel_rfl) (by simp) ?_
                                                refine AllReadyH.cons (o := ({ dst := none, op := .store 23 (.tmp 10) (.tmp 46), type := 0, pos := "ref.go:112", after := #[{ on := 4, ground := .data }, { on := 3, ground := .data }, { on := 3, ground := .chain }, { on := 0, ground := .phase }, { on := 1, ground := .phase }, { on := 2, ground := .phase }, { on := 3, ground := .phase }, { on := 4, ground := .phase }], guard := none } : Oper)) rfl (fun KK hK => ?_) AllReadyH.nil
                                                rw [if_pos (by rfl)]
                                                have p0 := (OA).1.at 0 rfl
                                                have q0 := (OA).2 0 (by simp)
                                                have p1 := (OA).1.at 1 rfl
                                                have q1 := (OA).2 1 (by simp)
                                                have p2 := (OA).1.at 2 rfl
                                                have q2 := (OA).2 2 (by simp)
                                                go_simp
                                                refine hK.out _ _ ?_ (fun _hHeldS => ?_)
                                                · exact (((H3).setCell (p := ⟨w2.heap.size, 0, none⟩) (show W0.heap.size ≤ w2.heap.size by omega) (.int .i64 x10.x.toInt)).setCell (p := ⟨w2.heap.size, 1, none⟩) (show W0.heap.size ≤ w2.heap.size by omega) (.int .i64 x10.y.toInt)).setCell (p := ⟨w2.heap.size, 2, none⟩) (show W0.heap.size ≤ w2.heap.size by omega) (.int .i64 x10.z.toInt)
                                                clear hK KK
                                                try simp only [Act.put, List.setIfInBounds_toArray, List.set_cons_zero, List.set_cons_succ]
                                                refine wpAnyH_done (by as_aux_lemma => kernel_rfl) ?_ _
                                                refine NoPanic.normal ?_
                                                have BF := (((H3).setCell (p := ⟨w2.heap.size, 0, none⟩) (show W0.heap.size ≤ w2.heap.size by omega) (.int .i64 x10.x.toInt)).setCell (p := ⟨w2.heap.size, 1, none⟩) (show W0.heap.size ≤ w2.heap.size by omega) (.int .i64 x10.y.toInt)).setCell (p := ⟨w2.heap.size, 2, none⟩) (show W0.heap.size ≤ w2.heap.size by omega) (.int .i64 x10.z.toInt)
                                                have OF := (((OA).set 0 (.int .i64 x10.x.toInt)).set 1 (.int .i64 x10.y.toInt)).set 2 (.int .i64 x10.z.toInt)
                                                have SF := HS.out.keep BF
                                                have RF := HR.out.keep BF
                                                have zf := BF.size
                                                go_wp2_with fail
                                                go_meet
                                                exact ⟨_, rfl, rfl, rfl, rfl, by omega, SF, RF, OF⟩
                                            · skip
                                              rw [if_pos (by rfl)]
                                              go_simp
                                              refine hK.out _ _ ?_ (fun _hHeldA => ?_)
                                              · first | exact below1 W0 (.cells #[.int .i64 0, .int .i64 0, .int .i64 0] 23) | exact (below1 W0 (.cells #[.int .i64 0, .int .i64 0, .int .i64 0] 23)).drew
                                              clear hK KK
                                              try simp only [Act.put, List.setIfInBounds_toArray, List.set_cons_zero, List.set_cons_succ]
                                              refine wpAnyH_ready (rs := [2]) (by as_aux_lemma => kernel_rfl) (by simp) ?_
                                              refine AllReadyH.cons (o := ({ dst := some 45, op := .call { callee := .value (.func 44), args := #[.tmp 44], argTypes := #[3] }, type := 23, pos := "ref.go:112", after := #[{ on := 1, ground := .data }], guard := none } : Oper)) rfl (fun KK hK => ?_) AllReadyH.nil
                                              rw [if_pos (by rfl)]
                                              go_simp
                                              go_at_call 44; refine (O1.out _).mono ?_; rintro e w2 ⟨rfl, hb2⟩
                                              go_wp2_with fail
                                              refine hK.out _ _ ?_ (fun hHeld2 => ?_)
                                              · exact belowT (by assumption) hb2
                                              have OA := ((ownl W0 [.int .i64 0, .int .i64 0, .int .i64 0] 23).drew).keep hb2
                                              have H2 : Below W0.heap.size W0 w2 := by assumption
                                              have S2 := H2.size
                                              clear hK KK hb2
                                              try simp only [Act.put, List.setIfInBounds_toArray, List.set_cons_zero, List.set_cons_succ]
                                              refine wpAnyH_ready (rs := [3]) (by as_aux_lemma => kernel_rfl) (by simp) ?_
                                              refine AllReadyH.cons (o := ({ dst := some 46, op := .call { callee := .value (.func 43), args := #[.tmp 43, .tmp 45], argTypes := #[23, 23] }, type := 23, pos := "ref.go:112", after := #[{ on := 0, ground := .data }, { on := 2, ground := .data }, { on := 2, ground := .chain }], guard := none } : Oper)) rfl (fun KK hK => ?_) AllReadyH.nil
                                              rw [if_pos (by rfl)]
                                              go_simp
                                              go_at_call 43; refine (C10.out _).mono ?_; rintro e w3 ⟨rfl, hb3⟩
                                              go_wp2_with fail
                                              refine hK.out _ _ ?_ (fun hHeld3 => ?_)
                                              · exact belowT (by assumption) hb3
                                              replace OA := (OA).keep hb3
                                              have H3 : Below W0.heap.size W0 w3 := by assumption
                                              have S3 := H3.size
                                              clear hK KK hb3
                                              try simp only [Act.put, List.setIfInBounds_toArray, List.set_cons_zero, List.set_cons_succ]
                                              refine wpAnyH_ready (rs := [5]) (by as_aux_lemma => kernel_rfl) (by simp) ?_
                                              refine AllReadyH.cons (o := ({ dst := none, op := .store 23 (.tmp 10) (.tmp 46), type := 0, pos := "ref.go:112", after := #[{ on := 4, ground := .data }, { on := 3, ground := .data }, { on := 3, ground := .chain }, { on := 0, ground := .phase }, { on := 1, ground := .phase }, { on := 2, ground := .phase }, { on := 3, ground := .phase }, { on := 4, ground := .phase }], guard := none } : Oper)) rfl (fun KK hK => ?_) AllReadyH.nil
                                              rw [if_pos (by rfl)]
                                              have p0 := (OA).1.at 0 rfl
                                              have q0 := (OA).2 0 (by simp)
                                              have p1 := (OA).1.at 1 rfl
                                              have q1 := (OA).2 1 (by simp)
                                              have p2 := (OA).1.at 2 rfl
                                              have q2 := (OA).2 2 (by simp)
                                              go_simp
                                              refine hK.out _ _ ?_ (fun _hHeldS => ?_)
                                              · exact (((H3).setCell (p := ⟨W0.heap.size, 0, none⟩) (show W0.heap.size ≤ W0.heap.size by omega) (.int .i64 x10.x.toInt)).setCell (p := ⟨W0.heap.size, 1, none⟩) (show W0.heap.size ≤ W0.heap.size by omega) (.int .i64 x10.y.toInt)).setCell (p := ⟨W0.heap.size, 2, none⟩) (show W0.heap.size ≤ W0.heap.size by omega) (.int .i64 x10.z.toInt)
                                              clear hK KK
                                              try simp only [Act.put, List.setIfInBounds_toArray, List.set_cons_zero, List.set_cons_succ]
                                              refine wpAnyH_done (by as_aux_lemma => kernel_rfl) ?_ _
                                              refine NoPanic.normal ?_
                                              have BF := (((H3).setCell (p := ⟨W0.heap.size, 0, none⟩) (show W0.heap.size ≤ W0.heap.size by omega) (.int .i64 x10.x.toInt)).setCell (p := ⟨W0.heap.size, 1, none⟩) (show W0.heap.size ≤ W0.heap.size by omega) (.int .i64 x10.y.toInt)).setCell (p := ⟨W0.heap.size, 2, none⟩) (show W0.heap.size ≤ W0.heap.size by omega) (.int .i64 x10.z.toInt)
                                              have OF := (((OA).set 0 (.int .i64 x10.x.toInt)).set 1 (.int .i64 x10.y.toInt)).set 2 (.int .i64 x10.z.toInt)
                                              have SF := HS.out.keep BF
                                              have RF := HR.out.keep BF
                                              have zf := BF.size
                                              go_wp2_with fail
                                              go_meet
                                              exact ⟨_, rfl, rfl, rfl, rfl, by omega, SF, RF, OF⟩
                                          case rest =>
                                            clear HS HR r0 r1 r2
                                            skip
                                            rename World => W0
                                            obtain ⟨X, rfl, rfl, rfl, rfl, hz, S1, hr, OX⟩ := hcut
                                            have g0 := OX.1.at 0 rfl; have g1 := OX.1.at 1 rfl; have g2 := OX.1.at 2 rfl
                                            cases q10 with
                                            | false =>
                                              obtain ⟨y0, k0, f0⟩ := S1.there 1 rfl 0 rfl; obtain ⟨y1, k1, f1⟩ := S1.there 1 rfl 1 rfl; obtain ⟨y2, k2, f2⟩ := S1.there 1 rfl 2 rfl
                                              have BH := Lib.hid S1.below
                                              clear S1 OX hr
                                              go_wp2
                                              refine bodyPost_ret (v := .tuple #[vv x10, .bool true]) (by simp [results, Try.results23, go_sem, *]) rfl ⟨rfl, ?_⟩
                                              iterate 3 refine Below.setCell (p := ⟨w.heap.size + 1, _, none⟩) ?_ (show w.heap.size ≤ w.heap.size + 1 by omega) _
                                              exact BH.out
                                            | true =>
                                              clear OX
                                              go_wp2_with fail
                                              clear g0 g1 g2
                                              rw [rounds_succ]
                                              go_upto_region 19 with fail
                                              have HS := Lib.hid S1; have HR := Lib.hid hr
                                              have r0 : ∀ w', Below W0.heap.size W0 w' → w'.cell? ⟨Ar, 0, none⟩ = some (.int .i64 m.c.x.toInt) := fun w' h => (HR.out.keep h).at 0 rfl
                                              have r1 : ∀ w', Below W0.heap.size W0 w' → w'.cell? ⟨Ar, 1, none⟩ = some (.int .i64 m.c.y.toInt) := fun w' h => (HR.out.keep h).at 1 rfl
                                              have r2 : ∀ w', Below W0.heap.size W0 w' → w'.cell? ⟨Ar, 2, none⟩ = some (.int .i64 m.c.z.toInt) := fun w' h => (HR.out.keep h).at 2 rfl
                                              clear S1 hr
                                              go_cut [10, 36, 37, 40] from 10 to 47 (fun p u v q wx => ∃ X, p = .pointer (some ⟨X, 0, none⟩) ∧ u = mv m ∧ v = .int .i64 2 ∧ q = .int .i64 2 ∧ w.heap.size + 2 ≤ wx.heap.size ∧ St w (kerB w m) wx ∧ HasL wx Ar (vl m.c) ∧ OwnL wx X (vl x11))
                                              case first =>
                                                change (Code.region 19 kernel19 true).wp Try.prog _ _ _
                                                refine wp_region_noPanic ?_
                                                refine wp_region_held_drew (S := fun w' => Below W0.heap.size W0 w') (by kernel_rfl) ((Below.refl _ _).drew) (fun hHeld => ?_)
                                                refine wpAnyH_take (i := 0) (oi := ({ dst := some 43, op := .load 23 (.tmp 8), type := 23, pos := "ref.go:112", after := #[], guard := none } : Oper)) (v := ?vv15_1_) rfl kernel19_plain (by as_aux_lemma => kernel_rfl) (by as_aux_lemma => kernel_rfl) (fun _ _ _ h => h) (Or.inl ⟨by rfl, ?yv15_1_⟩) (by assumption) ?rv15_1_
                                                case yv15_1_ => (intro w hSw; (try dsimp only at hSw); go_simp; try with_reducible rfl)
                                                try simp only [Act.put, List.setIfInBounds_toArray, List.set_cons_zero, List.set_cons_succ]
                                                refine wpAnyH_take (i := 1) (oi := ({ dst := some 44, op := .move (.tmp 9), type := 3, pos := "ref.go:112", after := #[], guard := none } : Oper)) (v := ?vv15_2_) rfl kernel19_plain (by as_aux_lemma => kernel_rfl) (by as_aux_lemma => kernel_rfl) (fun _ _ _ h => h) (Or.inl ⟨by rfl, ?yv15_2_⟩) (by assumption) ?rv15_2_
                                                case yv15_2_ => (intro w hSw; (try dsimp only at hSw); go_simp; try with_reducible rfl)
                                                try simp only [Act.put, List.setIfInBounds_toArray, List.set_cons_zero, List.set_cons_succ]
                                                refine wpAnyH_ready (rs := [2, 4]) (by as_aux_lemma => kernel_rfl) (by simp) ?_
                                                refine AllReadyH.cons (o := ({ dst := some 45, op := .call { callee := .value (.func 44), args := #[.tmp 44], argTypes := #[3] }, type := 23, pos := "ref.go:112", after := #[{ on := 1, ground := .data }], guard := none } : Oper)) rfl (fun KK hK => ?_) (AllReadyH.cons (o := ({ dst := some 10, op := .alloc 23, type := 0, pos := "ref.go:112", after := #[], guard := none } : Oper)) rfl (fun KK hK => ?_) AllReadyH.nil)
                                                · skip
                                                  rw [if_pos (by rfl)]
                                                  go_simp
                                                  go_at_call 44; refine (O2.out _).mono ?_; rintro e w2 ⟨rfl, hb2⟩
                                                  go_wp2_with fail
                                                  refine hK.out _ _ ?_ (fun hHeld2 => ?_)
                                                  · exact belowT (by assumption) hb2
                                                  have H2 : Below W0.heap.size W0 w2 := by assumption
                                                  have S2 := H2.size
                                                  clear hK KK hb2
                                                  try simp only [Act.put, List.setIfInBounds_toArray, List.set_cons_zero, List.set_cons_succ]
                                                  refine wpAnyH_ready (rs := [3, 4]) (by as_aux_lemma => kernel_rfl) (by simp) ?_
                                                  refine AllReadyH.cons (o := ({ dst := some 46, op := .call { callee := .value (.func 43), args := #[.tmp 43, .tmp 45], argTypes := #[23, 23] }, type := 23, pos := "ref.go:112", after := #[{ on := 0, ground := .data }, { on := 2, ground := .data }, { on := 2, ground := .chain }], guard := none } : Oper)) rfl (fun KK hK => ?_) (AllReadyH.cons (o := ({ dst := some 10, op := .alloc 23, type := 0, pos := "ref.go:112", after := #[], guard := none } : Oper)) rfl (fun KK hK => ?_) AllReadyH.nil)
                                                  · skip
                                                    rw [if_pos (by rfl)]
                                                    go_simp
                                                    go_at_call 43; refine (C11.out _).mono ?_; rintro e w3 ⟨rfl, hb3⟩
                                                    go_wp2_with fail
                                                    refine hK.out _ _ ?_ (fun hHeld3 => ?_)
                                                    · exact belowT (by assumption) hb3
                                                    have H3 : Below W0.heap.size W0 w3 := by assumption
                                                    have S3 := H3.size
                                                    clear hK KK hb3
                                                    try simp only [Act.put, List.setIfInBounds_toArray, List.set_cons_zero, List.set_cons_succ]
                                                    refine wpAnyH_ready (rs := [4]) (by as_aux_lemma => kernel_rfl) (by simp) ?_
                                                    refine AllReadyH.cons (o := ({ dst := some 10, op := .alloc 23, type := 0, pos := "ref.go:112", after := #[], guard := none } : Oper)) rfl (fun KK hK => ?_) AllReadyH.nil
                                                    rw [if_pos (by rfl)]
                                                    go_simp
                                                    refine hK.out _ _ ?_ (fun _hHeldA => ?_)
                                                    · first | exact belowT (by assumption) (below1 _ _) | exact (belowT (by assumption) (below1 _ _)).drew
                                                    clear hK KK
                                                    try simp only [Act.put, List.setIfInBounds_toArray, List.set_cons_zero, List.set_cons_succ]
                                                    refine wpAnyH_ready (rs := [5]) (by as_aux_lemma => kernel_rfl) (by simp) ?_
                                                    refine AllReadyH.cons (o := ({ dst := none, op := .store 23 (.tmp 10) (.tmp 46), type := 0, pos := "ref.go:112", after := #[{ on := 4, ground := .data }, { on := 3, ground := .data }, { on := 3, ground := .chain }, { on := 0, ground := .phase }, { on := 1, ground := .phase }, { on := 2, ground := .phase }, { on := 3, ground := .phase }, { on := 4, ground := .phase }], guard := none } : Oper)) rfl (fun KK hK => ?_) AllReadyH.nil
                                                    rw [if_pos (by rfl)]
                                                    have p0 := (ownl w3 [.int .i64 0, .int .i64 0, .int .i64 0] 23).1.at 0 rfl
                                                    have q0 := (ownl w3 [.int .i64 0, .int .i64 0, .int .i64 0] 23).2 0 (by simp)
                                                    have p1 := (ownl w3 [.int .i64 0, .int .i64 0, .int .i64 0] 23).1.at 1 rfl
                                                    have q1 := (ownl w3 [.int .i64 0, .int .i64 0, .int .i64 0] 23).2 1 (by simp)
                                                    have p2 := (ownl w3 [.int .i64 0, .int .i64 0, .int .i64 0] 23).1.at 2 rfl
                                                    have q2 := (ownl w3 [.int .i64 0, .int .i64 0, .int .i64 0] 23).2 2 (by simp)
                                                    go_simp
                                                    refine hK.out _ _ ?_ (fun _hHeldS => ?_)
                                                    · exact belowT H3 (below1 w3 (.cells #[.int .i64 x11.x.toInt, .int .i64 x11.y.toInt, .int .i64 x11.z.toInt] 23))
                                                    clear hK KK
                                                    try simp only [Act.put, List.setIfInBounds_toArray, List.set_cons_zero, List.set_cons_succ]
                                                    refine wpAnyH_done (by as_aux_lemma => kernel_rfl) ?_ _
                                                    refine NoPanic.normal ?_
                                                    have BF := belowT H3 (below1 w3 (.cells #[.int .i64 x11.x.toInt, .int .i64 x11.y.toInt, .int .i64 x11.z.toInt] 23))
                                                    have OF := ownl w3 [.int .i64 x11.x.toInt, .int .i64 x11.y.toInt, .int .i64 x11.z.toInt] 23
                                                    have SF := HS.out.keep BF
                                                    have RF := HR.out.keep BF
                                                    have zf := BF.size
                                                    go_wp2_with fail
                                                    go_meet
                                                    exact ⟨_, rfl, rfl, rfl, rfl, by omega, SF, RF, OF⟩
                                                  · skip
                                                    rw [if_pos (by rfl)]
                                                    go_simp
                                                    refine hK.out _ _ ?_ (fun _hHeldA => ?_)
                                                    · first | exact belowT (by assumption) (below1 _ _) | exact (belowT (by assumption) (below1 _ _)).drew
                                                    clear hK KK
                                                    try simp only [Act.put, List.setIfInBounds_toArray, List.set_cons_zero, List.set_cons_succ]
                                                    refine wpAnyH_ready (rs := [3]) (by as_aux_lemma => kernel_rfl) (by simp) ?_
                                                    refine AllReadyH.cons (o := ({ dst := some 46, op := .call { callee := .value (.func 43), args := #[.tmp 43, .tmp 45], argTypes := #[23, 23] }, type := 23, pos := "ref.go:112", after := #[{ on := 0, ground := .data }, { on := 2, ground := .data }, { on := 2, ground := .chain }], guard := none } : Oper)) rfl (fun KK hK => ?_) AllReadyH.nil
                                                    rw [if_pos (by rfl)]
                                                    go_simp
                                                    go_at_call 43; refine (C11.out _).mono ?_; rintro e w3 ⟨rfl, hb3⟩
                                                    go_wp2_with fail
                                                    refine hK.out _ _ ?_ (fun hHeld3 => ?_)
                                                    · exact belowT (by assumption) hb3
                                                    have OA := (ownl w2 [.int .i64 0, .int .i64 0, .int .i64 0] 23).keep hb3
                                                    have H3 : Below W0.heap.size W0 w3 := by assumption
                                                    have S3 := H3.size
                                                    clear hK KK hb3
                                                    try simp only [Act.put, List.setIfInBounds_toArray, List.set_cons_zero, List.set_cons_succ]
                                                    refine wpAnyH_ready (rs := [5]) (by as_aux_lemma => kernel_rfl) (by simp) ?_
                                                    refine AllReadyH.cons (o := ({ dst := none, op := .store 23 (.tmp 10) (.tmp 46), type := 0, pos := "ref.go:112", after := #[{ on := 4, ground := .data }, { on := 3, ground := .data }, { on := 3, ground := .chain }, { on := 0, ground := .phase }, { on := 1, ground := .phase }, { on := 2, ground := .phase }, { on := 3, ground := .phase }, { on := 4, ground := .phase }], guard := none } : Oper)) rfl (fun KK hK => ?_) AllReadyH.nil
                                                    rw [if_pos (by rfl)]
                                                    have p0 := (OA).1.at 0 rfl
                                                    have q0 := (OA).2 0 (by simp)
                                                    have p1 := (OA).1.at 1 rfl
                                                    have q1 := (OA).2 1 (by simp)
                                                    have p2 := (OA).1.at 2 rfl
                                                    have q2 := (OA).2 2 (by simp)
                                                    go_simp
                                                    refine hK.out _ _ ?_ (fun _hHeldS => ?_)
                                                    · exact (((H3).setCell (p := ⟨w2.heap.size, 0, none⟩) (show W0.heap.size ≤ w2.heap.size by omega) (.int .i64 x11.x.toInt)).setCell (p := ⟨w2.heap.size, 1, none⟩) (show W0.heap.size ≤ w2.heap.size by omega) (.int .i64 x11.y.toInt)).setCell (p := ⟨w2.heap.size, 2, none⟩) (show W0.heap.size ≤ w2.heap.size by omega) (.int .i64 x11.z.toInt)
                                                    clear hK KK
                                                    try simp only [Act.put, List.setIfInBounds_toArray, List.set_cons_zero, List.set_cons_succ]
                                                    refine wpAnyH_done (by as_aux_lemma => kernel_rfl) ?_ _
                                                    refine NoPanic.normal ?_
                                                    have BF := (((H3).setCell (p := ⟨w2.heap.size, 0, none⟩) (show W0.heap.size ≤ w2.heap.size by omega) (.int .i64 x11.x.toInt)).setCell (p := ⟨w2.heap.size, 1, none⟩) (show W0.heap.size ≤ w2.heap.size by omega) (.int .i64 x11.y.toInt)).setCell (p := ⟨w2.heap.size, 2, none⟩) (show W0.heap.size ≤ w2.heap.size by omega) (.int .i64 x11.z.toInt)
                                                    have OF := (((OA).set 0 (.int .i64 x11.x.toInt)).set 1 (.int .i64 x11.y.toInt)).set 2 (.int .i64 x11.z.toInt)
                                                    have SF := HS.out.keep BF
                                                    have RF := HR.out.keep BF
                                                    have zf := BF.size
                                                    go_wp2_with fail
                                                    go_meet
                                                    exact ⟨_, rfl, rfl, rfl, rfl, by omega, SF, RF, OF⟩
                                                · skip
                                                  rw [if_pos (by rfl)]
                                                  go_simp
                                                  refine hK.out _ _ ?_ (fun _hHeldA => ?_)
                                                  · first | exact below1 W0 (.cells #[.int .i64 0, .int .i64 0, .int .i64 0] 23) | exact (below1 W0 (.cells #[.int .i64 0, .int .i64 0, .int .i64 0] 23)).drew
                                                  clear hK KK
                                                  try simp only [Act.put, List.setIfInBounds_toArray, List.set_cons_zero, List.set_cons_succ]
                                                  refine wpAnyH_ready (rs := [2]) (by as_aux_lemma => kernel_rfl) (by simp) ?_
                                                  refine AllReadyH.cons (o := ({ dst := some 45, op := .call { callee := .value (.func 44), args := #[.tmp 44], argTypes := #[3] }, type := 23, pos := "ref.go:112", after := #[{ on := 1, ground := .data }], guard := none } : Oper)) rfl (fun KK hK => ?_) AllReadyH.nil
                                                  rw [if_pos (by rfl)]
                                                  go_simp
                                                  go_at_call 44; refine (O2.out _).mono ?_; rintro e w2 ⟨rfl, hb2⟩
                                                  go_wp2_with fail
                                                  refine hK.out _ _ ?_ (fun hHeld2 => ?_)
                                                  · exact belowT (by assumption) hb2
                                                  have OA := ((ownl W0 [.int .i64 0, .int .i64 0, .int .i64 0] 23).drew).keep hb2
                                                  have H2 : Below W0.heap.size W0 w2 := by assumption
                                                  have S2 := H2.size
                                                  clear hK KK hb2
                                                  try simp only [Act.put, List.setIfInBounds_toArray, List.set_cons_zero, List.set_cons_succ]
                                                  refine wpAnyH_ready (rs := [3]) (by as_aux_lemma => kernel_rfl) (by simp) ?_
                                                  refine AllReadyH.cons (o := ({ dst := some 46, op := .call { callee := .value (.func 43), args := #[.tmp 43, .tmp 45], argTypes := #[23, 23] }, type := 23, pos := "ref.go:112", after := #[{ on := 0, ground := .data }, { on := 2, ground := .data }, { on := 2, ground := .chain }], guard := none } : Oper)) rfl (fun KK hK => ?_) AllReadyH.nil
                                                  rw [if_pos (by rfl)]
                                                  go_simp
                                                  go_at_call 43; refine (C11.out _).mono ?_; rintro e w3 ⟨rfl, hb3⟩
                                                  go_wp2_with fail
                                                  refine hK.out _ _ ?_ (fun hHeld3 => ?_)
                                                  · exact belowT (by assumption) hb3
                                                  replace OA := (OA).keep hb3
                                                  have H3 : Below W0.heap.size W0 w3 := by assumption
                                                  have S3 := H3.size
                                                  clear hK KK hb3
                                                  try simp only [Act.put, List.setIfInBounds_toArray, List.set_cons_zero, List.set_cons_succ]
                                                  refine wpAnyH_ready (rs := [5]) (by as_aux_lemma => kernel_rfl) (by simp) ?_
                                                  refine AllReadyH.cons (o := ({ dst := none, op := .store 23 (.tmp 10) (.tmp 46), type := 0, pos := "ref.go:112", after := #[{ on := 4, ground := .data }, { on := 3, ground := .data }, { on := 3, ground := .chain }, { on := 0, ground := .phase }, { on := 1, ground := .phase }, { on := 2, ground := .phase }, { on := 3, ground := .phase }, { on := 4, ground := .phase }], guard := none } : Oper)) rfl (fun KK hK => ?_) AllReadyH.nil
                                                  rw [if_pos (by rfl)]
                                                  have p0 := (OA).1.at 0 rfl
                                                  have q0 := (OA).2 0 (by simp)
                                                  have p1 := (OA).1.at 1 rfl
                                                  have q1 := (OA).2 1 (by simp)
                                                  have p2 := (OA).1.at 2 rfl
                                                  have q2 := (OA).2 2 (by simp)
                                                  go_simp
                                                  refine hK.out _ _ ?_ (fun _hHeldS => ?_)
                                                  · exact (((H3).setCell (p := ⟨W0.heap.size, 0, none⟩) (show W0.heap.size ≤ W0.heap.size by omega) (.int .i64 x11.x.toInt)).setCell (p := ⟨W0.heap.size, 1, none⟩) (show W0.heap.size ≤ W0.heap.size by omega) (.int .i64 x11.y.toInt)).setCell (p := ⟨W0.heap.size, 2, none⟩) (show W0.heap.size ≤ W0.heap.size by omega) (.int .i64 x11.z.toInt)
                                                  clear hK KK
                                                  try simp only [Act.put, List.setIfInBounds_toArray, List.set_cons_zero, List.set_cons_succ]
                                                  refine wpAnyH_done (by as_aux_lemma => kernel_rfl) ?_ _
                                                  refine NoPanic.normal ?_
                                                  have BF := (((H3).setCell (p := ⟨W0.heap.size, 0, none⟩) (show W0.heap.size ≤ W0.heap.size by omega) (.int .i64 x11.x.toInt)).setCell (p := ⟨W0.heap.size, 1, none⟩) (show W0.heap.size ≤ W0.heap.size by omega) (.int .i64 x11.y.toInt)).setCell (p := ⟨W0.heap.size, 2, none⟩) (show W0.heap.size ≤ W0.heap.size by omega) (.int .i64 x11.z.toInt)
                                                  have OF := (((OA).set 0 (.int .i64 x11.x.toInt)).set 1 (.int .i64 x11.y.toInt)).set 2 (.int .i64 x11.z.toInt)
                                                  have SF := HS.out.keep BF
                                                  have RF := HR.out.keep BF
                                                  have zf := BF.size
                                                  go_wp2_with fail
                                                  go_meet
                                                  exact ⟨_, rfl, rfl, rfl, rfl, by omega, SF, RF, OF⟩
                                              case rest =>
                                                clear HS HR r0 r1 r2
                                                skip
                                                rename World => W0
                                                obtain ⟨X, rfl, rfl, rfl, rfl, hz, S1, hr, OX⟩ := hcut
                                                have g0 := OX.1.at 0 rfl; have g1 := OX.1.at 1 rfl; have g2 := OX.1.at 2 rfl
                                                cases q11 with
                                                | false =>
                                                  obtain ⟨y0, k0, f0⟩ := S1.there 1 rfl 0 rfl; obtain ⟨y1, k1, f1⟩ := S1.there 1 rfl 1 rfl; obtain ⟨y2, k2, f2⟩ := S1.there 1 rfl 2 rfl
                                                  have BH := Lib.hid S1.below
                                                  clear S1 OX hr
                                                  go_wp2
                                                  refine bodyPost_ret (v := .tuple #[vv x11, .bool true]) (by simp [results, Try.results23, go_sem, *]) rfl ⟨rfl, ?_⟩
                                                  iterate 3 refine Below.setCell (p := ⟨w.heap.size + 1, _, none⟩) ?_ (show w.heap.size ≤ w.heap.size + 1 by omega) _
                                                  exact BH.out
                                                | true =>
                                                  clear OX
                                                  go_wp2_with fail
                                                  clear g0 g1 g2
                                                  rw [rounds_succ]
                                                  go_wp2_with fail
                                                  clear hr
                                                  rw [rounds_succ]
                                                  have HS := Lib.hid S1
                                                  clear S1
                                                  go_wp2_with fail
                                                  refine (O0.out _).mono ?_; rintro e w9 ⟨rfl, hb9⟩
                                                  have S9 := HS.out.keep hb9
                                                  obtain ⟨y0, k0, f0⟩ := S9.there 1 rfl 0 rfl; obtain ⟨y1, k1, f1⟩ := S9.there 1 rfl 1 rfl; obtain ⟨y2, k2, f2⟩ := S9.there 1 rfl 2 rfl
                                                  have BH := Lib.hid S9.below
                                                  clear S9 HS hb9
                                                  go_wp2_with fail
                                                  refine bodyPost_ret (v := .tuple #[vv (V3.one 0), .bool true]) (by simp [results, Try.results23, go_sem, *]) rfl ⟨rfl, ?_⟩
                                                  iterate 3 refine Below.setCell (p := ⟨w.heap.size + 1, _, none⟩) ?_ (show w.heap.size ≤ w.heap.size + 1 by omega) _
                                                  exact BH.out
end Ref8
end Go.Proofs.Ytjdpcmcekockgaa
