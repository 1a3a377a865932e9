/- Rank of the document's own answers for layer 8. -/
import Derived.Test.YtjdpcmcekockgaaMatEq
import Derived.Test.YtjdpcmcekockgaaMatDet
namespace Go.Proofs.Ytjdpcmcekockgaa
open Go.RowKit
def V3.zero : V3 := ⟨0, 0, 0⟩
def M3.zero : M3 := ⟨V3.zero, V3.zero, V3.zero⟩
theorem vec_zero (a : V3) (w : World) : (Op.equalIn 10000 23 (vv a) (.agg #[.int .i64 0, .int .i64 0, .int .i64 0])).run Try.prog w = .ok (decide (a = V3.zero)) w := vec_eq a V3.zero w
theorem mat_zero (a : M3) (w : World) : (Op.equalIn 10000 25 (mv a) (.agg #[.int .i64 0, .int .i64 0, .int .i64 0, .int .i64 0, .int .i64 0, .int .i64 0, .int .i64 0, .int .i64 0, .int .i64 0])).run Try.prog w = .ok (decide (a = M3.zero)) w := mat_eq a M3.zero w
def M3.rank (m : M3) : Int := if m.det ≠ 0 then 3 else if m.a.cross m.b ≠ V3.zero then 2 else if m.a.cross m.c ≠ V3.zero then 2 else if m.b.cross m.c ≠ V3.zero then 2 else if m = M3.zero then 0 else 1
theorem det_zero (x : BitVec 64) : (x.toInt == 0) = decide (x = 0) := by
  have h := v_eq x 0
  rw [show (0 : BitVec 64).toInt = 0 by decide] at h
  rw [h]; rfl
namespace Ref8
/-- The operations of a drawn region, as the translation has them. -/
def rank9 : Array Oper := #[
  { dst := some 17, op := .move (.tmp 3), type := 3, pos := "ref.go:87", after := #[], guard := none },
  { dst := some 18, op := .indexAddr 25 (.tmp 1) (.tmp 17), type := 0, pos := "ref.go:87", after := #[{ on := 0, ground := .data }], guard := none },
  { dst := some 19, op := .load 23 (.tmp 18), type := 23, pos := "ref.go:87", after := #[{ on := 1, ground := .data }], guard := none },
  { dst := some 20, op := .move (.tmp 4), type := 3, pos := "ref.go:87", after := #[], guard := none },
  { dst := some 21, op := .indexAddr 25 (.tmp 1) (.tmp 20), type := 0, pos := "ref.go:87", after := #[{ on := 3, ground := .data }], guard := none },
  { dst := some 22, op := .load 23 (.tmp 21), type := 23, pos := "ref.go:87", after := #[{ on := 4, ground := .data }], guard := none },
  { dst := some 23, op := .call { callee := .value (.func 43), args := #[.tmp 19, .tmp 22], argTypes := #[23, 23] }, type := 23, pos := "ref.go:87", after := #[{ on := 2, ground := .data }, { on := 5, ground := .data }], guard := none },
  { dst := some 24, op := .build 23 #[], type := 23, pos := "ref.go:87", after := #[], guard := none },
  { dst := some 25, op := .binOp .neq 23 (.tmp 23) (.tmp 24) 23, type := 4, pos := "ref.go:87", after := #[{ on := 6, ground := .data }, { on := 7, ground := .data }], guard := none }]
theorem rank9_plain : Region.noSelect rank9 = true := by kernel_rfl

set_option maxHeartbeats 8000000 in
set_option maxRecDepth 100000 in
theorem Rank_any (m : M3) (w : World) :
    Calls Try.prog 27 #[mv m] w fun e w' => e = .returned (.int .i64 m.rank) ∧ Below w.heap.size w w' := by
  have DE := Lib.hid (Det_any m)
  have CA := Lib.hid (Ref7.Cross_any m.a m.b); have CB := Lib.hid (Ref7.Cross_any m.a m.c); have CC := Lib.hid (Ref7.Cross_any m.b m.c)
  have ZA := vec_zero (m.a.cross m.b); have ZB := vec_zero (m.a.cross m.c); have ZC := vec_zero (m.b.cross m.c)
  have ZM := mat_zero m
  have d0 := det_zero m.det
  have D1 := below1 w (.cells (ml m).toArray 25)
  have HL := hasl w (ml m) 25
  have er : m.rank = if decide (m.det = 0) = false then 3 else if decide (m.a.cross m.b = V3.zero) = false then 2 else if decide (m.a.cross m.c = V3.zero) = false then 2 else if decide (m.b.cross m.c = V3.zero) = false then 2 else if decide (m = M3.zero) = true then 0 else 1 := by
    unfold M3.rank; simp only [decide_eq_false_iff_not, decide_eq_true_eq, ne_eq]
  rw [er]
  clear er
  obtain ⟨W0, hW0⟩ : ∃ W0, W0 = w.alloc (.cells (ml m).toArray 25) := ⟨_, rfl⟩
  rw [← hW0] at D1 HL
  have r0 : ∀ w', Below W0.heap.size W0 w' → w'.cell? ⟨w.heap.size, 0, none⟩ = some (.int .i64 m.a.x.toInt) := fun w' h => (HL.keep h).at 0 rfl
  have r1 : ∀ w', Below W0.heap.size W0 w' → w'.cell? ⟨w.heap.size, 1, none⟩ = some (.int .i64 m.a.y.toInt) := fun w' h => (HL.keep h).at 1 rfl
  have r2 : ∀ w', Below W0.heap.size W0 w' → w'.cell? ⟨w.heap.size, 2, none⟩ = some (.int .i64 m.a.z.toInt) := fun w' h => (HL.keep h).at 2 rfl
  have r3 : ∀ w', Below W0.heap.size W0 w' → w'.cell? ⟨w.heap.size, 3, none⟩ = some (.int .i64 m.b.x.toInt) := fun w' h => (HL.keep h).at 3 rfl
  have r4 : ∀ w', Below W0.heap.size W0 w' → w'.cell? ⟨w.heap.size, 4, none⟩ = some (.int .i64 m.b.y.toInt) := fun w' h => (HL.keep h).at 4 rfl
  have r5 : ∀ w', Below W0.heap.size W0 w' → w'.cell? ⟨w.heap.size, 5, none⟩ = some (.int .i64 m.b.z.toInt) := fun w' h => (HL.keep h).at 5 rfl
  have r6 : ∀ w', Below W0.heap.size W0 w' → w'.cell? ⟨w.heap.size, 6, none⟩ = some (.int .i64 m.c.x.toInt) := fun w' h => (HL.keep h).at 6 rfl
  have r7 : ∀ w', Below W0.heap.size W0 w' → w'.cell? ⟨w.heap.size, 7, none⟩ = some (.int .i64 m.c.y.toInt) := fun w' h => (HL.keep h).at 7 rfl
  have r8 : ∀ w', Below W0.heap.size W0 w' → w'.cell? ⟨w.heap.size, 8, none⟩ = some (.int .i64 m.c.z.toInt) := fun w' h => (HL.keep h).at 8 rfl
  have HW := Lib.hid hW0
  clear hW0 HL
  generalize decide (m.a.cross m.b = V3.zero) = qa at *; generalize decide (m.a.cross m.c = V3.zero) = qb at *; generalize decide (m.b.cross m.c = V3.zero) = qc at *
  generalize decide (m = M3.zero) = qm at *; generalize decide (m.det = 0) = qd at *
  generalize m.det.toInt = d at *
  generalize m.a.cross m.b = xa at *; generalize m.a.cross m.c = xb at *; generalize m.b.cross m.c = xc at *
  go_enter Try.func27, Try.ntmps27
  go_wp2_with fail
  rw [← HW.out]
  clear HW
  refine (DE.out _).mono ?_; rintro e w1 ⟨rfl, hb1⟩
  cases qd with
  | false =>
    have BH := Lib.hid (belowT D1 hb1)
    clear r0 r1 r2 r3 r4 r5 r6 r7 r8 hb1
    go_wp2
    go_ret
    exact ⟨rfl, BH.out⟩
  | true =>
    have s0 : ∀ w', Below w1.heap.size w1 w' → w'.cell? ⟨w.heap.size, 0, none⟩ = some (.int .i64 m.a.x.toInt) := fun w' h => r0 w' (belowT hb1 h)
    have s1 : ∀ w', Below w1.heap.size w1 w' → w'.cell? ⟨w.heap.size, 1, none⟩ = some (.int .i64 m.a.y.toInt) := fun w' h => r1 w' (belowT hb1 h)
    have s2 : ∀ w', Below w1.heap.size w1 w' → w'.cell? ⟨w.heap.size, 2, none⟩ = some (.int .i64 m.a.z.toInt) := fun w' h => r2 w' (belowT hb1 h)
    have s3 : ∀ w', Below w1.heap.size w1 w' → w'.cell? ⟨w.heap.size, 3, none⟩ = some (.int .i64 m.b.x.toInt) := fun w' h => r3 w' (belowT hb1 h)
    have s4 : ∀ w', Below w1.heap.size w1 w' → w'.cell? ⟨w.heap.size, 4, none⟩ = some (.int .i64 m.b.y.toInt) := fun w' h => r4 w' (belowT hb1 h)
    have s5 : ∀ w', Below w1.heap.size w1 w' → w'.cell? ⟨w.heap.size, 5, none⟩ = some (.int .i64 m.b.z.toInt) := fun w' h => r5 w' (belowT hb1 h)
    have s6 : ∀ w', Below w1.heap.size w1 w' → w'.cell? ⟨w.heap.size, 6, none⟩ = some (.int .i64 m.c.x.toInt) := fun w' h => r6 w' (belowT hb1 h)
    have s7 : ∀ w', Below w1.heap.size w1 w' → w'.cell? ⟨w.heap.size, 7, none⟩ = some (.int .i64 m.c.y.toInt) := fun w' h => r7 w' (belowT hb1 h)
    have s8 : ∀ w', Below w1.heap.size w1 w' → w'.cell? ⟨w.heap.size, 8, none⟩ = some (.int .i64 m.c.z.toInt) := fun w' h => r8 w' (belowT hb1 h)
    have B1 := belowT D1 hb1
    have C1 := Below.refl w1.heap.size w1
    clear r0 r1 r2 r3 r4 r5 r6 r7 r8 hb1 D1
    go_wp2_with fail
    refine wp_loop_rounds 4 ?_
    rw [rounds_succ]
    go_wp2_with fail
    refine wp_loop_rounds 3 ?_
    rw [rounds_succ]
    go_upto_region 9 with fail
    change (Code.region 9 rank9 true).wp Try.prog _ _ _
    refine wp_region_noPanic ?_
    refine wp_region_held_drew (S := fun w' => Below w1.heap.size w1 w') (by kernel_rfl) ((C1).drew) (fun hHeld => ?_)
    refine wpAnyH_take (i := 0) (oi := ({ dst := some 17, op := .move (.tmp 3), type := 3, pos := "ref.go:87", after := #[], guard := none } : Oper)) (v := ?vs1_0) rfl rank9_plain (by as_aux_lemma => kernel_rfl) (by as_aux_lemma => kernel_rfl) (fun _ _ _ h => h) (Or.inl ⟨by rfl, ?ys1_0⟩) (by assumption) ?rs1_0
    case ys1_0 => (intro w hSw; (try dsimp only at hSw); go_simp; try with_reducible rfl)
    try simp only [Act.put, List.setIfInBounds_toArray, List.set_cons_zero, List.set_cons_succ]
    refine wpAnyH_take (i := 1) (oi := ({ dst := some 18, op := .indexAddr 25 (.tmp 1) (.tmp 17), type := 0, pos := "ref.go:87", after := #[{ on := 0, ground := .data }], guard := none } : Oper)) (v := ?vs1_1) rfl rank9_plain (by as_aux_lemma => kernel_rfl) (by as_aux_lemma => kernel_rfl) (fun _ _ _ h => h) (Or.inl ⟨by rfl, ?ys1_1⟩) (by assumption) ?rs1_1
    case ys1_1 => (intro w hSw; (try dsimp only at hSw); go_simp; try with_reducible rfl)
    try simp only [Act.put, List.setIfInBounds_toArray, List.set_cons_zero, List.set_cons_succ]
    refine wpAnyH_take (i := 2) (oi := ({ dst := some 19, op := .load 23 (.tmp 18), type := 23, pos := "ref.go:87", after := #[{ on := 1, ground := .data }], guard := none } : Oper)) (v := ?vs1_2) rfl rank9_plain (by as_aux_lemma => kernel_rfl) (by as_aux_lemma => kernel_rfl) (fun _ _ _ h => h) (Or.inl ⟨by rfl, ?ys1_2⟩) (by assumption) ?rs1_2
    case ys1_2 => (intro w hSw; (try dsimp only at hSw); go_simp; try with_reducible rfl)
    try simp only [Act.put, List.setIfInBounds_toArray, List.set_cons_zero, List.set_cons_succ]
    refine wpAnyH_take (i := 3) (oi := ({ dst := some 20, op := .move (.tmp 4), type := 3, pos := "ref.go:87", after := #[], guard := none } : Oper)) (v := ?vs1_3) rfl rank9_plain (by as_aux_lemma => kernel_rfl) (by as_aux_lemma => kernel_rfl) (fun _ _ _ h => h) (Or.inl ⟨by rfl, ?ys1_3⟩) (by assumption) ?rs1_3
    case ys1_3 => (intro w hSw; (try dsimp only at hSw); go_simp; try with_reducible rfl)
    try simp only [Act.put, List.setIfInBounds_toArray, List.set_cons_zero, List.set_cons_succ]
    refine wpAnyH_take (i := 4) (oi := ({ dst := some 21, op := .indexAddr 25 (.tmp 1) (.tmp 20), type := 0, pos := "ref.go:87", after := #[{ on := 3, ground := .data }], guard := none } : Oper)) (v := ?vs1_4) rfl rank9_plain (by as_aux_lemma => kernel_rfl) (by as_aux_lemma => kernel_rfl) (fun _ _ _ h => h) (Or.inl ⟨by rfl, ?ys1_4⟩) (by assumption) ?rs1_4
    case ys1_4 => (intro w hSw; (try dsimp only at hSw); go_simp; try with_reducible rfl)
    try simp only [Act.put, List.setIfInBounds_toArray, List.set_cons_zero, List.set_cons_succ]
    refine wpAnyH_take (i := 5) (oi := ({ dst := some 22, op := .load 23 (.tmp 21), type := 23, pos := "ref.go:87", after := #[{ on := 4, ground := .data }], guard := none } : Oper)) (v := ?vs1_5) rfl rank9_plain (by as_aux_lemma => kernel_rfl) (by as_aux_lemma => kernel_rfl) (fun _ _ _ h => h) (Or.inl ⟨by rfl, ?ys1_5⟩) (by assumption) ?rs1_5
    case ys1_5 => (intro w hSw; (try dsimp only at hSw); go_simp; try with_reducible rfl)
    try simp only [Act.put, List.setIfInBounds_toArray, List.set_cons_zero, List.set_cons_succ]
    refine wpAnyH_take (i := 7) (oi := ({ dst := some 24, op := .build 23 #[], type := 23, pos := "ref.go:87", after := #[], guard := none } : Oper)) (v := ?vs1_7) rfl rank9_plain (by as_aux_lemma => kernel_rfl) (by as_aux_lemma => kernel_rfl) (fun _ _ _ h => h) (Or.inl ⟨by rfl, ?ys1_7⟩) (by assumption) ?rs1_7
    case ys1_7 => (intro w hSw; (try dsimp only at hSw); go_simp; try with_reducible rfl)
    try simp only [Act.put, List.setIfInBounds_toArray, List.set_cons_zero, List.set_cons_succ]
    refine wpAnyH_ready (rs := [6]) (by as_aux_lemma => kernel_rfl) (by simp) ?_
    refine AllReadyH.cons (o := ({ dst := some 23, op := .call { callee := .value (.func 43), args := #[.tmp 19, .tmp 22], argTypes := #[23, 23] }, type := 23, pos := "ref.go:87", after := #[{ on := 2, ground := .data }, { on := 5, ground := .data }], guard := none } : Oper)) rfl (fun KK hK => ?_) AllReadyH.nil
    rw [if_pos (by rfl)]
    go_simp
    go_at_call 43; refine (CA.out _).mono ?_; rintro e w2 ⟨rfl, hb2⟩
    go_wp2_with fail
    refine hK.out _ _ ?_ (fun hHeld2 => ?_)
    · exact belowT (by assumption) hb2
    clear hK KK hb2
    try simp only [Act.put, List.setIfInBounds_toArray, List.set_cons_zero, List.set_cons_succ]
    refine wpAnyH_take (i := 8) (oi := ({ dst := some 25, op := .binOp .neq 23 (.tmp 23) (.tmp 24) 23, type := 4, pos := "ref.go:87", after := #[{ on := 6, ground := .data }, { on := 7, ground := .data }], guard := none } : Oper)) (v := ?vs1_8) rfl rank9_plain (by as_aux_lemma => kernel_rfl) (by as_aux_lemma => kernel_rfl) (fun _ _ _ h => h) (Or.inl ⟨by rfl, ?ys1_8⟩) (by assumption) ?rs1_8
    case ys1_8 => (intro w hSw; (try dsimp only at hSw); go_simp; try with_reducible rfl)
    try simp only [Act.put, List.setIfInBounds_toArray, List.set_cons_zero, List.set_cons_succ]
    refine wpAnyH_done (by as_aux_lemma => kernel_rfl) ?_ _
    refine NoPanic.normal ?_
    have C2 : Below w1.heap.size w1 w2 := by assumption
    cases qa with
    | false =>
      go_wp2
      go_ret
      exact ⟨rfl, belowT B1 (by assumption)⟩
    | true =>
      go_wp2_with fail
      rw [rounds_succ]
      go_upto_region 9 with fail
      change (Code.region 9 rank9 true).wp Try.prog _ _ _
      refine wp_region_noPanic ?_
      refine wp_region_held_drew (S := fun w' => Below w1.heap.size w1 w') (by kernel_rfl) ((C2).drew) (fun hHeld => ?_)
      refine wpAnyH_take (i := 0) (oi := ({ dst := some 17, op := .move (.tmp 3), type := 3, pos := "ref.go:87", after := #[], guard := none } : Oper)) (v := ?vs2_0) rfl rank9_plain (by as_aux_lemma => kernel_rfl) (by as_aux_lemma => kernel_rfl) (fun _ _ _ h => h) (Or.inl ⟨by rfl, ?ys2_0⟩) (by assumption) ?rs2_0
      case ys2_0 => (intro w hSw; (try dsimp only at hSw); go_simp; try with_reducible rfl)
      try simp only [Act.put, List.setIfInBounds_toArray, List.set_cons_zero, List.set_cons_succ]
      refine wpAnyH_take (i := 1) (oi := ({ dst := some 18, op := .indexAddr 25 (.tmp 1) (.tmp 17), type := 0, pos := "ref.go:87", after := #[{ on := 0, ground := .data }], guard := none } : Oper)) (v := ?vs2_1) rfl rank9_plain (by as_aux_lemma => kernel_rfl) (by as_aux_lemma => kernel_rfl) (fun _ _ _ h => h) (Or.inl ⟨by rfl, ?ys2_1⟩) (by assumption) ?rs2_1
      case ys2_1 => (intro w hSw; (try dsimp only at hSw); go_simp; try with_reducible rfl)
      try simp only [Act.put, List.setIfInBounds_toArray, List.set_cons_zero, List.set_cons_succ]
      refine wpAnyH_take (i := 2) (oi := ({ dst := some 19, op := .load 23 (.tmp 18), type := 23, pos := "ref.go:87", after := #[{ on := 1, ground := .data }], guard := none } : Oper)) (v := ?vs2_2) rfl rank9_plain (by as_aux_lemma => kernel_rfl) (by as_aux_lemma => kernel_rfl) (fun _ _ _ h => h) (Or.inl ⟨by rfl, ?ys2_2⟩) (by assumption) ?rs2_2
      case ys2_2 => (intro w hSw; (try dsimp only at hSw); go_simp; try with_reducible rfl)
      try simp only [Act.put, List.setIfInBounds_toArray, List.set_cons_zero, List.set_cons_succ]
      refine wpAnyH_take (i := 3) (oi := ({ dst := some 20, op := .move (.tmp 4), type := 3, pos := "ref.go:87", after := #[], guard := none } : Oper)) (v := ?vs2_3) rfl rank9_plain (by as_aux_lemma => kernel_rfl) (by as_aux_lemma => kernel_rfl) (fun _ _ _ h => h) (Or.inl ⟨by rfl, ?ys2_3⟩) (by assumption) ?rs2_3
      case ys2_3 => (intro w hSw; (try dsimp only at hSw); go_simp; try with_reducible rfl)
      try simp only [Act.put, List.setIfInBounds_toArray, List.set_cons_zero, List.set_cons_succ]
      refine wpAnyH_take (i := 4) (oi := ({ dst := some 21, op := .indexAddr 25 (.tmp 1) (.tmp 20), type := 0, pos := "ref.go:87", after := #[{ on := 3, ground := .data }], guard := none } : Oper)) (v := ?vs2_4) rfl rank9_plain (by as_aux_lemma => kernel_rfl) (by as_aux_lemma => kernel_rfl) (fun _ _ _ h => h) (Or.inl ⟨by rfl, ?ys2_4⟩) (by assumption) ?rs2_4
      case ys2_4 => (intro w hSw; (try dsimp only at hSw); go_simp; try with_reducible rfl)
      try simp only [Act.put, List.setIfInBounds_toArray, List.set_cons_zero, List.set_cons_succ]
      refine wpAnyH_take (i := 5) (oi := ({ dst := some 22, op := .load 23 (.tmp 21), type := 23, pos := "ref.go:87", after := #[{ on := 4, ground := .data }], guard := none } : Oper)) (v := ?vs2_5) rfl rank9_plain (by as_aux_lemma => kernel_rfl) (by as_aux_lemma => kernel_rfl) (fun _ _ _ h => h) (Or.inl ⟨by rfl, ?ys2_5⟩) (by assumption) ?rs2_5
      case ys2_5 => (intro w hSw; (try dsimp only at hSw); go_simp; try with_reducible rfl)
      try simp only [Act.put, List.setIfInBounds_toArray, List.set_cons_zero, List.set_cons_succ]
      refine wpAnyH_take (i := 7) (oi := ({ dst := some 24, op := .build 23 #[], type := 23, pos := "ref.go:87", after := #[], guard := none } : Oper)) (v := ?vs2_7) rfl rank9_plain (by as_aux_lemma => kernel_rfl) (by as_aux_lemma => kernel_rfl) (fun _ _ _ h => h) (Or.inl ⟨by rfl, ?ys2_7⟩) (by assumption) ?rs2_7
      case ys2_7 => (intro w hSw; (try dsimp only at hSw); go_simp; try with_reducible rfl)
      try simp only [Act.put, List.setIfInBounds_toArray, List.set_cons_zero, List.set_cons_succ]
      refine wpAnyH_ready (rs := [6]) (by as_aux_lemma => kernel_rfl) (by simp) ?_
      refine AllReadyH.cons (o := ({ dst := some 23, op := .call { callee := .value (.func 43), args := #[.tmp 19, .tmp 22], argTypes := #[23, 23] }, type := 23, pos := "ref.go:87", after := #[{ on := 2, ground := .data }, { on := 5, ground := .data }], guard := none } : Oper)) rfl (fun KK hK => ?_) AllReadyH.nil
      rw [if_pos (by rfl)]
      go_simp
      go_at_call 43; refine (CB.out _).mono ?_; rintro e w3 ⟨rfl, hb3⟩
      go_wp2_with fail
      refine hK.out _ _ ?_ (fun hHeld3 => ?_)
      · exact belowT (by assumption) hb3
      clear hK KK hb3
      try simp only [Act.put, List.setIfInBounds_toArray, List.set_cons_zero, List.set_cons_succ]
      refine wpAnyH_take (i := 8) (oi := ({ dst := some 25, op := .binOp .neq 23 (.tmp 23) (.tmp 24) 23, type := 4, pos := "ref.go:87", after := #[{ on := 6, ground := .data }, { on := 7, ground := .data }], guard := none } : Oper)) (v := ?vs2_8) rfl rank9_plain (by as_aux_lemma => kernel_rfl) (by as_aux_lemma => kernel_rfl) (fun _ _ _ h => h) (Or.inl ⟨by rfl, ?ys2_8⟩) (by assumption) ?rs2_8
      case ys2_8 => (intro w hSw; (try dsimp only at hSw); go_simp; try with_reducible rfl)
      try simp only [Act.put, List.setIfInBounds_toArray, List.set_cons_zero, List.set_cons_succ]
      refine wpAnyH_done (by as_aux_lemma => kernel_rfl) ?_ _
      refine NoPanic.normal ?_
      have C3 : Below w1.heap.size w1 w3 := by assumption
      cases qb with
      | false =>
        go_wp2
        go_ret
        exact ⟨rfl, belowT B1 (by assumption)⟩
      | true =>
        go_wp2_with fail
        rw [rounds_succ]
        go_wp2_with fail
        rw [rounds_succ]
        go_wp2_with fail
        refine wp_loop_rounds 2 ?_
        rw [rounds_succ]
        go_upto_region 9 with fail
        change (Code.region 9 rank9 true).wp Try.prog _ _ _
        refine wp_region_noPanic ?_
        refine wp_region_held_drew (S := fun w' => Below w1.heap.size w1 w') (by kernel_rfl) ((C3).drew) (fun hHeld => ?_)
        refine wpAnyH_take (i := 0) (oi := ({ dst := some 17, op := .move (.tmp 3), type := 3, pos := "ref.go:87", after := #[], guard := none } : Oper)) (v := ?vs3_0) rfl rank9_plain (by as_aux_lemma => kernel_rfl) (by as_aux_lemma => kernel_rfl) (fun _ _ _ h => h) (Or.inl ⟨by rfl, ?ys3_0⟩) (by assumption) ?rs3_0
        case ys3_0 => (intro w hSw; (try dsimp only at hSw); go_simp; try with_reducible rfl)
        try simp only [Act.put, List.setIfInBounds_toArray, List.set_cons_zero, List.set_cons_succ]
        refine wpAnyH_take (i := 1) (oi := ({ dst := some 18, op := .indexAddr 25 (.tmp 1) (.tmp 17), type := 0, pos := "ref.go:87", after := #[{ on := 0, ground := .data }], guard := none } : Oper)) (v := ?vs3_1) rfl rank9_plain (by as_aux_lemma => kernel_rfl) (by as_aux_lemma => kernel_rfl) (fun _ _ _ h => h) (Or.inl ⟨by rfl, ?ys3_1⟩) (by assumption) ?rs3_1
        case ys3_1 => (intro w hSw; (try dsimp only at hSw); go_simp; try with_reducible rfl)
        try simp only [Act.put, List.setIfInBounds_toArray, List.set_cons_zero, List.set_cons_succ]
        refine wpAnyH_take (i := 2) (oi := ({ dst := some 19, op := .load 23 (.tmp 18), type := 23, pos := "ref.go:87", after := #[{ on := 1, ground := .data }], guard := none } : Oper)) (v := ?vs3_2) rfl rank9_plain (by as_aux_lemma => kernel_rfl) (by as_aux_lemma => kernel_rfl) (fun _ _ _ h => h) (Or.inl ⟨by rfl, ?ys3_2⟩) (by assumption) ?rs3_2
        case ys3_2 => (intro w hSw; (try dsimp only at hSw); go_simp; try with_reducible rfl)
        try simp only [Act.put, List.setIfInBounds_toArray, List.set_cons_zero, List.set_cons_succ]
        refine wpAnyH_take (i := 3) (oi := ({ dst := some 20, op := .move (.tmp 4), type := 3, pos := "ref.go:87", after := #[], guard := none } : Oper)) (v := ?vs3_3) rfl rank9_plain (by as_aux_lemma => kernel_rfl) (by as_aux_lemma => kernel_rfl) (fun _ _ _ h => h) (Or.inl ⟨by rfl, ?ys3_3⟩) (by assumption) ?rs3_3
        case ys3_3 => (intro w hSw; (try dsimp only at hSw); go_simp; try with_reducible rfl)
        try simp only [Act.put, List.setIfInBounds_toArray, List.set_cons_zero, List.set_cons_succ]
        refine wpAnyH_take (i := 4) (oi := ({ dst := some 21, op := .indexAddr 25 (.tmp 1) (.tmp 20), type := 0, pos := "ref.go:87", after := #[{ on := 3, ground := .data }], guard := none } : Oper)) (v := ?vs3_4) rfl rank9_plain (by as_aux_lemma => kernel_rfl) (by as_aux_lemma => kernel_rfl) (fun _ _ _ h => h) (Or.inl ⟨by rfl, ?ys3_4⟩) (by assumption) ?rs3_4
        case ys3_4 => (intro w hSw; (try dsimp only at hSw); go_simp; try with_reducible rfl)
        try simp only [Act.put, List.setIfInBounds_toArray, List.set_cons_zero, List.set_cons_succ]
        refine wpAnyH_take (i := 5) (oi := ({ dst := some 22, op := .load 23 (.tmp 21), type := 23, pos := "ref.go:87", after := #[{ on := 4, ground := .data }], guard := none } : Oper)) (v := ?vs3_5) rfl rank9_plain (by as_aux_lemma => kernel_rfl) (by as_aux_lemma => kernel_rfl) (fun _ _ _ h => h) (Or.inl ⟨by rfl, ?ys3_5⟩) (by assumption) ?rs3_5
        case ys3_5 => (intro w hSw; (try dsimp only at hSw); go_simp; try with_reducible rfl)
        try simp only [Act.put, List.setIfInBounds_toArray, List.set_cons_zero, List.set_cons_succ]
        refine wpAnyH_take (i := 7) (oi := ({ dst := some 24, op := .build 23 #[], type := 23, pos := "ref.go:87", after := #[], guard := none } : Oper)) (v := ?vs3_7) rfl rank9_plain (by as_aux_lemma => kernel_rfl) (by as_aux_lemma => kernel_rfl) (fun _ _ _ h => h) (Or.inl ⟨by rfl, ?ys3_7⟩) (by assumption) ?rs3_7
        case ys3_7 => (intro w hSw; (try dsimp only at hSw); go_simp; try with_reducible rfl)
        try simp only [Act.put, List.setIfInBounds_toArray, List.set_cons_zero, List.set_cons_succ]
        refine wpAnyH_ready (rs := [6]) (by as_aux_lemma => kernel_rfl) (by simp) ?_
        refine AllReadyH.cons (o := ({ dst := some 23, op := .call { callee := .value (.func 43), args := #[.tmp 19, .tmp 22], argTypes := #[23, 23] }, type := 23, pos := "ref.go:87", after := #[{ on := 2, ground := .data }, { on := 5, ground := .data }], guard := none } : Oper)) rfl (fun KK hK => ?_) AllReadyH.nil
        rw [if_pos (by rfl)]
        go_simp
        go_at_call 43; refine (CC.out _).mono ?_; rintro e w4 ⟨rfl, hb4⟩
        go_wp2_with fail
        refine hK.out _ _ ?_ (fun hHeld4 => ?_)
        · exact belowT (by assumption) hb4
        clear hK KK hb4
        try simp only [Act.put, List.setIfInBounds_toArray, List.set_cons_zero, List.set_cons_succ]
        refine wpAnyH_take (i := 8) (oi := ({ dst := some 25, op := .binOp .neq 23 (.tmp 23) (.tmp 24) 23, type := 4, pos := "ref.go:87", after := #[{ on := 6, ground := .data }, { on := 7, ground := .data }], guard := none } : Oper)) (v := ?vs3_8) rfl rank9_plain (by as_aux_lemma => kernel_rfl) (by as_aux_lemma => kernel_rfl) (fun _ _ _ h => h) (Or.inl ⟨by rfl, ?ys3_8⟩) (by assumption) ?rs3_8
        case ys3_8 => (intro w hSw; (try dsimp only at hSw); go_simp; try with_reducible rfl)
        try simp only [Act.put, List.setIfInBounds_toArray, List.set_cons_zero, List.set_cons_succ]
        refine wpAnyH_done (by as_aux_lemma => kernel_rfl) ?_ _
        refine NoPanic.normal ?_
        have C4 : Below w1.heap.size w1 w4 := by assumption
        cases qc with
        | false =>
          go_wp2
          go_ret
          exact ⟨rfl, belowT B1 (by assumption)⟩
        | true =>
          go_wp2_with fail
          rw [rounds_succ]
          go_wp2_with fail
          rw [rounds_succ]
          go_wp2_with fail
          refine wp_loop_rounds 1 ?_
          rw [rounds_succ]
          go_wp2_with fail
          rw [rounds_succ]
          have u0 := s0 w4 C4
          have u1 := s1 w4 C4
          have u2 := s2 w4 C4
          have u3 := s3 w4 C4
          have u4 := s4 w4 C4
          have u5 := s5 w4 C4
          have u6 := s6 w4 C4
          have u7 := s7 w4 C4
          have u8 := s8 w4 C4
          have BH := Lib.hid (belowT B1 C4)
          clear s0 s1 s2 s3 s4 s5 s6 s7 s8 C1 C2 C3 C4 B1
          cases qm
          all_goals
            go_wp2
            go_ret
            exact ⟨rfl, BH.out⟩
end Ref8
end Go.Proofs.Ytjdpcmcekockgaa
