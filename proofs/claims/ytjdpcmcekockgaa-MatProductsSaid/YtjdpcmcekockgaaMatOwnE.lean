/- The landed mat's own contracts (commit f8f2e27): Kernel. -/
import Derived.Test.YtjdpcmcekockgaaMatOwnA
import Derived.Test.YtjdpcmcekockgaaMatKer
namespace Go.Proofs.Ytjdpcmcekockgaa
open Go.RowKit
namespace Own8
/-- The operations of a drawn region, as the translation has them. -/
def okernel : Array Oper := #[
  { dst := some 31, op := .load 23 (.tmp 7), type := 23, pos := "mat.go:120", after := #[], guard := none },
  { dst := some 32, op := .move (.tmp 8), type := 3, pos := "mat.go:120", after := #[], guard := none },
  { dst := some 33, op := .call { callee := .value (.func 42), args := #[.tmp 32], argTypes := #[3] }, type := 23, pos := "mat.go:120", after := #[{ on := 1, ground := .data }], guard := none },
  { dst := some 34, op := .call { callee := .value (.func 39), args := #[.tmp 31, .tmp 33], argTypes := #[23, 23] }, type := 23, pos := "mat.go:120", after := #[{ on := 0, ground := .data }, { on := 2, ground := .data }, { on := 2, ground := .chain }], guard := none },
  { dst := some 9, op := .alloc 23, type := 0, pos := "mat.go:120", after := #[], guard := none },
  { dst := none, op := .store 23 (.tmp 9) (.tmp 34), type := 0, pos := "mat.go:120", after := #[{ on := 4, ground := .data }, { on := 3, ground := .data }, { on := 3, ground := .chain }, { on := 0, ground := .phase }, { on := 1, ground := .phase }, { on := 2, ground := .phase }, { on := 3, ground := .phase }, { on := 4, ground := .phase }], guard := none }]
theorem okernel_plain : Region.noSelect okernel = true := by kernel_rfl

set_option maxHeartbeats 40000000 in
set_option maxRecDepth 100000 in
theorem Kernel_flat (m : M3) (w : World) (hd : m.det = 0) :
    Calls Try.prog 21 #[mv m] w fun e w' => e = .returned (.tuple #[vv m.kernel, .bool true]) ∧ Below w.heap.size w w' := by
  have DE := Lib.hid (Det_any m)
  rw [hd, show (0 : BitVec 64).toInt = 0 by decide] at DE
  clear hd
  have CR := Lib.hid (Crosses_any m)
  obtain ⟨i0, i1, i2⟩ := mat_at m
  obtain ⟨j0, j1, j2⟩ := mat_at m.crosses
  have Z0 := vec_zero m.crosses.a
  have Z1 := vec_zero m.crosses.b
  have Z2 := vec_zero m.crosses.c
  have C3 := Lib.hid (Own7.Cross_any m.a (V3.one 0)); have Z3 := vec_zero (m.a.cross (V3.one 0))
  have C4 := Lib.hid (Own7.Cross_any m.a (V3.one 1)); have Z4 := vec_zero (m.a.cross (V3.one 1))
  have C5 := Lib.hid (Own7.Cross_any m.a (V3.one 2)); have Z5 := vec_zero (m.a.cross (V3.one 2))
  have C6 := Lib.hid (Own7.Cross_any m.b (V3.one 0)); have Z6 := vec_zero (m.b.cross (V3.one 0))
  have C7 := Lib.hid (Own7.Cross_any m.b (V3.one 1)); have Z7 := vec_zero (m.b.cross (V3.one 1))
  have C8 := Lib.hid (Own7.Cross_any m.b (V3.one 2)); have Z8 := vec_zero (m.b.cross (V3.one 2))
  have C9 := Lib.hid (Own7.Cross_any m.c (V3.one 0)); have Z9 := vec_zero (m.c.cross (V3.one 0))
  have C10 := Lib.hid (Own7.Cross_any m.c (V3.one 1)); have Z10 := vec_zero (m.c.cross (V3.one 1))
  have C11 := Lib.hid (Own7.Cross_any m.c (V3.one 2)); have Z11 := vec_zero (m.c.cross (V3.one 2))
  have O0 := Lib.hid (Own7.One_any 0); have O1 := Lib.hid (Own7.One_any 1); have O2 := Lib.hid (Own7.One_any 2)
  have er : m.kernel = if decide (m.crosses.a = V3.zero) = false then m.crosses.a else if decide (m.crosses.b = V3.zero) = false then m.crosses.b else if decide (m.crosses.c = V3.zero) = false then m.crosses.c else if decide (m.a.cross (V3.one 0) = V3.zero) = false then m.a.cross (V3.one 0) else if decide (m.a.cross (V3.one 1) = V3.zero) = false then m.a.cross (V3.one 1) else if decide (m.a.cross (V3.one 2) = V3.zero) = false then m.a.cross (V3.one 2) else if decide (m.b.cross (V3.one 0) = V3.zero) = false then m.b.cross (V3.one 0) else if decide (m.b.cross (V3.one 1) = V3.zero) = false then m.b.cross (V3.one 1) else if decide (m.b.cross (V3.one 2) = V3.zero) = false then m.b.cross (V3.one 2) else if decide (m.c.cross (V3.one 0) = V3.zero) = false then m.c.cross (V3.one 0) else if decide (m.c.cross (V3.one 1) = V3.zero) = false then m.c.cross (V3.one 1) else if decide (m.c.cross (V3.one 2) = V3.zero) = false then m.c.cross (V3.one 2) else V3.one 0 := by
    unfold M3.kernel M3.crosses; simp only [decide_eq_false_iff_not, ne_eq]
  rw [er]
  clear er
  have S0 := ((Sp.none w).more [.int .i64 m.a.x.toInt, .int .i64 m.a.y.toInt, .int .i64 m.a.z.toInt, .int .i64 m.b.x.toInt, .int .i64 m.b.y.toInt, .int .i64 m.b.z.toInt, .int .i64 m.c.x.toInt, .int .i64 m.c.y.toInt, .int .i64 m.c.z.toInt] 25).more [.int .i64 0, .int .i64 0, .int .i64 0] 23
  simp only [heap1] at S0
  have S1 := ((S0.forget 1 rfl 0).forget 1 rfl 1).forget 1 rfl 2
  have I1 := Lib.hid S1
  clear S0 S1
  generalize decide (m.crosses.a = V3.zero) = q0 at *
  generalize decide (m.crosses.b = V3.zero) = q1 at *
  generalize decide (m.crosses.c = V3.zero) = q2 at *
  generalize m.crosses = c at *
  generalize decide (m.a.cross (V3.one 0) = V3.zero) = q3 at *; generalize m.a.cross (V3.one 0) = x3 at *
  generalize decide (m.a.cross (V3.one 1) = V3.zero) = q4 at *; generalize m.a.cross (V3.one 1) = x4 at *
  generalize decide (m.a.cross (V3.one 2) = V3.zero) = q5 at *; generalize m.a.cross (V3.one 2) = x5 at *
  generalize decide (m.b.cross (V3.one 0) = V3.zero) = q6 at *; generalize m.b.cross (V3.one 0) = x6 at *
  generalize decide (m.b.cross (V3.one 1) = V3.zero) = q7 at *; generalize m.b.cross (V3.one 1) = x7 at *
  generalize decide (m.b.cross (V3.one 2) = V3.zero) = q8 at *; generalize m.b.cross (V3.one 2) = x8 at *
  generalize decide (m.c.cross (V3.one 0) = V3.zero) = q9 at *; generalize m.c.cross (V3.one 0) = x9 at *
  generalize decide (m.c.cross (V3.one 1) = V3.zero) = q10 at *; generalize m.c.cross (V3.one 1) = x10 at *
  generalize decide (m.c.cross (V3.one 2) = V3.zero) = q11 at *; generalize m.c.cross (V3.one 2) = x11 at *
  go_enter Try.func21, Try.ntmps21
  go_wp2_with fail
  refine (DE.out _).mono ?_; rintro e w1 ⟨rfl, hb1⟩
  have I2 := Lib.hid (I1.out.keep hb1)
  clear hb1 I1 DE
  go_upto_region 3 with fail
  have m0 := I2.out.at 0 rfl 0 (v := .int .i64 m.a.x.toInt) rfl
  have m1 := I2.out.at 0 rfl 1 (v := .int .i64 m.a.y.toInt) rfl
  have m2 := I2.out.at 0 rfl 2 (v := .int .i64 m.a.z.toInt) rfl
  have m3 := I2.out.at 0 rfl 3 (v := .int .i64 m.b.x.toInt) rfl
  have m4 := I2.out.at 0 rfl 4 (v := .int .i64 m.b.y.toInt) rfl
  have m5 := I2.out.at 0 rfl 5 (v := .int .i64 m.b.z.toInt) rfl
  have m6 := I2.out.at 0 rfl 6 (v := .int .i64 m.c.x.toInt) rfl
  have m7 := I2.out.at 0 rfl 7 (v := .int .i64 m.c.y.toInt) rfl
  have m8 := I2.out.at 0 rfl 8 (v := .int .i64 m.c.z.toInt) rfl
  go_wp2_with fail
  refine (CR.out _).mono ?_; rintro e w2 ⟨rfl, hb2⟩
  have hS := I2.out.keep hb2
  clear hb2 I2 CR m0 m1 m2 m3 m4 m5 m6 m7 m8
  go_wp2_with fail
  refine wp_loop_rounds 4 ?_
  rename World => W0
  rw [rounds_succ]
  go_upto_region 6 with fail
  obtain ⟨w3, hX, hN⟩ := (hS.more [.int .i64 c.a.x.toInt, .int .i64 c.a.y.toInt, .int .i64 c.a.z.toInt] 23).named
  rw [← hX]
  clear hX hS
  have g0 := hN.at 2 rfl 0 (v := .int .i64 c.a.x.toInt) rfl
  have g1 := hN.at 2 rfl 1 (v := .int .i64 c.a.y.toInt) rfl
  have g2 := hN.at 2 rfl 2 (v := .int .i64 c.a.z.toInt) rfl
  have hS := hN.take 2
  clear hN
  cases q0 with
  | false =>
    obtain ⟨y0, k0, f0⟩ := hS.there 1 rfl 0 rfl; obtain ⟨y1, k1, f1⟩ := hS.there 1 rfl 1 rfl; obtain ⟨y2, k2, f2⟩ := hS.there 1 rfl 2 rfl
    have BH := Lib.hid hS.below
    clear hS
    go_wp2_with fail
    refine bodyPost_ret (v := .tuple #[vv c.a, .bool true]) (by simp [results, Try.results21, go_sem, *]) rfl ⟨rfl, ?_⟩
    iterate 3 refine Below.setCell (p := ⟨w.heap.size + 1, _, none⟩) ?_ (show w.heap.size ≤ w.heap.size + 1 by omega) _
    exact BH.out
  | true =>
    go_wp2_with fail
    clear g0 g1 g2
    rw [rounds_succ]
    go_upto_region 6 with fail
    obtain ⟨w3, hX, hN⟩ := (hS.more [.int .i64 c.b.x.toInt, .int .i64 c.b.y.toInt, .int .i64 c.b.z.toInt] 23).named
    rw [← hX]
    clear hX hS
    have g0 := hN.at 2 rfl 0 (v := .int .i64 c.b.x.toInt) rfl
    have g1 := hN.at 2 rfl 1 (v := .int .i64 c.b.y.toInt) rfl
    have g2 := hN.at 2 rfl 2 (v := .int .i64 c.b.z.toInt) rfl
    have hS := hN.take 2
    clear hN
    cases q1 with
    | false =>
      obtain ⟨y0, k0, f0⟩ := hS.there 1 rfl 0 rfl; obtain ⟨y1, k1, f1⟩ := hS.there 1 rfl 1 rfl; obtain ⟨y2, k2, f2⟩ := hS.there 1 rfl 2 rfl
      have BH := Lib.hid hS.below
      clear hS
      go_wp2_with fail
      refine bodyPost_ret (v := .tuple #[vv c.b, .bool true]) (by simp [results, Try.results21, go_sem, *]) rfl ⟨rfl, ?_⟩
      iterate 3 refine Below.setCell (p := ⟨w.heap.size + 1, _, none⟩) ?_ (show w.heap.size ≤ w.heap.size + 1 by omega) _
      exact BH.out
    | true =>
      go_wp2_with fail
      clear g0 g1 g2
      rw [rounds_succ]
      go_upto_region 6 with fail
      obtain ⟨w3, hX, hN⟩ := (hS.more [.int .i64 c.c.x.toInt, .int .i64 c.c.y.toInt, .int .i64 c.c.z.toInt] 23).named
      rw [← hX]
      clear hX hS
      have g0 := hN.at 2 rfl 0 (v := .int .i64 c.c.x.toInt) rfl
      have g1 := hN.at 2 rfl 1 (v := .int .i64 c.c.y.toInt) rfl
      have g2 := hN.at 2 rfl 2 (v := .int .i64 c.c.z.toInt) rfl
      have hS := hN.take 2
      clear hN
      cases q2 with
      | false =>
        obtain ⟨y0, k0, f0⟩ := hS.there 1 rfl 0 rfl; obtain ⟨y1, k1, f1⟩ := hS.there 1 rfl 1 rfl; obtain ⟨y2, k2, f2⟩ := hS.there 1 rfl 2 rfl
        have BH := Lib.hid hS.below
        clear hS
        go_wp2_with fail
        refine bodyPost_ret (v := .tuple #[vv c.c, .bool true]) (by simp [results, Try.results21, go_sem, *]) rfl ⟨rfl, ?_⟩
        iterate 3 refine Below.setCell (p := ⟨w.heap.size + 1, _, none⟩) ?_ (show w.heap.size ≤ w.heap.size + 1 by omega) _
        exact BH.out
      | true =>
        go_wp2_with fail
        clear g0 g1 g2
        rw [rounds_succ]
        go_upto_region 9 with fail
        have m0 := hS.at 0 rfl 0 (v := .int .i64 m.a.x.toInt) rfl
        have m1 := hS.at 0 rfl 1 (v := .int .i64 m.a.y.toInt) rfl
        have m2 := hS.at 0 rfl 2 (v := .int .i64 m.a.z.toInt) rfl
        have m3 := hS.at 0 rfl 3 (v := .int .i64 m.b.x.toInt) rfl
        have m4 := hS.at 0 rfl 4 (v := .int .i64 m.b.y.toInt) rfl
        have m5 := hS.at 0 rfl 5 (v := .int .i64 m.b.z.toInt) rfl
        have m6 := hS.at 0 rfl 6 (v := .int .i64 m.c.x.toInt) rfl
        have m7 := hS.at 0 rfl 7 (v := .int .i64 m.c.y.toInt) rfl
        have m8 := hS.at 0 rfl 8 (v := .int .i64 m.c.z.toInt) rfl
        have HS := Lib.hid hS
        clear hS
        go_wp2_with fail
        have hS := HS.out
        clear HS m0 m1 m2 m3 m4 m5 m6 m7 m8
        refine wp_loop_rounds 4 ?_
        rw [rounds_succ]
        go_upto_region 12 with fail
        obtain ⟨W1, hX, hN⟩ := (hS.more [.int .i64 m.a.x.toInt, .int .i64 m.a.y.toInt, .int .i64 m.a.z.toInt] 23).named
        rw [← hX]
        clear hX hS
        obtain ⟨Ar, hAr⟩ : ∃ Ar, Ar = w3.heap.size := ⟨_, rfl⟩
        rw [← hAr] at hN ⊢
        clear hAr
        rename World => W0
        have HN := Lib.hid hN
        clear hN
        go_wp2_with fail
        have hS := HN.out
        clear HN
        refine wp_loop_rounds 4 ?_
        rw [rounds_succ]
        go_upto_region 15 with fail
        have HS := Lib.hid hS
        have r0 : ∀ w', Below W0.heap.size W0 w' → w'.cell? ⟨Ar, 0, none⟩ = some (.int .i64 m.a.x.toInt) := fun w' h => (HS.out.keep h).at 2 rfl 0 rfl
        have r1 : ∀ w', Below W0.heap.size W0 w' → w'.cell? ⟨Ar, 1, none⟩ = some (.int .i64 m.a.y.toInt) := fun w' h => (HS.out.keep h).at 2 rfl 1 rfl
        have r2 : ∀ w', Below W0.heap.size W0 w' → w'.cell? ⟨Ar, 2, none⟩ = some (.int .i64 m.a.z.toInt) := fun w' h => (HS.out.keep h).at 2 rfl 2 rfl
        clear hS
        go_cut [9, 24, 25, 28] from 9 to 35 (fun p u v q wx => ∃ X, p = .pointer (some ⟨X, 0, none⟩) ∧ u = mv m ∧ v = .int .i64 0 ∧ q = .int .i64 0 ∧ Sp w [(w.heap.size, [some (.int .i64 m.a.x.toInt), some (.int .i64 m.a.y.toInt), some (.int .i64 m.a.z.toInt), some (.int .i64 m.b.x.toInt), some (.int .i64 m.b.y.toInt), some (.int .i64 m.b.z.toInt), some (.int .i64 m.c.x.toInt), some (.int .i64 m.c.y.toInt), some (.int .i64 m.c.z.toInt)]), (w.heap.size + 1, [none, none, none]), (Ar, [some (.int .i64 m.a.x.toInt), some (.int .i64 m.a.y.toInt), some (.int .i64 m.a.z.toInt)])] wx ∧ OwnL wx X (vl x3))
        case first =>
          change (Code.region 15 okernel true).wp Try.prog _ _ _
          refine wp_region_noPanic ?_
          refine wp_region_held_drew (S := fun w' => Below W0.heap.size W0 w') (by kernel_rfl) ((Below.refl _ _).drew) (fun hHeld => ?_)
          refine wpAnyH_take (i := 0) (oi := ({ dst := some 31, op := .load 23 (.tmp 7), type := 23, pos := "mat.go:120", after := #[], guard := none } : Oper)) (v := ?vv3_1_) rfl okernel_plain (by as_aux_lemma => kernel_rfl) (by as_aux_lemma => kernel_rfl) (fun _ _ _ h => h) (Or.inl ⟨by rfl, ?yv3_1_⟩) (by assumption) ?rv3_1_
          case yv3_1_ => (intro w hSw; (try dsimp only at hSw); go_simp; try with_reducible rfl)
          try simp only [Act.put, List.setIfInBounds_toArray, List.set_cons_zero, List.set_cons_succ]
          refine wpAnyH_take (i := 1) (oi := ({ dst := some 32, op := .move (.tmp 8), type := 3, pos := "mat.go:120", after := #[], guard := none } : Oper)) (v := ?vv3_2_) rfl okernel_plain (by as_aux_lemma => kernel_rfl) (by as_aux_lemma => kernel_rfl) (fun _ _ _ h => h) (Or.inl ⟨by rfl, ?yv3_2_⟩) (by assumption) ?rv3_2_
          case yv3_2_ => (intro w hSw; (try dsimp only at hSw); go_simp; try with_reducible rfl)
          try simp only [Act.put, List.setIfInBounds_toArray, List.set_cons_zero, List.set_cons_succ]
          refine wpAnyH_ready (rs := [2, 4]) (by as_aux_lemma => kernel_rfl) (by simp) ?_
          refine AllReadyH.cons (o := ({ dst := some 33, op := .call { callee := .value (.func 42), args := #[.tmp 32], argTypes := #[3] }, type := 23, pos := "mat.go:120", after := #[{ on := 1, ground := .data }], guard := none } : Oper)) rfl (fun KK hK => ?_) (AllReadyH.cons (o := ({ dst := some 9, op := .alloc 23, type := 0, pos := "mat.go:120", after := #[], guard := none } : Oper)) rfl (fun KK hK => ?_) AllReadyH.nil)
          · skip
            rw [if_pos (by rfl)]
            go_simp
            go_at_call 42; refine (O0.out _).mono ?_; rintro e w4 ⟨rfl, hb4⟩
            go_wp2_with fail
            refine hK.out _ _ ?_ (fun hHeld4 => ?_)
            · exact belowT (by assumption) hb4
            have H4 : Below W0.heap.size W0 w4 := by assumption
            have S4 := H4.size
            clear hK KK hb4
            try simp only [Act.put, List.setIfInBounds_toArray, List.set_cons_zero, List.set_cons_succ]
            refine wpAnyH_ready (rs := [3, 4]) (by as_aux_lemma => kernel_rfl) (by simp) ?_
            refine AllReadyH.cons (o := ({ dst := some 34, op := .call { callee := .value (.func 39), args := #[.tmp 31, .tmp 33], argTypes := #[23, 23] }, type := 23, pos := "mat.go:120", after := #[{ on := 0, ground := .data }, { on := 2, ground := .data }, { on := 2, ground := .chain }], guard := none } : Oper)) rfl (fun KK hK => ?_) (AllReadyH.cons (o := ({ dst := some 9, op := .alloc 23, type := 0, pos := "mat.go:120", after := #[], guard := none } : Oper)) rfl (fun KK hK => ?_) AllReadyH.nil)
            · skip
              rw [if_pos (by rfl)]
              go_simp
              go_at_call 39; refine (C3.out _).mono ?_; rintro e w5 ⟨rfl, hb5⟩
              go_wp2_with fail
              refine hK.out _ _ ?_ (fun hHeld5 => ?_)
              · exact belowT (by assumption) hb5
              have H5 : Below W0.heap.size W0 w5 := by assumption
              have S5 := H5.size
              clear hK KK hb5
              try simp only [Act.put, List.setIfInBounds_toArray, List.set_cons_zero, List.set_cons_succ]
              refine wpAnyH_ready (rs := [4]) (by as_aux_lemma => kernel_rfl) (by simp) ?_
              refine AllReadyH.cons (o := ({ dst := some 9, op := .alloc 23, type := 0, pos := "mat.go:120", after := #[], guard := none } : Oper)) rfl (fun KK hK => ?_) AllReadyH.nil
              rw [if_pos (by rfl)]
              go_simp
              refine hK.out _ _ ?_ (fun _hHeldA => ?_)
              · first | exact belowT (by assumption) (below1 _ _) | exact (belowT (by assumption) (below1 _ _)).drew
              clear hK KK
              try simp only [Act.put, List.setIfInBounds_toArray, List.set_cons_zero, List.set_cons_succ]
              refine wpAnyH_ready (rs := [5]) (by as_aux_lemma => kernel_rfl) (by simp) ?_
              refine AllReadyH.cons (o := ({ dst := none, op := .store 23 (.tmp 9) (.tmp 34), type := 0, pos := "mat.go:120", after := #[{ on := 4, ground := .data }, { on := 3, ground := .data }, { on := 3, ground := .chain }, { on := 0, ground := .phase }, { on := 1, ground := .phase }, { on := 2, ground := .phase }, { on := 3, ground := .phase }, { on := 4, ground := .phase }], guard := none } : Oper)) rfl (fun KK hK => ?_) AllReadyH.nil
              rw [if_pos (by rfl)]
              have p0 := (ownl w5 [.int .i64 0, .int .i64 0, .int .i64 0] 23).1.at 0 rfl
              have q0 := (ownl w5 [.int .i64 0, .int .i64 0, .int .i64 0] 23).2 0 (by simp)
              have p1 := (ownl w5 [.int .i64 0, .int .i64 0, .int .i64 0] 23).1.at 1 rfl
              have q1 := (ownl w5 [.int .i64 0, .int .i64 0, .int .i64 0] 23).2 1 (by simp)
              have p2 := (ownl w5 [.int .i64 0, .int .i64 0, .int .i64 0] 23).1.at 2 rfl
              have q2 := (ownl w5 [.int .i64 0, .int .i64 0, .int .i64 0] 23).2 2 (by simp)
              go_simp
              refine hK.out _ _ ?_ (fun _hHeldS => ?_)
              · exact belowT H5 (below1 w5 (.cells #[.int .i64 x3.x.toInt, .int .i64 x3.y.toInt, .int .i64 x3.z.toInt] 23))
              clear hK KK
              try simp only [Act.put, List.setIfInBounds_toArray, List.set_cons_zero, List.set_cons_succ]
              refine wpAnyH_done (by as_aux_lemma => kernel_rfl) ?_ _
              refine NoPanic.normal ?_
              have BF := belowT H5 (below1 w5 (.cells #[.int .i64 x3.x.toInt, .int .i64 x3.y.toInt, .int .i64 x3.z.toInt] 23))
              have OF := ownl w5 [.int .i64 x3.x.toInt, .int .i64 x3.y.toInt, .int .i64 x3.z.toInt] 23
              have SF := HS.out.keep BF
              go_wp2_with fail
              go_meet
              exact ⟨_, rfl, rfl, rfl, rfl, SF, OF⟩
            · skip
              rw [if_pos (by rfl)]
              go_simp
              refine hK.out _ _ ?_ (fun _hHeldA => ?_)
              · first | exact belowT (by assumption) (below1 _ _) | exact (belowT (by assumption) (below1 _ _)).drew
              clear hK KK
              try simp only [Act.put, List.setIfInBounds_toArray, List.set_cons_zero, List.set_cons_succ]
              refine wpAnyH_ready (rs := [3]) (by as_aux_lemma => kernel_rfl) (by simp) ?_
              refine AllReadyH.cons (o := ({ dst := some 34, op := .call { callee := .value (.func 39), args := #[.tmp 31, .tmp 33], argTypes := #[23, 23] }, type := 23, pos := "mat.go:120", after := #[{ on := 0, ground := .data }, { on := 2, ground := .data }, { on := 2, ground := .chain }], guard := none } : Oper)) rfl (fun KK hK => ?_) AllReadyH.nil
              rw [if_pos (by rfl)]
              go_simp
              go_at_call 39; refine (C3.out _).mono ?_; rintro e w5 ⟨rfl, hb5⟩
              go_wp2_with fail
              refine hK.out _ _ ?_ (fun hHeld5 => ?_)
              · exact belowT (by assumption) hb5
              have OA := (ownl w4 [.int .i64 0, .int .i64 0, .int .i64 0] 23).keep hb5
              have H5 : Below W0.heap.size W0 w5 := by assumption
              have S5 := H5.size
              clear hK KK hb5
              try simp only [Act.put, List.setIfInBounds_toArray, List.set_cons_zero, List.set_cons_succ]
              refine wpAnyH_ready (rs := [5]) (by as_aux_lemma => kernel_rfl) (by simp) ?_
              refine AllReadyH.cons (o := ({ dst := none, op := .store 23 (.tmp 9) (.tmp 34), type := 0, pos := "mat.go:120", after := #[{ on := 4, ground := .data }, { on := 3, ground := .data }, { on := 3, ground := .chain }, { on := 0, ground := .phase }, { on := 1, ground := .phase }, { on := 2, ground := .phase }, { on := 3, ground := .phase }, { on := 4, ground := .phase }], guard := none } : Oper)) rfl (fun KK hK => ?_) AllReadyH.nil
              rw [if_pos (by rfl)]
              have p0 := (OA).1.at 0 rfl
              have q0 := (OA).2 0 (by simp)
              have p1 := (OA).1.at 1 rfl
              have q1 := (OA).2 1 (by simp)
              have p2 := (OA).1.at 2 rfl
              have q2 := (OA).2 2 (by simp)
              go_simp
              refine hK.out _ _ ?_ (fun _hHeldS => ?_)
              · exact (((H5).setCell (p := ⟨w4.heap.size, 0, none⟩) (show W0.heap.size ≤ w4.heap.size by omega) (.int .i64 x3.x.toInt)).setCell (p := ⟨w4.heap.size, 1, none⟩) (show W0.heap.size ≤ w4.heap.size by omega) (.int .i64 x3.y.toInt)).setCell (p := ⟨w4.heap.size, 2, none⟩) (show W0.heap.size ≤ w4.heap.size by omega) (.int .i64 x3.z.toInt)
              clear hK KK
              try simp only [Act.put, List.setIfInBounds_toArray, List.set_cons_zero, List.set_cons_succ]
              refine wpAnyH_done (by as_aux_lemma => kernel_rfl) ?_ _
              refine NoPanic.normal ?_
              have BF := (((H5).setCell (p := ⟨w4.heap.size, 0, none⟩) (show W0.heap.size ≤ w4.heap.size by omega) (.int .i64 x3.x.toInt)).setCell (p := ⟨w4.heap.size, 1, none⟩) (show W0.heap.size ≤ w4.heap.size by omega) (.int .i64 x3.y.toInt)).setCell (p := ⟨w4.heap.size, 2, none⟩) (show W0.heap.size ≤ w4.heap.size by omega) (.int .i64 x3.z.toInt)
              have OF := (((OA).set 0 (.int .i64 x3.x.toInt)).set 1 (.int .i64 x3.y.toInt)).set 2 (.int .i64 x3.z.toInt)
              have SF := HS.out.keep BF
              go_wp2_with fail
              go_meet
              exact ⟨_, rfl, rfl, rfl, rfl, SF, OF⟩
          · skip
            rw [if_pos (by rfl)]
            go_simp
            refine hK.out _ _ ?_ (fun _hHeldA => ?_)
            · first | exact below1 W0 (.cells #[.int .i64 0, .int .i64 0, .int .i64 0] 23) | exact (below1 W0 (.cells #[.int .i64 0, .int .i64 0, .int .i64 0] 23)).drew
            clear hK KK
            try simp only [Act.put, List.setIfInBounds_toArray, List.set_cons_zero, List.set_cons_succ]
            refine wpAnyH_ready (rs := [2]) (by as_aux_lemma => kernel_rfl) (by simp) ?_
            refine AllReadyH.cons (o := ({ dst := some 33, op := .call { callee := .value (.func 42), args := #[.tmp 32], argTypes := #[3] }, type := 23, pos := "mat.go:120", after := #[{ on := 1, ground := .data }], guard := none } : Oper)) rfl (fun KK hK => ?_) AllReadyH.nil
            rw [if_pos (by rfl)]
            go_simp
            go_at_call 42; refine (O0.out _).mono ?_; rintro e w4 ⟨rfl, hb4⟩
            go_wp2_with fail
            refine hK.out _ _ ?_ (fun hHeld4 => ?_)
            · exact belowT (by assumption) hb4
            have OA := ((ownl W0 [.int .i64 0, .int .i64 0, .int .i64 0] 23).drew).keep hb4
            have H4 : Below W0.heap.size W0 w4 := by assumption
            have S4 := H4.size
            clear hK KK hb4
            try simp only [Act.put, List.setIfInBounds_toArray, List.set_cons_zero, List.set_cons_succ]
            refine wpAnyH_ready (rs := [3]) (by as_aux_lemma => kernel_rfl) (by simp) ?_
            refine AllReadyH.cons (o := ({ dst := some 34, op := .call { callee := .value (.func 39), args := #[.tmp 31, .tmp 33], argTypes := #[23, 23] }, type := 23, pos := "mat.go:120", after := #[{ on := 0, ground := .data }, { on := 2, ground := .data }, { on := 2, ground := .chain }], guard := none } : Oper)) rfl (fun KK hK => ?_) AllReadyH.nil
            rw [if_pos (by rfl)]
            go_simp
            go_at_call 39; refine (C3.out _).mono ?_; rintro e w5 ⟨rfl, hb5⟩
            go_wp2_with fail
            refine hK.out _ _ ?_ (fun hHeld5 => ?_)
            · exact belowT (by assumption) hb5
            replace OA := (OA).keep hb5
            have H5 : Below W0.heap.size W0 w5 := by assumption
            have S5 := H5.size
            clear hK KK hb5
            try simp only [Act.put, List.setIfInBounds_toArray, List.set_cons_zero, List.set_cons_succ]
            refine wpAnyH_ready (rs := [5]) (by as_aux_lemma => kernel_rfl) (by simp) ?_
            refine AllReadyH.cons (o := ({ dst := none, op := .store 23 (.tmp 9) (.tmp 34), type := 0, pos := "mat.go:120", after := #[{ on := 4, ground := .data }, { on := 3, ground := .data }, { on := 3, ground := .chain }, { on := 0, ground := .phase }, { on := 1, ground := .phase }, { on := 2, ground := .phase }, { on := 3, ground := .phase }, { on := 4, ground := .phase }], guard := none } : Oper)) rfl (fun KK hK => ?_) AllReadyH.nil
            rw [if_pos (by rfl)]
            have p0 := (OA).1.at 0 rfl
            have q0 := (OA).2 0 (by simp)
            have p1 := (OA).1.at 1 rfl
            have q1 := (OA).2 1 (by simp)
            have p2 := (OA).1.at 2 rfl
            have q2 := (OA).2 2 (by simp)
            go_simp
            refine hK.out _ _ ?_ (fun _hHeldS => ?_)
            · exact (((H5).setCell (p := ⟨W0.heap.size, 0, none⟩) (show W0.heap.size ≤ W0.heap.size by omega) (.int .i64 x3.x.toInt)).setCell (p := ⟨W0.heap.size, 1, none⟩) (show W0.heap.size ≤ W0.heap.size by omega) (.int .i64 x3.y.toInt)).setCell (p := ⟨W0.heap.size, 2, none⟩) (show W0.heap.size ≤ W0.heap.size by omega) (.int .i64 x3.z.toInt)
            clear hK KK
            try simp only [Act.put, List.setIfInBounds_toArray, List.set_cons_zero, List.set_cons_succ]
            refine wpAnyH_done (by as_aux_lemma => kernel_rfl) ?_ _
            refine NoPanic.normal ?_
            have BF := (((H5).setCell (p := ⟨W0.heap.size, 0, none⟩) (show W0.heap.size ≤ W0.heap.size by omega) (.int .i64 x3.x.toInt)).setCell (p := ⟨W0.heap.size, 1, none⟩) (show W0.heap.size ≤ W0.heap.size by omega) (.int .i64 x3.y.toInt)).setCell (p := ⟨W0.heap.size, 2, none⟩) (show W0.heap.size ≤ W0.heap.size by omega) (.int .i64 x3.z.toInt)
            have OF := (((OA).set 0 (.int .i64 x3.x.toInt)).set 1 (.int .i64 x3.y.toInt)).set 2 (.int .i64 x3.z.toInt)
            have SF := HS.out.keep BF
            go_wp2_with fail
            go_meet
            exact ⟨_, rfl, rfl, rfl, rfl, SF, OF⟩
        case rest =>
          clear HS r0 r1 r2
          rename World => W0
          obtain ⟨X, rfl, rfl, rfl, rfl, hS, OX⟩ := hcut
          have g0 := OX.1.at 0 rfl; have g1 := OX.1.at 1 rfl; have g2 := OX.1.at 2 rfl
          clear OX
          cases q3 with
          | false =>
            obtain ⟨y0, k0, f0⟩ := hS.there 1 rfl 0 rfl; obtain ⟨y1, k1, f1⟩ := hS.there 1 rfl 1 rfl; obtain ⟨y2, k2, f2⟩ := hS.there 1 rfl 2 rfl
            have BH := Lib.hid hS.below
            clear hS
            go_wp2_with fail
            refine bodyPost_ret (v := .tuple #[vv x3, .bool true]) (by simp [results, Try.results21, go_sem, *]) rfl ⟨rfl, ?_⟩
            iterate 3 refine Below.setCell (p := ⟨w.heap.size + 1, _, none⟩) ?_ (show w.heap.size ≤ w.heap.size + 1 by omega) _
            exact BH.out
          | true =>
            go_wp2_with fail
            clear g0 g1 g2
            rw [rounds_succ]
            go_upto_region 15 with fail
            have HS := Lib.hid hS
            have r0 : ∀ w', Below W0.heap.size W0 w' → w'.cell? ⟨Ar, 0, none⟩ = some (.int .i64 m.a.x.toInt) := fun w' h => (HS.out.keep h).at 2 rfl 0 rfl
            have r1 : ∀ w', Below W0.heap.size W0 w' → w'.cell? ⟨Ar, 1, none⟩ = some (.int .i64 m.a.y.toInt) := fun w' h => (HS.out.keep h).at 2 rfl 1 rfl
            have r2 : ∀ w', Below W0.heap.size W0 w' → w'.cell? ⟨Ar, 2, none⟩ = some (.int .i64 m.a.z.toInt) := fun w' h => (HS.out.keep h).at 2 rfl 2 rfl
            clear hS
            go_cut [9, 24, 25, 28] from 9 to 35 (fun p u v q wx => ∃ X, p = .pointer (some ⟨X, 0, none⟩) ∧ u = mv m ∧ v = .int .i64 0 ∧ q = .int .i64 1 ∧ Sp w [(w.heap.size, [some (.int .i64 m.a.x.toInt), some (.int .i64 m.a.y.toInt), some (.int .i64 m.a.z.toInt), some (.int .i64 m.b.x.toInt), some (.int .i64 m.b.y.toInt), some (.int .i64 m.b.z.toInt), some (.int .i64 m.c.x.toInt), some (.int .i64 m.c.y.toInt), some (.int .i64 m.c.z.toInt)]), (w.heap.size + 1, [none, none, none]), (Ar, [some (.int .i64 m.a.x.toInt), some (.int .i64 m.a.y.toInt), some (.int .i64 m.a.z.toInt)])] wx ∧ OwnL wx X (vl x4))
            case first =>
              change (Code.region 15 okernel true).wp Try.prog _ _ _
              refine wp_region_noPanic ?_
              refine wp_region_held_drew (S := fun w' => Below W0.heap.size W0 w') (by kernel_rfl) ((Below.refl _ _).drew) (fun hHeld => ?_)
              refine wpAnyH_take (i := 0) (oi := ({ dst := some 31, op := .load 23 (.tmp 7), type := 23, pos := "mat.go:120", after := #[], guard := none } : Oper)) (v := ?vv4_1_) rfl okernel_plain (by as_aux_lemma => kernel_rfl) (by as_aux_lemma => kernel_rfl) (fun _ _ _ h => h) (Or.inl ⟨by rfl, ?yv4_1_⟩) (by assumption) ?rv4_1_
              case yv4_1_ => (intro w hSw; (try dsimp only at hSw); go_simp; try with_reducible rfl)
              try simp only [Act.put, List.setIfInBounds_toArray, List.set_cons_zero, List.set_cons_succ]
              refine wpAnyH_take (i := 1) (oi := ({ dst := some 32, op := .move (.tmp 8), type := 3, pos := "mat.go:120", after := #[], guard := none } : Oper)) (v := ?vv4_2_) rfl okernel_plain (by as_aux_lemma => kernel_rfl) (by as_aux_lemma => kernel_rfl) (fun _ _ _ h => h) (Or.inl ⟨by rfl, ?yv4_2_⟩) (by assumption) ?rv4_2_
              case yv4_2_ => (intro w hSw; (try dsimp only at hSw); go_simp; try with_reducible rfl)
              try simp only [Act.put, List.setIfInBounds_toArray, List.set_cons_zero, List.set_cons_succ]
              refine wpAnyH_ready (rs := [2, 4]) (by as_aux_lemma => kernel_rfl) (by simp) ?_
              refine AllReadyH.cons (o := ({ dst := some 33, op := .call { callee := .value (.func 42), args := #[.tmp 32], argTypes := #[3] }, type := 23, pos := "mat.go:120", after := #[{ on := 1, ground := .data }], guard := none } : Oper)) rfl (fun KK hK => ?_) (AllReadyH.cons (o := ({ dst := some 9, op := .alloc 23, type := 0, pos := "mat.go:120", after := #[], guard := none } : Oper)) rfl (fun KK hK => ?_) AllReadyH.nil)
              · skip
                rw [if_pos (by rfl)]
                go_simp
                go_at_call 42; refine (O1.out _).mono ?_; rintro e w4 ⟨rfl, hb4⟩
                go_wp2_with fail
                refine hK.out _ _ ?_ (fun hHeld4 => ?_)
                · exact belowT (by assumption) hb4
                have H4 : Below W0.heap.size W0 w4 := by assumption
                have S4 := H4.size
                clear hK KK hb4
                try simp only [Act.put, List.setIfInBounds_toArray, List.set_cons_zero, List.set_cons_succ]
                refine wpAnyH_ready (rs := [3, 4]) (by as_aux_lemma => kernel_rfl) (by simp) ?_
                refine AllReadyH.cons (o := ({ dst := some 34, op := .call { callee := .value (.func 39), args := #[.tmp 31, .tmp 33], argTypes := #[23, 23] }, type := 23, pos := "mat.go:120", after := #[{ on := 0, ground := .data }, { on := 2, ground := .data }, { on := 2, ground := .chain }], guard := none } : Oper)) rfl (fun KK hK => ?_) (AllReadyH.cons (o := ({ dst := some 9, op := .alloc 23, type := 0, pos := "mat.go:120", after := #[], guard := none } : Oper)) rfl (fun KK hK => ?_) AllReadyH.nil)
                · skip
                  rw [if_pos (by rfl)]
                  go_simp
                  go_at_call 39; refine (C4.out _).mono ?_; rintro e w5 ⟨rfl, hb5⟩
                  go_wp2_with fail
                  refine hK.out _ _ ?_ (fun hHeld5 => ?_)
                  · exact belowT (by assumption) hb5
                  have H5 : Below W0.heap.size W0 w5 := by assumption
                  have S5 := H5.size
                  clear hK KK hb5
                  try simp only [Act.put, List.setIfInBounds_toArray, List.set_cons_zero, List.set_cons_succ]
                  refine wpAnyH_ready (rs := [4]) (by as_aux_lemma => kernel_rfl) (by simp) ?_
                  refine AllReadyH.cons (o := ({ dst := some 9, op := .alloc 23, type := 0, pos := "mat.go:120", after := #[], guard := none } : Oper)) rfl (fun KK hK => ?_) AllReadyH.nil
                  rw [if_pos (by rfl)]
                  go_simp
                  refine hK.out _ _ ?_ (fun _hHeldA => ?_)
                  · first | exact belowT (by assumption) (below1 _ _) | exact (belowT (by assumption) (below1 _ _)).drew
                  clear hK KK
                  try simp only [Act.put, List.setIfInBounds_toArray, List.set_cons_zero, List.set_cons_succ]
                  refine wpAnyH_ready (rs := [5]) (by as_aux_lemma => kernel_rfl) (by simp) ?_
                  refine AllReadyH.cons (o := ({ dst := none, op := .store 23 (.tmp 9) (.tmp 34), type := 0, pos := "mat.go:120", after := #[{ on := 4, ground := .data }, { on := 3, ground := .data }, { on := 3, ground := .chain }, { on := 0, ground := .phase }, { on := 1, ground := .phase }, { on := 2, ground := .phase }, { on := 3, ground := .phase }, { on := 4, ground := .phase }], guard := none } : Oper)) rfl (fun KK hK => ?_) AllReadyH.nil
                  rw [if_pos (by rfl)]
                  have p0 := (ownl w5 [.int .i64 0, .int .i64 0, .int .i64 0] 23).1.at 0 rfl
                  have q0 := (ownl w5 [.int .i64 0, .int .i64 0, .int .i64 0] 23).2 0 (by simp)
                  have p1 := (ownl w5 [.int .i64 0, .int .i64 0, .int .i64 0] 23).1.at 1 rfl
                  have q1 := (ownl w5 [.int .i64 0, .int .i64 0, .int .i64 0] 23).2 1 (by simp)
                  have p2 := (ownl w5 [.int .i64 0, .int .i64 0, .int .i64 0] 23).1.at 2 rfl
                  have q2 := (ownl w5 [.int .i64 0, .int .i64 0, .int .i64 0] 23).2 2 (by simp)
                  go_simp
                  refine hK.out _ _ ?_ (fun _hHeldS => ?_)
                  · exact belowT H5 (below1 w5 (.cells #[.int .i64 x4.x.toInt, .int .i64 x4.y.toInt, .int .i64 x4.z.toInt] 23))
                  clear hK KK
                  try simp only [Act.put, List.setIfInBounds_toArray, List.set_cons_zero, List.set_cons_succ]
                  refine wpAnyH_done (by as_aux_lemma => kernel_rfl) ?_ _
                  refine NoPanic.normal ?_
                  have BF := belowT H5 (below1 w5 (.cells #[.int .i64 x4.x.toInt, .int .i64 x4.y.toInt, .int .i64 x4.z.toInt] 23))
                  have OF := ownl w5 [.int .i64 x4.x.toInt, .int .i64 x4.y.toInt, .int .i64 x4.z.toInt] 23
                  have SF := HS.out.keep BF
                  go_wp2_with fail
                  go_meet
                  exact ⟨_, rfl, rfl, rfl, rfl, SF, OF⟩
                · skip
                  rw [if_pos (by rfl)]
                  go_simp
                  refine hK.out _ _ ?_ (fun _hHeldA => ?_)
                  · first | exact belowT (by assumption) (below1 _ _) | exact (belowT (by assumption) (below1 _ _)).drew
                  clear hK KK
                  try simp only [Act.put, List.setIfInBounds_toArray, List.set_cons_zero, List.set_cons_succ]
                  refine wpAnyH_ready (rs := [3]) (by as_aux_lemma => kernel_rfl) (by simp) ?_
                  refine AllReadyH.cons (o := ({ dst := some 34, op := .call { callee := .value (.func 39), args := #[.tmp 31, .tmp 33], argTypes := #[23, 23] }, type := 23, pos := "mat.go:120", after := #[{ on := 0, ground := .data }, { on := 2, ground := .data }, { on := 2, ground := .chain }], guard := none } : Oper)) rfl (fun KK hK => ?_) AllReadyH.nil
                  rw [if_pos (by rfl)]
                  go_simp
                  go_at_call 39; refine (C4.out _).mono ?_; rintro e w5 ⟨rfl, hb5⟩
                  go_wp2_with fail
                  refine hK.out _ _ ?_ (fun hHeld5 => ?_)
                  · exact belowT (by assumption) hb5
                  have OA := (ownl w4 [.int .i64 0, .int .i64 0, .int .i64 0] 23).keep hb5
                  have H5 : Below W0.heap.size W0 w5 := by assumption
                  have S5 := H5.size
                  clear hK KK hb5
                  try simp only [Act.put, List.setIfInBounds_toArray, List.set_cons_zero, List.set_cons_succ]
                  refine wpAnyH_ready (rs := [5]) (by as_aux_lemma => kernel_rfl) (by simp) ?_
                  refine AllReadyH.cons (o := ({ dst := none, op := .store 23 (.tmp 9) (.tmp 34), type := 0, pos := "mat.go:120", after := #[{ on := 4, ground := .data }, { on := 3, ground := .data }, { on := 3, ground := .chain }, { on := 0, ground := .phase }, { on := 1, ground := .phase }, { on := 2, ground := .phase }, { on := 3, ground := .phase }, { on := 4, ground := .phase }], guard := none } : Oper)) rfl (fun KK hK => ?_) AllReadyH.nil
                  rw [if_pos (by rfl)]
                  have p0 := (OA).1.at 0 rfl
                  have q0 := (OA).2 0 (by simp)
                  have p1 := (OA).1.at 1 rfl
                  have q1 := (OA).2 1 (by simp)
                  have p2 := (OA).1.at 2 rfl
                  have q2 := (OA).2 2 (by simp)
                  go_simp
                  refine hK.out _ _ ?_ (fun _hHeldS => ?_)
                  · exact (((H5).setCell (p := ⟨w4.heap.size, 0, none⟩) (show W0.heap.size ≤ w4.heap.size by omega) (.int .i64 x4.x.toInt)).setCell (p := ⟨w4.heap.size, 1, none⟩) (show W0.heap.size ≤ w4.heap.size by omega) (.int .i64 x4.y.toInt)).setCell (p := ⟨w4.heap.size, 2, none⟩) (show W0.heap.size ≤ w4.heap.size by omega) (.int .i64 x4.z.toInt)
                  clear hK KK
                  try simp only [Act.put, List.setIfInBounds_toArray, List.set_cons_zero, List.set_cons_succ]
                  refine wpAnyH_done (by as_aux_lemma => kernel_rfl) ?_ _
                  refine NoPanic.normal ?_
                  have BF := (((H5).setCell (p := ⟨w4.heap.size, 0, none⟩) (show W0.heap.size ≤ w4.heap.size by omega) (.int .i64 x4.x.toInt)).setCell (p := ⟨w4.heap.size, 1, none⟩) (show W0.heap.size ≤ w4.heap.size by omega) (.int .i64 x4.y.toInt)).setCell (p := ⟨w4.heap.size, 2, none⟩) (show W0.heap.size ≤ w4.heap.size by omega) (.int .i64 x4.z.toInt)
                  have OF := (((OA).set 0 (.int .i64 x4.x.toInt)).set 1 (.int .i64 x4.y.toInt)).set 2 (.int .i64 x4.z.toInt)
                  have SF := HS.out.keep BF
                  go_wp2_with fail
                  go_meet
                  exact ⟨_, rfl, rfl, rfl, rfl, SF, OF⟩
              · skip
                rw [if_pos (by rfl)]
                go_simp
                refine hK.out _ _ ?_ (fun _hHeldA => ?_)
                · first | exact below1 W0 (.cells #[.int .i64 0, .int .i64 0, .int .i64 0] 23) | exact (below1 W0 (.cells #[.int .i64 0, .int .i64 0, .int .i64 0] 23)).drew
                clear hK KK
                try simp only [Act.put, List.setIfInBounds_toArray, List.set_cons_zero, List.set_cons_succ]
                refine wpAnyH_ready (rs := [2]) (by as_aux_lemma => kernel_rfl) (by simp) ?_
                refine AllReadyH.cons (o := ({ dst := some 33, op := .call { callee := .value (.func 42), args := #[.tmp 32], argTypes := #[3] }, type := 23, pos := "mat.go:120", after := #[{ on := 1, ground := .data }], guard := none } : Oper)) rfl (fun KK hK => ?_) AllReadyH.nil
                rw [if_pos (by rfl)]
                go_simp
                go_at_call 42; refine (O1.out _).mono ?_; rintro e w4 ⟨rfl, hb4⟩
                go_wp2_with fail
                refine hK.out _ _ ?_ (fun hHeld4 => ?_)
                · exact belowT (by assumption) hb4
                have OA := ((ownl W0 [.int .i64 0, .int .i64 0, .int .i64 0] 23).drew).keep hb4
                have H4 : Below W0.heap.size W0 w4 := by assumption
                have S4 := H4.size
                clear hK KK hb4
                try simp only [Act.put, List.setIfInBounds_toArray, List.set_cons_zero, List.set_cons_succ]
                refine wpAnyH_ready (rs := [3]) (by as_aux_lemma => kernel_rfl) (by simp) ?_
                refine AllReadyH.cons (o := ({ dst := some 34, op := .call { callee := .value (.func 39), args := #[.tmp 31, .tmp 33], argTypes := #[23, 23] }, type := 23, pos := "mat.go:120", after := #[{ on := 0, ground := .data }, { on := 2, ground := .data }, { on := 2, ground := .chain }], guard := none } : Oper)) rfl (fun KK hK => ?_) AllReadyH.nil
                rw [if_pos (by rfl)]
                go_simp
                go_at_call 39; refine (C4.out _).mono ?_; rintro e w5 ⟨rfl, hb5⟩
                go_wp2_with fail
                refine hK.out _ _ ?_ (fun hHeld5 => ?_)
                · exact belowT (by assumption) hb5
                replace OA := (OA).keep hb5
                have H5 : Below W0.heap.size W0 w5 := by assumption
                have S5 := H5.size
                clear hK KK hb5
                try simp only [Act.put, List.setIfInBounds_toArray, List.set_cons_zero, List.set_cons_succ]
                refine wpAnyH_ready (rs := [5]) (by as_aux_lemma => kernel_rfl) (by simp) ?_
                refine AllReadyH.cons (o := ({ dst := none, op := .store 23 (.tmp 9) (.tmp 34), type := 0, pos := "mat.go:120", after := #[{ on := 4, ground := .data }, { on := 3, ground := .data }, { on := 3, ground := .chain }, { on := 0, ground := .phase }, { on := 1, ground := .phase }, { on := 2, ground := .phase }, { on := 3, ground := .phase }, { on := 4, ground := .phase }], guard := none } : Oper)) rfl (fun KK hK => ?_) AllReadyH.nil
                rw [if_pos (by rfl)]
                have p0 := (OA).1.at 0 rfl
                have q0 := (OA).2 0 (by simp)
                have p1 := (OA).1.at 1 rfl
                have q1 := (OA).2 1 (by simp)
                have p2 := (OA).1.at 2 rfl
                have q2 := (OA).2 2 (by simp)
                go_simp
                refine hK.out _ _ ?_ (fun _hHeldS => ?_)
                · exact (((H5).setCell (p := ⟨W0.heap.size, 0, none⟩) (show W0.heap.size ≤ W0.heap.size by omega) (.int .i64 x4.x.toInt)).setCell (p := ⟨W0.heap.size, 1, none⟩) (show W0.heap.size ≤ W0.heap.size by omega) (.int .i64 x4.y.toInt)).setCell (p := ⟨W0.heap.size, 2, none⟩) (show W0.heap.size ≤ W0.heap.size by omega) (.int .i64 x4.z.toInt)
                clear hK KK
                try simp only [Act.put, List.setIfInBounds_toArray, List.set_cons_zero, List.set_cons_succ]
                refine wpAnyH_done (by as_aux_lemma => kernel_rfl) ?_ _
                refine NoPanic.normal ?_
                have BF := (((H5).setCell (p := ⟨W0.heap.size, 0, none⟩) (show W0.heap.size ≤ W0.heap.size by omega) (.int .i64 x4.x.toInt)).setCell (p := ⟨W0.heap.size, 1, none⟩) (show W0.heap.size ≤ W0.heap.size by omega) (.int .i64 x4.y.toInt)).setCell (p := ⟨W0.heap.size, 2, none⟩) (show W0.heap.size ≤ W0.heap.size by omega) (.int .i64 x4.z.toInt)
                have OF := (((OA).set 0 (.int .i64 x4.x.toInt)).set 1 (.int .i64 x4.y.toInt)).set 2 (.int .i64 x4.z.toInt)
                have SF := HS.out.keep BF
                go_wp2_with fail
                go_meet
                exact ⟨_, rfl, rfl, rfl, rfl, SF, OF⟩
            case rest =>
              clear HS r0 r1 r2
              rename World => W0
              obtain ⟨X, rfl, rfl, rfl, rfl, hS, OX⟩ := hcut
              have g0 := OX.1.at 0 rfl; have g1 := OX.1.at 1 rfl; have g2 := OX.1.at 2 rfl
              clear OX
              cases q4 with
              | false =>
                obtain ⟨y0, k0, f0⟩ := hS.there 1 rfl 0 rfl; obtain ⟨y1, k1, f1⟩ := hS.there 1 rfl 1 rfl; obtain ⟨y2, k2, f2⟩ := hS.there 1 rfl 2 rfl
                have BH := Lib.hid hS.below
                clear hS
                go_wp2_with fail
                refine bodyPost_ret (v := .tuple #[vv x4, .bool true]) (by simp [results, Try.results21, go_sem, *]) rfl ⟨rfl, ?_⟩
                iterate 3 refine Below.setCell (p := ⟨w.heap.size + 1, _, none⟩) ?_ (show w.heap.size ≤ w.heap.size + 1 by omega) _
                exact BH.out
              | true =>
                go_wp2_with fail
                clear g0 g1 g2
                rw [rounds_succ]
                go_upto_region 15 with fail
                have HS := Lib.hid hS
                have r0 : ∀ w', Below W0.heap.size W0 w' → w'.cell? ⟨Ar, 0, none⟩ = some (.int .i64 m.a.x.toInt) := fun w' h => (HS.out.keep h).at 2 rfl 0 rfl
                have r1 : ∀ w', Below W0.heap.size W0 w' → w'.cell? ⟨Ar, 1, none⟩ = some (.int .i64 m.a.y.toInt) := fun w' h => (HS.out.keep h).at 2 rfl 1 rfl
                have r2 : ∀ w', Below W0.heap.size W0 w' → w'.cell? ⟨Ar, 2, none⟩ = some (.int .i64 m.a.z.toInt) := fun w' h => (HS.out.keep h).at 2 rfl 2 rfl
                clear hS
                go_cut [9, 24, 25, 28] from 9 to 35 (fun p u v q wx => ∃ X, p = .pointer (some ⟨X, 0, none⟩) ∧ u = mv m ∧ v = .int .i64 0 ∧ q = .int .i64 2 ∧ Sp w [(w.heap.size, [some (.int .i64 m.a.x.toInt), some (.int .i64 m.a.y.toInt), some (.int .i64 m.a.z.toInt), some (.int .i64 m.b.x.toInt), some (.int .i64 m.b.y.toInt), some (.int .i64 m.b.z.toInt), some (.int .i64 m.c.x.toInt), some (.int .i64 m.c.y.toInt), some (.int .i64 m.c.z.toInt)]), (w.heap.size + 1, [none, none, none]), (Ar, [some (.int .i64 m.a.x.toInt), some (.int .i64 m.a.y.toInt), some (.int .i64 m.a.z.toInt)])] wx ∧ OwnL wx X (vl x5))
                case first =>
                  change (Code.region 15 okernel true).wp Try.prog _ _ _
                  refine wp_region_noPanic ?_
                  refine wp_region_held_drew (S := fun w' => Below W0.heap.size W0 w') (by kernel_rfl) ((Below.refl _ _).drew) (fun hHeld => ?_)
                  refine wpAnyH_take (i := 0) (oi := ({ dst := some 31, op := .load 23 (.tmp 7), type := 23, pos := "mat.go:120", after := #[], guard := none } : Oper)) (v := ?vv5_1_) rfl okernel_plain (by as_aux_lemma => kernel_rfl) (by as_aux_lemma => kernel_rfl) (fun _ _ _ h => h) (Or.inl ⟨by rfl, ?yv5_1_⟩) (by assumption) ?rv5_1_
                  case yv5_1_ => (intro w hSw; (try dsimp only at hSw); go_simp; try with_reducible rfl)
                  try simp only [Act.put, List.setIfInBounds_toArray, List.set_cons_zero, List.set_cons_succ]
                  refine wpAnyH_take (i := 1) (oi := ({ dst := some 32, op := .move (.tmp 8), type := 3, pos := "mat.go:120", after := #[], guard := none } : Oper)) (v := ?vv5_2_) rfl okernel_plain (by as_aux_lemma => kernel_rfl) (by as_aux_lemma => kernel_rfl) (fun _ _ _ h => h) (Or.inl ⟨by rfl, ?yv5_2_⟩) (by assumption) ?rv5_2_
                  case yv5_2_ => (intro w hSw; (try dsimp only at hSw); go_simp; try with_reducible rfl)
                  try simp only [Act.put, List.setIfInBounds_toArray, List.set_cons_zero, List.set_cons_succ]
                  refine wpAnyH_ready (rs := [2, 4]) (by as_aux_lemma => kernel_rfl) (by simp) ?_
                  refine AllReadyH.cons (o := ({ dst := some 33, op := .call { callee := .value (.func 42), args := #[.tmp 32], argTypes := #[3] }, type := 23, pos := "mat.go:120", after := #[{ on := 1, ground := .data }], guard := none } : Oper)) rfl (fun KK hK => ?_) (AllReadyH.cons (o := ({ dst := some 9, op := .alloc 23, type := 0, pos := "mat.go:120", after := #[], guard := none } : Oper)) rfl (fun KK hK => ?_) AllReadyH.nil)
                  · skip
                    rw [if_pos (by rfl)]
                    go_simp
                    go_at_call 42; refine (O2.out _).mono ?_; rintro e w4 ⟨rfl, hb4⟩
                    go_wp2_with fail
                    refine hK.out _ _ ?_ (fun hHeld4 => ?_)
                    · exact belowT (by assumption) hb4
                    have H4 : Below W0.heap.size W0 w4 := by assumption
                    have S4 := H4.size
                    clear hK KK hb4
                    try simp only [Act.put, List.setIfInBounds_toArray, List.set_cons_zero, List.set_cons_succ]
                    refine wpAnyH_ready (rs := [3, 4]) (by as_aux_lemma => kernel_rfl) (by simp) ?_
                    refine AllReadyH.cons (o := ({ dst := some 34, op := .call { callee := .value (.func 39), args := #[.tmp 31, .tmp 33], argTypes := #[23, 23] }, type := 23, pos := "mat.go:120", after := #[{ on := 0, ground := .data }, { on := 2, ground := .data }, { on := 2, ground := .chain }], guard := none } : Oper)) rfl (fun KK hK => ?_) (AllReadyH.cons (o := ({ dst := some 9, op := .alloc 23, type := 0, pos := "mat.go:120", after := #[], guard := none } : Oper)) rfl (fun KK hK => ?_) AllReadyH.nil)
                    · skip
                      rw [if_pos (by rfl)]
                      go_simp
                      go_at_call 39; refine (C5.out _).mono ?_; rintro e w5 ⟨rfl, hb5⟩
                      go_wp2_with fail
                      refine hK.out _ _ ?_ (fun hHeld5 => ?_)
                      · exact belowT (by assumption) hb5
                      have H5 : Below W0.heap.size W0 w5 := by assumption
                      have S5 := H5.size
                      clear hK KK hb5
                      try simp only [Act.put, List.setIfInBounds_toArray, List.set_cons_zero, List.set_cons_succ]
                      refine wpAnyH_ready (rs := [4]) (by as_aux_lemma => kernel_rfl) (by simp) ?_
                      refine AllReadyH.cons (o := ({ dst := some 9, op := .alloc 23, type := 0, pos := "mat.go:120", after := #[], guard := none } : Oper)) rfl (fun KK hK => ?_) AllReadyH.nil
                      rw [if_pos (by rfl)]
                      go_simp
                      refine hK.out _ _ ?_ (fun _hHeldA => ?_)
                      · first | exact belowT (by assumption) (below1 _ _) | exact (belowT (by assumption) (below1 _ _)).drew
                      clear hK KK
                      try simp only [Act.put, List.setIfInBounds_toArray, List.set_cons_zero, List.set_cons_succ]
                      refine wpAnyH_ready (rs := [5]) (by as_aux_lemma => kernel_rfl) (by simp) ?_
                      refine AllReadyH.cons (o := ({ dst := none, op := .store 23 (.tmp 9) (.tmp 34), type := 0, pos := "mat.go:120", after := #[{ on := 4, ground := .data }, { on := 3, ground := .data }, { on := 3, ground := .chain }, { on := 0, ground := .phase }, { on := 1, ground := .phase }, { on := 2, ground := .phase }, { on := 3, ground := .phase }, { on := 4, ground := .phase }], guard := none } : Oper)) rfl (fun KK hK => ?_) AllReadyH.nil
                      rw [if_pos (by rfl)]
                      have p0 := (ownl w5 [.int .i64 0, .int .i64 0, .int .i64 0] 23).1.at 0 rfl
                      have q0 := (ownl w5 [.int .i64 0, .int .i64 0, .int .i64 0] 23).2 0 (by simp)
                      have p1 := (ownl w5 [.int .i64 0, .int .i64 0, .int .i64 0] 23).1.at 1 rfl
                      have q1 := (ownl w5 [.int .i64 0, .int .i64 0, .int .i64 0] 23).2 1 (by simp)
                      have p2 := (ownl w5 [.int .i64 0, .int .i64 0, .int .i64 0] 23).1.at 2 rfl
                      have q2 := (ownl w5 [.int .i64 0, .int .i64 0, .int .i64 0] 23).2 2 (by simp)
                      go_simp
                      refine hK.out _ _ ?_ (fun _hHeldS => ?_)
                      · exact belowT H5 (below1 w5 (.cells #[.int .i64 x5.x.toInt, .int .i64 x5.y.toInt, .int .i64 x5.z.toInt] 23))
                      clear hK KK
                      try simp only [Act.put, List.setIfInBounds_toArray, List.set_cons_zero, List.set_cons_succ]
                      refine wpAnyH_done (by as_aux_lemma => kernel_rfl) ?_ _
                      refine NoPanic.normal ?_
                      have BF := belowT H5 (below1 w5 (.cells #[.int .i64 x5.x.toInt, .int .i64 x5.y.toInt, .int .i64 x5.z.toInt] 23))
                      have OF := ownl w5 [.int .i64 x5.x.toInt, .int .i64 x5.y.toInt, .int .i64 x5.z.toInt] 23
                      have SF := HS.out.keep BF
                      go_wp2_with fail
                      go_meet
                      exact ⟨_, rfl, rfl, rfl, rfl, SF, OF⟩
                    · skip
                      rw [if_pos (by rfl)]
                      go_simp
                      refine hK.out _ _ ?_ (fun _hHeldA => ?_)
                      · first | exact belowT (by assumption) (below1 _ _) | exact (belowT (by assumption) (below1 _ _)).drew
                      clear hK KK
                      try simp only [Act.put, List.setIfInBounds_toArray, List.set_cons_zero, List.set_cons_succ]
                      refine wpAnyH_ready (rs := [3]) (by as_aux_lemma => kernel_rfl) (by simp) ?_
                      refine AllReadyH.cons (o := ({ dst := some 34, op := .call { callee := .value (.func 39), args := #[.tmp 31, .tmp 33], argTypes := #[23, 23] }, type := 23, pos := "mat.go:120", after := #[{ on := 0, ground := .data }, { on := 2, ground := .data }, { on := 2, ground := .chain }], guard := none } : Oper)) rfl (fun KK hK => ?_) AllReadyH.nil
                      rw [if_pos (by rfl)]
                      go_simp
                      go_at_call 39; refine (C5.out _).mono ?_; rintro e w5 ⟨rfl, hb5⟩
                      go_wp2_with fail
                      refine hK.out _ _ ?_ (fun hHeld5 => ?_)
                      · exact belowT (by assumption) hb5
                      have OA := (ownl w4 [.int .i64 0, .int .i64 0, .int .i64 0] 23).keep hb5
                      have H5 : Below W0.heap.size W0 w5 := by assumption
                      have S5 := H5.size
                      clear hK KK hb5
                      try simp only [Act.put, List.setIfInBounds_toArray, List.set_cons_zero, List.set_cons_succ]
                      refine wpAnyH_ready (rs := [5]) (by as_aux_lemma => kernel_rfl) (by simp) ?_
                      refine AllReadyH.cons (o := ({ dst := none, op := .store 23 (.tmp 9) (.tmp 34), type := 0, pos := "mat.go:120", after := #[{ on := 4, ground := .data }, { on := 3, ground := .data }, { on := 3, ground := .chain }, { on := 0, ground := .phase }, { on := 1, ground := .phase }, { on := 2, ground := .phase }, { on := 3, ground := .phase }, { on := 4, ground := .phase }], guard := none } : Oper)) rfl (fun KK hK => ?_) AllReadyH.nil
                      rw [if_pos (by rfl)]
                      have p0 := (OA).1.at 0 rfl
                      have q0 := (OA).2 0 (by simp)
                      have p1 := (OA).1.at 1 rfl
                      have q1 := (OA).2 1 (by simp)
                      have p2 := (OA).1.at 2 rfl
                      have q2 := (OA).2 2 (by simp)
                      go_simp
                      refine hK.out _ _ ?_ (fun _hHeldS => ?_)
                      · exact (((H5).setCell (p := ⟨w4.heap.size, 0, none⟩) (show W0.heap.size ≤ w4.heap.size by omega) (.int .i64 x5.x.toInt)).setCell (p := ⟨w4.heap.size, 1, none⟩) (show W0.heap.size ≤ w4.heap.size by omega) (.int .i64 x5.y.toInt)).setCell (p := ⟨w4.heap.size, 2, none⟩) (show W0.heap.size ≤ w4.heap.size by omega) (.int .i64 x5.z.toInt)
                      clear hK KK
                      try simp only [Act.put, List.setIfInBounds_toArray, List.set_cons_zero, List.set_cons_succ]
                      refine wpAnyH_done (by as_aux_lemma => kernel_rfl) ?_ _
                      refine NoPanic.normal ?_
                      have BF := (((H5).setCell (p := ⟨w4.heap.size, 0, none⟩) (show W0.heap.size ≤ w4.heap.size by omega) (.int .i64 x5.x.toInt)).setCell (p := ⟨w4.heap.size, 1, none⟩) (show W0.heap.size ≤ w4.heap.size by omega) (.int .i64 x5.y.toInt)).setCell (p := ⟨w4.heap.size, 2, none⟩) (show W0.heap.size ≤ w4.heap.size by omega) (.int .i64 x5.z.toInt)
                      have OF := (((OA).set 0 (.int .i64 x5.x.toInt)).set 1 (.int .i64 x5.y.toInt)).set 2 (.int .i64 x5.z.toInt)
                      have SF := HS.out.keep BF
                      go_wp2_with fail
                      go_meet
                      exact ⟨_, rfl, rfl, rfl, rfl, SF, OF⟩
                  · skip
                    rw [if_pos (by rfl)]
                    go_simp
                    refine hK.out _ _ ?_ (fun _hHeldA => ?_)
                    · first | exact below1 W0 (.cells #[.int .i64 0, .int .i64 0, .int .i64 0] 23) | exact (below1 W0 (.cells #[.int .i64 0, .int .i64 0, .int .i64 0] 23)).drew
                    clear hK KK
                    try simp only [Act.put, List.setIfInBounds_toArray, List.set_cons_zero, List.set_cons_succ]
                    refine wpAnyH_ready (rs := [2]) (by as_aux_lemma => kernel_rfl) (by simp) ?_
                    refine AllReadyH.cons (o := ({ dst := some 33, op := .call { callee := .value (.func 42), args := #[.tmp 32], argTypes := #[3] }, type := 23, pos := "mat.go:120", after := #[{ on := 1, ground := .data }], guard := none } : Oper)) rfl (fun KK hK => ?_) AllReadyH.nil
                    rw [if_pos (by rfl)]
                    go_simp
                    go_at_call 42; refine (O2.out _).mono ?_; rintro e w4 ⟨rfl, hb4⟩
                    go_wp2_with fail
                    refine hK.out _ _ ?_ (fun hHeld4 => ?_)
                    · exact belowT (by assumption) hb4
                    have OA := ((ownl W0 [.int .i64 0, .int .i64 0, .int .i64 0] 23).drew).keep hb4
                    have H4 : Below W0.heap.size W0 w4 := by assumption
                    have S4 := H4.size
                    clear hK KK hb4
                    try simp only [Act.put, List.setIfInBounds_toArray, List.set_cons_zero, List.set_cons_succ]
                    refine wpAnyH_ready (rs := [3]) (by as_aux_lemma => kernel_rfl) (by simp) ?_
                    refine AllReadyH.cons (o := ({ dst := some 34, op := .call { callee := .value (.func 39), args := #[.tmp 31, .tmp 33], argTypes := #[23, 23] }, type := 23, pos := "mat.go:120", after := #[{ on := 0, ground := .data }, { on := 2, ground := .data }, { on := 2, ground := .chain }], guard := none } : Oper)) rfl (fun KK hK => ?_) AllReadyH.nil
                    rw [if_pos (by rfl)]
                    go_simp
                    go_at_call 39; refine (C5.out _).mono ?_; rintro e w5 ⟨rfl, hb5⟩
                    go_wp2_with fail
                    refine hK.out _ _ ?_ (fun hHeld5 => ?_)
                    · exact belowT (by assumption) hb5
                    replace OA := (OA).keep hb5
                    have H5 : Below W0.heap.size W0 w5 := by assumption
                    have S5 := H5.size
                    clear hK KK hb5
                    try simp only [Act.put, List.setIfInBounds_toArray, List.set_cons_zero, List.set_cons_succ]
                    refine wpAnyH_ready (rs := [5]) (by as_aux_lemma => kernel_rfl) (by simp) ?_
                    refine AllReadyH.cons (o := ({ dst := none, op := .store 23 (.tmp 9) (.tmp 34), type := 0, pos := "mat.go:120", after := #[{ on := 4, ground := .data }, { on := 3, ground := .data }, { on := 3, ground := .chain }, { on := 0, ground := .phase }, { on := 1, ground := .phase }, { on := 2, ground := .phase }, { on := 3, ground := .phase }, { on := 4, ground := .phase }], guard := none } : Oper)) rfl (fun KK hK => ?_) AllReadyH.nil
                    rw [if_pos (by rfl)]
                    have p0 := (OA).1.at 0 rfl
                    have q0 := (OA).2 0 (by simp)
                    have p1 := (OA).1.at 1 rfl
                    have q1 := (OA).2 1 (by simp)
                    have p2 := (OA).1.at 2 rfl
                    have q2 := (OA).2 2 (by simp)
                    go_simp
                    refine hK.out _ _ ?_ (fun _hHeldS => ?_)
                    · exact (((H5).setCell (p := ⟨W0.heap.size, 0, none⟩) (show W0.heap.size ≤ W0.heap.size by omega) (.int .i64 x5.x.toInt)).setCell (p := ⟨W0.heap.size, 1, none⟩) (show W0.heap.size ≤ W0.heap.size by omega) (.int .i64 x5.y.toInt)).setCell (p := ⟨W0.heap.size, 2, none⟩) (show W0.heap.size ≤ W0.heap.size by omega) (.int .i64 x5.z.toInt)
                    clear hK KK
                    try simp only [Act.put, List.setIfInBounds_toArray, List.set_cons_zero, List.set_cons_succ]
                    refine wpAnyH_done (by as_aux_lemma => kernel_rfl) ?_ _
                    refine NoPanic.normal ?_
                    have BF := (((H5).setCell (p := ⟨W0.heap.size, 0, none⟩) (show W0.heap.size ≤ W0.heap.size by omega) (.int .i64 x5.x.toInt)).setCell (p := ⟨W0.heap.size, 1, none⟩) (show W0.heap.size ≤ W0.heap.size by omega) (.int .i64 x5.y.toInt)).setCell (p := ⟨W0.heap.size, 2, none⟩) (show W0.heap.size ≤ W0.heap.size by omega) (.int .i64 x5.z.toInt)
                    have OF := (((OA).set 0 (.int .i64 x5.x.toInt)).set 1 (.int .i64 x5.y.toInt)).set 2 (.int .i64 x5.z.toInt)
                    have SF := HS.out.keep BF
                    go_wp2_with fail
                    go_meet
                    exact ⟨_, rfl, rfl, rfl, rfl, SF, OF⟩
                case rest =>
                  clear HS r0 r1 r2
                  rename World => W0
                  obtain ⟨X, rfl, rfl, rfl, rfl, hS, OX⟩ := hcut
                  have g0 := OX.1.at 0 rfl; have g1 := OX.1.at 1 rfl; have g2 := OX.1.at 2 rfl
                  clear OX
                  cases q5 with
                  | false =>
                    obtain ⟨y0, k0, f0⟩ := hS.there 1 rfl 0 rfl; obtain ⟨y1, k1, f1⟩ := hS.there 1 rfl 1 rfl; obtain ⟨y2, k2, f2⟩ := hS.there 1 rfl 2 rfl
                    have BH := Lib.hid hS.below
                    clear hS
                    go_wp2_with fail
                    refine bodyPost_ret (v := .tuple #[vv x5, .bool true]) (by simp [results, Try.results21, go_sem, *]) rfl ⟨rfl, ?_⟩
                    iterate 3 refine Below.setCell (p := ⟨w.heap.size + 1, _, none⟩) ?_ (show w.heap.size ≤ w.heap.size + 1 by omega) _
                    exact BH.out
                  | true =>
                    go_wp2_with fail
                    clear g0 g1 g2
                    rw [rounds_succ]
                    go_wp2_with fail
                    have hN := hS.take 2
                    clear hS
                    have hS := hN
                    clear hN
                    rw [rounds_succ]
                    go_upto_region 12 with fail
                    obtain ⟨W1, hX, hN⟩ := (hS.more [.int .i64 m.b.x.toInt, .int .i64 m.b.y.toInt, .int .i64 m.b.z.toInt] 23).named
                    rw [← hX]
                    clear hX hS
                    obtain ⟨Ar, hAr⟩ : ∃ Ar, Ar = W0.heap.size := ⟨_, rfl⟩
                    rw [← hAr] at hN ⊢
                    clear hAr
                    rename World => W0
                    have HN := Lib.hid hN
                    clear hN
                    go_wp2_with fail
                    have hS := HN.out
                    clear HN
                    refine wp_loop_rounds 4 ?_
                    rw [rounds_succ]
                    go_upto_region 15 with fail
                    have HS := Lib.hid hS
                    have r0 : ∀ w', Below W0.heap.size W0 w' → w'.cell? ⟨Ar, 0, none⟩ = some (.int .i64 m.b.x.toInt) := fun w' h => (HS.out.keep h).at 2 rfl 0 rfl
                    have r1 : ∀ w', Below W0.heap.size W0 w' → w'.cell? ⟨Ar, 1, none⟩ = some (.int .i64 m.b.y.toInt) := fun w' h => (HS.out.keep h).at 2 rfl 1 rfl
                    have r2 : ∀ w', Below W0.heap.size W0 w' → w'.cell? ⟨Ar, 2, none⟩ = some (.int .i64 m.b.z.toInt) := fun w' h => (HS.out.keep h).at 2 rfl 2 rfl
                    clear hS
                    go_cut [9, 24, 25, 28] from 9 to 35 (fun p u v q wx => ∃ X, p = .pointer (some ⟨X, 0, none⟩) ∧ u = mv m ∧ v = .int .i64 1 ∧ q = .int .i64 0 ∧ Sp w [(w.heap.size, [some (.int .i64 m.a.x.toInt), some (.int .i64 m.a.y.toInt), some (.int .i64 m.a.z.toInt), some (.int .i64 m.b.x.toInt), some (.int .i64 m.b.y.toInt), some (.int .i64 m.b.z.toInt), some (.int .i64 m.c.x.toInt), some (.int .i64 m.c.y.toInt), some (.int .i64 m.c.z.toInt)]), (w.heap.size + 1, [none, none, none]), (Ar, [some (.int .i64 m.b.x.toInt), some (.int .i64 m.b.y.toInt), some (.int .i64 m.b.z.toInt)])] wx ∧ OwnL wx X (vl x6))
                    case first =>
                      change (Code.region 15 okernel true).wp Try.prog _ _ _
                      refine wp_region_noPanic ?_
                      refine wp_region_held_drew (S := fun w' => Below W0.heap.size W0 w') (by kernel_rfl) ((Below.refl _ _).drew) (fun hHeld => ?_)
                      refine wpAnyH_take (i := 0) (oi := ({ dst := some 31, op := .load 23 (.tmp 7), type := 23, pos := "mat.go:120", after := #[], guard := none } : Oper)) (v := ?vv6_1_) rfl okernel_plain (by as_aux_lemma => kernel_rfl) (by as_aux_lemma => kernel_rfl) (fun _ _ _ h => h) (Or.inl ⟨by rfl, ?yv6_1_⟩) (by assumption) ?rv6_1_
                      case yv6_1_ => (intro w hSw; (try dsimp only at hSw); go_simp; try with_reducible rfl)
                      try simp only [Act.put, List.setIfInBounds_toArray, List.set_cons_zero, List.set_cons_succ]
                      refine wpAnyH_take (i := 1) (oi := ({ dst := some 32, op := .move (.tmp 8), type := 3, pos := "mat.go:120", after := #[], guard := none } : Oper)) (v := ?vv6_2_) rfl okernel_plain (by as_aux_lemma => kernel_rfl) (by as_aux_lemma => kernel_rfl) (fun _ _ _ h => h) (Or.inl ⟨by rfl, ?yv6_2_⟩) (by assumption) ?rv6_2_
                      case yv6_2_ => (intro w hSw; (try dsimp only at hSw); go_simp; try with_reducible rfl)
                      try simp only [Act.put, List.setIfInBounds_toArray, List.set_cons_zero, List.set_cons_succ]
                      refine wpAnyH_ready (rs := [2, 4]) (by as_aux_lemma => kernel_rfl) (by simp) ?_
                      refine AllReadyH.cons (o := ({ dst := some 33, op := .call { callee := .value (.func 42), args := #[.tmp 32], argTypes := #[3] }, type := 23, pos := "mat.go:120", after := #[{ on := 1, ground := .data }], guard := none } : Oper)) rfl (fun KK hK => ?_) (AllReadyH.cons (o := ({ dst := some 9, op := .alloc 23, type := 0, pos := "mat.go:120", after := #[], guard := none } : Oper)) rfl (fun KK hK => ?_) AllReadyH.nil)
                      · skip
                        rw [if_pos (by rfl)]
                        go_simp
                        go_at_call 42; refine (O0.out _).mono ?_; rintro e w4 ⟨rfl, hb4⟩
                        go_wp2_with fail
                        refine hK.out _ _ ?_ (fun hHeld4 => ?_)
                        · exact belowT (by assumption) hb4
                        have H4 : Below W0.heap.size W0 w4 := by assumption
                        have S4 := H4.size
                        clear hK KK hb4
                        try simp only [Act.put, List.setIfInBounds_toArray, List.set_cons_zero, List.set_cons_succ]
                        refine wpAnyH_ready (rs := [3, 4]) (by as_aux_lemma => kernel_rfl) (by simp) ?_
                        refine AllReadyH.cons (o := ({ dst := some 34, op := .call { callee := .value (.func 39), args := #[.tmp 31, .tmp 33], argTypes := #[23, 23] }, type := 23, pos := "mat.go:120", after := #[{ on := 0, ground := .data }, { on := 2, ground := .data }, { on := 2, ground := .chain }], guard := none } : Oper)) rfl (fun KK hK => ?_) (AllReadyH.cons (o := ({ dst := some 9, op := .alloc 23, type := 0, pos := "mat.go:120", after := #[], guard := none } : Oper)) rfl (fun KK hK => ?_) AllReadyH.nil)
                        · skip
                          rw [if_pos (by rfl)]
                          go_simp
                          go_at_call 39; refine (C6.out _).mono ?_; rintro e w5 ⟨rfl, hb5⟩
                          go_wp2_with fail
                          refine hK.out _ _ ?_ (fun hHeld5 => ?_)
                          · exact belowT (by assumption) hb5
                          have H5 : Below W0.heap.size W0 w5 := by assumption
                          have S5 := H5.size
                          clear hK KK hb5
                          try simp only [Act.put, List.setIfInBounds_toArray, List.set_cons_zero, List.set_cons_succ]
                          refine wpAnyH_ready (rs := [4]) (by as_aux_lemma => kernel_rfl) (by simp) ?_
                          refine AllReadyH.cons (o := ({ dst := some 9, op := .alloc 23, type := 0, pos := "mat.go:120", after := #[], guard := none } : Oper)) rfl (fun KK hK => ?_) AllReadyH.nil
                          rw [if_pos (by rfl)]
                          go_simp
                          refine hK.out _ _ ?_ (fun _hHeldA => ?_)
                          · first | exact belowT (by assumption) (below1 _ _) | exact (belowT (by assumption) (below1 _ _)).drew
                          clear hK KK
                          try simp only [Act.put, List.setIfInBounds_toArray, List.set_cons_zero, List.set_cons_succ]
                          refine wpAnyH_ready (rs := [5]) (by as_aux_lemma => kernel_rfl) (by simp) ?_
                          refine AllReadyH.cons (o := ({ dst := none, op := .store 23 (.tmp 9) (.tmp 34), type := 0, pos := "mat.go:120", after := #[{ on := 4, ground := .data }, { on := 3, ground := .data }, { on := 3, ground := .chain }, { on := 0, ground := .phase }, { on := 1, ground := .phase }, { on := 2, ground := .phase }, { on := 3, ground := .phase }, { on := 4, ground := .phase }], guard := none } : Oper)) rfl (fun KK hK => ?_) AllReadyH.nil
                          rw [if_pos (by rfl)]
                          have p0 := (ownl w5 [.int .i64 0, .int .i64 0, .int .i64 0] 23).1.at 0 rfl
                          have q0 := (ownl w5 [.int .i64 0, .int .i64 0, .int .i64 0] 23).2 0 (by simp)
                          have p1 := (ownl w5 [.int .i64 0, .int .i64 0, .int .i64 0] 23).1.at 1 rfl
                          have q1 := (ownl w5 [.int .i64 0, .int .i64 0, .int .i64 0] 23).2 1 (by simp)
                          have p2 := (ownl w5 [.int .i64 0, .int .i64 0, .int .i64 0] 23).1.at 2 rfl
                          have q2 := (ownl w5 [.int .i64 0, .int .i64 0, .int .i64 0] 23).2 2 (by simp)
                          go_simp
                          refine hK.out _ _ ?_ (fun _hHeldS => ?_)
                          · exact belowT H5 (below1 w5 (.cells #[.int .i64 x6.x.toInt, .int .i64 x6.y.toInt, .int .i64 x6.z.toInt] 23))
                          clear hK KK
                          try simp only [Act.put, List.setIfInBounds_toArray, List.set_cons_zero, List.set_cons_succ]
                          refine wpAnyH_done (by as_aux_lemma => kernel_rfl) ?_ _
                          refine NoPanic.normal ?_
                          have BF := belowT H5 (below1 w5 (.cells #[.int .i64 x6.x.toInt, .int .i64 x6.y.toInt, .int .i64 x6.z.toInt] 23))
                          have OF := ownl w5 [.int .i64 x6.x.toInt, .int .i64 x6.y.toInt, .int .i64 x6.z.toInt] 23
                          have SF := HS.out.keep BF
                          go_wp2_with fail
                          go_meet
                          exact ⟨_, rfl, rfl, rfl, rfl, SF, OF⟩
                        · skip
                          rw [if_pos (by rfl)]
                          go_simp
                          refine hK.out _ _ ?_ (fun _hHeldA => ?_)
                          · first | exact belowT (by assumption) (below1 _ _) | exact (belowT (by assumption) (below1 _ _)).drew
                          clear hK KK
                          try simp only [Act.put, List.setIfInBounds_toArray, List.set_cons_zero, List.set_cons_succ]
                          refine wpAnyH_ready (rs := [3]) (by as_aux_lemma => kernel_rfl) (by simp) ?_
                          refine AllReadyH.cons (o := ({ dst := some 34, op := .call { callee := .value (.func 39), args := #[.tmp 31, .tmp 33], argTypes := #[23, 23] }, type := 23, pos := "mat.go:120", after := #[{ on := 0, ground := .data }, { on := 2, ground := .data }, { on := 2, ground := .chain }], guard := none } : Oper)) rfl (fun KK hK => ?_) AllReadyH.nil
                          rw [if_pos (by rfl)]
                          go_simp
                          go_at_call 39; refine (C6.out _).mono ?_; rintro e w5 ⟨rfl, hb5⟩
                          go_wp2_with fail
                          refine hK.out _ _ ?_ (fun hHeld5 => ?_)
                          · exact belowT (by assumption) hb5
                          have OA := (ownl w4 [.int .i64 0, .int .i64 0, .int .i64 0] 23).keep hb5
                          have H5 : Below W0.heap.size W0 w5 := by assumption
                          have S5 := H5.size
                          clear hK KK hb5
                          try simp only [Act.put, List.setIfInBounds_toArray, List.set_cons_zero, List.set_cons_succ]
                          refine wpAnyH_ready (rs := [5]) (by as_aux_lemma => kernel_rfl) (by simp) ?_
                          refine AllReadyH.cons (o := ({ dst := none, op := .store 23 (.tmp 9) (.tmp 34), type := 0, pos := "mat.go:120", after := #[{ on := 4, ground := .data }, { on := 3, ground := .data }, { on := 3, ground := .chain }, { on := 0, ground := .phase }, { on := 1, ground := .phase }, { on := 2, ground := .phase }, { on := 3, ground := .phase }, { on := 4, ground := .phase }], guard := none } : Oper)) rfl (fun KK hK => ?_) AllReadyH.nil
                          rw [if_pos (by rfl)]
                          have p0 := (OA).1.at 0 rfl
                          have q0 := (OA).2 0 (by simp)
                          have p1 := (OA).1.at 1 rfl
                          have q1 := (OA).2 1 (by simp)
                          have p2 := (OA).1.at 2 rfl
                          have q2 := (OA).2 2 (by simp)
                          go_simp
                          refine hK.out _ _ ?_ (fun _hHeldS => ?_)
                          · exact (((H5).setCell (p := ⟨w4.heap.size, 0, none⟩) (show W0.heap.size ≤ w4.heap.size by omega) (.int .i64 x6.x.toInt)).setCell (p := ⟨w4.heap.size, 1, none⟩) (show W0.heap.size ≤ w4.heap.size by omega) (.int .i64 x6.y.toInt)).setCell (p := ⟨w4.heap.size, 2, none⟩) (show W0.heap.size ≤ w4.heap.size by omega) (.int .i64 x6.z.toInt)
                          clear hK KK
                          try simp only [Act.put, List.setIfInBounds_toArray, List.set_cons_zero, List.set_cons_succ]
                          refine wpAnyH_done (by as_aux_lemma => kernel_rfl) ?_ _
                          refine NoPanic.normal ?_
                          have BF := (((H5).setCell (p := ⟨w4.heap.size, 0, none⟩) (show W0.heap.size ≤ w4.heap.size by omega) (.int .i64 x6.x.toInt)).setCell (p := ⟨w4.heap.size, 1, none⟩) (show W0.heap.size ≤ w4.heap.size by omega) (.int .i64 x6.y.toInt)).setCell (p := ⟨w4.heap.size, 2, none⟩) (show W0.heap.size ≤ w4.heap.size by omega) (.int .i64 x6.z.toInt)
                          have OF := (((OA).set 0 (.int .i64 x6.x.toInt)).set 1 (.int .i64 x6.y.toInt)).set 2 (.int .i64 x6.z.toInt)
                          have SF := HS.out.keep BF
                          go_wp2_with fail
                          go_meet
                          exact ⟨_, rfl, rfl, rfl, rfl, SF, OF⟩
                      · skip
                        rw [if_pos (by rfl)]
                        go_simp
                        refine hK.out _ _ ?_ (fun _hHeldA => ?_)
                        · first | exact below1 W0 (.cells #[.int .i64 0, .int .i64 0, .int .i64 0] 23) | exact (below1 W0 (.cells #[.int .i64 0, .int .i64 0, .int .i64 0] 23)).drew
                        clear hK KK
                        try simp only [Act.put, List.setIfInBounds_toArray, List.set_cons_zero, List.set_cons_succ]
                        refine wpAnyH_ready (rs := [2]) (by as_aux_lemma => kernel_rfl) (by simp) ?_
                        refine AllReadyH.cons (o := ({ dst := some 33, op := .call { callee := .value (.func 42), args := #[.tmp 32], argTypes := #[3] }, type := 23, pos := "mat.go:120", after := #[{ on := 1, ground := .data }], guard := none } : Oper)) rfl (fun KK hK => ?_) AllReadyH.nil
                        rw [if_pos (by rfl)]
                        go_simp
                        go_at_call 42; refine (O0.out _).mono ?_; rintro e w4 ⟨rfl, hb4⟩
                        go_wp2_with fail
                        refine hK.out _ _ ?_ (fun hHeld4 => ?_)
                        · exact belowT (by assumption) hb4
                        have OA := ((ownl W0 [.int .i64 0, .int .i64 0, .int .i64 0] 23).drew).keep hb4
                        have H4 : Below W0.heap.size W0 w4 := by assumption
                        have S4 := H4.size
                        clear hK KK hb4
                        try simp only [Act.put, List.setIfInBounds_toArray, List.set_cons_zero, List.set_cons_succ]
                        refine wpAnyH_ready (rs := [3]) (by as_aux_lemma => kernel_rfl) (by simp) ?_
                        refine AllReadyH.cons (o := ({ dst := some 34, op := .call { callee := .value (.func 39), args := #[.tmp 31, .tmp 33], argTypes := #[23, 23] }, type := 23, pos := "mat.go:120", after := #[{ on := 0, ground := .data }, { on := 2, ground := .data }, { on := 2, ground := .chain }], guard := none } : Oper)) rfl (fun KK hK => ?_) AllReadyH.nil
                        rw [if_pos (by rfl)]
                        go_simp
                        go_at_call 39; refine (C6.out _).mono ?_; rintro e w5 ⟨rfl, hb5⟩
                        go_wp2_with fail
                        refine hK.out _ _ ?_ (fun hHeld5 => ?_)
                        · exact belowT (by assumption) hb5
                        replace OA := (OA).keep hb5
                        have H5 : Below W0.heap.size W0 w5 := by assumption
                        have S5 := H5.size
                        clear hK KK hb5
                        try simp only [Act.put, List.setIfInBounds_toArray, List.set_cons_zero, List.set_cons_succ]
                        refine wpAnyH_ready (rs := [5]) (by as_aux_lemma => kernel_rfl) (by simp) ?_
                        refine AllReadyH.cons (o := ({ dst := none, op := .store 23 (.tmp 9) (.tmp 34), type := 0, pos := "mat.go:120", after := #[{ on := 4, ground := .data }, { on := 3, ground := .data }, { on := 3, ground := .chain }, { on := 0, ground := .phase }, { on := 1, ground := .phase }, { on := 2, ground := .phase }, { on := 3, ground := .phase }, { on := 4, ground := .phase }], guard := none } : Oper)) rfl (fun KK hK => ?_) AllReadyH.nil
                        rw [if_pos (by rfl)]
                        have p0 := (OA).1.at 0 rfl
                        have q0 := (OA).2 0 (by simp)
                        have p1 := (OA).1.at 1 rfl
                        have q1 := (OA).2 1 (by simp)
                        have p2 := (OA).1.at 2 rfl
                        have q2 := (OA).2 2 (by simp)
                        go_simp
                        refine hK.out _ _ ?_ (fun _hHeldS => ?_)
                        · exact (((H5).setCell (p := ⟨W0.heap.size, 0, none⟩) (show W0.heap.size ≤ W0.heap.size by omega) (.int .i64 x6.x.toInt)).setCell (p := ⟨W0.heap.size, 1, none⟩) (show W0.heap.size ≤ W0.heap.size by omega) (.int .i64 x6.y.toInt)).setCell (p := ⟨W0.heap.size, 2, none⟩) (show W0.heap.size ≤ W0.heap.size by omega) (.int .i64 x6.z.toInt)
                        clear hK KK
                        try simp only [Act.put, List.setIfInBounds_toArray, List.set_cons_zero, List.set_cons_succ]
                        refine wpAnyH_done (by as_aux_lemma => kernel_rfl) ?_ _
                        refine NoPanic.normal ?_
                        have BF := (((H5).setCell (p := ⟨W0.heap.size, 0, none⟩) (show W0.heap.size ≤ W0.heap.size by omega) (.int .i64 x6.x.toInt)).setCell (p := ⟨W0.heap.size, 1, none⟩) (show W0.heap.size ≤ W0.heap.size by omega) (.int .i64 x6.y.toInt)).setCell (p := ⟨W0.heap.size, 2, none⟩) (show W0.heap.size ≤ W0.heap.size by omega) (.int .i64 x6.z.toInt)
                        have OF := (((OA).set 0 (.int .i64 x6.x.toInt)).set 1 (.int .i64 x6.y.toInt)).set 2 (.int .i64 x6.z.toInt)
                        have SF := HS.out.keep BF
                        go_wp2_with fail
                        go_meet
                        exact ⟨_, rfl, rfl, rfl, rfl, SF, OF⟩
                    case rest =>
                      clear HS r0 r1 r2
                      rename World => W0
                      obtain ⟨X, rfl, rfl, rfl, rfl, hS, OX⟩ := hcut
                      have g0 := OX.1.at 0 rfl; have g1 := OX.1.at 1 rfl; have g2 := OX.1.at 2 rfl
                      clear OX
                      cases q6 with
                      | false =>
                        obtain ⟨y0, k0, f0⟩ := hS.there 1 rfl 0 rfl; obtain ⟨y1, k1, f1⟩ := hS.there 1 rfl 1 rfl; obtain ⟨y2, k2, f2⟩ := hS.there 1 rfl 2 rfl
                        have BH := Lib.hid hS.below
                        clear hS
                        go_wp2_with fail
                        refine bodyPost_ret (v := .tuple #[vv x6, .bool true]) (by simp [results, Try.results21, go_sem, *]) rfl ⟨rfl, ?_⟩
                        iterate 3 refine Below.setCell (p := ⟨w.heap.size + 1, _, none⟩) ?_ (show w.heap.size ≤ w.heap.size + 1 by omega) _
                        exact BH.out
                      | true =>
                        go_wp2_with fail
                        clear g0 g1 g2
                        rw [rounds_succ]
                        go_upto_region 15 with fail
                        have HS := Lib.hid hS
                        have r0 : ∀ w', Below W0.heap.size W0 w' → w'.cell? ⟨Ar, 0, none⟩ = some (.int .i64 m.b.x.toInt) := fun w' h => (HS.out.keep h).at 2 rfl 0 rfl
                        have r1 : ∀ w', Below W0.heap.size W0 w' → w'.cell? ⟨Ar, 1, none⟩ = some (.int .i64 m.b.y.toInt) := fun w' h => (HS.out.keep h).at 2 rfl 1 rfl
                        have r2 : ∀ w', Below W0.heap.size W0 w' → w'.cell? ⟨Ar, 2, none⟩ = some (.int .i64 m.b.z.toInt) := fun w' h => (HS.out.keep h).at 2 rfl 2 rfl
                        clear hS
                        go_cut [9, 24, 25, 28] from 9 to 35 (fun p u v q wx => ∃ X, p = .pointer (some ⟨X, 0, none⟩) ∧ u = mv m ∧ v = .int .i64 1 ∧ q = .int .i64 1 ∧ Sp w [(w.heap.size, [some (.int .i64 m.a.x.toInt), some (.int .i64 m.a.y.toInt), some (.int .i64 m.a.z.toInt), some (.int .i64 m.b.x.toInt), some (.int .i64 m.b.y.toInt), some (.int .i64 m.b.z.toInt), some (.int .i64 m.c.x.toInt), some (.int .i64 m.c.y.toInt), some (.int .i64 m.c.z.toInt)]), (w.heap.size + 1, [none, none, none]), (Ar, [some (.int .i64 m.b.x.toInt), some (.int .i64 m.b.y.toInt), some (.int .i64 m.b.z.toInt)])] wx ∧ OwnL wx X (vl x7))
                        case first =>
                          change (Code.region 15 okernel true).wp Try.prog _ _ _
                          refine wp_region_noPanic ?_
                          refine wp_region_held_drew (S := fun w' => Below W0.heap.size W0 w') (by kernel_rfl) ((Below.refl _ _).drew) (fun hHeld => ?_)
                          refine wpAnyH_take (i := 0) (oi := ({ dst := some 31, op := .load 23 (.tmp 7), type := 23, pos := "mat.go:120", after := #[], guard := none } : Oper)) (v := ?vv7_1_) rfl okernel_plain (by as_aux_lemma => kernel_rfl) (by as_aux_lemma => kernel_rfl) (fun _ _ _ h => h) (Or.inl ⟨by rfl, ?yv7_1_⟩) (by assumption) ?rv7_1_
                          case yv7_1_ => (intro w hSw; (try dsimp only at hSw); go_simp; try with_reducible rfl)
                          try simp only [Act.put, List.setIfInBounds_toArray, List.set_cons_zero, List.set_cons_succ]
                          refine wpAnyH_take (i := 1) (oi := ({ dst := some 32, op := .move (.tmp 8), type := 3, pos := "mat.go:120", after := #[], guard := none } : Oper)) (v := ?vv7_2_) rfl okernel_plain (by as_aux_lemma => kernel_rfl) (by as_aux_lemma => kernel_rfl) (fun _ _ _ h => h) (Or.inl ⟨by rfl, ?yv7_2_⟩) (by assumption) ?rv7_2_
                          case yv7_2_ => (intro w hSw; (try dsimp only at hSw); go_simp; try with_reducible rfl)
                          try simp only [Act.put, List.setIfInBounds_toArray, List.set_cons_zero, List.set_cons_succ]
                          refine wpAnyH_ready (rs := [2, 4]) (by as_aux_lemma => kernel_rfl) (by simp) ?_
                          refine AllReadyH.cons (o := ({ dst := some 33, op := .call { callee := .value (.func 42), args := #[.tmp 32], argTypes := #[3] }, type := 23, pos := "mat.go:120", after := #[{ on := 1, ground := .data }], guard := none } : Oper)) rfl (fun KK hK => ?_) (AllReadyH.cons (o := ({ dst := some 9, op := .alloc 23, type := 0, pos := "mat.go:120", after := #[], guard := none } : Oper)) rfl (fun KK hK => ?_) AllReadyH.nil)
                          · skip
                            rw [if_pos (by rfl)]
                            go_simp
                            go_at_call 42; refine (O1.out _).mono ?_; rintro e w4 ⟨rfl, hb4⟩
                            go_wp2_with fail
                            refine hK.out _ _ ?_ (fun hHeld4 => ?_)
                            · exact belowT (by assumption) hb4
                            have H4 : Below W0.heap.size W0 w4 := by assumption
                            have S4 := H4.size
                            clear hK KK hb4
                            try simp only [Act.put, List.setIfInBounds_toArray, List.set_cons_zero, List.set_cons_succ]
                            refine wpAnyH_ready (rs := [3, 4]) (by as_aux_lemma => kernel_rfl) (by simp) ?_
                            refine AllReadyH.cons (o := ({ dst := some 34, op := .call { callee := .value (.func 39), args := #[.tmp 31, .tmp 33], argTypes := #[23, 23] }, type := 23, pos := "mat.go:120", after := #[{ on := 0, ground := .data }, { on := 2, ground := .data }, { on := 2, ground := .chain }], guard := none } : Oper)) rfl (fun KK hK => ?_) (AllReadyH.cons (o := ({ dst := some 9, op := .alloc 23, type := 0, pos := "mat.go:120", after := #[], guard := none } : Oper)) rfl (fun KK hK => ?_) AllReadyH.nil)
                            · skip
                              rw [if_pos (by rfl)]
                              go_simp
                              go_at_call 39; refine (C7.out _).mono ?_; rintro e w5 ⟨rfl, hb5⟩
                              go_wp2_with fail
                              refine hK.out _ _ ?_ (fun hHeld5 => ?_)
                              · exact belowT (by assumption) hb5
                              have H5 : Below W0.heap.size W0 w5 := by assumption
                              have S5 := H5.size
                              clear hK KK hb5
                              try simp only [Act.put, List.setIfInBounds_toArray, List.set_cons_zero, List.set_cons_succ]
                              refine wpAnyH_ready (rs := [4]) (by as_aux_lemma => kernel_rfl) (by simp) ?_
                              refine AllReadyH.cons (o := ({ dst := some 9, op := .alloc 23, type := 0, pos := "mat.go:120", after := #[], guard := none } : Oper)) rfl (fun KK hK => ?_) AllReadyH.nil
                              rw [if_pos (by rfl)]
                              go_simp
                              refine hK.out _ _ ?_ (fun _hHeldA => ?_)
                              · first | exact belowT (by assumption) (below1 _ _) | exact (belowT (by assumption) (below1 _ _)).drew
                              clear hK KK
                              try simp only [Act.put, List.setIfInBounds_toArray, List.set_cons_zero, List.set_cons_succ]
                              refine wpAnyH_ready (rs := [5]) (by as_aux_lemma => kernel_rfl) (by simp) ?_
                              refine AllReadyH.cons (o := ({ dst := none, op := .store 23 (.tmp 9) (.tmp 34), type := 0, pos := "mat.go:120", after := #[{ on := 4, ground := .data }, { on := 3, ground := .data }, { on := 3, ground := .chain }, { on := 0, ground := .phase }, { on := 1, ground := .phase }, { on := 2, ground := .phase }, { on := 3, ground := .phase }, { on := 4, ground := .phase }], guard := none } : Oper)) rfl (fun KK hK => ?_) AllReadyH.nil
                              rw [if_pos (by rfl)]
                              have p0 := (ownl w5 [.int .i64 0, .int .i64 0, .int .i64 0] 23).1.at 0 rfl
                              have q0 := (ownl w5 [.int .i64 0, .int .i64 0, .int .i64 0] 23).2 0 (by simp)
                              have p1 := (ownl w5 [.int .i64 0, .int .i64 0, .int .i64 0] 23).1.at 1 rfl
                              have q1 := (ownl w5 [.int .i64 0, .int .i64 0, .int .i64 0] 23).2 1 (by simp)
                              have p2 := (ownl w5 [.int .i64 0, .int .i64 0, .int .i64 0] 23).1.at 2 rfl
                              have q2 := (ownl w5 [.int .i64 0, .int .i64 0, .int .i64 0] 23).2 2 (by simp)
                              go_simp
                              refine hK.out _ _ ?_ (fun _hHeldS => ?_)
                              · exact belowT H5 (below1 w5 (.cells #[.int .i64 x7.x.toInt, .int .i64 x7.y.toInt, .int .i64 x7.z.toInt] 23))
                              clear hK KK
                              try simp only [Act.put, List.setIfInBounds_toArray, List.set_cons_zero, List.set_cons_succ]
                              refine wpAnyH_done (by as_aux_lemma => kernel_rfl) ?_ _
                              refine NoPanic.normal ?_
                              have BF := belowT H5 (below1 w5 (.cells #[.int .i64 x7.x.toInt, .int .i64 x7.y.toInt, .int .i64 x7.z.toInt] 23))
                              have OF := ownl w5 [.int .i64 x7.x.toInt, .int .i64 x7.y.toInt, .int .i64 x7.z.toInt] 23
                              have SF := HS.out.keep BF
                              go_wp2_with fail
                              go_meet
                              exact ⟨_, rfl, rfl, rfl, rfl, SF, OF⟩
                            · skip
                              rw [if_pos (by rfl)]
                              go_simp
                              refine hK.out _ _ ?_ (fun _hHeldA => ?_)
                              · first | exact belowT (by assumption) (below1 _ _) | exact (belowT (by assumption) (below1 _ _)).drew
                              clear hK KK
                              try simp only [Act.put, List.setIfInBounds_toArray, List.set_cons_zero, List.set_cons_succ]
                              refine wpAnyH_ready (rs := [3]) (by as_aux_lemma => kernel_rfl) (by simp) ?_
                              refine AllReadyH.cons (o := ({ dst := some 34, op := .call { callee := .value (.func 39), args := #[.tmp 31, .tmp 33], argTypes := #[23, 23] }, type := 23, pos := "mat.go:120", after := #[{ on := 0, ground := .data }, { on := 2, ground := .data }, { on := 2, ground := .chain }], guard := none } : Oper)) rfl (fun KK hK => ?_) AllReadyH.nil
                              rw [if_pos (by rfl)]
                              go_simp
                              go_at_call 39; refine (C7.out _).mono ?_; rintro e w5 ⟨rfl, hb5⟩
                              go_wp2_with fail
                              refine hK.out _ _ ?_ (fun hHeld5 => ?_)
                              · exact belowT (by assumption) hb5
                              have OA := (ownl w4 [.int .i64 0, .int .i64 0, .int .i64 0] 23).keep hb5
                              have H5 : Below W0.heap.size W0 w5 := by assumption
                              have S5 := H5.size
                              clear hK KK hb5
                              try simp only [Act.put, List.setIfInBounds_toArray, List.set_cons_zero, List.set_cons_succ]
                              refine wpAnyH_ready (rs := [5]) (by as_aux_lemma => kernel_rfl) (by simp) ?_
                              refine AllReadyH.cons (o := ({ dst := none, op := .store 23 (.tmp 9) (.tmp 34), type := 0, pos := "mat.go:120", after := #[{ on := 4, ground := .data }, { on := 3, ground := .data }, { on := 3, ground := .chain }, { on := 0, ground := .phase }, { on := 1, ground := .phase }, { on := 2, ground := .phase }, { on := 3, ground := .phase }, { on := 4, ground := .phase }], guard := none } : Oper)) rfl (fun KK hK => ?_) AllReadyH.nil
                              rw [if_pos (by rfl)]
                              have p0 := (OA).1.at 0 rfl
                              have q0 := (OA).2 0 (by simp)
                              have p1 := (OA).1.at 1 rfl
                              have q1 := (OA).2 1 (by simp)
                              have p2 := (OA).1.at 2 rfl
                              have q2 := (OA).2 2 (by simp)
                              go_simp
                              refine hK.out _ _ ?_ (fun _hHeldS => ?_)
                              · exact (((H5).setCell (p := ⟨w4.heap.size, 0, none⟩) (show W0.heap.size ≤ w4.heap.size by omega) (.int .i64 x7.x.toInt)).setCell (p := ⟨w4.heap.size, 1, none⟩) (show W0.heap.size ≤ w4.heap.size by omega) (.int .i64 x7.y.toInt)).setCell (p := ⟨w4.heap.size, 2, none⟩) (show W0.heap.size ≤ w4.heap.size by omega) (.int .i64 x7.z.toInt)
                              clear hK KK
                              try simp only [Act.put, List.setIfInBounds_toArray, List.set_cons_zero, List.set_cons_succ]
                              refine wpAnyH_done (by as_aux_lemma => kernel_rfl) ?_ _
                              refine NoPanic.normal ?_
                              have BF := (((H5).setCell (p := ⟨w4.heap.size, 0, none⟩) (show W0.heap.size ≤ w4.heap.size by omega) (.int .i64 x7.x.toInt)).setCell (p := ⟨w4.heap.size, 1, none⟩) (show W0.heap.size ≤ w4.heap.size by omega) (.int .i64 x7.y.toInt)).setCell (p := ⟨w4.heap.size, 2, none⟩) (show W0.heap.size ≤ w4.heap.size by omega) (.int .i64 x7.z.toInt)
                              have OF := (((OA).set 0 (.int .i64 x7.x.toInt)).set 1 (.int .i64 x7.y.toInt)).set 2 (.int .i64 x7.z.toInt)
                              have SF := HS.out.keep BF
                              go_wp2_with fail
                              go_meet
                              exact ⟨_, rfl, rfl, rfl, rfl, SF, OF⟩
                          · skip
                            rw [if_pos (by rfl)]
                            go_simp
                            refine hK.out _ _ ?_ (fun _hHeldA => ?_)
                            · first | exact below1 W0 (.cells #[.int .i64 0, .int .i64 0, .int .i64 0] 23) | exact (below1 W0 (.cells #[.int .i64 0, .int .i64 0, .int .i64 0] 23)).drew
                            clear hK KK
                            try simp only [Act.put, List.setIfInBounds_toArray, List.set_cons_zero, List.set_cons_succ]
                            refine wpAnyH_ready (rs := [2]) (by as_aux_lemma => kernel_rfl) (by simp) ?_
                            refine AllReadyH.cons (o := ({ dst := some 33, op := .call { callee := .value (.func 42), args := #[.tmp 32], argTypes := #[3] }, type := 23, pos := "mat.go:120", after := #[{ on := 1, ground := .data }], guard := none } : Oper)) rfl (fun KK hK => ?_) AllReadyH.nil
                            rw [if_pos (by rfl)]
                            go_simp
                            go_at_call 42; refine (O1.out _).mono ?_; rintro e w4 ⟨rfl, hb4⟩
                            go_wp2_with fail
                            refine hK.out _ _ ?_ (fun hHeld4 => ?_)
                            · exact belowT (by assumption) hb4
                            have OA := ((ownl W0 [.int .i64 0, .int .i64 0, .int .i64 0] 23).drew).keep hb4
                            have H4 : Below W0.heap.size W0 w4 := by assumption
                            have S4 := H4.size
                            clear hK KK hb4
                            try simp only [Act.put, List.setIfInBounds_toArray, List.set_cons_zero, List.set_cons_succ]
                            refine wpAnyH_ready (rs := [3]) (by as_aux_lemma => kernel_rfl) (by simp) ?_
                            refine AllReadyH.cons (o := ({ dst := some 34, op := .call { callee := .value (.func 39), args := #[.tmp 31, .tmp 33], argTypes := #[23, 23] }, type := 23, pos := "mat.go:120", after := #[{ on := 0, ground := .data }, { on := 2, ground := .data }, { on := 2, ground := .chain }], guard := none } : Oper)) rfl (fun KK hK => ?_) AllReadyH.nil
                            rw [if_pos (by rfl)]
                            go_simp
                            go_at_call 39; refine (C7.out _).mono ?_; rintro e w5 ⟨rfl, hb5⟩
                            go_wp2_with fail
                            refine hK.out _ _ ?_ (fun hHeld5 => ?_)
                            · exact belowT (by assumption) hb5
                            replace OA := (OA).keep hb5
                            have H5 : Below W0.heap.size W0 w5 := by assumption
                            have S5 := H5.size
                            clear hK KK hb5
                            try simp only [Act.put, List.setIfInBounds_toArray, List.set_cons_zero, List.set_cons_succ]
                            refine wpAnyH_ready (rs := [5]) (by as_aux_lemma => kernel_rfl) (by simp) ?_
                            refine AllReadyH.cons (o := ({ dst := none, op := .store 23 (.tmp 9) (.tmp 34), type := 0, pos := "mat.go:120", after := #[{ on := 4, ground := .data }, { on := 3, ground := .data }, { on := 3, ground := .chain }, { on := 0, ground := .phase }, { on := 1, ground := .phase }, { on := 2, ground := .phase }, { on := 3, ground := .phase }, { on := 4, ground := .phase }], guard := none } : Oper)) rfl (fun KK hK => ?_) AllReadyH.nil
                            rw [if_pos (by rfl)]
                            have p0 := (OA).1.at 0 rfl
                            have q0 := (OA).2 0 (by simp)
                            have p1 := (OA).1.at 1 rfl
                            have q1 := (OA).2 1 (by simp)
                            have p2 := (OA).1.at 2 rfl
                            have q2 := (OA).2 2 (by simp)
                            go_simp
                            refine hK.out _ _ ?_ (fun _hHeldS => ?_)
                            · exact (((H5).setCell (p := ⟨W0.heap.size, 0, none⟩) (show W0.heap.size ≤ W0.heap.size by omega) (.int .i64 x7.x.toInt)).setCell (p := ⟨W0.heap.size, 1, none⟩) (show W0.heap.size ≤ W0.heap.size by omega) (.int .i64 x7.y.toInt)).setCell (p := ⟨W0.heap.size, 2, none⟩) (show W0.heap.size ≤ W0.heap.size by omega) (.int .i64 x7.z.toInt)
                            clear hK KK
                            try simp only [Act.put, List.setIfInBounds_toArray, List.set_cons_zero, List.set_cons_succ]
                            refine wpAnyH_done (by as_aux_lemma => kernel_rfl) ?_ _
                            refine NoPanic.normal ?_
                            have BF := (((H5).setCell (p := ⟨W0.heap.size, 0, none⟩) (show W0.heap.size ≤ W0.heap.size by omega) (.int .i64 x7.x.toInt)).setCell (p := ⟨W0.heap.size, 1, none⟩) (show W0.heap.size ≤ W0.heap.size by omega) (.int .i64 x7.y.toInt)).setCell (p := ⟨W0.heap.size, 2, none⟩) (show W0.heap.size ≤ W0.heap.size by omega) (.int .i64 x7.z.toInt)
                            have OF := (((OA).set 0 (.int .i64 x7.x.toInt)).set 1 (.int .i64 x7.y.toInt)).set 2 (.int .i64 x7.z.toInt)
                            have SF := HS.out.keep BF
                            go_wp2_with fail
                            go_meet
                            exact ⟨_, rfl, rfl, rfl, rfl, SF, OF⟩
                        case rest =>
                          clear HS r0 r1 r2
                          rename World => W0
                          obtain ⟨X, rfl, rfl, rfl, rfl, hS, OX⟩ := hcut
                          have g0 := OX.1.at 0 rfl; have g1 := OX.1.at 1 rfl; have g2 := OX.1.at 2 rfl
                          clear OX
                          cases q7 with
                          | false =>
                            obtain ⟨y0, k0, f0⟩ := hS.there 1 rfl 0 rfl; obtain ⟨y1, k1, f1⟩ := hS.there 1 rfl 1 rfl; obtain ⟨y2, k2, f2⟩ := hS.there 1 rfl 2 rfl
                            have BH := Lib.hid hS.below
                            clear hS
                            go_wp2_with fail
                            refine bodyPost_ret (v := .tuple #[vv x7, .bool true]) (by simp [results, Try.results21, go_sem, *]) rfl ⟨rfl, ?_⟩
                            iterate 3 refine Below.setCell (p := ⟨w.heap.size + 1, _, none⟩) ?_ (show w.heap.size ≤ w.heap.size + 1 by omega) _
                            exact BH.out
                          | true =>
                            go_wp2_with fail
                            clear g0 g1 g2
                            rw [rounds_succ]
                            go_upto_region 15 with fail
                            have HS := Lib.hid hS
                            have r0 : ∀ w', Below W0.heap.size W0 w' → w'.cell? ⟨Ar, 0, none⟩ = some (.int .i64 m.b.x.toInt) := fun w' h => (HS.out.keep h).at 2 rfl 0 rfl
                            have r1 : ∀ w', Below W0.heap.size W0 w' → w'.cell? ⟨Ar, 1, none⟩ = some (.int .i64 m.b.y.toInt) := fun w' h => (HS.out.keep h).at 2 rfl 1 rfl
                            have r2 : ∀ w', Below W0.heap.size W0 w' → w'.cell? ⟨Ar, 2, none⟩ = some (.int .i64 m.b.z.toInt) := fun w' h => (HS.out.keep h).at 2 rfl 2 rfl
                            clear hS
                            go_cut [9, 24, 25, 28] from 9 to 35 (fun p u v q wx => ∃ X, p = .pointer (some ⟨X, 0, none⟩) ∧ u = mv m ∧ v = .int .i64 1 ∧ q = .int .i64 2 ∧ Sp w [(w.heap.size, [some (.int .i64 m.a.x.toInt), some (.int .i64 m.a.y.toInt), some (.int .i64 m.a.z.toInt), some (.int .i64 m.b.x.toInt), some (.int .i64 m.b.y.toInt), some (.int .i64 m.b.z.toInt), some (.int .i64 m.c.x.toInt), some (.int .i64 m.c.y.toInt), some (.int .i64 m.c.z.toInt)]), (w.heap.size + 1, [none, none, none]), (Ar, [some (.int .i64 m.b.x.toInt), some (.int .i64 m.b.y.toInt), some (.int .i64 m.b.z.toInt)])] wx ∧ OwnL wx X (vl x8))
                            case first =>
                              change (Code.region 15 okernel true).wp Try.prog _ _ _
                              refine wp_region_noPanic ?_
                              refine wp_region_held_drew (S := fun w' => Below W0.heap.size W0 w') (by kernel_rfl) ((Below.refl _ _).drew) (fun hHeld => ?_)
                              refine wpAnyH_take (i := 0) (oi := ({ dst := some 31, op := .load 23 (.tmp 7), type := 23, pos := "mat.go:120", after := #[], guard := none } : Oper)) (v := ?vv8_1_) rfl okernel_plain (by as_aux_lemma => kernel_rfl) (by as_aux_lemma => kernel_rfl) (fun _ _ _ h => h) (Or.inl ⟨by rfl, ?yv8_1_⟩) (by assumption) ?rv8_1_
                              case yv8_1_ => (intro w hSw; (try dsimp only at hSw); go_simp; try with_reducible rfl)
                              try simp only [Act.put, List.setIfInBounds_toArray, List.set_cons_zero, List.set_cons_succ]
                              refine wpAnyH_take (i := 1) (oi := ({ dst := some 32, op := .move (.tmp 8), type := 3, pos := "mat.go:120", after := #[], guard := none } : Oper)) (v := ?vv8_2_) rfl okernel_plain (by as_aux_lemma => kernel_rfl) (by as_aux_lemma => kernel_rfl) (fun _ _ _ h => h) (Or.inl ⟨by rfl, ?yv8_2_⟩) (by assumption) ?rv8_2_
                              case yv8_2_ => (intro w hSw; (try dsimp only at hSw); go_simp; try with_reducible rfl)
                              try simp only [Act.put, List.setIfInBounds_toArray, List.set_cons_zero, List.set_cons_succ]
                              refine wpAnyH_ready (rs := [2, 4]) (by as_aux_lemma => kernel_rfl) (by simp) ?_
                              refine AllReadyH.cons (o := ({ dst := some 33, op := .call { callee := .value (.func 42), args := #[.tmp 32], argTypes := #[3] }, type := 23, pos := "mat.go:120", after := #[{ on := 1, ground := .data }], guard := none } : Oper)) rfl (fun KK hK => ?_) (AllReadyH.cons (o := ({ dst := some 9, op := .alloc 23, type := 0, pos := "mat.go:120", after := #[], guard := none } : Oper)) rfl (fun KK hK => ?_) AllReadyH.nil)
                              · skip
                                rw [if_pos (by rfl)]
                                go_simp
                                go_at_call 42; refine (O2.out _).mono ?_; rintro e w4 ⟨rfl, hb4⟩
                                go_wp2_with fail
                                refine hK.out _ _ ?_ (fun hHeld4 => ?_)
                                · exact belowT (by assumption) hb4
                                have H4 : Below W0.heap.size W0 w4 := by assumption
                                have S4 := H4.size
                                clear hK KK hb4
                                try simp only [Act.put, List.setIfInBounds_toArray, List.set_cons_zero, List.set_cons_succ]
                                refine wpAnyH_ready (rs := [3, 4]) (by as_aux_lemma => kernel_rfl) (by simp) ?_
                                refine AllReadyH.cons (o := ({ dst := some 34, op := .call { callee := .value (.func 39), args := #[.tmp 31, .tmp 33], argTypes := #[23, 23] }, type := 23, pos := "mat.go:120", after := #[{ on := 0, ground := .data }, { on := 2, ground := .data }, { on := 2, ground := .chain }], guard := none } : Oper)) rfl (fun KK hK => ?_) (AllReadyH.cons (o := ({ dst := some 9, op := .alloc 23, type := 0, pos := "mat.go:120", after := #[], guard := none } : Oper)) rfl (fun KK hK => ?_) AllReadyH.nil)
                                · skip
                                  rw [if_pos (by rfl)]
                                  go_simp
                                  go_at_call 39; refine (C8.out _).mono ?_; rintro e w5 ⟨rfl, hb5⟩
                                  go_wp2_with fail
                                  refine hK.out _ _ ?_ (fun hHeld5 => ?_)
                                  · exact belowT (by assumption) hb5
                                  have H5 : Below W0.heap.size W0 w5 := by assumption
                                  have S5 := H5.size
                                  clear hK KK hb5
                                  try simp only [Act.put, List.setIfInBounds_toArray, List.set_cons_zero, List.set_cons_succ]
                                  refine wpAnyH_ready (rs := [4]) (by as_aux_lemma => kernel_rfl) (by simp) ?_
                                  refine AllReadyH.cons (o := ({ dst := some 9, op := .alloc 23, type := 0, pos := "mat.go:120", after := #[], guard := none } : Oper)) rfl (fun KK hK => ?_) AllReadyH.nil
                                  rw [if_pos (by rfl)]
                                  go_simp
                                  refine hK.out _ _ ?_ (fun _hHeldA => ?_)
                                  · first | exact belowT (by assumption) (below1 _ _) | exact (belowT (by assumption) (below1 _ _)).drew
                                  clear hK KK
                                  try simp only [Act.put, List.setIfInBounds_toArray, List.set_cons_zero, List.set_cons_succ]
                                  refine wpAnyH_ready (rs := [5]) (by as_aux_lemma => kernel_rfl) (by simp) ?_
                                  refine AllReadyH.cons (o := ({ dst := none, op := .store 23 (.tmp 9) (.tmp 34), type := 0, pos := "mat.go:120", after := #[{ on := 4, ground := .data }, { on := 3, ground := .data }, { on := 3, ground := .chain }, { on := 0, ground := .phase }, { on := 1, ground := .phase }, { on := 2, ground := .phase }, { on := 3, ground := .phase }, { on := 4, ground := .phase }], guard := none } : Oper)) rfl (fun KK hK => ?_) AllReadyH.nil
                                  rw [if_pos (by rfl)]
                                  have p0 := (ownl w5 [.int .i64 0, .int .i64 0, .int .i64 0] 23).1.at 0 rfl
                                  have q0 := (ownl w5 [.int .i64 0, .int .i64 0, .int .i64 0] 23).2 0 (by simp)
                                  have p1 := (ownl w5 [.int .i64 0, .int .i64 0, .int .i64 0] 23).1.at 1 rfl
                                  have q1 := (ownl w5 [.int .i64 0, .int .i64 0, .int .i64 0] 23).2 1 (by simp)
                                  have p2 := (ownl w5 [.int .i64 0, .int .i64 0, .int .i64 0] 23).1.at 2 rfl
                                  have q2 := (ownl w5 [.int .i64 0, .int .i64 0, .int .i64 0] 23).2 2 (by simp)
                                  go_simp
                                  refine hK.out _ _ ?_ (fun _hHeldS => ?_)
                                  · exact belowT H5 (below1 w5 (.cells #[.int .i64 x8.x.toInt, .int .i64 x8.y.toInt, .int .i64 x8.z.toInt] 23))
                                  clear hK KK
                                  try simp only [Act.put, List.setIfInBounds_toArray, List.set_cons_zero, List.set_cons_succ]
                                  refine wpAnyH_done (by as_aux_lemma => kernel_rfl) ?_ _
                                  refine NoPanic.normal ?_
                                  have BF := belowT H5 (below1 w5 (.cells #[.int .i64 x8.x.toInt, .int .i64 x8.y.toInt, .int .i64 x8.z.toInt] 23))
                                  have OF := ownl w5 [.int .i64 x8.x.toInt, .int .i64 x8.y.toInt, .int .i64 x8.z.toInt] 23
                                  have SF := HS.out.keep BF
                                  go_wp2_with fail
                                  go_meet
                                  exact ⟨_, rfl, rfl, rfl, rfl, SF, OF⟩
                                · skip
                                  rw [if_pos (by rfl)]
                                  go_simp
                                  refine hK.out _ _ ?_ (fun _hHeldA => ?_)
                                  · first | exact belowT (by assumption) (below1 _ _) | exact (belowT (by assumption) (below1 _ _)).drew
                                  clear hK KK
                                  try simp only [Act.put, List.setIfInBounds_toArray, List.set_cons_zero, List.set_cons_succ]
                                  refine wpAnyH_ready (rs := [3]) (by as_aux_lemma => kernel_rfl) (by simp) ?_
                                  refine AllReadyH.cons (o := ({ dst := some 34, op := .call { callee := .value (.func 39), args := #[.tmp 31, .tmp 33], argTypes := #[23, 23] }, type := 23, pos := "mat.go:120", after := #[{ on := 0, ground := .data }, { on := 2, ground := .data }, { on := 2, ground := .chain }], guard := none } : Oper)) rfl (fun KK hK => ?_) AllReadyH.nil
                                  rw [if_pos (by rfl)]
                                  go_simp
                                  go_at_call 39; refine (C8.out _).mono ?_; rintro e w5 ⟨rfl, hb5⟩
                                  go_wp2_with fail
                                  refine hK.out _ _ ?_ (fun hHeld5 => ?_)
                                  · exact belowT (by assumption) hb5
                                  have OA := (ownl w4 [.int .i64 0, .int .i64 0, .int .i64 0] 23).keep hb5
                                  have H5 : Below W0.heap.size W0 w5 := by assumption
                                  have S5 := H5.size
                                  clear hK KK hb5
                                  try simp only [Act.put, List.setIfInBounds_toArray, List.set_cons_zero, List.set_cons_succ]
                                  refine wpAnyH_ready (rs := [5]) (by as_aux_lemma => kernel_rfl) (by simp) ?_
                                  refine AllReadyH.cons (o := ({ dst := none, op := .store 23 (.tmp 9) (.tmp 34), type := 0, pos := "mat.go:120", after := #[{ on := 4, ground := .data }, { on := 3, ground := .data }, { on := 3, ground := .chain }, { on := 0, ground := .phase }, { on := 1, ground := .phase }, { on := 2, ground := .phase }, { on := 3, ground := .phase }, { on := 4, ground := .phase }], guard := none } : Oper)) rfl (fun KK hK => ?_) AllReadyH.nil
                                  rw [if_pos (by rfl)]
                                  have p0 := (OA).1.at 0 rfl
                                  have q0 := (OA).2 0 (by simp)
                                  have p1 := (OA).1.at 1 rfl
                                  have q1 := (OA).2 1 (by simp)
                                  have p2 := (OA).1.at 2 rfl
                                  have q2 := (OA).2 2 (by simp)
                                  go_simp
                                  refine hK.out _ _ ?_ (fun _hHeldS => ?_)
                                  · exact (((H5).setCell (p := ⟨w4.heap.size, 0, none⟩) (show W0.heap.size ≤ w4.heap.size by omega) (.int .i64 x8.x.toInt)).setCell (p := ⟨w4.heap.size, 1, none⟩) (show W0.heap.size ≤ w4.heap.size by omega) (.int .i64 x8.y.toInt)).setCell (p := ⟨w4.heap.size, 2, none⟩) (show W0.heap.size ≤ w4.heap.size by omega) (.int .i64 x8.z.toInt)
                                  clear hK KK
                                  try simp only [Act.put, List.setIfInBounds_toArray, List.set_cons_zero, List.set_cons_succ]
                                  refine wpAnyH_done (by as_aux_lemma => kernel_rfl) ?_ _
                                  refine NoPanic.normal ?_
                                  have BF := (((H5).setCell (p := ⟨w4.heap.size, 0, none⟩) (show W0.heap.size ≤ w4.heap.size by omega) (.int .i64 x8.x.toInt)).setCell (p := ⟨w4.heap.size, 1, none⟩) (show W0.heap.size ≤ w4.heap.size by omega) (.int .i64 x8.y.toInt)).setCell (p := ⟨w4.heap.size, 2, none⟩) (show W0.heap.size ≤ w4.heap.size by omega) (.int .i64 x8.z.toInt)
                                  have OF := (((OA).set 0 (.int .i64 x8.x.toInt)).set 1 (.int .i64 x8.y.toInt)).set 2 (.int .i64 x8.z.toInt)
                                  have SF := HS.out.keep BF
                                  go_wp2_with fail
                                  go_meet
                                  exact ⟨_, rfl, rfl, rfl, rfl, SF, OF⟩
                              · skip
                                rw [if_pos (by rfl)]
                                go_simp
                                refine hK.out _ _ ?_ (fun _hHeldA => ?_)
                                · first | exact below1 W0 (.cells #[.int .i64 0, .int .i64 0, .int .i64 0] 23) | exact (below1 W0 (.cells #[.int .i64 0, .int .i64 0, .int .i64 0] 23)).drew
                                clear hK KK
                                try simp only [Act.put, List.setIfInBounds_toArray, List.set_cons_zero, List.set_cons_succ]
                                refine wpAnyH_ready (rs := [2]) (by as_aux_lemma => kernel_rfl) (by simp) ?_
                                refine AllReadyH.cons (o := ({ dst := some 33, op := .call { callee := .value (.func 42), args := #[.tmp 32], argTypes := #[3] }, type := 23, pos := "mat.go:120", after := #[{ on := 1, ground := .data }], guard := none } : Oper)) rfl (fun KK hK => ?_) AllReadyH.nil
                                rw [if_pos (by rfl)]
                                go_simp
                                go_at_call 42; refine (O2.out _).mono ?_; rintro e w4 ⟨rfl, hb4⟩
                                go_wp2_with fail
                                refine hK.out _ _ ?_ (fun hHeld4 => ?_)
                                · exact belowT (by assumption) hb4
                                have OA := ((ownl W0 [.int .i64 0, .int .i64 0, .int .i64 0] 23).drew).keep hb4
                                have H4 : Below W0.heap.size W0 w4 := by assumption
                                have S4 := H4.size
                                clear hK KK hb4
                                try simp only [Act.put, List.setIfInBounds_toArray, List.set_cons_zero, List.set_cons_succ]
                                refine wpAnyH_ready (rs := [3]) (by as_aux_lemma => kernel_rfl) (by simp) ?_
                                refine AllReadyH.cons (o := ({ dst := some 34, op := .call { callee := .value (.func 39), args := #[.tmp 31, .tmp 33], argTypes := #[23, 23] }, type := 23, pos := "mat.go:120", after := #[{ on := 0, ground := .data }, { on := 2, ground := .data }, { on := 2, ground := .chain }], guard := none } : Oper)) rfl (fun KK hK => ?_) AllReadyH.nil
                                rw [if_pos (by rfl)]
                                go_simp
                                go_at_call 39; refine (C8.out _).mono ?_; rintro e w5 ⟨rfl, hb5⟩
                                go_wp2_with fail
                                refine hK.out _ _ ?_ (fun hHeld5 => ?_)
                                · exact belowT (by assumption) hb5
                                replace OA := (OA).keep hb5
                                have H5 : Below W0.heap.size W0 w5 := by assumption
                                have S5 := H5.size
                                clear hK KK hb5
                                try simp only [Act.put, List.setIfInBounds_toArray, List.set_cons_zero, List.set_cons_succ]
                                refine wpAnyH_ready (rs := [5]) (by as_aux_lemma => kernel_rfl) (by simp) ?_
                                refine AllReadyH.cons (o := ({ dst := none, op := .store 23 (.tmp 9) (.tmp 34), type := 0, pos := "mat.go:120", after := #[{ on := 4, ground := .data }, { on := 3, ground := .data }, { on := 3, ground := .chain }, { on := 0, ground := .phase }, { on := 1, ground := .phase }, { on := 2, ground := .phase }, { on := 3, ground := .phase }, { on := 4, ground := .phase }], guard := none } : Oper)) rfl (fun KK hK => ?_) AllReadyH.nil
                                rw [if_pos (by rfl)]
                                have p0 := (OA).1.at 0 rfl
                                have q0 := (OA).2 0 (by simp)
                                have p1 := (OA).1.at 1 rfl
                                have q1 := (OA).2 1 (by simp)
                                have p2 := (OA).1.at 2 rfl
                                have q2 := (OA).2 2 (by simp)
                                go_simp
                                refine hK.out _ _ ?_ (fun _hHeldS => ?_)
                                · exact (((H5).setCell (p := ⟨W0.heap.size, 0, none⟩) (show W0.heap.size ≤ W0.heap.size by omega) (.int .i64 x8.x.toInt)).setCell (p := ⟨W0.heap.size, 1, none⟩) (show W0.heap.size ≤ W0.heap.size by omega) (.int .i64 x8.y.toInt)).setCell (p := ⟨W0.heap.size, 2, none⟩) (show W0.heap.size ≤ W0.heap.size by omega) (.int .i64 x8.z.toInt)
                                clear hK KK
                                try simp only [Act.put, List.setIfInBounds_toArray, List.set_cons_zero, List.set_cons_succ]
                                refine wpAnyH_done (by as_aux_lemma => kernel_rfl) ?_ _
                                refine NoPanic.normal ?_
                                have BF := (((H5).setCell (p := ⟨W0.heap.size, 0, none⟩) (show W0.heap.size ≤ W0.heap.size by omega) (.int .i64 x8.x.toInt)).setCell (p := ⟨W0.heap.size, 1, none⟩) (show W0.heap.size ≤ W0.heap.size by omega) (.int .i64 x8.y.toInt)).setCell (p := ⟨W0.heap.size, 2, none⟩) (show W0.heap.size ≤ W0.heap.size by omega) (.int .i64 x8.z.toInt)
                                have OF := (((OA).set 0 (.int .i64 x8.x.toInt)).set 1 (.int .i64 x8.y.toInt)).set 2 (.int .i64 x8.z.toInt)
                                have SF := HS.out.keep BF
                                go_wp2_with fail
                                go_meet
                                exact ⟨_, rfl, rfl, rfl, rfl, SF, OF⟩
                            case rest =>
                              clear HS r0 r1 r2
                              rename World => W0
                              obtain ⟨X, rfl, rfl, rfl, rfl, hS, OX⟩ := hcut
                              have g0 := OX.1.at 0 rfl; have g1 := OX.1.at 1 rfl; have g2 := OX.1.at 2 rfl
                              clear OX
                              cases q8 with
                              | false =>
                                obtain ⟨y0, k0, f0⟩ := hS.there 1 rfl 0 rfl; obtain ⟨y1, k1, f1⟩ := hS.there 1 rfl 1 rfl; obtain ⟨y2, k2, f2⟩ := hS.there 1 rfl 2 rfl
                                have BH := Lib.hid hS.below
                                clear hS
                                go_wp2_with fail
                                refine bodyPost_ret (v := .tuple #[vv x8, .bool true]) (by simp [results, Try.results21, go_sem, *]) rfl ⟨rfl, ?_⟩
                                iterate 3 refine Below.setCell (p := ⟨w.heap.size + 1, _, none⟩) ?_ (show w.heap.size ≤ w.heap.size + 1 by omega) _
                                exact BH.out
                              | true =>
                                go_wp2_with fail
                                clear g0 g1 g2
                                rw [rounds_succ]
                                go_wp2_with fail
                                have hN := hS.take 2
                                clear hS
                                have hS := hN
                                clear hN
                                rw [rounds_succ]
                                go_upto_region 12 with fail
                                obtain ⟨W1, hX, hN⟩ := (hS.more [.int .i64 m.c.x.toInt, .int .i64 m.c.y.toInt, .int .i64 m.c.z.toInt] 23).named
                                rw [← hX]
                                clear hX hS
                                obtain ⟨Ar, hAr⟩ : ∃ Ar, Ar = W0.heap.size := ⟨_, rfl⟩
                                rw [← hAr] at hN ⊢
                                clear hAr
                                rename World => W0
                                have HN := Lib.hid hN
                                clear hN
                                go_wp2_with fail
                                have hS := HN.out
                                clear HN
                                refine wp_loop_rounds 4 ?_
                                rw [rounds_succ]
                                go_upto_region 15 with fail
                                have HS := Lib.hid hS
                                have r0 : ∀ w', Below W0.heap.size W0 w' → w'.cell? ⟨Ar, 0, none⟩ = some (.int .i64 m.c.x.toInt) := fun w' h => (HS.out.keep h).at 2 rfl 0 rfl
                                have r1 : ∀ w', Below W0.heap.size W0 w' → w'.cell? ⟨Ar, 1, none⟩ = some (.int .i64 m.c.y.toInt) := fun w' h => (HS.out.keep h).at 2 rfl 1 rfl
                                have r2 : ∀ w', Below W0.heap.size W0 w' → w'.cell? ⟨Ar, 2, none⟩ = some (.int .i64 m.c.z.toInt) := fun w' h => (HS.out.keep h).at 2 rfl 2 rfl
                                clear hS
                                go_cut [9, 24, 25, 28] from 9 to 35 (fun p u v q wx => ∃ X, p = .pointer (some ⟨X, 0, none⟩) ∧ u = mv m ∧ v = .int .i64 2 ∧ q = .int .i64 0 ∧ Sp w [(w.heap.size, [some (.int .i64 m.a.x.toInt), some (.int .i64 m.a.y.toInt), some (.int .i64 m.a.z.toInt), some (.int .i64 m.b.x.toInt), some (.int .i64 m.b.y.toInt), some (.int .i64 m.b.z.toInt), some (.int .i64 m.c.x.toInt), some (.int .i64 m.c.y.toInt), some (.int .i64 m.c.z.toInt)]), (w.heap.size + 1, [none, none, none]), (Ar, [some (.int .i64 m.c.x.toInt), some (.int .i64 m.c.y.toInt), some (.int .i64 m.c.z.toInt)])] wx ∧ OwnL wx X (vl x9))
                                case first =>
                                  change (Code.region 15 okernel true).wp Try.prog _ _ _
                                  refine wp_region_noPanic ?_
                                  refine wp_region_held_drew (S := fun w' => Below W0.heap.size W0 w') (by kernel_rfl) ((Below.refl _ _).drew) (fun hHeld => ?_)
                                  refine wpAnyH_take (i := 0) (oi := ({ dst := some 31, op := .load 23 (.tmp 7), type := 23, pos := "mat.go:120", after := #[], guard := none } : Oper)) (v := ?vv9_1_) rfl okernel_plain (by as_aux_lemma => kernel_rfl) (by as_aux_lemma => kernel_rfl) (fun _ _ _ h => h) (Or.inl ⟨by rfl, ?yv9_1_⟩) (by assumption) ?rv9_1_
                                  case yv9_1_ => (intro w hSw; (try dsimp only at hSw); go_simp; try with_reducible rfl)
                                  try simp only [Act.put, List.setIfInBounds_toArray, List.set_cons_zero, List.set_cons_succ]
                                  refine wpAnyH_take (i := 1) (oi := ({ dst := some 32, op := .move (.tmp 8), type := 3, pos := "mat.go:120", after := #[], guard := none } : Oper)) (v := ?vv9_2_) rfl okernel_plain (by as_aux_lemma => kernel_rfl) (by as_aux_lemma => kernel_rfl) (fun _ _ _ h => h) (Or.inl ⟨by rfl, ?yv9_2_⟩) (by assumption) ?rv9_2_
                                  case yv9_2_ => (intro w hSw; (try dsimp only at hSw); go_simp; try with_reducible rfl)
                                  try simp only [Act.put, List.setIfInBounds_toArray, List.set_cons_zero, List.set_cons_succ]
                                  refine wpAnyH_ready (rs := [2, 4]) (by as_aux_lemma => kernel_rfl) (by simp) ?_
                                  refine AllReadyH.cons (o := ({ dst := some 33, op := .call { callee := .value (.func 42), args := #[.tmp 32], argTypes := #[3] }, type := 23, pos := "mat.go:120", after := #[{ on := 1, ground := .data }], guard := none } : Oper)) rfl (fun KK hK => ?_) (AllReadyH.cons (o := ({ dst := some 9, op := .alloc 23, type := 0, pos := "mat.go:120", after := #[], guard := none } : Oper)) rfl (fun KK hK => ?_) AllReadyH.nil)
                                  · skip
                                    rw [if_pos (by rfl)]
                                    go_simp
                                    go_at_call 42; refine (O0.out _).mono ?_; rintro e w4 ⟨rfl, hb4⟩
                                    go_wp2_with fail
                                    refine hK.out _ _ ?_ (fun hHeld4 => ?_)
                                    · exact belowT (by assumption) hb4
                                    have H4 : Below W0.heap.size W0 w4 := by assumption
                                    have S4 := H4.size
                                    clear hK KK hb4
                                    try simp only [Act.put, List.setIfInBounds_toArray, List.set_cons_zero, List.set_cons_succ]
                                    refine wpAnyH_ready (rs := [3, 4]) (by as_aux_lemma => kernel_rfl) (by simp) ?_
                                    refine AllReadyH.cons (o := ({ dst := some 34, op := .call { callee := .value (.func 39), args := #[.tmp 31, .tmp 33], argTypes := #[23, 23] }, type := 23, pos := "mat.go:120", after := #[{ on := 0, ground := .data }, { on := 2, ground := .data }, { on := 2, ground := .chain }], guard := none } : Oper)) rfl (fun KK hK => ?_) (AllReadyH.cons (o := ({ dst := some 9, op := .alloc 23, type := 0, pos := "mat.go:120", after := #[], guard := none } : Oper)) rfl (fun KK hK => ?_) AllReadyH.nil)
                                    · skip
                                      rw [if_pos (by rfl)]
                                      go_simp
                                      go_at_call 39; refine (C9.out _).mono ?_; rintro e w5 ⟨rfl, hb5⟩
                                      go_wp2_with fail
                                      refine hK.out _ _ ?_ (fun hHeld5 => ?_)
                                      · exact belowT (by assumption) hb5
                                      have H5 : Below W0.heap.size W0 w5 := by assumption
                                      have S5 := H5.size
                                      clear hK KK hb5
                                      try simp only [Act.put, List.setIfInBounds_toArray, List.set_cons_zero, List.set_cons_succ]
                                      refine wpAnyH_ready (rs := [4]) (by as_aux_lemma => kernel_rfl) (by simp) ?_
                                      refine AllReadyH.cons (o := ({ dst := some 9, op := .alloc 23, type := 0, pos := "mat.go:120", after := #[], guard := none } : Oper)) rfl (fun KK hK => ?_) AllReadyH.nil
                                      rw [if_pos (by rfl)]
                                      go_simp
                                      refine hK.out _ _ ?_ (fun _hHeldA => ?_)
                                      · first | exact belowT (by assumption) (below1 _ _) | exact (belowT (by assumption) (below1 _ _)).drew
                                      clear hK KK
                                      try simp only [Act.put, List.setIfInBounds_toArray, List.set_cons_zero, List.set_cons_succ]
                                      refine wpAnyH_ready (rs := [5]) (by as_aux_lemma => kernel_rfl) (by simp) ?_
                                      refine AllReadyH.cons (o := ({ dst := none, op := .store 23 (.tmp 9) (.tmp 34), type := 0, pos := "mat.go:120", after := #[{ on := 4, ground := .data }, { on := 3, ground := .data }, { on := 3, ground := .chain }, { on := 0, ground := .phase }, { on := 1, ground := .phase }, { on := 2, ground := .phase }, { on := 3, ground := .phase }, { on := 4, ground := .phase }], guard := none } : Oper)) rfl (fun KK hK => ?_) AllReadyH.nil
                                      rw [if_pos (by rfl)]
                                      have p0 := (ownl w5 [.int .i64 0, .int .i64 0, .int .i64 0] 23).1.at 0 rfl
                                      have q0 := (ownl w5 [.int .i64 0, .int .i64 0, .int .i64 0] 23).2 0 (by simp)
                                      have p1 := (ownl w5 [.int .i64 0, .int .i64 0, .int .i64 0] 23).1.at 1 rfl
                                      have q1 := (ownl w5 [.int .i64 0, .int .i64 0, .int .i64 0] 23).2 1 (by simp)
                                      have p2 := (ownl w5 [.int .i64 0, .int .i64 0, .int .i64 0] 23).1.at 2 rfl
                                      have q2 := (ownl w5 [.int .i64 0, .int .i64 0, .int .i64 0] 23).2 2 (by simp)
                                      go_simp
                                      refine hK.out _ _ ?_ (fun _hHeldS => ?_)
                                      · exact belowT H5 (below1 w5 (.cells #[.int .i64 x9.x.toInt, .int .i64 x9.y.toInt, .int .i64 x9.z.toInt] 23))
                                      clear hK KK
                                      try simp only [Act.put, List.setIfInBounds_toArray, List.set_cons_zero, List.set_cons_succ]
                                      refine wpAnyH_done (by as_aux_lemma => kernel_rfl) ?_ _
                                      refine NoPanic.normal ?_
                                      have BF := belowT H5 (below1 w5 (.cells #[.int .i64 x9.x.toInt, .int .i64 x9.y.toInt, .int .i64 x9.z.toInt] 23))
                                      have OF := ownl w5 [.int .i64 x9.x.toInt, .int .i64 x9.y.toInt, .int .i64 x9.z.toInt] 23
                                      have SF := HS.out.keep BF
                                      go_wp2_with fail
                                      go_meet
                                      exact ⟨_, rfl, rfl, rfl, rfl, SF, OF⟩
                                    · skip
                                      rw [if_pos (by rfl)]
                                      go_simp
                                      refine hK.out _ _ ?_ (fun _hHeldA => ?_)
                                      · first | exact belowT (by assumption) (below1 _ _) | exact (belowT (by assumption) (below1 _ _)).drew
                                      clear hK KK
                                      try simp only [Act.put, List.setIfInBounds_toArray, List.set_cons_zero, List.set_cons_succ]
                                      refine wpAnyH_ready (rs := [3]) (by as_aux_lemma => kernel_rfl) (by simp) ?_
                                      refine AllReadyH.cons (o := ({ dst := some 34, op := .call { callee := .value (.func 39), args := #[.tmp 31, .tmp 33], argTypes := #[23, 23] }, type := 23, pos := "mat.go:120", after := #[{ on := 0, ground := .data }, { on := 2, ground := .data }, { on := 2, ground := .chain }], guard := none } : Oper)) rfl (fun KK hK => ?_) AllReadyH.nil
                                      rw [if_pos (by rfl)]
                                      go_simp
                                      go_at_call 39; refine (C9.out _).mono ?_; rintro e w5 ⟨rfl, hb5⟩
                                      go_wp2_with fail
                                      refine hK.out _ _ ?_ (fun hHeld5 => ?_)
                                      · exact belowT (by assumption) hb5
                                      have OA := (ownl w4 [.int .i64 0, .int .i64 0, .int .i64 0] 23).keep hb5
                                      have H5 : Below W0.heap.size W0 w5 := by assumption
                                      have S5 := H5.size
                                      clear hK KK hb5
                                      try simp only [Act.put, List.setIfInBounds_toArray, List.set_cons_zero, List.set_cons_succ]
                                      refine wpAnyH_ready (rs := [5]) (by as_aux_lemma => kernel_rfl) (by simp) ?_
                                      refine AllReadyH.cons (o := ({ dst := none, op := .store 23 (.tmp 9) (.tmp 34), type := 0, pos := "mat.go:120", after := #[{ on := 4, ground := .data }, { on := 3, ground := .data }, { on := 3, ground := .chain }, { on := 0, ground := .phase }, { on := 1, ground := .phase }, { on := 2, ground := .phase }, { on := 3, ground := .phase }, { on := 4, ground := .phase }], guard := none } : Oper)) rfl (fun KK hK => ?_) AllReadyH.nil
                                      rw [if_pos (by rfl)]
                                      have p0 := (OA).1.at 0 rfl
                                      have q0 := (OA).2 0 (by simp)
                                      have p1 := (OA).1.at 1 rfl
                                      have q1 := (OA).2 1 (by simp)
                                      have p2 := (OA).1.at 2 rfl
                                      have q2 := (OA).2 2 (by simp)
                                      go_simp
                                      refine hK.out _ _ ?_ (fun _hHeldS => ?_)
                                      · exact (((H5).setCell (p := ⟨w4.heap.size, 0, none⟩) (show W0.heap.size ≤ w4.heap.size by omega) (.int .i64 x9.x.toInt)).setCell (p := ⟨w4.heap.size, 1, none⟩) (show W0.heap.size ≤ w4.heap.size by omega) (.int .i64 x9.y.toInt)).setCell (p := ⟨w4.heap.size, 2, none⟩) (show W0.heap.size ≤ w4.heap.size by omega) (.int .i64 x9.z.toInt)
                                      clear hK KK
                                      try simp only [Act.put, List.setIfInBounds_toArray, List.set_cons_zero, List.set_cons_succ]
                                      refine wpAnyH_done (by as_aux_lemma => kernel_rfl) ?_ _
                                      refine NoPanic.normal ?_
                                      have BF := (((H5).setCell (p := ⟨w4.heap.size, 0, none⟩) (show W0.heap.size ≤ w4.heap.size by omega) (.int .i64 x9.x.toInt)).setCell (p := ⟨w4.heap.size, 1, none⟩) (show W0.heap.size ≤ w4.heap.size by omega) (.int .i64 x9.y.toInt)).setCell (p := ⟨w4.heap.size, 2, none⟩) (show W0.heap.size ≤ w4.heap.size by omega) (.int .i64 x9.z.toInt)
                                      have OF := (((OA).set 0 (.int .i64 x9.x.toInt)).set 1 (.int .i64 x9.y.toInt)).set 2 (.int .i64 x9.z.toInt)
                                      have SF := HS.out.keep BF
                                      go_wp2_with fail
                                      go_meet
                                      exact ⟨_, rfl, rfl, rfl, rfl, SF, OF⟩
                                  · skip
                                    rw [if_pos (by rfl)]
                                    go_simp
                                    refine hK.out _ _ ?_ (fun _hHeldA => ?_)
                                    · first | exact below1 W0 (.cells #[.int .i64 0, .int .i64 0, .int .i64 0] 23) | exact (below1 W0 (.cells #[.int .i64 0, .int .i64 0, .int .i64 0] 23)).drew
                                    clear hK KK
                                    try simp only [Act.put, List.setIfInBounds_toArray, List.set_cons_zero, List.set_cons_succ]
                                    refine wpAnyH_ready (rs := [2]) (by as_aux_lemma => kernel_rfl) (by simp) ?_
                                    refine AllReadyH.cons (o := ({ dst := some 33, op := .call { callee := .value (.func 42), args := #[.tmp 32], argTypes := #[3] }, type := 23, pos := "mat.go:120", after := #[{ on := 1, ground := .data }], guard := none } : Oper)) rfl (fun KK hK => ?_) AllReadyH.nil
                                    rw [if_pos (by rfl)]
                                    go_simp
                                    go_at_call 42; refine (O0.out _).mono ?_; rintro e w4 ⟨rfl, hb4⟩
                                    go_wp2_with fail
                                    refine hK.out _ _ ?_ (fun hHeld4 => ?_)
                                    · exact belowT (by assumption) hb4
                                    have OA := ((ownl W0 [.int .i64 0, .int .i64 0, .int .i64 0] 23).drew).keep hb4
                                    have H4 : Below W0.heap.size W0 w4 := by assumption
                                    have S4 := H4.size
                                    clear hK KK hb4
                                    try simp only [Act.put, List.setIfInBounds_toArray, List.set_cons_zero, List.set_cons_succ]
                                    refine wpAnyH_ready (rs := [3]) (by as_aux_lemma => kernel_rfl) (by simp) ?_
                                    refine AllReadyH.cons (o := ({ dst := some 34, op := .call { callee := .value (.func 39), args := #[.tmp 31, .tmp 33], argTypes := #[23, 23] }, type := 23, pos := "mat.go:120", after := #[{ on := 0, ground := .data }, { on := 2, ground := .data }, { on := 2, ground := .chain }], guard := none } : Oper)) rfl (fun KK hK => ?_) AllReadyH.nil
                                    rw [if_pos (by rfl)]
                                    go_simp
                                    go_at_call 39; refine (C9.out _).mono ?_; rintro e w5 ⟨rfl, hb5⟩
                                    go_wp2_with fail
                                    refine hK.out _ _ ?_ (fun hHeld5 => ?_)
                                    · exact belowT (by assumption) hb5
                                    replace OA := (OA).keep hb5
                                    have H5 : Below W0.heap.size W0 w5 := by assumption
                                    have S5 := H5.size
                                    clear hK KK hb5
                                    try simp only [Act.put, List.setIfInBounds_toArray, List.set_cons_zero, List.set_cons_succ]
                                    refine wpAnyH_ready (rs := [5]) (by as_aux_lemma => kernel_rfl) (by simp) ?_
                                    refine AllReadyH.cons (o := ({ dst := none, op := .store 23 (.tmp 9) (.tmp 34), type := 0, pos := "mat.go:120", after := #[{ on := 4, ground := .data }, { on := 3, ground := .data }, { on := 3, ground := .chain }, { on := 0, ground := .phase }, { on := 1, ground := .phase }, { on := 2, ground := .phase }, { on := 3, ground := .phase }, { on := 4, ground := .phase }], guard := none } : Oper)) rfl (fun KK hK => ?_) AllReadyH.nil
                                    rw [if_pos (by rfl)]
                                    have p0 := (OA).1.at 0 rfl
                                    have q0 := (OA).2 0 (by simp)
                                    have p1 := (OA).1.at 1 rfl
                                    have q1 := (OA).2 1 (by simp)
                                    have p2 := (OA).1.at 2 rfl
                                    have q2 := (OA).2 2 (by simp)
                                    go_simp
                                    refine hK.out _ _ ?_ (fun _hHeldS => ?_)
                                    · exact (((H5).setCell (p := ⟨W0.heap.size, 0, none⟩) (show W0.heap.size ≤ W0.heap.size by omega) (.int .i64 x9.x.toInt)).setCell (p := ⟨W0.heap.size, 1, none⟩) (show W0.heap.size ≤ W0.heap.size by omega) (.int .i64 x9.y.toInt)).setCell (p := ⟨W0.heap.size, 2, none⟩) (show W0.heap.size ≤ W0.heap.size by omega) (.int .i64 x9.z.toInt)
                                    clear hK KK
                                    try simp only [Act.put, List.setIfInBounds_toArray, List.set_cons_zero, List.set_cons_succ]
                                    refine wpAnyH_done (by as_aux_lemma => kernel_rfl) ?_ _
                                    refine NoPanic.normal ?_
                                    have BF := (((H5).setCell (p := ⟨W0.heap.size, 0, none⟩) (show W0.heap.size ≤ W0.heap.size by omega) (.int .i64 x9.x.toInt)).setCell (p := ⟨W0.heap.size, 1, none⟩) (show W0.heap.size ≤ W0.heap.size by omega) (.int .i64 x9.y.toInt)).setCell (p := ⟨W0.heap.size, 2, none⟩) (show W0.heap.size ≤ W0.heap.size by omega) (.int .i64 x9.z.toInt)
                                    have OF := (((OA).set 0 (.int .i64 x9.x.toInt)).set 1 (.int .i64 x9.y.toInt)).set 2 (.int .i64 x9.z.toInt)
                                    have SF := HS.out.keep BF
                                    go_wp2_with fail
                                    go_meet
                                    exact ⟨_, rfl, rfl, rfl, rfl, SF, OF⟩
                                case rest =>
                                  clear HS r0 r1 r2
                                  rename World => W0
                                  obtain ⟨X, rfl, rfl, rfl, rfl, hS, OX⟩ := hcut
                                  have g0 := OX.1.at 0 rfl; have g1 := OX.1.at 1 rfl; have g2 := OX.1.at 2 rfl
                                  clear OX
                                  cases q9 with
                                  | false =>
                                    obtain ⟨y0, k0, f0⟩ := hS.there 1 rfl 0 rfl; obtain ⟨y1, k1, f1⟩ := hS.there 1 rfl 1 rfl; obtain ⟨y2, k2, f2⟩ := hS.there 1 rfl 2 rfl
                                    have BH := Lib.hid hS.below
                                    clear hS
                                    go_wp2_with fail
                                    refine bodyPost_ret (v := .tuple #[vv x9, .bool true]) (by simp [results, Try.results21, go_sem, *]) rfl ⟨rfl, ?_⟩
                                    iterate 3 refine Below.setCell (p := ⟨w.heap.size + 1, _, none⟩) ?_ (show w.heap.size ≤ w.heap.size + 1 by omega) _
                                    exact BH.out
                                  | true =>
                                    go_wp2_with fail
                                    clear g0 g1 g2
                                    rw [rounds_succ]
                                    go_upto_region 15 with fail
                                    have HS := Lib.hid hS
                                    have r0 : ∀ w', Below W0.heap.size W0 w' → w'.cell? ⟨Ar, 0, none⟩ = some (.int .i64 m.c.x.toInt) := fun w' h => (HS.out.keep h).at 2 rfl 0 rfl
                                    have r1 : ∀ w', Below W0.heap.size W0 w' → w'.cell? ⟨Ar, 1, none⟩ = some (.int .i64 m.c.y.toInt) := fun w' h => (HS.out.keep h).at 2 rfl 1 rfl
                                    have r2 : ∀ w', Below W0.heap.size W0 w' → w'.cell? ⟨Ar, 2, none⟩ = some (.int .i64 m.c.z.toInt) := fun w' h => (HS.out.keep h).at 2 rfl 2 rfl
                                    clear hS
                                    go_cut [9, 24, 25, 28] from 9 to 35 (fun p u v q wx => ∃ X, p = .pointer (some ⟨X, 0, none⟩) ∧ u = mv m ∧ v = .int .i64 2 ∧ q = .int .i64 1 ∧ Sp w [(w.heap.size, [some (.int .i64 m.a.x.toInt), some (.int .i64 m.a.y.toInt), some (.int .i64 m.a.z.toInt), some (.int .i64 m.b.x.toInt), some (.int .i64 m.b.y.toInt), some (.int .i64 m.b.z.toInt), some (.int .i64 m.c.x.toInt), some (.int .i64 m.c.y.toInt), some (.int .i64 m.c.z.toInt)]), (w.heap.size + 1, [none, none, none]), (Ar, [some (.int .i64 m.c.x.toInt), some (.int .i64 m.c.y.toInt), some (.int .i64 m.c.z.toInt)])] wx ∧ OwnL wx X (vl x10))
                                    case first =>
                                      change (Code.region 15 okernel true).wp Try.prog _ _ _
                                      refine wp_region_noPanic ?_
                                      refine wp_region_held_drew (S := fun w' => Below W0.heap.size W0 w') (by kernel_rfl) ((Below.refl _ _).drew) (fun hHeld => ?_)
                                      refine wpAnyH_take (i := 0) (oi := ({ dst := some 31, op := .load 23 (.tmp 7), type := 23, pos := "mat.go:120", after := #[], guard := none } : Oper)) (v := ?vv10_1_) rfl okernel_plain (by as_aux_lemma => kernel_rfl) (by as_aux_lemma => kernel_rfl) (fun _ _ _ h => h) (Or.inl ⟨by rfl, ?yv10_1_⟩) (by assumption) ?rv10_1_
                                      case yv10_1_ => (intro w hSw; (try dsimp only at hSw); go_simp; try with_reducible rfl)
                                      try simp only [Act.put, List.setIfInBounds_toArray, List.set_cons_zero, List.set_cons_succ]
                                      refine wpAnyH_take (i := 1) (oi := ({ dst := some 32, op := .move (.tmp 8), type := 3, pos := "mat.go:120", after := #[], guard := none } : Oper)) (v := ?vv10_2_) rfl okernel_plain (by as_aux_lemma => kernel_rfl) (by as_aux_lemma => kernel_rfl) (fun _ _ _ h => h) (Or.inl ⟨by rfl, ?yv10_2_⟩) (by assumption) ?rv10_2_
                                      case yv10_2_ => (intro w hSw; (try dsimp only at hSw); go_simp; try with_reducible rfl)
                                      try simp only [Act.put, List.setIfInBounds_toArray, List.set_cons_zero, List.set_cons_succ]
                                      refine wpAnyH_ready (rs := [2, 4]) (by as_aux_lemma => kernel_rfl) (by simp) ?_
                                      refine AllReadyH.cons (o := ({ dst := some 33, op := .call { callee := .value (.func 42), args := #[.tmp 32], argTypes := #[3] }, type := 23, pos := "mat.go:120", after := #[{ on := 1, ground := .data }], guard := none } : Oper)) rfl (fun KK hK => ?_) (AllReadyH.cons (o := ({ dst := some 9, op := .alloc 23, type := 0, pos := "mat.go:120", after := #[], guard := none } : Oper)) rfl (fun KK hK => ?_) AllReadyH.nil)
                                      · skip
                                        rw [if_pos (by rfl)]
                                        go_simp
                                        go_at_call 42; refine (O1.out _).mono ?_; rintro e w4 ⟨rfl, hb4⟩
                                        go_wp2_with fail
                                        refine hK.out _ _ ?_ (fun hHeld4 => ?_)
                                        · exact belowT (by assumption) hb4
                                        have H4 : Below W0.heap.size W0 w4 := by assumption
                                        have S4 := H4.size
                                        clear hK KK hb4
                                        try simp only [Act.put, List.setIfInBounds_toArray, List.set_cons_zero, List.set_cons_succ]
                                        refine wpAnyH_ready (rs := [3, 4]) (by as_aux_lemma => kernel_rfl) (by simp) ?_
                                        refine AllReadyH.cons (o := ({ dst := some 34, op := .call { callee := .value (.func 39), args := #[.tmp 31, .tmp 33], argTypes := #[23, 23] }, type := 23, pos := "mat.go:120", after := #[{ on := 0, ground := .data }, { on := 2, ground := .data }, { on := 2, ground := .chain }], guard := none } : Oper)) rfl (fun KK hK => ?_) (AllReadyH.cons (o := ({ dst := some 9, op := .alloc 23, type := 0, pos := "mat.go:120", after := #[], guard := none } : Oper)) rfl (fun KK hK => ?_) AllReadyH.nil)
                                        · skip
                                          rw [if_pos (by rfl)]
                                          go_simp
                                          go_at_call 39; refine (C10.out _).mono ?_; rintro e w5 ⟨rfl, hb5⟩
                                          go_wp2_with fail
                                          refine hK.out _ _ ?_ (fun hHeld5 => ?_)
                                          · exact belowT (by assumption) hb5
                                          have H5 : Below W0.heap.size W0 w5 := by assumption
                                          have S5 := H5.size
                                          clear hK KK hb5
                                          try simp only [Act.put, List.setIfInBounds_toArray, List.set_cons_zero, List.set_cons_succ]
                                          refine wpAnyH_ready (rs := [4]) (by as_aux_lemma => kernel_rfl) (by simp) ?_
                                          refine AllReadyH.cons (o := ({ dst := some 9, op := .alloc 23, type := 0, pos := "mat.go:120", after := #[], guard := none } : Oper)) rfl (fun KK hK => ?_) AllReadyH.nil
                                          rw [if_pos (by rfl)]
                                          go_simp
                                          refine hK.out _ _ ?_ (fun _hHeldA => ?_)
                                          · first | exact belowT (by assumption) (below1 _ _) | exact (belowT (by assumption) (below1 _ _)).drew
                                          clear hK KK
                                          try simp only [Act.put, List.setIfInBounds_toArray, List.set_cons_zero, List.set_cons_succ]
                                          refine wpAnyH_ready (rs := [5]) (by as_aux_lemma => kernel_rfl) (by simp) ?_
                                          refine AllReadyH.cons (o := ({ dst := none, op := .store 23 (.tmp 9) (.tmp 34), type := 0, pos := "mat.go:120", after := #[{ on := 4, ground := .data }, { on := 3, ground := .data }, { on := 3, ground := .chain }, { on := 0, ground := .phase }, { on := 1, ground := .phase }, { on := 2, ground := .phase }, { on := 3, ground := .phase }, { on := 4, ground := .phase }], guard := none } : Oper)) rfl (fun KK hK => ?_) AllReadyH.nil
                                          rw [if_pos (by rfl)]
                                          have p0 := (ownl w5 [.int .i64 0, .int .i64 0, .int .i64 0] 23).1.at 0 rfl
                                          have q0 := (ownl w5 [.int .i64 0, .int .i64 0, .int .i64 0] 23).2 0 (by simp)
                                          have p1 := (ownl w5 [.int .i64 0, .int .i64 0, .int .i64 0] 23).1.at 1 rfl
                                          have q1 := (ownl w5 [.int .i64 0, .int .i64 0, .int .i64 0] 23).2 1 (by simp)
                                          have p2 := (ownl w5 [.int .i64 0, .int .i64 0, .int .i64 0] 23).1.at 2 rfl
                                          have q2 := (ownl w5 [.int .i64 0, .int .i64 0, .int .i64 0] 23).2 2 (by simp)
                                          go_simp
                                          refine hK.out _ _ ?_ (fun _hHeldS => ?_)
                                          · exact belowT H5 (below1 w5 (.cells #[.int .i64 x10.x.toInt, .int .i64 x10.y.toInt, .int .i64 x10.z.toInt] 23))
                                          clear hK KK
                                          try simp only [Act.put, List.setIfInBounds_toArray, List.set_cons_zero, List.set_cons_succ]
                                          refine wpAnyH_done (by as_aux_lemma => kernel_rfl) ?_ _
                                          refine NoPanic.normal ?_
                                          have BF := belowT H5 (below1 w5 (.cells #[.int .i64 x10.x.toInt, .int .i64 x10.y.toInt, .int .i64 x10.z.toInt] 23))
                                          have OF := ownl w5 [.int .i64 x10.x.toInt, .int .i64 x10.y.toInt, .int .i64 x10.z.toInt] 23
                                          have SF := HS.out.keep BF
                                          go_wp2_with fail
                                          go_meet
                                          exact ⟨_, rfl, rfl, rfl, rfl, SF, OF⟩
                                        · skip
                                          rw [if_pos (by rfl)]
                                          go_simp
                                          refine hK.out _ _ ?_ (fun _hHeldA => ?_)
                                          · first | exact belowT (by assumption) (below1 _ _) | exact (belowT (by assumption) (below1 _ _)).drew
                                          clear hK KK
                                          try simp only [Act.put, List.setIfInBounds_toArray, List.set_cons_zero, List.set_cons_succ]
                                          refine wpAnyH_ready (rs := [3]) (by as_aux_lemma => kernel_rfl) (by simp) ?_
                                          refine AllReadyH.cons (o := ({ dst := some 34, op := .call { callee := .value (.func 39), args := #[.tmp 31, .tmp 33], argTypes := #[23, 23] }, type := 23, pos := "mat.go:120", after := #[{ on := 0, ground := .data }, { on := 2, ground := .data }, { on := 2, ground := .chain }], guard := none } : Oper)) rfl (fun KK hK => ?_) AllReadyH.nil
                                          rw [if_pos (by rfl)]
                                          go_simp
                                          go_at_call 39; refine (C10.out _).mono ?_; rintro e w5 ⟨rfl, hb5⟩
                                          go_wp2_with fail
                                          refine hK.out _ _ ?_ (fun hHeld5 => ?_)
                                          · exact belowT (by assumption) hb5
                                          have OA := (ownl w4 [.int .i64 0, .int .i64 0, .int .i64 0] 23).keep hb5
                                          have H5 : Below W0.heap.size W0 w5 := by assumption
                                          have S5 := H5.size
                                          clear hK KK hb5
                                          try simp only [Act.put, List.setIfInBounds_toArray, List.set_cons_zero, List.set_cons_succ]
                                          refine wpAnyH_ready (rs := [5]) (by as_aux_lemma => kernel_rfl) (by simp) ?_
                                          refine AllReadyH.cons (o := ({ dst := none, op := .store 23 (.tmp 9) (.tmp 34), type := 0, pos := "mat.go:120", after := #[{ on := 4, ground := .data }, { on := 3, ground := .data }, { on := 3, ground := .chain }, { on := 0, ground := .phase }, { on := 1, ground := .phase }, { on := 2, ground := .phase }, { on := 3, ground := .phase }, { on := 4, ground := .phase }], guard := none } : Oper)) rfl (fun KK hK => ?_) AllReadyH.nil
                                          rw [if_pos (by rfl)]
                                          have p0 := (OA).1.at 0 rfl
                                          have q0 := (OA).2 0 (by simp)
                                          have p1 := (OA).1.at 1 rfl
                                          have q1 := (OA).2 1 (by simp)
                                          have p2 := (OA).1.at 2 rfl
                                          have q2 := (OA).2 2 (by simp)
                                          go_simp
                                          refine hK.out _ _ ?_ (fun _hHeldS => ?_)
                                          · exact (((H5).setCell (p := ⟨w4.heap.size, 0, none⟩) (show W0.heap.size ≤ w4.heap.size by omega) (.int .i64 x10.x.toInt)).setCell (p := ⟨w4.heap.size, 1, none⟩) (show W0.heap.size ≤ w4.heap.size by omega) (.int .i64 x10.y.toInt)).setCell (p := ⟨w4.heap.size, 2, none⟩) (show W0.heap.size ≤ w4.heap.size by omega) (.int .i64 x10.z.toInt)
                                          clear hK KK
                                          try simp only [Act.put, List.setIfInBounds_toArray, List.set_cons_zero, List.set_cons_succ]
                                          refine wpAnyH_done (by as_aux_lemma => kernel_rfl) ?_ _
                                          refine NoPanic.normal ?_
                                          have BF := (((H5).setCell (p := ⟨w4.heap.size, 0, none⟩) (show W0.heap.size ≤ w4.heap.size by omega) (.int .i64 x10.x.toInt)).setCell (p := ⟨w4.heap.size, 1, none⟩) (show W0.heap.size ≤ w4.heap.size by omega) (.int .i64 x10.y.toInt)).setCell (p := ⟨w4.heap.size, 2, none⟩) (show W0.heap.size ≤ w4.heap.size by omega) (.int .i64 x10.z.toInt)
                                          have OF := (((OA).set 0 (.int .i64 x10.x.toInt)).set 1 (.int .i64 x10.y.toInt)).set 2 (.int .i64 x10.z.toInt)
                                          have SF := HS.out.keep BF
                                          go_wp2_with fail
                                          go_meet
                                          exact ⟨_, rfl, rfl, rfl, rfl, SF, OF⟩
                                      · skip
                                        rw [if_pos (by rfl)]
                                        go_simp
                                        refine hK.out _ _ ?_ (fun _hHeldA => ?_)
                                        · first | exact below1 W0 (.cells #[.int .i64 0, .int .i64 0, .int .i64 0] 23) | exact (below1 W0 (.cells #[.int .i64 0, .int .i64 0, .int .i64 0] 23)).drew
                                        clear hK KK
                                        try simp only [Act.put, List.setIfInBounds_toArray, List.set_cons_zero, List.set_cons_succ]
                                        refine wpAnyH_ready (rs := [2]) (by as_aux_lemma => kernel_rfl) (by simp) ?_
                                        refine AllReadyH.cons (o := ({ dst := some 33, op := .call { callee := .value (.func 42), args := #[.tmp 32], argTypes := #[3] }, type := 23, pos := "mat.go:120", after := #[{ on := 1, ground := .data }], guard := none } : Oper)) rfl (fun KK hK => ?_) AllReadyH.nil
                                        rw [if_pos (by rfl)]
                                        go_simp
                                        go_at_call 42; refine (O1.out _).mono ?_; rintro e w4 ⟨rfl, hb4⟩
                                        go_wp2_with fail
                                        refine hK.out _ _ ?_ (fun hHeld4 => ?_)
                                        · exact belowT (by assumption) hb4
                                        have OA := ((ownl W0 [.int .i64 0, .int .i64 0, .int .i64 0] 23).drew).keep hb4
                                        have H4 : Below W0.heap.size W0 w4 := by assumption
                                        have S4 := H4.size
                                        clear hK KK hb4
                                        try simp only [Act.put, List.setIfInBounds_toArray, List.set_cons_zero, List.set_cons_succ]
                                        refine wpAnyH_ready (rs := [3]) (by as_aux_lemma => kernel_rfl) (by simp) ?_
                                        refine AllReadyH.cons (o := ({ dst := some 34, op := .call { callee := .value (.func 39), args := #[.tmp 31, .tmp 33], argTypes := #[23, 23] }, type := 23, pos := "mat.go:120", after := #[{ on := 0, ground := .data }, { on := 2, ground := .data }, { on := 2, ground := .chain }], guard := none } : Oper)) rfl (fun KK hK => ?_) AllReadyH.nil
                                        rw [if_pos (by rfl)]
                                        go_simp
                                        go_at_call 39; refine (C10.out _).mono ?_; rintro e w5 ⟨rfl, hb5⟩
                                        go_wp2_with fail
                                        refine hK.out _ _ ?_ (fun hHeld5 => ?_)
                                        · exact belowT (by assumption) hb5
                                        replace OA := (OA).keep hb5
                                        have H5 : Below W0.heap.size W0 w5 := by assumption
                                        have S5 := H5.size
                                        clear hK KK hb5
                                        try simp only [Act.put, List.setIfInBounds_toArray, List.set_cons_zero, List.set_cons_succ]
                                        refine wpAnyH_ready (rs := [5]) (by as_aux_lemma => kernel_rfl) (by simp) ?_
                                        refine AllReadyH.cons (o := ({ dst := none, op := .store 23 (.tmp 9) (.tmp 34), type := 0, pos := "mat.go:120", after := #[{ on := 4, ground := .data }, { on := 3, ground := .data }, { on := 3, ground := .chain }, { on := 0, ground := .phase }, { on := 1, ground := .phase }, { on := 2, ground := .phase }, { on := 3, ground := .phase }, { on := 4, ground := .phase }], guard := none } : Oper)) rfl (fun KK hK => ?_) AllReadyH.nil
                                        rw [if_pos (by rfl)]
                                        have p0 := (OA).1.at 0 rfl
                                        have q0 := (OA).2 0 (by simp)
                                        have p1 := (OA).1.at 1 rfl
                                        have q1 := (OA).2 1 (by simp)
                                        have p2 := (OA).1.at 2 rfl
                                        have q2 := (OA).2 2 (by simp)
                                        go_simp
                                        refine hK.out _ _ ?_ (fun _hHeldS => ?_)
                                        · exact (((H5).setCell (p := ⟨W0.heap.size, 0, none⟩) (show W0.heap.size ≤ W0.heap.size by omega) (.int .i64 x10.x.toInt)).setCell (p := ⟨W0.heap.size, 1, none⟩) (show W0.heap.size ≤ W0.heap.size by omega) (.int .i64 x10.y.toInt)).setCell (p := ⟨W0.heap.size, 2, none⟩) (show W0.heap.size ≤ W0.heap.size by omega) (.int .i64 x10.z.toInt)
                                        clear hK KK
                                        try simp only [Act.put, List.setIfInBounds_toArray, List.set_cons_zero, List.set_cons_succ]
                                        refine wpAnyH_done (by as_aux_lemma => kernel_rfl) ?_ _
                                        refine NoPanic.normal ?_
                                        have BF := (((H5).setCell (p := ⟨W0.heap.size, 0, none⟩) (show W0.heap.size ≤ W0.heap.size by omega) (.int .i64 x10.x.toInt)).setCell (p := ⟨W0.heap.size, 1, none⟩) (show W0.heap.size ≤ W0.heap.size by omega) (.int .i64 x10.y.toInt)).setCell (p := ⟨W0.heap.size, 2, none⟩) (show W0.heap.size ≤ W0.heap.size by omega) (.int .i64 x10.z.toInt)
                                        have OF := (((OA).set 0 (.int .i64 x10.x.toInt)).set 1 (.int .i64 x10.y.toInt)).set 2 (.int .i64 x10.z.toInt)
                                        have SF := HS.out.keep BF
                                        go_wp2_with fail
                                        go_meet
                                        exact ⟨_, rfl, rfl, rfl, rfl, SF, OF⟩
                                    case rest =>
                                      clear HS r0 r1 r2
                                      rename World => W0
                                      obtain ⟨X, rfl, rfl, rfl, rfl, hS, OX⟩ := hcut
                                      have g0 := OX.1.at 0 rfl; have g1 := OX.1.at 1 rfl; have g2 := OX.1.at 2 rfl
                                      clear OX
                                      cases q10 with
                                      | false =>
                                        obtain ⟨y0, k0, f0⟩ := hS.there 1 rfl 0 rfl; obtain ⟨y1, k1, f1⟩ := hS.there 1 rfl 1 rfl; obtain ⟨y2, k2, f2⟩ := hS.there 1 rfl 2 rfl
                                        have BH := Lib.hid hS.below
                                        clear hS
                                        go_wp2_with fail
                                        refine bodyPost_ret (v := .tuple #[vv x10, .bool true]) (by simp [results, Try.results21, go_sem, *]) rfl ⟨rfl, ?_⟩
                                        iterate 3 refine Below.setCell (p := ⟨w.heap.size + 1, _, none⟩) ?_ (show w.heap.size ≤ w.heap.size + 1 by omega) _
                                        exact BH.out
                                      | true =>
                                        go_wp2_with fail
                                        clear g0 g1 g2
                                        rw [rounds_succ]
                                        go_upto_region 15 with fail
                                        have HS := Lib.hid hS
                                        have r0 : ∀ w', Below W0.heap.size W0 w' → w'.cell? ⟨Ar, 0, none⟩ = some (.int .i64 m.c.x.toInt) := fun w' h => (HS.out.keep h).at 2 rfl 0 rfl
                                        have r1 : ∀ w', Below W0.heap.size W0 w' → w'.cell? ⟨Ar, 1, none⟩ = some (.int .i64 m.c.y.toInt) := fun w' h => (HS.out.keep h).at 2 rfl 1 rfl
                                        have r2 : ∀ w', Below W0.heap.size W0 w' → w'.cell? ⟨Ar, 2, none⟩ = some (.int .i64 m.c.z.toInt) := fun w' h => (HS.out.keep h).at 2 rfl 2 rfl
                                        clear hS
                                        go_cut [9, 24, 25, 28] from 9 to 35 (fun p u v q wx => ∃ X, p = .pointer (some ⟨X, 0, none⟩) ∧ u = mv m ∧ v = .int .i64 2 ∧ q = .int .i64 2 ∧ Sp w [(w.heap.size, [some (.int .i64 m.a.x.toInt), some (.int .i64 m.a.y.toInt), some (.int .i64 m.a.z.toInt), some (.int .i64 m.b.x.toInt), some (.int .i64 m.b.y.toInt), some (.int .i64 m.b.z.toInt), some (.int .i64 m.c.x.toInt), some (.int .i64 m.c.y.toInt), some (.int .i64 m.c.z.toInt)]), (w.heap.size + 1, [none, none, none]), (Ar, [some (.int .i64 m.c.x.toInt), some (.int .i64 m.c.y.toInt), some (.int .i64 m.c.z.toInt)])] wx ∧ OwnL wx X (vl x11))
                                        case first =>
                                          change (Code.region 15 okernel true).wp Try.prog _ _ _
                                          refine wp_region_noPanic ?_
                                          refine wp_region_held_drew (S := fun w' => Below W0.heap.size W0 w') (by kernel_rfl) ((Below.refl _ _).drew) (fun hHeld => ?_)
                                          refine wpAnyH_take (i := 0) (oi := ({ dst := some 31, op := .load 23 (.tmp 7), type := 23, pos := "mat.go:120", after := #[], guard := none } : Oper)) (v := ?vv11_1_) rfl okernel_plain (by as_aux_lemma => kernel_rfl) (by as_aux_lemma => kernel_rfl) (fun _ _ _ h => h) (Or.inl ⟨by rfl, ?yv11_1_⟩) (by assumption) ?rv11_1_
                                          case yv11_1_ => (intro w hSw; (try dsimp only at hSw); go_simp; try with_reducible rfl)
                                          try simp only [Act.put, List.setIfInBounds_toArray, List.set_cons_zero, List.set_cons_succ]
                                          refine wpAnyH_take (i := 1) (oi := ({ dst := some 32, op := .move (.tmp 8), type := 3, pos := "mat.go:120", after := #[], guard := none } : Oper)) (v := ?vv11_2_) rfl okernel_plain (by as_aux_lemma => kernel_rfl) (by as_aux_lemma => kernel_rfl) (fun _ _ _ h => h) (Or.inl ⟨by rfl, ?yv11_2_⟩) (by assumption) ?rv11_2_
                                          case yv11_2_ => (intro w hSw; (try dsimp only at hSw); go_simp; try with_reducible rfl)
                                          try simp only [Act.put, List.setIfInBounds_toArray, List.set_cons_zero, List.set_cons_succ]
                                          refine wpAnyH_ready (rs := [2, 4]) (by as_aux_lemma => kernel_rfl) (by simp) ?_
                                          refine AllReadyH.cons (o := ({ dst := some 33, op := .call { callee := .value (.func 42), args := #[.tmp 32], argTypes := #[3] }, type := 23, pos := "mat.go:120", after := #[{ on := 1, ground := .data }], guard := none } : Oper)) rfl (fun KK hK => ?_) (AllReadyH.cons (o := ({ dst := some 9, op := .alloc 23, type := 0, pos := "mat.go:120", after := #[], guard := none } : Oper)) rfl (fun KK hK => ?_) AllReadyH.nil)
                                          · skip
                                            rw [if_pos (by rfl)]
                                            go_simp
                                            go_at_call 42; refine (O2.out _).mono ?_; rintro e w4 ⟨rfl, hb4⟩
                                            go_wp2_with fail
                                            refine hK.out _ _ ?_ (fun hHeld4 => ?_)
                                            · exact belowT (by assumption) hb4
                                            have H4 : Below W0.heap.size W0 w4 := by assumption
                                            have S4 := H4.size
                                            clear hK KK hb4
                                            try simp only [Act.put, List.setIfInBounds_toArray, List.set_cons_zero, List.set_cons_succ]
                                            refine wpAnyH_ready (rs := [3, 4]) (by as_aux_lemma => kernel_rfl) (by simp) ?_
                                            refine AllReadyH.cons (o := ({ dst := some 34, op := .call { callee := .value (.func 39), args := #[.tmp 31, .tmp 33], argTypes := #[23, 23] }, type := 23, pos := "mat.go:120", after := #[{ on := 0, ground := .data }, { on := 2, ground := .data }, { on := 2, ground := .chain }], guard := none } : Oper)) rfl (fun KK hK => ?_) (AllReadyH.cons (o := ({ dst := some 9, op := .alloc 23, type := 0, pos := "mat.go:120", after := #[], guard := none } : Oper)) rfl (fun KK hK => ?_) AllReadyH.nil)
                                            · skip
                                              rw [if_pos (by rfl)]
                                              go_simp
                                              go_at_call 39; refine (C11.out _).mono ?_; rintro e w5 ⟨rfl, hb5⟩
                                              go_wp2_with fail
                                              refine hK.out _ _ ?_ (fun hHeld5 => ?_)
                                              · exact belowT (by assumption) hb5
                                              have H5 : Below W0.heap.size W0 w5 := by assumption
                                              have S5 := H5.size
                                              clear hK KK hb5
                                              try simp only [Act.put, List.setIfInBounds_toArray, List.set_cons_zero, List.set_cons_succ]
                                              refine wpAnyH_ready (rs := [4]) (by as_aux_lemma => kernel_rfl) (by simp) ?_
                                              refine AllReadyH.cons (o := ({ dst := some 9, op := .alloc 23, type := 0, pos := "mat.go:120", after := #[], guard := none } : Oper)) rfl (fun KK hK => ?_) AllReadyH.nil
                                              rw [if_pos (by rfl)]
                                              go_simp
                                              refine hK.out _ _ ?_ (fun _hHeldA => ?_)
                                              · first | exact belowT (by assumption) (below1 _ _) | exact (belowT (by assumption) (below1 _ _)).drew
                                              clear hK KK
                                              try simp only [Act.put, List.setIfInBounds_toArray, List.set_cons_zero, List.set_cons_succ]
                                              refine wpAnyH_ready (rs := [5]) (by as_aux_lemma => kernel_rfl) (by simp) ?_
                                              refine AllReadyH.cons (o := ({ dst := none, op := .store 23 (.tmp 9) (.tmp 34), type := 0, pos := "mat.go:120", after := #[{ on := 4, ground := .data }, { on := 3, ground := .data }, { on := 3, ground := .chain }, { on := 0, ground := .phase }, { on := 1, ground := .phase }, { on := 2, ground := .phase }, { on := 3, ground := .phase }, { on := 4, ground := .phase }], guard := none } : Oper)) rfl (fun KK hK => ?_) AllReadyH.nil
                                              rw [if_pos (by rfl)]
                                              have p0 := (ownl w5 [.int .i64 0, .int .i64 0, .int .i64 0] 23).1.at 0 rfl
                                              have q0 := (ownl w5 [.int .i64 0, .int .i64 0, .int .i64 0] 23).2 0 (by simp)
                                              have p1 := (ownl w5 [.int .i64 0, .int .i64 0, .int .i64 0] 23).1.at 1 rfl
                                              have q1 := (ownl w5 [.int .i64 0, .int .i64 0, .int .i64 0] 23).2 1 (by simp)
                                              have p2 := (ownl w5 [.int .i64 0, .int .i64 0, .int .i64 0] 23).1.at 2 rfl
                                              have q2 := (ownl w5 [.int .i64 0, .int .i64 0, .int .i64 0] 23).2 2 (by simp)
                                              go_simp
                                              refine hK.out _ _ ?_ (fun _hHeldS => ?_)
                                              · exact belowT H5 (below1 w5 (.cells #[.int .i64 x11.x.toInt, .int .i64 x11.y.toInt, .int .i64 x11.z.toInt] 23))
                                              clear hK KK
                                              try simp only [Act.put, List.setIfInBounds_toArray, List.set_cons_zero, List.set_cons_succ]
                                              refine wpAnyH_done (by as_aux_lemma => kernel_rfl) ?_ _
                                              refine NoPanic.normal ?_
                                              have BF := belowT H5 (below1 w5 (.cells #[.int .i64 x11.x.toInt, .int .i64 x11.y.toInt, .int .i64 x11.z.toInt] 23))
                                              have OF := ownl w5 [.int .i64 x11.x.toInt, .int .i64 x11.y.toInt, .int .i64 x11.z.toInt] 23
                                              have SF := HS.out.keep BF
                                              go_wp2_with fail
                                              go_meet
                                              exact ⟨_, rfl, rfl, rfl, rfl, SF, OF⟩
                                            · skip
                                              rw [if_pos (by rfl)]
                                              go_simp
                                              refine hK.out _ _ ?_ (fun _hHeldA => ?_)
                                              · first | exact belowT (by assumption) (below1 _ _) | exact (belowT (by assumption) (below1 _ _)).drew
                                              clear hK KK
                                              try simp only [Act.put, List.setIfInBounds_toArray, List.set_cons_zero, List.set_cons_succ]
                                              refine wpAnyH_ready (rs := [3]) (by as_aux_lemma => kernel_rfl) (by simp) ?_
                                              refine AllReadyH.cons (o := ({ dst := some 34, op := .call { callee := .value (.func 39), args := #[.tmp 31, .tmp 33], argTypes := #[23, 23] }, type := 23, pos := "mat.go:120", after := #[{ on := 0, ground := .data }, { on := 2, ground := .data }, { on := 2, ground := .chain }], guard := none } : Oper)) rfl (fun KK hK => ?_) AllReadyH.nil
                                              rw [if_pos (by rfl)]
                                              go_simp
                                              go_at_call 39; refine (C11.out _).mono ?_; rintro e w5 ⟨rfl, hb5⟩
                                              go_wp2_with fail
                                              refine hK.out _ _ ?_ (fun hHeld5 => ?_)
                                              · exact belowT (by assumption) hb5
                                              have OA := (ownl w4 [.int .i64 0, .int .i64 0, .int .i64 0] 23).keep hb5
                                              have H5 : Below W0.heap.size W0 w5 := by assumption
                                              have S5 := H5.size
                                              clear hK KK hb5
                                              try simp only [Act.put, List.setIfInBounds_toArray, List.set_cons_zero, List.set_cons_succ]
                                              refine wpAnyH_ready (rs := [5]) (by as_aux_lemma => kernel_rfl) (by simp) ?_
                                              refine AllReadyH.cons (o := ({ dst := none, op := .store 23 (.tmp 9) (.tmp 34), type := 0, pos := "mat.go:120", after := #[{ on := 4, ground := .data }, { on := 3, ground := .data }, { on := 3, ground := .chain }, { on := 0, ground := .phase }, { on := 1, ground := .phase }, { on := 2, ground := .phase }, { on := 3, ground := .phase }, { on := 4, ground := .phase }], guard := none } : Oper)) rfl (fun KK hK => ?_) AllReadyH.nil
                                              rw [if_pos (by rfl)]
                                              have p0 := (OA).1.at 0 rfl
                                              have q0 := (OA).2 0 (by simp)
                                              have p1 := (OA).1.at 1 rfl
                                              have q1 := (OA).2 1 (by simp)
                                              have p2 := (OA).1.at 2 rfl
                                              have q2 := (OA).2 2 (by simp)
                                              go_simp
                                              refine hK.out _ _ ?_ (fun _hHeldS => ?_)
                                              · exact (((H5).setCell (p := ⟨w4.heap.size, 0, none⟩) (show W0.heap.size ≤ w4.heap.size by omega) (.int .i64 x11.x.toInt)).setCell (p := ⟨w4.heap.size, 1, none⟩) (show W0.heap.size ≤ w4.heap.size by omega) (.int .i64 x11.y.toInt)).setCell (p := ⟨w4.heap.size, 2, none⟩) (show W0.heap.size ≤ w4.heap.size by omega) (.int .i64 x11.z.toInt)
                                              clear hK KK
                                              try simp only [Act.put, List.setIfInBounds_toArray, List.set_cons_zero, List.set_cons_succ]
                                              refine wpAnyH_done (by as_aux_lemma => kernel_rfl) ?_ _
                                              refine NoPanic.normal ?_
                                              have BF := (((H5).setCell (p := ⟨w4.heap.size, 0, none⟩) (show W0.heap.size ≤ w4.heap.size by omega) (.int .i64 x11.x.toInt)).setCell (p := ⟨w4.heap.size, 1, none⟩) (show W0.heap.size ≤ w4.heap.size by omega) (.int .i64 x11.y.toInt)).setCell (p := ⟨w4.heap.size, 2, none⟩) (show W0.heap.size ≤ w4.heap.size by omega) (.int .i64 x11.z.toInt)
                                              have OF := (((OA).set 0 (.int .i64 x11.x.toInt)).set 1 (.int .i64 x11.y.toInt)).set 2 (.int .i64 x11.z.toInt)
                                              have SF := HS.out.keep BF
                                              go_wp2_with fail
                                              go_meet
                                              exact ⟨_, rfl, rfl, rfl, rfl, SF, OF⟩
                                          · skip
                                            rw [if_pos (by rfl)]
                                            go_simp
                                            refine hK.out _ _ ?_ (fun _hHeldA => ?_)
                                            · first | exact below1 W0 (.cells #[.int .i64 0, .int .i64 0, .int .i64 0] 23) | exact (below1 W0 (.cells #[.int .i64 0, .int .i64 0, .int .i64 0] 23)).drew
                                            clear hK KK
                                            try simp only [Act.put, List.setIfInBounds_toArray, List.set_cons_zero, List.set_cons_succ]
                                            refine wpAnyH_ready (rs := [2]) (by as_aux_lemma => kernel_rfl) (by simp) ?_
                                            refine AllReadyH.cons (o := ({ dst := some 33, op := .call { callee := .value (.func 42), args := #[.tmp 32], argTypes := #[3] }, type := 23, pos := "mat.go:120", after := #[{ on := 1, ground := .data }], guard := none } : Oper)) rfl (fun KK hK => ?_) AllReadyH.nil
                                            rw [if_pos (by rfl)]
                                            go_simp
                                            go_at_call 42; refine (O2.out _).mono ?_; rintro e w4 ⟨rfl, hb4⟩
                                            go_wp2_with fail
                                            refine hK.out _ _ ?_ (fun hHeld4 => ?_)
                                            · exact belowT (by assumption) hb4
                                            have OA := ((ownl W0 [.int .i64 0, .int .i64 0, .int .i64 0] 23).drew).keep hb4
                                            have H4 : Below W0.heap.size W0 w4 := by assumption
                                            have S4 := H4.size
                                            clear hK KK hb4
                                            try simp only [Act.put, List.setIfInBounds_toArray, List.set_cons_zero, List.set_cons_succ]
                                            refine wpAnyH_ready (rs := [3]) (by as_aux_lemma => kernel_rfl) (by simp) ?_
                                            refine AllReadyH.cons (o := ({ dst := some 34, op := .call { callee := .value (.func 39), args := #[.tmp 31, .tmp 33], argTypes := #[23, 23] }, type := 23, pos := "mat.go:120", after := #[{ on := 0, ground := .data }, { on := 2, ground := .data }, { on := 2, ground := .chain }], guard := none } : Oper)) rfl (fun KK hK => ?_) AllReadyH.nil
                                            rw [if_pos (by rfl)]
                                            go_simp
                                            go_at_call 39; refine (C11.out _).mono ?_; rintro e w5 ⟨rfl, hb5⟩
                                            go_wp2_with fail
                                            refine hK.out _ _ ?_ (fun hHeld5 => ?_)
                                            · exact belowT (by assumption) hb5
                                            replace OA := (OA).keep hb5
                                            have H5 : Below W0.heap.size W0 w5 := by assumption
                                            have S5 := H5.size
                                            clear hK KK hb5
                                            try simp only [Act.put, List.setIfInBounds_toArray, List.set_cons_zero, List.set_cons_succ]
                                            refine wpAnyH_ready (rs := [5]) (by as_aux_lemma => kernel_rfl) (by simp) ?_
                                            refine AllReadyH.cons (o := ({ dst := none, op := .store 23 (.tmp 9) (.tmp 34), type := 0, pos := "mat.go:120", after := #[{ on := 4, ground := .data }, { on := 3, ground := .data }, { on := 3, ground := .chain }, { on := 0, ground := .phase }, { on := 1, ground := .phase }, { on := 2, ground := .phase }, { on := 3, ground := .phase }, { on := 4, ground := .phase }], guard := none } : Oper)) rfl (fun KK hK => ?_) AllReadyH.nil
                                            rw [if_pos (by rfl)]
                                            have p0 := (OA).1.at 0 rfl
                                            have q0 := (OA).2 0 (by simp)
                                            have p1 := (OA).1.at 1 rfl
                                            have q1 := (OA).2 1 (by simp)
                                            have p2 := (OA).1.at 2 rfl
                                            have q2 := (OA).2 2 (by simp)
                                            go_simp
                                            refine hK.out _ _ ?_ (fun _hHeldS => ?_)
                                            · exact (((H5).setCell (p := ⟨W0.heap.size, 0, none⟩) (show W0.heap.size ≤ W0.heap.size by omega) (.int .i64 x11.x.toInt)).setCell (p := ⟨W0.heap.size, 1, none⟩) (show W0.heap.size ≤ W0.heap.size by omega) (.int .i64 x11.y.toInt)).setCell (p := ⟨W0.heap.size, 2, none⟩) (show W0.heap.size ≤ W0.heap.size by omega) (.int .i64 x11.z.toInt)
                                            clear hK KK
                                            try simp only [Act.put, List.setIfInBounds_toArray, List.set_cons_zero, List.set_cons_succ]
                                            refine wpAnyH_done (by as_aux_lemma => kernel_rfl) ?_ _
                                            refine NoPanic.normal ?_
                                            have BF := (((H5).setCell (p := ⟨W0.heap.size, 0, none⟩) (show W0.heap.size ≤ W0.heap.size by omega) (.int .i64 x11.x.toInt)).setCell (p := ⟨W0.heap.size, 1, none⟩) (show W0.heap.size ≤ W0.heap.size by omega) (.int .i64 x11.y.toInt)).setCell (p := ⟨W0.heap.size, 2, none⟩) (show W0.heap.size ≤ W0.heap.size by omega) (.int .i64 x11.z.toInt)
                                            have OF := (((OA).set 0 (.int .i64 x11.x.toInt)).set 1 (.int .i64 x11.y.toInt)).set 2 (.int .i64 x11.z.toInt)
                                            have SF := HS.out.keep BF
                                            go_wp2_with fail
                                            go_meet
                                            exact ⟨_, rfl, rfl, rfl, rfl, SF, OF⟩
                                        case rest =>
                                          clear HS r0 r1 r2
                                          rename World => W0
                                          obtain ⟨X, rfl, rfl, rfl, rfl, hS, OX⟩ := hcut
                                          have g0 := OX.1.at 0 rfl; have g1 := OX.1.at 1 rfl; have g2 := OX.1.at 2 rfl
                                          clear OX
                                          cases q11 with
                                          | false =>
                                            obtain ⟨y0, k0, f0⟩ := hS.there 1 rfl 0 rfl; obtain ⟨y1, k1, f1⟩ := hS.there 1 rfl 1 rfl; obtain ⟨y2, k2, f2⟩ := hS.there 1 rfl 2 rfl
                                            have BH := Lib.hid hS.below
                                            clear hS
                                            go_wp2_with fail
                                            refine bodyPost_ret (v := .tuple #[vv x11, .bool true]) (by simp [results, Try.results21, go_sem, *]) rfl ⟨rfl, ?_⟩
                                            iterate 3 refine Below.setCell (p := ⟨w.heap.size + 1, _, none⟩) ?_ (show w.heap.size ≤ w.heap.size + 1 by omega) _
                                            exact BH.out
                                          | true =>
                                            go_wp2_with fail
                                            clear g0 g1 g2
                                            rw [rounds_succ]
                                            go_wp2_with fail
                                            have hN := hS.take 2
                                            clear hS
                                            have hS := hN
                                            clear hN
                                            rw [rounds_succ]
                                            have HS := Lib.hid hS
                                            clear hS
                                            go_wp2_with fail
                                            refine (O0.out _).mono ?_; rintro e w9 ⟨rfl, hb9⟩
                                            have S9 := HS.out.keep hb9
                                            obtain ⟨y0, k0, f0⟩ := S9.there 1 rfl 0 rfl; obtain ⟨y1, k1, f1⟩ := S9.there 1 rfl 1 rfl; obtain ⟨y2, k2, f2⟩ := S9.there 1 rfl 2 rfl
                                            have BH := Lib.hid S9.below
                                            clear S9 HS hb9
                                            go_wp2_with fail
                                            refine bodyPost_ret (v := .tuple #[vv (V3.one 0), .bool true]) (by simp [results, Try.results21, go_sem, *]) rfl ⟨rfl, ?_⟩
                                            iterate 3 refine Below.setCell (p := ⟨w.heap.size + 1, _, none⟩) ?_ (show w.heap.size ≤ w.heap.size + 1 by omega) _
                                            exact BH.out
set_option maxHeartbeats 4000000 in
theorem Kernel_firm (m : M3) (w : World) (hd : m.det ≠ 0) :
    Calls Try.prog 21 #[mv m] w fun e w' => e = .returned (.tuple #[vv V3.zero, .bool false]) ∧ Below w.heap.size w w' := by
  have DE := Lib.hid (Det_any m)
  have d0 : (m.det.toInt == 0) = false := by rw [det_zero, decide_eq_false hd]
  clear hd
  generalize m.det.toInt = d at *
  have S0 := Lib.hid (((St.none w).more (ml m) 25).more [.int .i64 0, .int .i64 0, .int .i64 0] 23)
  have hv : vv V3.zero = .agg #[.int .i64 0, .int .i64 0, .int .i64 0] := by simp [V3.zero]
  rw [hv]
  clear hv
  go_enter Try.func21, Try.ntmps21
  go_wp2_with fail
  refine (DE.out _).mono ?_; rintro e w1 ⟨rfl, hb1⟩
  have S1 := S0.out.keep hb1
  rw [heap1] at S1
  obtain ⟨y0, k0, f0⟩ := S1.there 1 rfl 0 rfl; obtain ⟨y1, k1, f1⟩ := S1.there 1 rfl 1 rfl; obtain ⟨y2, k2, f2⟩ := S1.there 1 rfl 2 rfl
  have BH := Lib.hid S1.below
  clear S1 hb1 S0
  go_wp2_with fail
  refine bodyPost_ret (v := .tuple #[.agg #[.int .i64 0, .int .i64 0, .int .i64 0], .bool false]) (by simp [results, Try.results21, go_sem, *]) rfl ⟨rfl, ?_⟩
  iterate 3 refine Below.setCell (p := ⟨w.heap.size + 1, _, none⟩) ?_ (show w.heap.size ≤ w.heap.size + 1 by omega) _
  exact BH.out
end Own8
end Go.Proofs.Ytjdpcmcekockgaa
