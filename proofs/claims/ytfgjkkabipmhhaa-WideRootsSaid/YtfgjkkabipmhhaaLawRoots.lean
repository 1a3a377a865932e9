/- WideRoots: the walk. -/
import Derived.Test.YtfgjkkabipmhhaaWideF
import Derived.Test.YtfgjkkabipmhhaaSqrt
namespace Go.Proofs.Ytfgjkkabipmhhaa
open Go.RowKit

theorem Own2.set0 {w : World} {b : Nat} {u v : Value} (h : Own2 w b u v) (x : Value) : Own2 (w.setCell ⟨b, 0, none⟩ x) b x v :=
  ⟨World.cell?_setCell_same _ _ _ h.c0, by rw [World.cell?_setCell_other _ _ _ _ (by simp)]; exact h.c1, by rw [World.frozen?_setCell]; exact h.f0, by rw [World.frozen?_setCell]; exact h.f1⟩

theorem mask60 (h : Int) (r : Wd.R6 h) : bits .andNot .i64 h (-1152921504606846976) = h % 1152921504606846976 := by
  obtain ⟨r1, r2⟩ := r
  have e1 : (BitVec.ofInt 64 h).toNat = (h % 18446744073709551616).toNat := BitVec.toNat_ofInt h
  have e2 : (~~~(BitVec.ofInt 64 (-1152921504606846976))).toNat = 1152921504606846975 := by decide
  show IntKind.i64.wrap ((BitVec.ofInt 64 h &&& ~~~(BitVec.ofInt 64 (-1152921504606846976))).toNat : Int) = _
  rw [BitVec.toNat_and, e1, e2, show (1152921504606846975 : Nat) = 2 ^ 60 - 1 by decide, Nat.and_two_pow_sub_one_eq_mod, IntKind.wrap_i64, show (2 ^ 60 : Nat) = 1152921504606846976 by decide]
  omega

set_option maxHeartbeats 2000000 in
set_option maxRecDepth 100000 in
theorem roots_core (n N h l h2 q rt s z g1 g2 : Int) (w : World) (eN : n / 2 = N) (em : bits .andNot .i64 h (-1152921504606846976) = h2) (ez : IntKind.i64.wrap (s + 1) = z)
    (hg1 : g1 ≤ 0) (hg2 : 0 < g2)
    (M1 : Hid (∀ w, Calls Try.prog 15 #[.int .i64 N, .int .i64 N] w fun e w' => e = .returned (.agg #[.int .i64 (Wd.hi q), .int .u64 (Wd.lo q)]) ∧ Below w.heap.size w w'))
    (S1 : Hid (∀ w, Calls Try.prog 27 #[.agg #[.int .i64 (Wd.hi q), .int .u64 (Wd.lo q)]] w fun e w' => e = .returned (.tuple #[.int .i64 rt, .int .i64 0]) ∧ Below w.heap.size w w'))
    (O1 : Hid (∀ w, Calls Try.prog 13 #[.int .i64 rt] w fun e w' => e = .returned (.agg #[.int .i64 (Wd.hi rt), .int .u64 (Wd.lo rt)]) ∧ Below w.heap.size w w'))
    (O2 : Hid (∀ w, Calls Try.prog 13 #[.int .i64 N] w fun e w' => e = .returned (.agg #[.int .i64 (Wd.hi N), .int .u64 (Wd.lo N)]) ∧ Below w.heap.size w w'))
    (A : Hid (∀ w, Calls Try.prog 28 #[.agg #[.int .i64 (Wd.hi N), .int .u64 (Wd.lo N)]] w fun e w' => e = .returned (.agg #[.int .i64 (Wd.hi rt), .int .u64 (Wd.lo rt)]) ∧ Below w.heap.size w w'))
    (S2 : Hid (∀ w, Calls Try.prog 27 #[.agg #[.int .i64 h2, .int .u64 l]] w fun e w' => e = .returned (.tuple #[.int .i64 s, .int .i64 0]) ∧ Below w.heap.size w w'))
    (M2 : Hid (∀ w, Calls Try.prog 15 #[.int .i64 s, .int .i64 s] w fun e w' => e = .returned (.agg #[.int .i64 (Wd.hi (s * s)), .int .u64 (Wd.lo (s * s))]) ∧ Below w.heap.size w w'))
    (C1 : Hid (∀ w, Calls Try.prog 23 #[.agg #[.int .i64 (Wd.hi (s * s)), .int .u64 (Wd.lo (s * s))], .agg #[.int .i64 h2, .int .u64 l]] w fun e w' => e = .returned (.int .i64 g1) ∧ Below w.heap.size w w'))
    (M3 : Hid (∀ w, Calls Try.prog 15 #[.int .i64 z, .int .i64 z] w fun e w' => e = .returned (.agg #[.int .i64 (Wd.hi (z * z)), .int .u64 (Wd.lo (z * z))]) ∧ Below w.heap.size w w'))
    (C2 : Hid (∀ w, Calls Try.prog 23 #[.agg #[.int .i64 (Wd.hi (z * z)), .int .u64 (Wd.lo (z * z))], .agg #[.int .i64 h2, .int .u64 l]] w fun e w' => e = .returned (.int .i64 g2) ∧ Below w.heap.size w w'))
    (K : Hid (∀ w, Calls Try.prog 25 #[] w fun e w' => e = .returned (.bool true) ∧ Below w.heap.size w w')) :
    Calls Try.prog 6 #[.int .i64 n, .agg #[.int .i64 h, .int .u64 l]] w fun e w' => e = .returned (.bool true) ∧ Below w.heap.size w w' := by
  go_enter Try.func6, Try.ntmps6
  go_wp2_with fail
  refine (M1.out _).mono ?_; rintro e w1 ⟨rfl, hb1⟩
  have B1 := belowT (below1 w _) hb1
  have X1 := (own2 w _ _ _).keep hb1; have X1a := X1.c0; have X1b := X1.c1; have X1c := X1.f0; have X1d := X1.f1; have X1l := X1.lt
  go_wp2_with fail
  refine (S1.out _).mono ?_; rintro e w2 ⟨rfl, hb2⟩
  have B2 := belowT (B1) hb2
  have X2 := (X1).keep hb2; have X2a := X2.c0; have X2b := X2.c1; have X2c := X2.f0; have X2d := X2.f1; have X2l := X2.lt
  go_wp2_with fail
  refine (O1.out _).mono ?_; rintro e w3 ⟨rfl, hb3⟩
  have B3 := belowT (B2) hb3
  have X3 := (X2).keep hb3; have X3a := X3.c0; have X3b := X3.c1; have X3c := X3.f0; have X3d := X3.f1; have X3l := X3.lt
  go_wp2_with fail
  refine (O2.out _).mono ?_; rintro e w4 ⟨rfl, hb4⟩
  have B4 := belowT (B3) hb4
  have X4 := (X3).keep hb4; have X4a := X4.c0; have X4b := X4.c1; have X4c := X4.f0; have X4d := X4.f1; have X4l := X4.lt
  go_wp2_with fail
  refine (A.out _).mono ?_; rintro e w5 ⟨rfl, hb5⟩
  have B5 := belowT (B4) hb5
  have X5 := (X4).keep hb5; have X5a := X5.c0; have X5b := X5.c1; have X5c := X5.f0; have X5d := X5.f1; have X5l := X5.lt
  go_wp2_with fail
  refine (S2.out _).mono ?_; rintro e w6 ⟨rfl, hb6⟩
  have B6 := belowT (B5.setCell (Nat.le_refl _) _) hb6
  have X6 := (X5.set0 (.int .i64 h2)).keep hb6; have X6a := X6.c0; have X6b := X6.c1; have X6c := X6.f0; have X6d := X6.f1; have X6l := X6.lt
  go_wp2_with fail
  go_region_held3 (fun w' => w'.cell? ⟨w.heap.size, 0, none⟩ = some (.int .i64 h2) ∧ w'.cell? ⟨w.heap.size, 1, none⟩ = some (.int .u64 l))
    (first
      | (go_split_ands; refine ⟨?_, ?_⟩ <;> first | exact keepc hb15 (by assumption) | exact keepc hb14 (by assumption) | exact keepc hb13 (by assumption) | exact keepc hb12 (by assumption) | exact keepc hb11 (by assumption))
      | go_keep)
    (first
      | (go_at_call 25; have _t := B14; clear _t; (with_reducible refine (K.out _).mono ?_); rintro e w15 ⟨rfl, hb15⟩; have B15 := belowT B14 hb15)
      | (go_at_call 23; have _t := B13; clear _t; (with_reducible refine (C2.out _).mono ?_); rintro e w14 ⟨rfl, hb14⟩; have B14 := belowT B13 hb14)
      | (go_at_call 15; have _t := B12; clear _t; (with_reducible refine (M3.out _).mono ?_); rintro e w13 ⟨rfl, hb13⟩; have B13 := belowT B12 hb13)
      | (go_at_call 23; have _t := B11; clear _t; (with_reducible refine (C1.out _).mono ?_); rintro e w12 ⟨rfl, hb12⟩; have B12 := belowT B11 hb12)
      | (go_at_call 15; (with_reducible refine (M2.out _).mono ?_); rintro e w11 ⟨rfl, hb11⟩; have B11 := belowT (B6).drew hb11))
  all_goals
    go_wp2_with fail
    go_ret
    exact ⟨rfl, B15⟩

theorem roots_any (n h l : Int) (w : World) (rn : Wd.R6 n) (rh : Wd.R6 h) (l0 : 0 ≤ l) (l1 : l ≤ 18446744073709551615) :
    Calls Try.prog 6 #[.int .i64 n, .agg #[.int .i64 h, .int .u64 l]] w fun e w' => e = .returned (.bool true) ∧ Below w.heap.size w w' := by
  have rN : Wd.R6 (n / 2) := by unfold Wd.R6 at *; omega
  have bN : -4611686018427387904 ≤ n / 2 ∧ n / 2 ≤ 4611686018427387903 := by unfold Wd.R6 at rn; omega
  obtain ⟨N, hN⟩ : ∃ N, N = n / 2 := ⟨_, rfl⟩
  rw [← hN] at rN bN
  have ea : ((N.natAbs : Nat) : Int) * ((N.natAbs : Nat) : Int) = N * N := by
    rw [← Int.natCast_mul, ← Int.natAbs_mul]
    have : 0 ≤ N * N := by
      by_cases z : 0 ≤ N
      · exact Int.mul_nonneg z z
      · exact Int.mul_nonneg_of_nonpos_of_nonpos (by omega) (by omega)
    omega
  have b0 : (0 : Int) ≤ (N.natAbs : Int) ∧ (N.natAbs : Int) ≤ 4611686018427387904 := by omega
  obtain ⟨rt, hrt⟩ : ∃ rt : Int, rt = (N.natAbs : Int) := ⟨_, rfl⟩
  rw [← hrt] at ea b0
  have q0 := sq_le (s := 0) (t := rt) (by omega) b0.1
  have q1 := sq_le (s := rt) (t := 4611686018427387904) b0.1 b0.2
  rw [ea] at q0 q1
  have rq : Wd.Rm (N * N) := by unfold Wd.Rm; omega
  have root1 : IsRoot (N * N) rt := by
    refine ⟨b0.1, by omega, by omega, fun t t0 t1 ht => ?_⟩
    by_cases g : t ≤ rt
    · exact g
    · have a1 := sq_le (s := rt + 1) (t := t) (by omega) (by omega)
      have a2 : (rt + 1) * (rt + 1) = rt * rt + rt + rt + 1 := by rw [Int.add_mul, Int.mul_add]; omega
      omega
  obtain ⟨h2, hh2⟩ : ∃ h2 : Int, h2 = h % 1152921504606846976 := ⟨_, rfl⟩
  have bh : 0 ≤ h2 ∧ h2 ≤ 1152921504606846975 := by omega
  obtain ⟨x1, x2, rx⟩ := Wd.of_halves h2 l (by omega) (by omega) l0 l1
  obtain ⟨x, hx⟩ : ∃ x : Int, x = h2 * 18446744073709551616 + l := ⟨_, rfl⟩
  rw [← hx] at x1 x2 rx
  have bx : 0 ≤ x ∧ x < 21267647932558653966460912964485513216 := by omega
  obtain ⟨s, hs⟩ := has_root x bx.1
  obtain ⟨s0, s1, s2, s3⟩ := id hs
  have s4 : s < 4611686018427387904 := by
    by_cases g : s < 4611686018427387904
    · exact g
    · have := sq_le (s := 4611686018427387904) (t := s) (by omega) (by omega)
      omega
  have s5 : x < (s + 1) * (s + 1) := by
    by_cases g : (s + 1) * (s + 1) ≤ x
    · have := s3 (s + 1) (by omega) (by omega) g
      omega
    · omega
  have s6 := sq_le (s := s + 1) (t := 4611686018427387904) (by omega) (by omega)
  have s7 := sq_le (s := 0) (t := s) (by omega) s0
  have r2 : Wd.Rm (s * s) := by unfold Wd.Rm; omega
  have r3 : Wd.Rm ((s + 1) * (s + 1)) := by unfold Wd.Rm; omega
  have g1 : Wd.sg (s * s - x) ≤ 0 := by
    by_cases z : s * s - x = 0
    · rw [Wd.sg_zero z]; omega
    · rw [Wd.sg_neg (by omega)]; omega
  have g2 : 0 < Wd.sg ((s + 1) * (s + 1) - x) := by rw [Wd.sg_pos (by omega)]; omega
  refine roots_core n N h l h2 (N * N) rt s (s + 1) _ _ w hN.symm ((mask60 h rh).trans hh2.symm) (IntWalk.i64_in _ ⟨by omega, by omega⟩) g1 g2
    (Lib.hid fun w => Mul_any N N w rN rN) (Lib.hid fun w => Sqrt_at _ _ w rq (by omega) root1) (Lib.hid fun w => Of_any rt w ⟨by omega, by omega⟩) (Lib.hid fun w => Of_any N w rN)
    (Lib.hid fun w => by rw [hrt]; exact Abs_any N w (Wd.rm_of rN)) (Lib.hid fun w => ?_) (Lib.hid fun w => Mul_any s s w ⟨by omega, by omega⟩ ⟨by omega, by omega⟩) (Lib.hid fun w => ?_)
    (Lib.hid fun w => Mul_any (s + 1) (s + 1) w ⟨by omega, by omega⟩ ⟨by omega, by omega⟩) (Lib.hid fun w => ?_) (Lib.hid fun w => awake_any w)
  · have c := Sqrt_at x s w rx bx.1 hs
    rw [x1, x2] at c; exact c
  · have c := Cmp_any (s * s) x w r2 rx
    rw [x1, x2] at c; exact c
  · have c := Cmp_any ((s + 1) * (s + 1)) x w r3 rx
    rw [x1, x2] at c; exact c

end Go.Proofs.Ytfgjkkabipmhhaa
