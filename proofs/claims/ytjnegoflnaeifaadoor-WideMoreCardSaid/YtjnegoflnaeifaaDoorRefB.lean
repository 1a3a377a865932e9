/- The document's own answer for products. -/
import Derived.Test.YtjnegoflnaeifaaDoorRefA
import Derived.Test.YtjnegoflnaeifaaDoorWideB
namespace Go.Proofs.YtjnegoflnaeifaaDoor.Ref
open Go.RowKit Go.Proofs.YtjnegoflnaeifaaDoor

set_option maxHeartbeats 1000000 in
theorem halves_core (x y p q r s a b c d am bm cm ah lo : Nat) (w : World)
    (ep : bits .and .u64 (x : Int) 4294967295 = (p : Int)) (eq : (x : Int) / 4294967296 = (q : Int)) (er : bits .and .u64 (y : Int) 4294967295 = (r : Int)) (es : (y : Int) / 4294967296 = (s : Int))
    (ea : (p : Int) * (r : Int) = (a : Int)) (eb : (p : Int) * (s : Int) = (b : Int)) (ec : (q : Int) * (r : Int) = (c : Int)) (ed : (q : Int) * (s : Int) = (d : Int))
    (eam : bits .and .u64 (a : Int) 4294967295 = (am : Int)) (ebm : bits .and .u64 (b : Int) 4294967295 = (bm : Int)) (ecm : bits .and .u64 (c : Int) 4294967295 = (cm : Int)) (eah : (a : Int) / 4294967296 = (ah : Int))
    (el : bits .or .u64 (IntKind.u64.wrap (((ah : Int) + (bm : Int) + (cm : Int)) * 4294967296)) (am : Int) = (lo : Int))
    (ha : a ≤ 18446744065119617025) (hb : b ≤ 18446744065119617025) (hc : c ≤ 18446744065119617025) (hd : d ≤ 18446744065119617025)
    (bm1 : bm < 4294967296) (cm1 : cm < 4294967296) (ah1 : ah < 4294967296) :
    Calls Tryd.prog 44 #[.int .u64 x, .int .u64 y] w fun e w' => e = .returned (.tuple #[.int .u64 ((d : Int) + (b : Int) / 4294967296 + (c : Int) / 4294967296 + ((ah : Int) + (bm : Int) + (cm : Int)) / 4294967296), .int .u64 (lo : Int)]) ∧ w = w' := by
  go_enter Tryd.func44, Tryd.ntmps44
  go_wp2
  go_ret2
  exact ⟨rfl, rfl⟩

theorem halves_any (x y : Nat) (hx : x < 18446744073709551616) (hy : y < 18446744073709551616) (w : World) :
    Calls Tryd.prog 44 #[.int .u64 x, .int .u64 y] w fun e w' => e = .returned (.tuple #[.int .u64 ((x * y / 18446744073709551616 : Nat) : Int), .int .u64 ((x * y % 18446744073709551616 : Nat) : Int)]) ∧ w = w' := by
  have W := Mul.whole x y
  have ha := Mul.half (x % 4294967296) (y % 4294967296) (by omega) (by omega)
  have hb := Mul.half (x % 4294967296) (y / 4294967296) (by omega) (by omega)
  have hc := Mul.half (x / 4294967296) (y % 4294967296) (by omega) (by omega)
  have hd := Mul.half (x / 4294967296) (y / 4294967296) (by omega) (by omega)
  have ea := Mul.mulN (x % 4294967296) (y % 4294967296)
  have eb := Mul.mulN (x % 4294967296) (y / 4294967296)
  have ec := Mul.mulN (x / 4294967296) (y % 4294967296)
  have ed := Mul.mulN (x / 4294967296) (y / 4294967296)
  generalize x % 4294967296 * (y % 4294967296) = a at *
  generalize x % 4294967296 * (y / 4294967296) = b at *
  generalize x / 4294967296 * (y % 4294967296) = c at *
  generalize x / 4294967296 * (y / 4294967296) = d at *
  have eo : bits .or .u64 (IntKind.u64.wrap ((((a / 4294967296 : Nat) : Int) + ((b % 4294967296 : Nat) : Int) + ((c % 4294967296 : Nat) : Int)) * 4294967296)) ((a % 4294967296 : Nat) : Int)
      = (((a / 4294967296 + b % 4294967296 + c % 4294967296) % 4294967296 * 4294967296 + a % 4294967296 : Nat) : Int) := by
    have e1 : IntKind.u64.wrap ((((a / 4294967296 : Nat) : Int) + ((b % 4294967296 : Nat) : Int) + ((c % 4294967296 : Nat) : Int)) * 4294967296) = (((a / 4294967296 + b % 4294967296 + c % 4294967296) % 4294967296 * 4294967296 : Nat) : Int) := by
      rw [IntKind.wrap_u64]; omega
    have e2 := Num.or_add ((a / 4294967296 + b % 4294967296 + c % 4294967296) % 4294967296) 32 (a % 4294967296) (Nat.mod_lt _ (by decide))
    rw [show (2 ^ 32 : Nat) = 4294967296 by decide] at e2
    rw [e1, bits_or_u64_nat _ _ (by omega) (by omega), e2]
  refine (halves_core x y _ _ _ _ a b c d _ _ _ _ _ w (Mul.maskN x hx) (by omega) (Mul.maskN y hy) (by omega) ea eb ec ed (Mul.maskN a (by omega)) (Mul.maskN b (by omega)) (Mul.maskN c (by omega)) (Mul.divN a) eo ha hb hc hd (by omega) (by omega) (by omega)).mono ?_
  rintro e w' ⟨rfl, rfl⟩
  refine ⟨?_, rfl⟩
  generalize x * y = P at *
  rw [show (d : Int) + (b : Int) / 4294967296 + (c : Int) / 4294967296 + (((a / 4294967296 : Nat) : Int) + ((b % 4294967296 : Nat) : Int) + ((c % 4294967296 : Nat) : Int)) / 4294967296 = ((P / 18446744073709551616 : Nat) : Int) by omega,
    show (a / 4294967296 + b % 4294967296 + c % 4294967296) % 4294967296 * 4294967296 + a % 4294967296 = P % 18446744073709551616 by omega]

set_option maxHeartbeats 400000 in
theorem Mul_np (a b x y u l p : Int) (w : World) (sa : a < 0) (sb : decide (b < 0) = false) (eu : wrap64 u = Wd.hi p) (el : l = Wd.lo p)
    (A1 : Hid (∀ w, Calls Tryd.prog 45 #[.int .i64 a] w fun e w' => e = .returned (.int .u64 x) ∧ Below w.heap.size w w'))
    (A2 : Hid (∀ w, Calls Tryd.prog 45 #[.int .i64 b] w fun e w' => e = .returned (.int .u64 y) ∧ Below w.heap.size w w'))
    (P : Hid (∀ w, Calls Tryd.prog 44 #[.int .u64 x, .int .u64 y] w fun e w' => e = .returned (.tuple #[.int .u64 u, .int .u64 l]) ∧ w = w'))
    (N : Hid (∀ w, Calls Tryd.prog 37 #[.agg #[.int .i64 (Wd.hi p), .int .u64 (Wd.lo p)]] w fun e w' => e = .returned (.agg #[.int .i64 (Wd.hi (-p)), .int .u64 (Wd.lo (-p))]) ∧ Below w.heap.size w w')) :
    Calls Tryd.prog 32 #[.int .i64 a, .int .i64 b] w fun e w' => e = .returned (.agg #[.int .i64 (Wd.hi (-p)), .int .u64 (Wd.lo (-p))]) ∧ Below w.heap.size w w' := by
  subst el
  have R := own2 w (.int .i64 0) (.int .u64 0) 24
  go_enter Tryd.func32, Tryd.ntmps32
  go_wp2_with fail
  refine (A1.out _).mono ?_; rintro e w1 ⟨rfl, hb1⟩
  have B1 := belowT (below1 w _) hb1
  have R1 := (R).keep hb1; have R1a := R1.c0; have R1b := R1.c1; have R1c := R1.f0; have R1d := R1.f1; have R1l := R1.lt
  go_wp2_with fail
  refine (A2.out _).mono ?_; rintro e w2 ⟨rfl, hb2⟩
  have B2 := belowT (B1) hb2
  have R2 := (R1).keep hb2; have R2a := R2.c0; have R2b := R2.c1; have R2c := R2.f0; have R2d := R2.f1; have R2l := R2.lt
  go_wp2_with fail
  refine (P.out _).mono ?_; rintro e w3 ⟨rfl, rfl⟩
  go_wp2_with fail
  refine (N.out _).mono ?_; rintro e w4 ⟨rfl, hb4⟩
  have B4 := belowT (belowT B2 (below1 _ _)) hb4
  have R4 := (R2.more _).keep hb4; have R4a := R4.c0; have R4b := R4.c1; have R4c := R4.f0; have R4d := R4.f1; have R4l := R4.lt
  go_wp2_with fail
  exact bodyPost_ret (v := .agg #[.int .i64 (Wd.hi (-p)), .int .u64 (Wd.lo (-p))]) (by simp [results, Tryd.results32, go_sem, *]) rfl ⟨rfl, (B4.setCell (by simp) _).setCell (by simp) _⟩

set_option maxHeartbeats 400000 in
theorem Mul_pn (a b x y u l p : Int) (w : World) (sa : decide (a < 0) = false) (sb : b < 0) (eu : wrap64 u = Wd.hi p) (el : l = Wd.lo p)
    (A1 : Hid (∀ w, Calls Tryd.prog 45 #[.int .i64 a] w fun e w' => e = .returned (.int .u64 x) ∧ Below w.heap.size w w'))
    (A2 : Hid (∀ w, Calls Tryd.prog 45 #[.int .i64 b] w fun e w' => e = .returned (.int .u64 y) ∧ Below w.heap.size w w'))
    (P : Hid (∀ w, Calls Tryd.prog 44 #[.int .u64 x, .int .u64 y] w fun e w' => e = .returned (.tuple #[.int .u64 u, .int .u64 l]) ∧ w = w'))
    (N : Hid (∀ w, Calls Tryd.prog 37 #[.agg #[.int .i64 (Wd.hi p), .int .u64 (Wd.lo p)]] w fun e w' => e = .returned (.agg #[.int .i64 (Wd.hi (-p)), .int .u64 (Wd.lo (-p))]) ∧ Below w.heap.size w w')) :
    Calls Tryd.prog 32 #[.int .i64 a, .int .i64 b] w fun e w' => e = .returned (.agg #[.int .i64 (Wd.hi (-p)), .int .u64 (Wd.lo (-p))]) ∧ Below w.heap.size w w' := by
  subst el
  have R := own2 w (.int .i64 0) (.int .u64 0) 24
  go_enter Tryd.func32, Tryd.ntmps32
  go_wp2_with fail
  refine (A1.out _).mono ?_; rintro e w1 ⟨rfl, hb1⟩
  have B1 := belowT (below1 w _) hb1
  have R1 := (R).keep hb1; have R1a := R1.c0; have R1b := R1.c1; have R1c := R1.f0; have R1d := R1.f1; have R1l := R1.lt
  go_wp2_with fail
  refine (A2.out _).mono ?_; rintro e w2 ⟨rfl, hb2⟩
  have B2 := belowT (B1) hb2
  have R2 := (R1).keep hb2; have R2a := R2.c0; have R2b := R2.c1; have R2c := R2.f0; have R2d := R2.f1; have R2l := R2.lt
  go_wp2_with fail
  refine (P.out _).mono ?_; rintro e w3 ⟨rfl, rfl⟩
  go_wp2_with fail
  refine (N.out _).mono ?_; rintro e w4 ⟨rfl, hb4⟩
  have B4 := belowT (belowT B2 (below1 _ _)) hb4
  have R4 := (R2.more _).keep hb4; have R4a := R4.c0; have R4b := R4.c1; have R4c := R4.f0; have R4d := R4.f1; have R4l := R4.lt
  go_wp2_with fail
  exact bodyPost_ret (v := .agg #[.int .i64 (Wd.hi (-p)), .int .u64 (Wd.lo (-p))]) (by simp [results, Tryd.results32, go_sem, *]) rfl ⟨rfl, (B4.setCell (by simp) _).setCell (by simp) _⟩

set_option maxHeartbeats 400000 in
theorem Mul_nn (a b x y u l p : Int) (w : World) (sa : a < 0) (sb : b < 0) (eu : wrap64 u = Wd.hi p) (el : l = Wd.lo p)
    (A1 : Hid (∀ w, Calls Tryd.prog 45 #[.int .i64 a] w fun e w' => e = .returned (.int .u64 x) ∧ Below w.heap.size w w'))
    (A2 : Hid (∀ w, Calls Tryd.prog 45 #[.int .i64 b] w fun e w' => e = .returned (.int .u64 y) ∧ Below w.heap.size w w'))
    (P : Hid (∀ w, Calls Tryd.prog 44 #[.int .u64 x, .int .u64 y] w fun e w' => e = .returned (.tuple #[.int .u64 u, .int .u64 l]) ∧ w = w')) :
    Calls Tryd.prog 32 #[.int .i64 a, .int .i64 b] w fun e w' => e = .returned (.agg #[.int .i64 (Wd.hi p), .int .u64 (Wd.lo p)]) ∧ Below w.heap.size w w' := by
  subst el
  have R := own2 w (.int .i64 0) (.int .u64 0) 24
  go_enter Tryd.func32, Tryd.ntmps32
  go_wp2_with fail
  refine (A1.out _).mono ?_; rintro e w1 ⟨rfl, hb1⟩
  have B1 := belowT (below1 w _) hb1
  have R1 := (R).keep hb1; have R1a := R1.c0; have R1b := R1.c1; have R1c := R1.f0; have R1d := R1.f1; have R1l := R1.lt
  go_wp2_with fail
  refine (A2.out _).mono ?_; rintro e w2 ⟨rfl, hb2⟩
  have B2 := belowT (B1) hb2
  have R2 := (R1).keep hb2; have R2a := R2.c0; have R2b := R2.c1; have R2c := R2.f0; have R2d := R2.f1; have R2l := R2.lt
  go_wp2_with fail
  refine (P.out _).mono ?_; rintro e w3 ⟨rfl, rfl⟩
  go_wp2_with fail
  exact bodyPost_ret (v := .agg #[.int .i64 (Wd.hi p), .int .u64 (Wd.lo p)]) (by simp [results, Tryd.results32, go_sem, *]) rfl ⟨rfl, ((B2.setCell (by simp) _).setCell (by simp) _).alloc (by simp; omega) _⟩

set_option maxHeartbeats 400000 in
theorem Mul_pp (a b x y u l p : Int) (w : World) (sa : decide (a < 0) = false) (sb : decide (b < 0) = false) (eu : wrap64 u = Wd.hi p) (el : l = Wd.lo p)
    (A1 : Hid (∀ w, Calls Tryd.prog 45 #[.int .i64 a] w fun e w' => e = .returned (.int .u64 x) ∧ Below w.heap.size w w'))
    (A2 : Hid (∀ w, Calls Tryd.prog 45 #[.int .i64 b] w fun e w' => e = .returned (.int .u64 y) ∧ Below w.heap.size w w'))
    (P : Hid (∀ w, Calls Tryd.prog 44 #[.int .u64 x, .int .u64 y] w fun e w' => e = .returned (.tuple #[.int .u64 u, .int .u64 l]) ∧ w = w')) :
    Calls Tryd.prog 32 #[.int .i64 a, .int .i64 b] w fun e w' => e = .returned (.agg #[.int .i64 (Wd.hi p), .int .u64 (Wd.lo p)]) ∧ Below w.heap.size w w' := by
  subst el
  have R := own2 w (.int .i64 0) (.int .u64 0) 24
  go_enter Tryd.func32, Tryd.ntmps32
  go_wp2_with fail
  refine (A1.out _).mono ?_; rintro e w1 ⟨rfl, hb1⟩
  have B1 := belowT (below1 w _) hb1
  have R1 := (R).keep hb1; have R1a := R1.c0; have R1b := R1.c1; have R1c := R1.f0; have R1d := R1.f1; have R1l := R1.lt
  go_wp2_with fail
  refine (A2.out _).mono ?_; rintro e w2 ⟨rfl, hb2⟩
  have B2 := belowT (B1) hb2
  have R2 := (R1).keep hb2; have R2a := R2.c0; have R2b := R2.c1; have R2c := R2.f0; have R2d := R2.f1; have R2l := R2.lt
  go_wp2_with fail
  refine (P.out _).mono ?_; rintro e w3 ⟨rfl, rfl⟩
  go_wp2_with fail
  exact bodyPost_ret (v := .agg #[.int .i64 (Wd.hi p), .int .u64 (Wd.lo p)]) (by simp [results, Tryd.results32, go_sem, *]) rfl ⟨rfl, ((B2.setCell (by simp) _).setCell (by simp) _).alloc (by simp; omega) _⟩

theorem Mul_any (a b : Int) (w : World) (ra : Wd.R6 a) (rb : Wd.R6 b) :
    Calls Tryd.prog 32 #[.int .i64 a, .int .i64 b] w fun e w' => e = .returned (.agg #[.int .i64 (Wd.hi (a * b)), .int .u64 (Wd.lo (a * b))]) ∧ Below w.heap.size w w' := by
  obtain ⟨_, a2⟩ := abs_u ra
  obtain ⟨_, b2⟩ := abs_u rb
  have A1 := Lib.hid fun w => size_any a w ra
  have A2 := Lib.hid fun w => size_any b w rb
  obtain ⟨k1, k2⟩ := prod_halves a.natAbs b.natAbs a2 b2
  have P := Lib.hid fun w => halves_any a.natAbs b.natAbs a2 b2 w
  have N := Lib.hid fun w => Neg_any ((a.natAbs * b.natAbs : Nat) : Int) w
  have e : ((a.natAbs * b.natAbs : Nat) : Int) = ((a * b).natAbs : Int) := by rw [Int.natAbs_mul]
  by_cases sa : a < 0 <;> by_cases sb : b < 0
  · have := Int.mul_nonneg_of_nonpos_of_nonpos (show a ≤ 0 by omega) (show b ≤ 0 by omega)
    have q : ((a.natAbs * b.natAbs : Nat) : Int) = a * b := by omega
    have c := Mul_nn a b _ _ _ _ _ w sa sb k1 k2 A1 A2 P
    rw [q] at c; exact c
  · have := Int.mul_nonpos_of_nonpos_of_nonneg (show a ≤ 0 by omega) (show 0 ≤ b by omega)
    have q : -((a.natAbs * b.natAbs : Nat) : Int) = a * b := by omega
    have c := Mul_np a b _ _ _ _ _ w sa (decide_eq_false sb) k1 k2 A1 A2 P N
    rw [q] at c; exact c
  · have := Int.mul_nonpos_of_nonneg_of_nonpos (show 0 ≤ a by omega) (show b ≤ 0 by omega)
    have q : -((a.natAbs * b.natAbs : Nat) : Int) = a * b := by omega
    have c := Mul_pn a b _ _ _ _ _ w (decide_eq_false sa) sb k1 k2 A1 A2 P N
    rw [q] at c; exact c
  · have := Int.mul_nonneg (show 0 ≤ a by omega) (show 0 ≤ b by omega)
    have q : ((a.natAbs * b.natAbs : Nat) : Int) = a * b := by omega
    have c := Mul_pp a b _ _ _ _ _ w (decide_eq_false sa) (decide_eq_false sb) k1 k2 A1 A2 P
    rw [q] at c; exact c

end Go.Proofs.YtjnegoflnaeifaaDoor.Ref
