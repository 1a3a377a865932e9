
/- The document's own answers for quotients. -/
import Derived.Test.YtkjnjhdanbjmpaaRgRC
import Derived.Test.YtkjnjhdanbjmpaaRgWD
namespace Go.Proofs.Ytkjnjhdanbjmpaa.Ref
open Go.RowKit Go.Proofs.Ytkjnjhdanbjmpaa

theorem Div_arg (h l d : Int) (w : World) (hd : d < 1) :
    Calls Try.prog 22 #[.agg #[.int .i64 h, .int .u64 l], .int .i64 d] w fun e w' => e = .returned (.tuple #[.agg #[.int .i64 (Wd.hi 0), .int .u64 (Wd.lo 0)], .int .i64 0, .int .i64 1]) ∧ Below w.heap.size w w' := by
  rw [Wd.hi_zero, Wd.lo_zero]
  go_enter Try.func22, Try.ntmps22
  go_wp2_with fail
  exact bodyPost_ret (v := .tuple #[.agg #[.int .i64 0, .int .u64 0], .int .i64 0, .int .i64 1]) (by simp [results, Try.results22, go_sem]) rfl ⟨rfl, below2 w _ _⟩

theorem own2q (w : World) (c : Nat) (o p : Nat) (y z u v : Value) (t : TypeId) : Own2 (((w.setCell ⟨c, o, none⟩ y).setCell ⟨c, p, none⟩ z).alloc (.cells #[u, v] t)) w.heap.size u v := by
  have h := own2 ((w.setCell ⟨c, o, none⟩ y).setCell ⟨c, p, none⟩ z) u v t
  simpa using h

set_option maxHeartbeats 1000000 in
theorem Div_up (x d um qh ql q r g : Int) (w : World) (hr0 : 0 ≤ r) (hr : r ≤ 9223372036854775807) (hg : 0 ≤ g) (hd : 1 ≤ d) (hd2 : d ≤ 9223372036854775807)
    (eu : IntKind.u64.wrap (Wd.hi x) = um) (eq : wrap64 qh = Wd.hi q) (el : ql = Wd.lo q)
    (G : Hid (∀ w, Calls Try.prog 31 #[.agg #[.int .i64 (Wd.hi x), .int .u64 (Wd.lo x)]] w fun e w' => e = .returned (.int .i64 g) ∧ Below w.heap.size w w'))
    (S : Hid (∀ w, Calls Try.prog 33 #[.int .u64 um, .int .u64 (Wd.lo x), .int .u64 d] w fun e w' => e = .returned (.tuple #[.int .u64 qh, .int .u64 ql, .int .u64 r]) ∧ w = w')) :
    Calls Try.prog 22 #[.agg #[.int .i64 (Wd.hi x), .int .u64 (Wd.lo x)], .int .i64 d] w fun e w' => e = .returned (.tuple #[.agg #[.int .i64 (Wd.hi q), .int .u64 (Wd.lo q)], .int .i64 r, .int .i64 0]) ∧ Below w.heap.size w w' := by
  have dg : decide (g < 0) = false := decide_eq_false (by omega)
  subst el
  have d3 : decide (d < 1) = false := decide_eq_false (by omega)
  go_enter Try.func22, Try.ntmps22
  go_wp2_with fail
  refine (G.out _).mono ?_; rintro e w1 ⟨rfl, hb1⟩
  have B1 := belowT (below3 w _ _ _) hb1
  have X1 := (((own2 w _ _ _).more _).more _).keep hb1; have X1a := X1.c0; have X1b := X1.c1; have X1c := X1.f0; have X1d := X1.f1; have X1l := X1.lt
  have R1 := ((own2b w _ _ _ _).more _).keep hb1; have R1a := R1.c0; have R1b := R1.c1; have R1c := R1.f0; have R1d := R1.f1; have R1l := R1.lt
  have M1 := (own2c w _ _ _ _ _).keep hb1; have M1a := M1.c0; have M1b := M1.c1; have M1c := M1.f0; have M1d := M1.f1; have M1l := M1.lt
  go_wp2_with fail
  refine (S.out _).mono ?_; rintro e w3 ⟨rfl, rfl⟩
  go_wp2_with fail
  refine (G.out _).mono ?_; rintro e w4 ⟨rfl, hb4⟩
  have B4 := belowT (belowT B1 (below1 _ _)) hb4
  have X4 := (X1.more _).keep hb4; have X4a := X4.c0; have X4b := X4.c1; have X4c := X4.f0; have X4d := X4.f1; have X4l := X4.lt
  have R4 := (R1.more _).keep hb4; have R4a := R4.c0; have R4b := R4.c1; have R4c := R4.f0; have R4d := R4.f1; have R4l := R4.lt
  have Q4 := (own2 w1 _ _ _).keep hb4; have Q4a := Q4.c0; have Q4b := Q4.c1; have Q4c := Q4.f0; have Q4d := Q4.f1; have Q4l := Q4.lt
  go_wp2_with fail
  exact bodyPost_ret (v := .tuple #[.agg #[.int .i64 (Wd.hi q), .int .u64 (Wd.lo q)], .int .i64 r, .int .i64 0]) (by simp [results, Try.results22, go_sem, *]) rfl ⟨rfl, (B4.setCell (by simp) _).setCell (by simp) _⟩

set_option maxHeartbeats 2000000 in
theorem Div_whole (x d m um qh ql q : Int) (w : World) (hd : 1 ≤ d) (hd2 : d ≤ 9223372036854775807)
    (eu : IntKind.u64.wrap (Wd.hi m) = um) (eq : wrap64 qh = Wd.hi q) (el : ql = Wd.lo q)
    (G : Hid (∀ w, Calls Try.prog 31 #[.agg #[.int .i64 (Wd.hi x), .int .u64 (Wd.lo x)]] w fun e w' => e = .returned (.int .i64 (-1)) ∧ Below w.heap.size w w'))
    (S : Hid (∀ w, Calls Try.prog 33 #[.int .u64 um, .int .u64 (Wd.lo m), .int .u64 d] w fun e w' => e = .returned (.tuple #[.int .u64 qh, .int .u64 ql, .int .u64 0]) ∧ w = w'))
    (N1 : Hid (∀ w, Calls Try.prog 32 #[.agg #[.int .i64 (Wd.hi x), .int .u64 (Wd.lo x)]] w fun e w' => e = .returned (.agg #[.int .i64 (Wd.hi m), .int .u64 (Wd.lo m)]) ∧ Below w.heap.size w w'))
    (N2 : Hid (∀ w, Calls Try.prog 32 #[.agg #[.int .i64 (Wd.hi q), .int .u64 (Wd.lo q)]] w fun e w' => e = .returned (.agg #[.int .i64 (Wd.hi (-q)), .int .u64 (Wd.lo (-q))]) ∧ Below w.heap.size w w')) :
    Calls Try.prog 22 #[.agg #[.int .i64 (Wd.hi x), .int .u64 (Wd.lo x)], .int .i64 d] w fun e w' => e = .returned (.tuple #[.agg #[.int .i64 (Wd.hi (-q)), .int .u64 (Wd.lo (-q))], .int .i64 0, .int .i64 0]) ∧ Below w.heap.size w w' := by
  subst el
  have d3 : decide (d < 1) = false := decide_eq_false (by omega)
  go_enter Try.func22, Try.ntmps22
  go_wp2_with fail
  refine (G.out _).mono ?_; rintro e w1 ⟨rfl, hb1⟩
  have B1 := belowT (below3 w _ _ _) hb1
  have X1 := (((own2 w _ _ _).more _).more _).keep hb1; have X1a := X1.c0; have X1b := X1.c1; have X1c := X1.f0; have X1d := X1.f1; have X1l := X1.lt
  have R1 := ((own2b w _ _ _ _).more _).keep hb1; have R1a := R1.c0; have R1b := R1.c1; have R1c := R1.f0; have R1d := R1.f1; have R1l := R1.lt
  have M1 := (own2c w _ _ _ _ _).keep hb1; have M1a := M1.c0; have M1b := M1.c1; have M1c := M1.f0; have M1d := M1.f1; have M1l := M1.lt
  go_wp2_with fail
  refine (N1.out _).mono ?_; rintro e w2 ⟨rfl, hb2⟩
  have B2 := belowT (B1) hb2
  have X2 := (X1).keep hb2; have X2a := X2.c0; have X2b := X2.c1; have X2c := X2.f0; have X2d := X2.f1; have X2l := X2.lt
  have R2 := (R1).keep hb2; have R2a := R2.c0; have R2b := R2.c1; have R2c := R2.f0; have R2d := R2.f1; have R2l := R2.lt
  have M2 := (M1).keep hb2; have M2a := M2.c0; have M2b := M2.c1; have M2c := M2.f0; have M2d := M2.f1; have M2l := M2.lt
  go_wp2_with fail
  refine (S.out _).mono ?_; rintro e w3 ⟨rfl, rfl⟩
  have B3 := (B2.setCell (p := ⟨w.heap.size + 1 + 1, 0, none⟩) (by simp; omega) (.int .i64 (Wd.hi m))).setCell (p := ⟨w.heap.size + 1 + 1, 1, none⟩) (by simp; omega) (.int .u64 (Wd.lo m))
  have X3 := (X2.other (c := w.heap.size + 1 + 1) (by omega) 0 (.int .i64 (Wd.hi m))).other (c := w.heap.size + 1 + 1) (by omega) 1 (.int .u64 (Wd.lo m))
  have R3 := (R2.other (c := w.heap.size + 1 + 1) (by omega) 0 (.int .i64 (Wd.hi m))).other (c := w.heap.size + 1 + 1) (by omega) 1 (.int .u64 (Wd.lo m))
  go_wp2_with fail
  refine (G.out _).mono ?_; rintro e w4 ⟨rfl, hb4⟩
  have B4 := belowT (belowT B3 (below1 _ _)) hb4
  have X4 := (X3.more _).keep hb4; have X4a := X4.c0; have X4b := X4.c1; have X4c := X4.f0; have X4d := X4.f1; have X4l := X4.lt
  have R4 := (R3.more _).keep hb4; have R4a := R4.c0; have R4b := R4.c1; have R4c := R4.f0; have R4d := R4.f1; have R4l := R4.lt
  have Q4 := (own2q w2 _ _ _ _ _ _ _ _).keep hb4; have Q4a := Q4.c0; have Q4b := Q4.c1; have Q4c := Q4.f0; have Q4d := Q4.f1; have Q4l := Q4.lt
  go_wp2_with fail
  refine (N2.out _).mono ?_; rintro e w5 ⟨rfl, hb5⟩
  have B5 := belowT (B4) hb5
  have X5 := (X4).keep hb5; have X5a := X5.c0; have X5b := X5.c1; have X5c := X5.f0; have X5d := X5.f1; have X5l := X5.lt
  have R5 := (R4).keep hb5; have R5a := R5.c0; have R5b := R5.c1; have R5c := R5.f0; have R5d := R5.f1; have R5l := R5.lt
  have Q5 := (Q4).keep hb5; have Q5a := Q5.c0; have Q5b := Q5.c1; have Q5c := Q5.f0; have Q5d := Q5.f1; have Q5l := Q5.lt
  go_wp2_with fail
  exact bodyPost_ret (v := .tuple #[.agg #[.int .i64 (Wd.hi (-q)), .int .u64 (Wd.lo (-q))], .int .i64 0, .int .i64 0]) (by simp [results, Try.results22, go_sem, *]) rfl
    ⟨rfl, (((B5.setCell (p := ⟨w2.heap.size, 0, none⟩) (by have := B2.size; simpa using this) _).setCell (p := ⟨w2.heap.size, 1, none⟩) (by have := B2.size; simpa using this) _).setCell (by simp) _).setCell (by simp) _⟩

set_option maxHeartbeats 2000000 in
theorem Div_down (x d m um qh ql q r p s : Int) (w : World) (hrb : (r == 0) = false) (hw : IntKind.i64.wrap r = r) (hs : IntKind.i64.wrap (d - r) = s) (hd : 1 ≤ d) (hd2 : d ≤ 9223372036854775807)
    (eu : IntKind.u64.wrap (Wd.hi m) = um) (eq : wrap64 qh = Wd.hi q) (el : ql = Wd.lo q)
    (G : Hid (∀ w, Calls Try.prog 31 #[.agg #[.int .i64 (Wd.hi x), .int .u64 (Wd.lo x)]] w fun e w' => e = .returned (.int .i64 (-1)) ∧ Below w.heap.size w w'))
    (S : Hid (∀ w, Calls Try.prog 33 #[.int .u64 um, .int .u64 (Wd.lo m), .int .u64 d] w fun e w' => e = .returned (.tuple #[.int .u64 qh, .int .u64 ql, .int .u64 r]) ∧ w = w'))
    (N1 : Hid (∀ w, Calls Try.prog 32 #[.agg #[.int .i64 (Wd.hi x), .int .u64 (Wd.lo x)]] w fun e w' => e = .returned (.agg #[.int .i64 (Wd.hi m), .int .u64 (Wd.lo m)]) ∧ Below w.heap.size w w'))
    (N2 : Hid (∀ w, Calls Try.prog 32 #[.agg #[.int .i64 (Wd.hi q), .int .u64 (Wd.lo q)]] w fun e w' => e = .returned (.agg #[.int .i64 (Wd.hi (-q)), .int .u64 (Wd.lo (-q))]) ∧ Below w.heap.size w w'))
    (O : Hid (∀ w, Calls Try.prog 20 #[.int .i64 (-1)] w fun e w' => e = .returned (.agg #[.int .i64 (Wd.hi (-1)), .int .u64 (Wd.lo (-1))]) ∧ Below w.heap.size w w'))
    (P : Hid (∀ w, Calls Try.prog 21 #[.agg #[.int .i64 (Wd.hi (-q)), .int .u64 (Wd.lo (-q))], .agg #[.int .i64 (Wd.hi (-1)), .int .u64 (Wd.lo (-1))]] w fun e w' => e = .returned (.agg #[.int .i64 (Wd.hi p), .int .u64 (Wd.lo p)]) ∧ Below w.heap.size w w')) :
    Calls Try.prog 22 #[.agg #[.int .i64 (Wd.hi x), .int .u64 (Wd.lo x)], .int .i64 d] w fun e w' => e = .returned (.tuple #[.agg #[.int .i64 (Wd.hi p), .int .u64 (Wd.lo p)], .int .i64 s, .int .i64 0]) ∧ Below w.heap.size w w' := by
  subst el
  have d3 : decide (d < 1) = false := decide_eq_false (by omega)
  go_enter Try.func22, Try.ntmps22
  go_wp2_with fail
  refine (G.out _).mono ?_; rintro e w1 ⟨rfl, hb1⟩
  have B1 := belowT (below3 w _ _ _) hb1
  have X1 := (((own2 w _ _ _).more _).more _).keep hb1; have X1a := X1.c0; have X1b := X1.c1; have X1c := X1.f0; have X1d := X1.f1; have X1l := X1.lt
  have R1 := ((own2b w _ _ _ _).more _).keep hb1; have R1a := R1.c0; have R1b := R1.c1; have R1c := R1.f0; have R1d := R1.f1; have R1l := R1.lt
  have M1 := (own2c w _ _ _ _ _).keep hb1; have M1a := M1.c0; have M1b := M1.c1; have M1c := M1.f0; have M1d := M1.f1; have M1l := M1.lt
  go_wp2_with fail
  refine (N1.out _).mono ?_; rintro e w2 ⟨rfl, hb2⟩
  have B2 := belowT (B1) hb2
  have X2 := (X1).keep hb2; have X2a := X2.c0; have X2b := X2.c1; have X2c := X2.f0; have X2d := X2.f1; have X2l := X2.lt
  have R2 := (R1).keep hb2; have R2a := R2.c0; have R2b := R2.c1; have R2c := R2.f0; have R2d := R2.f1; have R2l := R2.lt
  have M2 := (M1).keep hb2; have M2a := M2.c0; have M2b := M2.c1; have M2c := M2.f0; have M2d := M2.f1; have M2l := M2.lt
  go_wp2_with fail
  refine (S.out _).mono ?_; rintro e w3 ⟨rfl, rfl⟩
  have B3 := (B2.setCell (p := ⟨w.heap.size + 1 + 1, 0, none⟩) (by simp; omega) (.int .i64 (Wd.hi m))).setCell (p := ⟨w.heap.size + 1 + 1, 1, none⟩) (by simp; omega) (.int .u64 (Wd.lo m))
  have X3 := (X2.other (c := w.heap.size + 1 + 1) (by omega) 0 (.int .i64 (Wd.hi m))).other (c := w.heap.size + 1 + 1) (by omega) 1 (.int .u64 (Wd.lo m))
  have R3 := (R2.other (c := w.heap.size + 1 + 1) (by omega) 0 (.int .i64 (Wd.hi m))).other (c := w.heap.size + 1 + 1) (by omega) 1 (.int .u64 (Wd.lo m))
  go_wp2_with fail
  refine (G.out _).mono ?_; rintro e w4 ⟨rfl, hb4⟩
  have B4 := belowT (belowT B3 (below1 _ _)) hb4
  have X4 := (X3.more _).keep hb4; have X4a := X4.c0; have X4b := X4.c1; have X4c := X4.f0; have X4d := X4.f1; have X4l := X4.lt
  have R4 := (R3.more _).keep hb4; have R4a := R4.c0; have R4b := R4.c1; have R4c := R4.f0; have R4d := R4.f1; have R4l := R4.lt
  have Q4 := (own2q w2 _ _ _ _ _ _ _ _).keep hb4; have Q4a := Q4.c0; have Q4b := Q4.c1; have Q4c := Q4.f0; have Q4d := Q4.f1; have Q4l := Q4.lt
  go_wp2_with fail
  refine (N2.out _).mono ?_; rintro e w5 ⟨rfl, hb5⟩
  have B5 := belowT (B4) hb5
  have X5 := (X4).keep hb5; have X5a := X5.c0; have X5b := X5.c1; have X5c := X5.f0; have X5d := X5.f1; have X5l := X5.lt
  have R5 := (R4).keep hb5; have R5a := R5.c0; have R5b := R5.c1; have R5c := R5.f0; have R5d := R5.f1; have R5l := R5.lt
  have Q5 := (Q4).keep hb5; have Q5a := Q5.c0; have Q5b := Q5.c1; have Q5c := Q5.f0; have Q5d := Q5.f1; have Q5l := Q5.lt
  go_wp2_with fail
  have B6 := (B5.setCell (p := ⟨w2.heap.size, 0, none⟩) (by have := B2.size; simpa using this) (.int .i64 (Wd.hi (-q)))).setCell (p := ⟨w2.heap.size, 1, none⟩) (by have := B2.size; simpa using this) (.int .u64 (Wd.lo (-q)))
  have R6 := (R5.other (c := w2.heap.size) (by have := R2.lt; omega) 0 (.int .i64 (Wd.hi (-q)))).other (c := w2.heap.size) (by have := R2.lt; omega) 1 (.int .u64 (Wd.lo (-q)))
  have Q6 := (Q5.set (.int .i64 (Wd.hi (-q))) (.int .u64 (Wd.lo (-q)))).drew
  go_region_held3 (fun w' => w'.cell? ⟨w2.heap.size, 0, none⟩ = some (.int .i64 (Wd.hi (-q))) ∧ w'.cell? ⟨w2.heap.size, 1, none⟩ = some (.int .u64 (Wd.lo (-q))))
    (first
      | (go_split_ands; refine ⟨?_, ?_⟩ <;> first | exact keepc hb8 (by assumption) | exact keepc hb7 (by assumption))
      | (go_split_ands; refine ⟨?_, ?_⟩ <;> exact keeps (Nat.ne_of_lt R2l) (keeps (Nat.ne_of_lt R2l) (by assumption)))
      | exact ⟨Q6.c0, Q6.c1⟩
      | go_keep)
    (first
      | (go_at_call 20; refine (O.out _).mono ?_; rintro e w7 ⟨rfl, hb7⟩; have B7 := belowT B6.drew hb7; have R7 := R6.drew.keep hb7)
      | (go_at_call 21; refine (P.out _).mono ?_; rintro e w8 ⟨rfl, hb8⟩; have B8 := belowT B7 hb8; obtain ⟨g0, g1, g2, g3⟩ := R7.keep hb8))
  all_goals
    go_wp2_with fail
    exact bodyPost_ret (v := .tuple #[.agg #[.int .i64 (Wd.hi p), .int .u64 (Wd.lo p)], .int .i64 s, .int .i64 0]) (by simp [results, Try.results22, go_sem, *]) rfl ⟨rfl, (B8.setCell (by simp) _).setCell (by simp) _⟩

/-- Div: the quotient rounded down, and what is left. -/
theorem Div_any (x d : Int) (w : World) (rx : Wd.Rm x) (hd : 1 ≤ d) (hd2 : d ≤ 9223372036854775807) :
    Calls Try.prog 22 #[.agg #[.int .i64 (Wd.hi x), .int .u64 (Wd.lo x)], .int .i64 d] w fun e w' => e = .returned (.tuple #[.agg #[.int .i64 (Wd.hi (x / d)), .int .u64 (Wd.lo (x / d))], .int .i64 (x % d), .int .i64 0]) ∧ Below w.heap.size w w' := by
  have G := Lib.hid fun w => Sign_any x w rx
  obtain ⟨m, hm⟩ : ∃ m : Int, m = (x.natAbs : Int) := ⟨_, rfl⟩
  have bm : 0 ≤ m ∧ m ≤ 170141183460469231731687303715884105728 := by unfold Wd.Rm at rx; omega
  have l := Int.emod_nonneg m (show d ≠ 0 by omega)
  have u := Int.emod_lt_of_pos m (show 0 < d by omega)
  have q0 : 0 ≤ m / d := Int.ediv_nonneg bm.1 (by omega)
  have q1 : m / d ≤ m := Int.ediv_le_self _ bm.1
  have eu : IntKind.u64.wrap (Wd.hi m) = m / 18446744073709551616 := by rw [wrap_u]; unfold Wd.hi; omega
  have eq : wrap64 (m / d / 18446744073709551616) = Wd.hi (m / d) := by
    generalize m / d = q at *
    rw [wrap_i]; unfold Wd.hi; omega
  have el : m / d % 18446744073709551616 = Wd.lo (m / d) := rfl
  have S := Lib.hid fun w => split_any (m / 18446744073709551616).toNat (m % 18446744073709551616).toNat d.toNat m w (by omega) (by omega) (by omega) (by omega) (by omega)
  rw [show (((m / 18446744073709551616).toNat : Nat) : Int) = m / 18446744073709551616 by omega, show (((m % 18446744073709551616).toNat : Nat) : Int) = Wd.lo m by unfold Wd.lo; omega, show ((d.toNat : Nat) : Int) = d by omega] at S
  by_cases h : x < 0
  · rw [Wd.sg_neg h] at G
    have em : m = -x := by omega
    have N1 := Lib.hid fun w => Neg_any x w
    have N2 := Lib.hid fun w => Neg_any (m / d) w
    rw [← em] at N1
    by_cases hr : m % d = 0
    · obtain ⟨e1, e2⟩ := abs_whole x d h (by omega) (by rw [← hm]; exact hr)
      rw [hr] at S
      rw [← e1, e2, ← hm]
      exact Div_whole x d m _ _ _ _ w hd hd2 eu eq el G S N1 N2
    · obtain ⟨e1, e2⟩ := abs_down x d h (by omega) (by rw [← hm]; exact hr)
      rw [← e1, ← hm]
      rw [← hm] at e2
      rw [show -(m / d + 1) = -(m / d) + -1 by omega]
      exact Div_down x d m _ _ _ _ _ _ _ w (by rw [beq_eq_false_iff_ne]; exact hr) (IntWalk.i64_in _ ⟨by omega, by omega⟩) ((IntWalk.i64_in _ ⟨by omega, by omega⟩).trans e2) hd hd2 eu eq el G S N1 N2
        (Lib.hid fun w => Of_any (-1) w ⟨by omega, by omega⟩) (Lib.hid fun w => Add_any _ (-1) w)
  · have em : m = x := by omega
    have g : 0 ≤ Wd.sg x := by
      by_cases h0 : x = 0
      · rw [Wd.sg_zero h0]; omega
      · rw [Wd.sg_pos (by omega)]; omega
    rw [em] at S eu eq el l u
    exact Div_up x d _ _ _ _ _ _ w l (by omega) g hd hd2 eu eq el G S

end Go.Proofs.Ytkjnjhdanbjmpaa.Ref
