/- Products and squares of package span; a multiple. -/
import Derived.Test.YtdembidbaojldaaDoorSpanB
namespace Go.Proofs.YtdembidbaojldaaDoor
open Go.RowKit

theorem min4 {P : Program} (ts : Array TypeId) (t : TypeId) (w : World) (p q r s : Int) :
    (Builtin.min_ ts t #[.int .i64 p, .int .i64 q, .int .i64 r, .int .i64 s]).run P w = .ok (.int .i64 (min (min (min p q) r) s)) w := by
  have e : ∀ x y : Int, (if y < x then y else x) = min x y := fun x y => by rw [Int.min_def]; split <;> split <;> omega
  simp [Builtin.min_, Builtin.min2, e]
theorem max4 {P : Program} (ts : Array TypeId) (t : TypeId) (w : World) (p q r s : Int) :
    (Builtin.max_ ts t #[.int .i64 p, .int .i64 q, .int .i64 r, .int .i64 s]).run P w = .ok (.int .i64 (max (max (max p q) r) s)) w := by
  have e : ∀ x y : Int, (if x < y then y else x) = max x y := fun x y => by rw [Int.max_def]; split <;> split <;> omega
  simp [Builtin.max_, Builtin.max2, e]

set_option maxHeartbeats 2000000 in
theorem sMul_core (a b c d p q r s l h L H : Int) (w : World) (E1 : Hid (∀ w, Calls Tryd.prog 10 #[.agg #[.int .i64 a, .int .i64 b]] w fun e w' => e = .returned (.bool false) ∧ Below w.heap.size w w'))
    (E2 : Hid (∀ w, Calls Tryd.prog 10 #[.agg #[.int .i64 c, .int .i64 d]] w fun e w' => e = .returned (.bool false) ∧ Below w.heap.size w w'))
    (T1 : Hid (∀ w, Calls Tryd.prog 31 #[.int .i64 a, .int .i64 c] w fun e w' => e = .returned (.int .i64 p) ∧ Below w.heap.size w w'))
    (T2 : Hid (∀ w, Calls Tryd.prog 31 #[.int .i64 a, .int .i64 d] w fun e w' => e = .returned (.int .i64 q) ∧ Below w.heap.size w w'))
    (T3 : Hid (∀ w, Calls Tryd.prog 31 #[.int .i64 b, .int .i64 c] w fun e w' => e = .returned (.int .i64 r) ∧ Below w.heap.size w w'))
    (T4 : Hid (∀ w, Calls Tryd.prog 31 #[.int .i64 b, .int .i64 d] w fun e w' => e = .returned (.int .i64 s) ∧ Below w.heap.size w w'))
    (N4 : ∀ (ts : Array TypeId) (t : TypeId) (w : World), (Builtin.min_ ts t #[.int .i64 p, .int .i64 q, .int .i64 r, .int .i64 s]).run Tryd.prog w = .ok (.int .i64 l) w)
    (M4 : ∀ (ts : Array TypeId) (t : TypeId) (w : World), (Builtin.max_ ts t #[.int .i64 p, .int .i64 q, .int .i64 r, .int .i64 s]).run Tryd.prog w = .ok (.int .i64 h) w)
    (O : Hid (∀ w', Below w.heap.size w w' → Calls Tryd.prog 23 #[.int .i64 l, .int .i64 h] w' fun e w'' => e = .returned (.agg #[.int .i64 L, .int .i64 H]) ∧ Below w'.heap.size w' w'')) :
    Calls Tryd.prog 18 #[.agg #[.int .i64 a, .int .i64 b], .agg #[.int .i64 c, .int .i64 d]] w fun e w' => e = .returned (.agg #[.int .i64 L, .int .i64 H]) ∧ Below w.heap.size w w' := by
  go_enter Tryd.func18, Tryd.ntmps18
  go_wp2_with fail
  refine (E1.out _).mono ?_; rintro e w1 ⟨rfl, hb1⟩
  have B1 := belowT (below3 w _ _ _) hb1
  have X1 := (own2c w _ _ _ _ _).keep hb1; have X1a := X1.c0; have X1b := X1.c1; have X1c := X1.f0; have X1d := X1.f1; have X1l := X1.lt
  have Y1 := ((own2b w _ _ _ _).more _).keep hb1; have Y1a := Y1.c0; have Y1b := Y1.c1; have Y1c := Y1.f0; have Y1d := Y1.f1; have Y1l := Y1.lt
  have Z1 := (((own2 w _ _ _).more _).more _).keep hb1; have Z1a := Z1.c0; have Z1b := Z1.c1; have Z1c := Z1.f0; have Z1d := Z1.f1; have Z1l := Z1.lt
  go_wp2_with fail
  refine (E2.out _).mono ?_; rintro e w2 ⟨rfl, hb2⟩
  have B2 := belowT (B1) hb2
  have X2 := (X1).keep hb2; have X2a := X2.c0; have X2b := X2.c1; have X2c := X2.f0; have X2d := X2.f1; have X2l := X2.lt
  have Y2 := (Y1).keep hb2; have Y2a := Y2.c0; have Y2b := Y2.c1; have Y2c := Y2.f0; have Y2d := Y2.f1; have Y2l := Y2.lt
  have Z2 := (Z1).keep hb2; have Z2a := Z2.c0; have Z2b := Z2.c1; have Z2c := Z2.f0; have Z2d := Z2.f1; have Z2l := Z2.lt
  go_wp2_with fail
  go_region_held3 (fun w' => w'.cell? ⟨w.heap.size, 0, none⟩ = some (.int .i64 a) ∧ w'.cell? ⟨w.heap.size, 1, none⟩ = some (.int .i64 b) ∧ w'.cell? ⟨w.heap.size + 1, 0, none⟩ = some (.int .i64 c) ∧ w'.cell? ⟨w.heap.size + 1, 1, none⟩ = some (.int .i64 d))
    (first
      | (go_split_ands; refine ⟨?_, ?_, ?_, ?_⟩ <;> first | exact keepc hb4 (by assumption) | exact keepc hb3 (by assumption))
      | go_keep)
    (first
      | (go_at_call 31; have _t := B3; clear _t; (with_reducible refine (T2.out _).mono ?_); rintro e w4 ⟨rfl, hb4⟩; have B4 := belowT B3 hb4)
      | (go_at_call 31; (with_reducible refine (T1.out _).mono ?_); rintro e w3 ⟨rfl, hb3⟩; have B3 := belowT (B2).drew hb3))
  have X4 := (X2.drew.keep hb3).keep hb4
  have Y4 := (Y2.drew.keep hb3).keep hb4
  have Z4 := (Z2.drew.keep hb3).keep hb4
  obtain ⟨x0, x1, x2, x3⟩ := X4
  obtain ⟨y0, y1, y2, y3⟩ := Y4
  obtain ⟨z0, z1, z2, z3⟩ := Z4
  go_wp2_with fail
  go_region_held3 (fun w' => w'.cell? ⟨w.heap.size, 0, none⟩ = some (.int .i64 a) ∧ w'.cell? ⟨w.heap.size, 1, none⟩ = some (.int .i64 b) ∧ w'.cell? ⟨w.heap.size + 1, 0, none⟩ = some (.int .i64 c) ∧ w'.cell? ⟨w.heap.size + 1, 1, none⟩ = some (.int .i64 d))
    (first
      | (go_split_ands; refine ⟨?_, ?_, ?_, ?_⟩ <;> first | exact keepc hb6 (by assumption) | exact keepc hb5 (by assumption))
      | go_keep)
    (first
      | (go_at_call 31; have _t := B5; clear _t; (with_reducible refine (T4.out _).mono ?_); rintro e w6 ⟨rfl, hb6⟩; have B6 := belowT B5 hb6)
      | (go_at_call 31; (with_reducible refine (T3.out _).mono ?_); rintro e w5 ⟨rfl, hb5⟩; have B5 := belowT (B4).drew hb5))
  have X6 := (((X2.drew.keep hb3).keep hb4).drew.keep hb5).keep hb6
  go_wp2_with fail
  refine (O.out _ B6).mono ?_; rintro e w7 ⟨rfl, hb7⟩
  have B7 := belowT (B6) hb7
  have X7 := (X6).keep hb7; have X7a := X7.c0; have X7b := X7.c1; have X7c := X7.f0; have X7d := X7.f1; have X7l := X7.lt
  go_wp2_with fail
  exact bodyPost_ret (v := .agg #[.int .i64 L, .int .i64 H]) (by simp [results, Tryd.results18, go_sem, *]) rfl ⟨rfl, (B7.setCell (by simp; omega) _).setCell (by simp; omega) _⟩

set_option maxHeartbeats 1000000 in
theorem sSquare_core (a b p q l h L H : Int) (k : Bool) (w : World) (E1 : Hid (∀ w, Calls Tryd.prog 10 #[.agg #[.int .i64 a, .int .i64 b]] w fun e w' => e = .returned (.bool false) ∧ Below w.heap.size w w'))
    (T1 : Hid (∀ w, Calls Tryd.prog 31 #[.int .i64 a, .int .i64 a] w fun e w' => e = .returned (.int .i64 p) ∧ Below w.heap.size w w'))
    (T2 : Hid (∀ w, Calls Tryd.prog 31 #[.int .i64 b, .int .i64 b] w fun e w' => e = .returned (.int .i64 q) ∧ Below w.heap.size w w'))
    (K : Hid (∀ w, Calls Tryd.prog 9 #[.agg #[.int .i64 a, .int .i64 b], .int .i64 0] w fun e w' => e = .returned (.bool k) ∧ Below w.heap.size w w'))
    (hl : k = true ∧ l = 0 ∨ k = false ∧ l = min p q) (hh : max p q = h)
    (O : Hid (∀ w', Below w.heap.size w w' → Calls Tryd.prog 23 #[.int .i64 l, .int .i64 h] w' fun e w'' => e = .returned (.agg #[.int .i64 L, .int .i64 H]) ∧ Below w'.heap.size w' w'')) :
    Calls Tryd.prog 19 #[.agg #[.int .i64 a, .int .i64 b]] w fun e w' => e = .returned (.agg #[.int .i64 L, .int .i64 H]) ∧ Below w.heap.size w w' := by
  subst hh
  rcases hl with ⟨rfl, rfl⟩ | ⟨rfl, rfl⟩
  all_goals
    go_enter Tryd.func19, Tryd.ntmps19
    go_wp2_with fail
    refine (E1.out _).mono ?_; rintro e w1 ⟨rfl, hb1⟩
    have B1 := belowT (below2 w _ _) hb1
    have X1 := (own2b w _ _ _ _).keep hb1; have X1a := X1.c0; have X1b := X1.c1; have X1c := X1.f0; have X1d := X1.f1; have X1l := X1.lt
    have Y1 := ((own2 w _ _ _).more _).keep hb1; have Y1a := Y1.c0; have Y1b := Y1.c1; have Y1c := Y1.f0; have Y1d := Y1.f1; have Y1l := Y1.lt
    go_wp2_with fail
    go_region_held3 (fun w' => w'.cell? ⟨w.heap.size, 0, none⟩ = some (.int .i64 a) ∧ w'.cell? ⟨w.heap.size, 1, none⟩ = some (.int .i64 b))
      (first
        | (go_split_ands; refine ⟨?_, ?_⟩ <;> first | exact keepc hb3 (by assumption) | exact keepc hb2 (by assumption))
        | go_keep)
      (first
        | (go_at_call 31; have _t := B2; clear _t; (with_reducible refine (T2.out _).mono ?_); rintro e w3 ⟨rfl, hb3⟩; have B3 := belowT B2 hb3)
        | (go_at_call 31; (with_reducible refine (T1.out _).mono ?_); rintro e w2 ⟨rfl, hb2⟩; have B2 := belowT (B1).drew hb2))
    have X3 := (X1.drew.keep hb2).keep hb3
    have Y3 := (Y1.drew.keep hb2).keep hb3
    obtain ⟨y0, y1, y2, y3⟩ := Y3
    go_wp2_with fail
    refine (K.out _).mono ?_; rintro e w4 ⟨rfl, hb4⟩
    have B4 := belowT (B3) hb4
    have X4 := (X3).keep hb4; have X4a := X4.c0; have X4b := X4.c1; have X4c := X4.f0; have X4d := X4.f1; have X4l := X4.lt
    go_wp2_with fail
    refine (O.out _ B4).mono ?_; rintro e w5 ⟨rfl, hb5⟩
    have B5 := belowT (B4) hb5
    have X5 := (X4).keep hb5; have X5a := X5.c0; have X5b := X5.c1; have X5c := X5.f0; have X5d := X5.f1; have X5l := X5.lt
    go_wp2_with fail
    exact bodyPost_ret (v := .agg #[.int .i64 L, .int .i64 H]) (by simp [results, Tryd.results19, go_sem, *]) rfl ⟨rfl, (B5.setCell (by simp) _).setCell (by simp) _⟩

theorem sMul_none1 (a b c d : Int) (w : World) (n0 : w.cell? ⟨0, 0, none⟩ = some (.int .i64 1)) (n1 : w.cell? ⟨0, 1, none⟩ = some (.int .i64 0))
    (E1 : Hid (∀ w, Calls Tryd.prog 10 #[.agg #[.int .i64 a, .int .i64 b]] w fun e w' => e = .returned (.bool true) ∧ Below w.heap.size w w')) :
    Calls Tryd.prog 18 #[.agg #[.int .i64 a, .int .i64 b], .agg #[.int .i64 c, .int .i64 d]] w fun e w' => e = .returned (.agg #[.int .i64 1, .int .i64 0]) ∧ Below w.heap.size w w' := by
  go_enter Tryd.func18, Tryd.ntmps18
  go_wp2_with fail
  refine (E1.out _).mono ?_; rintro e w1 ⟨rfl, hb1⟩
  have B1 := belowT (below3 w _ _ _) hb1
  have X1 := (own2c w _ _ _ _ _).keep hb1; have X1a := X1.c0; have X1b := X1.c1; have X1c := X1.f0; have X1d := X1.f1; have X1l := X1.lt
  have Y1 := ((own2b w _ _ _ _).more _).keep hb1; have Y1a := Y1.c0; have Y1b := Y1.c1; have Y1c := Y1.f0; have Y1d := Y1.f1; have Y1l := Y1.lt
  have m0 := keepc B1 n0
  have m1 := keepc B1 n1
  go_wp2_with fail
  exact bodyPost_ret (v := .agg #[.int .i64 1, .int .i64 0]) (by simp [results, Tryd.results18, go_sem, *]) rfl ⟨rfl, (B1.setCell (by simp; omega) _).setCell (by simp; omega) _⟩

theorem sMul_none2 (a b c d : Int) (w : World) (n0 : w.cell? ⟨0, 0, none⟩ = some (.int .i64 1)) (n1 : w.cell? ⟨0, 1, none⟩ = some (.int .i64 0))
    (E1 : Hid (∀ w, Calls Tryd.prog 10 #[.agg #[.int .i64 a, .int .i64 b]] w fun e w' => e = .returned (.bool false) ∧ Below w.heap.size w w'))
    (E2 : Hid (∀ w, Calls Tryd.prog 10 #[.agg #[.int .i64 c, .int .i64 d]] w fun e w' => e = .returned (.bool true) ∧ Below w.heap.size w w')) :
    Calls Tryd.prog 18 #[.agg #[.int .i64 a, .int .i64 b], .agg #[.int .i64 c, .int .i64 d]] w fun e w' => e = .returned (.agg #[.int .i64 1, .int .i64 0]) ∧ Below w.heap.size w w' := by
  go_enter Tryd.func18, Tryd.ntmps18
  go_wp2_with fail
  refine (E1.out _).mono ?_; rintro e w1 ⟨rfl, hb1⟩
  have B1 := belowT (below3 w _ _ _) hb1
  have X1 := (own2c w _ _ _ _ _).keep hb1; have X1a := X1.c0; have X1b := X1.c1; have X1c := X1.f0; have X1d := X1.f1; have X1l := X1.lt
  have Y1 := ((own2b w _ _ _ _).more _).keep hb1; have Y1a := Y1.c0; have Y1b := Y1.c1; have Y1c := Y1.f0; have Y1d := Y1.f1; have Y1l := Y1.lt
  go_wp2_with fail
  refine (E2.out _).mono ?_; rintro e w2 ⟨rfl, hb2⟩
  have B2 := belowT (B1) hb2
  have X2 := (X1).keep hb2; have X2a := X2.c0; have X2b := X2.c1; have X2c := X2.f0; have X2d := X2.f1; have X2l := X2.lt
  have m0 := keepc B2 n0
  have m1 := keepc B2 n1
  go_wp2_with fail
  exact bodyPost_ret (v := .agg #[.int .i64 1, .int .i64 0]) (by simp [results, Tryd.results18, go_sem, *]) rfl ⟨rfl, (B2.setCell (by simp; omega) _).setCell (by simp; omega) _⟩

theorem sMul (a b c d : Int) (w : World) (n : NoneAt w) (ra : Fix.Room a) (rb : Fix.Room b) (rc : Fix.Room c) (rd : Fix.Room d) :
    Calls Tryd.prog 18 #[.agg #[.int .i64 a, .int .i64 b], .agg #[.int .i64 c, .int .i64 d]] w fun e w' => e = .returned (.agg #[.int .i64 (Sp.sel a b c d 1 (Sp.oL (Sp.mulL a b c d) (Sp.mulH a b c d))), .int .i64 (Sp.sel a b c d 0 (Sp.oH (Sp.mulL a b c d) (Sp.mulH a b c d)))]) ∧ Below w.heap.size w w' := by
  have E1 := Lib.hid (Empty_any a b)
  have E2 := Lib.hid (Empty_any c d)
  by_cases h1 : b < a
  · rw [Sp.sel_a h1, Sp.sel_a h1]
    rw [decide_eq_true h1] at E1
    exact sMul_none1 a b c d w n.c0 n.c1 E1
  · rw [decide_eq_false h1] at E1
    by_cases h2 : d < c
    · rw [Sp.sel_b h2, Sp.sel_b h2]
      rw [decide_eq_true h2] at E2
      exact sMul_none2 a b c d w n.c0 n.c1 E1 E2
    · rw [Sp.sel_in h1 h2, Sp.sel_in h1 h2]
      rw [decide_eq_false h2] at E2
      exact sMul_core a b c d _ _ _ _ _ _ _ _ w E1 E2 (Lib.hid fun w => times_any a c w ra rc) (Lib.hid fun w => times_any a d w ra rd) (Lib.hid fun w => times_any b c w rb rc) (Lib.hid fun w => times_any b d w rb rd)
        (fun ts t w => min4 ts t w _ _ _ _) (fun ts t w => max4 ts t w _ _ _ _) (Lib.hid fun w' B => of_any _ _ w' (n.keep B))

theorem sSquare_none (a b : Int) (w : World) (n0 : w.cell? ⟨0, 0, none⟩ = some (.int .i64 1)) (n1 : w.cell? ⟨0, 1, none⟩ = some (.int .i64 0))
    (E1 : Hid (∀ w, Calls Tryd.prog 10 #[.agg #[.int .i64 a, .int .i64 b]] w fun e w' => e = .returned (.bool true) ∧ Below w.heap.size w w')) :
    Calls Tryd.prog 19 #[.agg #[.int .i64 a, .int .i64 b]] w fun e w' => e = .returned (.agg #[.int .i64 1, .int .i64 0]) ∧ Below w.heap.size w w' := by
  go_enter Tryd.func19, Tryd.ntmps19
  go_wp2_with fail
  refine (E1.out _).mono ?_; rintro e w1 ⟨rfl, hb1⟩
  have B1 := belowT (below2 w _ _) hb1
  have X1 := (own2b w _ _ _ _).keep hb1; have X1a := X1.c0; have X1b := X1.c1; have X1c := X1.f0; have X1d := X1.f1; have X1l := X1.lt
  have m0 := keepc B1 n0
  have m1 := keepc B1 n1
  go_wp2_with fail
  exact bodyPost_ret (v := .agg #[.int .i64 1, .int .i64 0]) (by simp [results, Tryd.results19, go_sem, *]) rfl ⟨rfl, (B1.setCell (by simp) _).setCell (by simp) _⟩

theorem sSquare (a b : Int) (w : World) (n : NoneAt w) (ra : Fix.Room a) (rb : Fix.Room b) :
    Calls Tryd.prog 19 #[.agg #[.int .i64 a, .int .i64 b]] w fun e w' => e = .returned (.agg #[.int .i64 (Sp.sel a b a b 1 (Sp.oL (Sp.sqL a b) (Sp.sqH a b))), .int .i64 (Sp.sel a b a b 0 (Sp.oH (Sp.sqL a b) (Sp.sqH a b)))]) ∧ Below w.heap.size w w' := by
  have E1 := Lib.hid (Empty_any a b)
  by_cases h1 : b < a
  · rw [Sp.sel_a h1, Sp.sel_a h1]
    rw [decide_eq_true h1] at E1
    exact sSquare_none a b w n.c0 n.c1 E1
  · rw [decide_eq_false h1] at E1
    rw [Sp.sel_in h1 h1, Sp.sel_in h1 h1]
    refine sSquare_core a b _ _ _ _ _ _ _ w E1 (Lib.hid fun w => times_any a a w ra ra) (Lib.hid fun w => times_any b b w rb rb) (Lib.hid (Has_any a b 0)) ?_ rfl (Lib.hid fun w' B => of_any _ _ w' (n.keep B))
    unfold Sp.sqL
    cases Sp.has a b 0
    · exact Or.inr ⟨rfl, if_neg (by decide)⟩
    · exact Or.inl ⟨rfl, if_pos rfl⟩

set_option maxHeartbeats 1000000 in
theorem sScale_core (a b k L H : Int) (w : World)
    (O : Hid (∀ w', Below w.heap.size w w' → Calls Tryd.prog 23 #[.int .i64 k, .int .i64 k] w' fun e w'' => e = .returned (.agg #[.int .i64 k, .int .i64 k]) ∧ Below w'.heap.size w' w''))
    (M : Hid (∀ w', Below w.heap.size w w' → Calls Tryd.prog 18 #[.agg #[.int .i64 a, .int .i64 b], .agg #[.int .i64 k, .int .i64 k]] w' fun e w'' => e = .returned (.agg #[.int .i64 L, .int .i64 H]) ∧ Below w'.heap.size w' w'')) :
    Calls Tryd.prog 17 #[.agg #[.int .i64 a, .int .i64 b], .int .i64 k] w fun e w' => e = .returned (.agg #[.int .i64 L, .int .i64 H]) ∧ Below w.heap.size w w' := by
  go_enter Tryd.func17, Tryd.ntmps17
  go_wp2_with fail
  go_region_held3 (fun w' => w'.cell? ⟨w.heap.size, 0, none⟩ = some (.int .i64 a) ∧ w'.cell? ⟨w.heap.size, 1, none⟩ = some (.int .i64 b))
    (first
      | (go_split_ands; refine ⟨?_, ?_⟩ <;> first | exact keepc hb2 (by assumption) | exact keepc hb1 (by assumption))
      | (go_split_ands; refine ⟨?_, ?_⟩ <;> exact keeps (by omega) (keeps (by omega) (by assumption)))
      | go_keep)
    (first
      | (go_at_call 18; have _t := B1; clear _t; (with_reducible refine (M.out _ B1).mono ?_); rintro e w2 ⟨rfl, hb2⟩; have B2 := belowT B1 hb2; have R2 := (R1).keep hb2; obtain ⟨g0, g1, g2, g3⟩ := R2)
      | (go_at_call 23; (with_reducible refine (O.out _ (below2 w _ _).drew).mono ?_); rintro e w1 ⟨rfl, hb1⟩; have B1 := belowT (below2 w _ _).drew hb1; have R1 := ((own2b w _ _ _ _).drew).keep hb1))
  all_goals
    go_wp2_with fail
    exact bodyPost_ret (v := .agg #[.int .i64 L, .int .i64 H]) (by simp [results, Tryd.results17, go_sem, *]) rfl ⟨rfl, (B2.setCell (by simp) _).setCell (by simp) _⟩

theorem sScale (a b k : Int) (w : World) (n : NoneAt w) (ra : Fix.Room a) (rb : Fix.Room b) (rk : Fix.Room k) :
    Calls Tryd.prog 17 #[.agg #[.int .i64 a, .int .i64 b], .int .i64 k] w fun e w' => e = .returned (.agg #[.int .i64 (Sp.sel a b k k 1 (Sp.oL (Sp.mulL a b k k) (Sp.mulH a b k k))), .int .i64 (Sp.sel a b k k 0 (Sp.oH (Sp.mulL a b k k) (Sp.mulH a b k k)))]) ∧ Below w.heap.size w w' := by
  refine sScale_core a b k _ _ w (Lib.hid fun w' B => ?_) (Lib.hid fun w' B => sMul a b k k w' (n.keep B) ra rb rk rk)
  have h := of_any k k w' (n.keep B)
  rw [Sp.oL_in (Int.lt_irrefl k), Sp.oH_in (Int.lt_irrefl k)] at h
  exact h

set_option maxHeartbeats 1000000 in
theorem sWiden_core (a b y m l h L H : Int) (w : World) (h0 : 0 ≤ y) (h1 : y ≤ 9223372036854775807) (hm : IntKind.i64.wrap (-y) = m)
    (E1 : Hid (∀ w, Calls Tryd.prog 10 #[.agg #[.int .i64 a, .int .i64 b]] w fun e w' => e = .returned (.bool false) ∧ Below w.heap.size w w'))
    (S1 : Hid (∀ w, Calls Tryd.prog 28 #[.int .i64 a, .int .i64 m] w fun e w' => e = .returned (.int .i64 l) ∧ Below w.heap.size w w'))
    (S2 : Hid (∀ w, Calls Tryd.prog 28 #[.int .i64 b, .int .i64 y] w fun e w' => e = .returned (.int .i64 h) ∧ Below w.heap.size w w'))
    (O : Hid (∀ w', Below w.heap.size w w' → Calls Tryd.prog 23 #[.int .i64 l, .int .i64 h] w' fun e w'' => e = .returned (.agg #[.int .i64 L, .int .i64 H]) ∧ Below w'.heap.size w' w'')) :
    Calls Tryd.prog 26 #[.agg #[.int .i64 a, .int .i64 b], .int .i64 y] w fun e w' => e = .returned (.agg #[.int .i64 L, .int .i64 H]) ∧ Below w.heap.size w w' := by
  go_enter Tryd.func26, Tryd.ntmps26
  go_wp2_with fail
  refine (E1.out _).mono ?_; rintro e w1 ⟨rfl, hb1⟩
  have B1 := belowT (below2 w _ _) hb1
  have X1 := (own2b w _ _ _ _).keep hb1; have X1a := X1.c0; have X1b := X1.c1; have X1c := X1.f0; have X1d := X1.f1; have X1l := X1.lt
  have Y1 := ((own2 w _ _ _).more _).keep hb1; have Y1a := Y1.c0; have Y1b := Y1.c1; have Y1c := Y1.f0; have Y1d := Y1.f1; have Y1l := Y1.lt
  go_wp2_with fail
  go_region_held3 (fun w' => w'.cell? ⟨w.heap.size, 0, none⟩ = some (.int .i64 a) ∧ w'.cell? ⟨w.heap.size, 1, none⟩ = some (.int .i64 b))
    (first
      | (go_split_ands; refine ⟨?_, ?_⟩ <;> first | exact keepc hb4 (by assumption) | exact keepc hb3 (by assumption) | exact keepc hb2 (by assumption))
      | (go_split_ands; refine ⟨?_, ?_⟩ <;> exact keeps (by omega) (keeps (by omega) (by assumption)))
      | go_keep)
    (first
      | (go_at_call 23; have _t := B3; clear _t; (with_reducible refine (O.out _ B3).mono ?_); rintro e w4 ⟨rfl, hb4⟩; have B4 := belowT B3 hb4; have R4 := (R3).keep hb4; obtain ⟨g0, g1, g2, g3⟩ := R4)
      | (go_at_call 28; have _t := B2; clear _t; (with_reducible refine (S2.out _).mono ?_); rintro e w3 ⟨rfl, hb3⟩; have B3 := belowT B2 hb3; have R3 := (R2).keep hb3)
      | (go_at_call 28; (with_reducible refine (S1.out _).mono ?_); rintro e w2 ⟨rfl, hb2⟩; have B2 := belowT (B1).drew hb2; have R2 := ((X1).drew).keep hb2))
  all_goals
    go_wp2_with fail
    exact bodyPost_ret (v := .agg #[.int .i64 L, .int .i64 H]) (by simp [results, Tryd.results26, go_sem, *]) rfl ⟨rfl, (B4.setCell (by simp) _).setCell (by simp) _⟩

theorem sWiden (a b y : Int) (w : World) (n : NoneAt w) (ra : Fix.Room a) (rb : Fix.Room b) (h0 : 0 ≤ y) (h1 : y ≤ 9223372036854775807) (h2 : ¬ b < a) :
    Calls Tryd.prog 26 #[.agg #[.int .i64 a, .int .i64 b], .int .i64 y] w fun e w' => e = .returned (.agg #[.int .i64 (Sp.oL (Sp.sat (a + -y)) (Sp.sat (b + y))), .int .i64 (Sp.oH (Sp.sat (a + -y)) (Sp.sat (b + y)))]) ∧ Below w.heap.size w w' := by
  have E1 := Lib.hid (Empty_any a b)
  rw [decide_eq_false h2] at E1
  exact sWiden_core a b y (-y) _ _ _ _ w h0 h1 ((wrap_i64 _).trans (by omega)) E1 (Lib.hid fun w => Sat_b a (-y) w ra ⟨by omega, by omega⟩) (Lib.hid fun w => Sat_b b y w rb ⟨by omega, by omega⟩) (Lib.hid fun w' B => of_any _ _ w' (n.keep B))

end Go.Proofs.YtdembidbaojldaaDoor
