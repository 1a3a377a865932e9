/- WideRing: the walk. -/
import Derived.Test.YtfgjkkabipmhhaaWideF
namespace Go.Proofs.Ytfgjkkabipmhhaa
open Go.RowKit

theorem cmp_any (a b : Int) (w : World) :
    Calls Try.prog 26 #[.int .i64 a, .int .i64 b] w fun e w' => e = .returned (.int .i64 (Wd.sg (a - b))) ∧ Below w.heap.size w w' := by
  by_cases h : a < b
  · rw [Wd.sg_neg (by omega)]
    go_enter Try.func26, Try.ntmps26
    go_wp2_with fail
    go_ret
    exact ⟨rfl, Below.refl _ _⟩
  · have d : decide (a < b) = false := decide_eq_false h
    by_cases g : b < a
    · rw [Wd.sg_pos (by omega)]
      clear h
      go_enter Try.func26, Try.ntmps26
      go_wp2_with fail
      go_ret
      exact ⟨rfl, Below.refl _ _⟩
    · have d2 : decide (b < a) = false := decide_eq_false g
      rw [Wd.sg_zero (by omega)]
      clear h g
      go_enter Try.func26, Try.ntmps26
      go_wp2_with fail
      go_ret
      exact ⟨rfl, Below.refl _ _⟩

/-- How the two products stand to one another, as the walk asks it: the two halves, and what Cmp answers either way round. -/
def Way (h1 l1 h2 l2 g1 g2 : Int) : Prop :=
  (h1 = h2 ∧ l1 = l2 ∧ g1 = 0 ∧ g2 = 0) ∨ (((h1 == h2) = false ∨ h1 = h2 ∧ (l1 == l2) = false) ∧ (g1 = 1 ∧ g2 = -1 ∨ g1 = -1 ∧ g2 = 1))

theorem way_of (x y : Int) (rx : Wd.Rm x) (ry : Wd.Rm y) : Way (Wd.hi x) (Wd.lo x) (Wd.hi y) (Wd.lo y) (Wd.sg (x - y)) (Wd.sg (y - x)) := by
  by_cases e : x = y
  · exact Or.inl ⟨by rw [e], by rw [e], Wd.sg_zero (by omega), Wd.sg_zero (by omega)⟩
  · refine Or.inr ⟨?_, ?_⟩
    · by_cases h : Wd.hi x = Wd.hi y
      · exact Or.inr ⟨h, by rw [beq_eq_false_iff_ne]; exact fun l => e (Wd.same_iff rx ry h l)⟩
      · exact Or.inl (by rw [beq_eq_false_iff_ne]; exact h)
    · by_cases l : x < y
      · exact Or.inr ⟨Wd.sg_neg (by omega), Wd.sg_pos (by omega)⟩
      · exact Or.inl ⟨Wd.sg_pos (by omega), Wd.sg_neg (by omega)⟩

set_option maxHeartbeats 2000000 in
set_option maxRecDepth 100000 in
theorem ring_eq (a b c A B s g3 h1 l1 hs ls hn ln oa pa ob pb : Int) (w : World) (eA : a / 2 = A) (eB : b / 2 = B) (es : IntKind.i64.wrap (A + B) = s)
    (M1 : Hid (∀ w, Calls Try.prog 15 #[.int .i64 A, .int .i64 c] w fun e w' => e = .returned (.agg #[.int .i64 h1, .int .u64 l1]) ∧ Below w.heap.size w w'))
    (M2 : Hid (∀ w, Calls Try.prog 15 #[.int .i64 c, .int .i64 A] w fun e w' => e = .returned (.agg #[.int .i64 h1, .int .u64 l1]) ∧ Below w.heap.size w w'))
    (M3 : Hid (∀ w, Calls Try.prog 15 #[.int .i64 s, .int .i64 c] w fun e w' => e = .returned (.agg #[.int .i64 hs, .int .u64 ls]) ∧ Below w.heap.size w w'))
    (M4 : Hid (∀ w, Calls Try.prog 15 #[.int .i64 B, .int .i64 c] w fun e w' => e = .returned (.agg #[.int .i64 h1, .int .u64 l1]) ∧ Below w.heap.size w w'))
    (P1 : Hid (∀ w, Calls Try.prog 17 #[.agg #[.int .i64 h1, .int .u64 l1], .agg #[.int .i64 h1, .int .u64 l1]] w fun e w' => e = .returned (.agg #[.int .i64 hs, .int .u64 ls]) ∧ Below w.heap.size w w'))
    (N : Hid (∀ w, Calls Try.prog 19 #[.agg #[.int .i64 h1, .int .u64 l1]] w fun e w' => e = .returned (.agg #[.int .i64 hn, .int .u64 ln]) ∧ Below w.heap.size w w'))
    (P2 : Hid (∀ w, Calls Try.prog 17 #[.agg #[.int .i64 hs, .int .u64 ls], .agg #[.int .i64 hn, .int .u64 ln]] w fun e w' => e = .returned (.agg #[.int .i64 h1, .int .u64 l1]) ∧ Below w.heap.size w w'))
    (C1 : Hid (∀ w, Calls Try.prog 23 #[.agg #[.int .i64 h1, .int .u64 l1], .agg #[.int .i64 h1, .int .u64 l1]] w fun e w' => e = .returned (.int .i64 0) ∧ Below w.heap.size w w'))
    (C2 : Hid (∀ w, Calls Try.prog 23 #[.agg #[.int .i64 h1, .int .u64 l1], .agg #[.int .i64 h1, .int .u64 l1]] w fun e w' => e = .returned (.int .i64 0) ∧ Below w.heap.size w w'))
    (O1 : Hid (∀ w, Calls Try.prog 13 #[.int .i64 A] w fun e w' => e = .returned (.agg #[.int .i64 oa, .int .u64 pa]) ∧ Below w.heap.size w w'))
    (O2 : Hid (∀ w, Calls Try.prog 13 #[.int .i64 B] w fun e w' => e = .returned (.agg #[.int .i64 ob, .int .u64 pb]) ∧ Below w.heap.size w w'))
    (C3 : Hid (∀ w, Calls Try.prog 23 #[.agg #[.int .i64 oa, .int .u64 pa], .agg #[.int .i64 ob, .int .u64 pb]] w fun e w' => e = .returned (.int .i64 g3) ∧ Below w.heap.size w w'))
    (C4 : Hid (∀ w, Calls Try.prog 26 #[.int .i64 A, .int .i64 B] w fun e w' => e = .returned (.int .i64 g3) ∧ Below w.heap.size w w'))
    (K : Hid (∀ w, Calls Try.prog 25 #[] w fun e w' => e = .returned (.bool true) ∧ Below w.heap.size w w')) :
    Calls Try.prog 5 #[.int .i64 a, .int .i64 b, .int .i64 c] w fun e w' => e = .returned (.bool true) ∧ Below w.heap.size w w' := by
  have n0 : IntKind.i64.wrap 0 = 0 := by decide
  have n1 : IntKind.i64.wrap 1 = 1 := by decide
  have n2 : IntKind.i64.wrap (-1) = -1 := by decide
  go_enter Try.func5, Try.ntmps5
  go_wp2_with fail
  refine (M1.out _).mono ?_; rintro e w1 ⟨rfl, hb1⟩
  have B1 := belowT (Below.refl _ _) hb1
  go_wp2_with fail
  refine (M2.out _).mono ?_; rintro e w2 ⟨rfl, hb2⟩
  have B2 := belowT (B1) hb2
  go_wp2_with fail
  refine (M3.out _).mono ?_; rintro e w3 ⟨rfl, hb3⟩
  have B3 := belowT (B2) hb3
  go_wp2_with fail
  refine (M1.out _).mono ?_; rintro e w4 ⟨rfl, hb4⟩
  have B4 := belowT (B3) hb4
  go_wp2_with fail
  refine (M4.out _).mono ?_; rintro e w5 ⟨rfl, hb5⟩
  have B5 := belowT (B4) hb5
  go_wp2_with fail
  refine (P1.out _).mono ?_; rintro e w6 ⟨rfl, hb6⟩
  have B6 := belowT (B5) hb6
  go_wp2_with fail
  refine (M1.out _).mono ?_; rintro e w7 ⟨rfl, hb7⟩
  have B7 := belowT (B6) hb7
  go_wp2_with fail
  refine (M4.out _).mono ?_; rintro e w8 ⟨rfl, hb8⟩
  have B8 := belowT (B7) hb8
  go_wp2_with fail
  go_region_held3 (fun w' => w'.cell? ⟨w8.heap.size, 0, none⟩ = some (.int .i64 h1) ∧ w'.cell? ⟨w8.heap.size, 1, none⟩ = some (.int .u64 l1) ∧ w'.cell? ⟨w8.heap.size + 1, 0, none⟩ = some (.int .i64 h1) ∧ w'.cell? ⟨w8.heap.size + 1, 1, none⟩ = some (.int .u64 l1))
    (first
      | (go_split_ands; refine ⟨?_, ?_, ?_, ?_⟩ <;> first | exact keepc hb21 (by assumption) | exact keepc hb20 (by assumption) | exact keepc hb19 (by assumption) | exact keepc hb18 (by assumption) | exact keepc hb17 (by assumption) | exact keepc hb16 (by assumption) | exact keepc hb15 (by assumption) | exact keepc hb14 (by assumption) | exact keepc hb13 (by assumption) | exact keepc hb12 (by assumption) | exact keepc hb11 (by assumption))
      | go_keep)
    (first
      | (go_at_call 25; have _t := B20; clear _t; (with_reducible refine (K.out _).mono ?_); rintro e w21 ⟨rfl, hb21⟩; have B21 := belowT B20 hb21)
      | (go_at_call 26; have _t := B19; clear _t; (with_reducible refine (C4.out _).mono ?_); rintro e w20 ⟨rfl, hb20⟩; have B20 := belowT B19 hb20)
      | (go_at_call 23; have _t := B18; clear _t; (with_reducible refine (C3.out _).mono ?_); rintro e w19 ⟨rfl, hb19⟩; have B19 := belowT B18 hb19)
      | (go_at_call 13; have _t := B17; clear _t; (with_reducible refine (O2.out _).mono ?_); rintro e w18 ⟨rfl, hb18⟩; have B18 := belowT B17 hb18)
      | (go_at_call 13; have _t := B16; clear _t; (with_reducible refine (O1.out _).mono ?_); rintro e w17 ⟨rfl, hb17⟩; have B17 := belowT B16 hb17)
      | (go_at_call 23; have _t := B15; clear _t; (with_reducible refine (C1.out _).mono ?_); rintro e w16 ⟨rfl, hb16⟩; have B16 := belowT B15 hb16)
      | (go_at_call 23; have _t := B14; clear _t; (with_reducible refine (C2.out _).mono ?_); rintro e w15 ⟨rfl, hb15⟩; have B15 := belowT B14 hb15)
      | (go_at_call 23; have _t := B13; clear _t; (with_reducible refine (C1.out _).mono ?_); rintro e w14 ⟨rfl, hb14⟩; have B14 := belowT B13 hb14)
      | (go_at_call 17; have _t := B12; clear _t; (with_reducible refine (P2.out _).mono ?_); rintro e w13 ⟨rfl, hb13⟩; have B13 := belowT B12 hb13)
      | (go_at_call 19; have _t := B11; clear _t; (with_reducible refine (N.out _).mono ?_); rintro e w12 ⟨rfl, hb12⟩; have B12 := belowT B11 hb12)
      | (go_at_call 17; (with_reducible refine (P1.out _).mono ?_); rintro e w11 ⟨rfl, hb11⟩; have B11 := belowT (belowT B8 (below2 w8 _ _)).drew hb11))
  all_goals
    go_wp2_with fail
    go_ret
    exact ⟨rfl, B21⟩

set_option maxHeartbeats 2000000 in
set_option maxRecDepth 100000 in
theorem ring_hi_up (a b c A B s g3 h1 l1 h2 l2 hs ls hn ln oa pa ob pb : Int) (w : World) (eA : a / 2 = A) (eB : b / 2 = B) (es : IntKind.i64.wrap (A + B) = s) (q : (h1 == h2) = false)
    (M1 : Hid (∀ w, Calls Try.prog 15 #[.int .i64 A, .int .i64 c] w fun e w' => e = .returned (.agg #[.int .i64 h1, .int .u64 l1]) ∧ Below w.heap.size w w'))
    (M2 : Hid (∀ w, Calls Try.prog 15 #[.int .i64 c, .int .i64 A] w fun e w' => e = .returned (.agg #[.int .i64 h1, .int .u64 l1]) ∧ Below w.heap.size w w'))
    (M3 : Hid (∀ w, Calls Try.prog 15 #[.int .i64 s, .int .i64 c] w fun e w' => e = .returned (.agg #[.int .i64 hs, .int .u64 ls]) ∧ Below w.heap.size w w'))
    (M4 : Hid (∀ w, Calls Try.prog 15 #[.int .i64 B, .int .i64 c] w fun e w' => e = .returned (.agg #[.int .i64 h2, .int .u64 l2]) ∧ Below w.heap.size w w'))
    (P1 : Hid (∀ w, Calls Try.prog 17 #[.agg #[.int .i64 h1, .int .u64 l1], .agg #[.int .i64 h2, .int .u64 l2]] w fun e w' => e = .returned (.agg #[.int .i64 hs, .int .u64 ls]) ∧ Below w.heap.size w w'))
    (N : Hid (∀ w, Calls Try.prog 19 #[.agg #[.int .i64 h2, .int .u64 l2]] w fun e w' => e = .returned (.agg #[.int .i64 hn, .int .u64 ln]) ∧ Below w.heap.size w w'))
    (P2 : Hid (∀ w, Calls Try.prog 17 #[.agg #[.int .i64 hs, .int .u64 ls], .agg #[.int .i64 hn, .int .u64 ln]] w fun e w' => e = .returned (.agg #[.int .i64 h1, .int .u64 l1]) ∧ Below w.heap.size w w'))
    (C1 : Hid (∀ w, Calls Try.prog 23 #[.agg #[.int .i64 h1, .int .u64 l1], .agg #[.int .i64 h2, .int .u64 l2]] w fun e w' => e = .returned (.int .i64 1) ∧ Below w.heap.size w w'))
    (C2 : Hid (∀ w, Calls Try.prog 23 #[.agg #[.int .i64 h2, .int .u64 l2], .agg #[.int .i64 h1, .int .u64 l1]] w fun e w' => e = .returned (.int .i64 (-1)) ∧ Below w.heap.size w w'))
    (O1 : Hid (∀ w, Calls Try.prog 13 #[.int .i64 A] w fun e w' => e = .returned (.agg #[.int .i64 oa, .int .u64 pa]) ∧ Below w.heap.size w w'))
    (O2 : Hid (∀ w, Calls Try.prog 13 #[.int .i64 B] w fun e w' => e = .returned (.agg #[.int .i64 ob, .int .u64 pb]) ∧ Below w.heap.size w w'))
    (C3 : Hid (∀ w, Calls Try.prog 23 #[.agg #[.int .i64 oa, .int .u64 pa], .agg #[.int .i64 ob, .int .u64 pb]] w fun e w' => e = .returned (.int .i64 g3) ∧ Below w.heap.size w w'))
    (C4 : Hid (∀ w, Calls Try.prog 26 #[.int .i64 A, .int .i64 B] w fun e w' => e = .returned (.int .i64 g3) ∧ Below w.heap.size w w'))
    (K : Hid (∀ w, Calls Try.prog 25 #[] w fun e w' => e = .returned (.bool true) ∧ Below w.heap.size w w')) :
    Calls Try.prog 5 #[.int .i64 a, .int .i64 b, .int .i64 c] w fun e w' => e = .returned (.bool true) ∧ Below w.heap.size w w' := by
  have n0 : IntKind.i64.wrap 0 = 0 := by decide
  have n1 : IntKind.i64.wrap 1 = 1 := by decide
  have n2 : IntKind.i64.wrap (-1) = -1 := by decide
  go_enter Try.func5, Try.ntmps5
  go_wp2_with fail
  refine (M1.out _).mono ?_; rintro e w1 ⟨rfl, hb1⟩
  have B1 := belowT (Below.refl _ _) hb1
  go_wp2_with fail
  refine (M2.out _).mono ?_; rintro e w2 ⟨rfl, hb2⟩
  have B2 := belowT (B1) hb2
  go_wp2_with fail
  refine (M3.out _).mono ?_; rintro e w3 ⟨rfl, hb3⟩
  have B3 := belowT (B2) hb3
  go_wp2_with fail
  refine (M1.out _).mono ?_; rintro e w4 ⟨rfl, hb4⟩
  have B4 := belowT (B3) hb4
  go_wp2_with fail
  refine (M4.out _).mono ?_; rintro e w5 ⟨rfl, hb5⟩
  have B5 := belowT (B4) hb5
  go_wp2_with fail
  refine (P1.out _).mono ?_; rintro e w6 ⟨rfl, hb6⟩
  have B6 := belowT (B5) hb6
  go_wp2_with fail
  refine (M1.out _).mono ?_; rintro e w7 ⟨rfl, hb7⟩
  have B7 := belowT (B6) hb7
  go_wp2_with fail
  refine (M4.out _).mono ?_; rintro e w8 ⟨rfl, hb8⟩
  have B8 := belowT (B7) hb8
  go_wp2_with fail
  go_region_held3 (fun w' => w'.cell? ⟨w8.heap.size, 0, none⟩ = some (.int .i64 h1) ∧ w'.cell? ⟨w8.heap.size, 1, none⟩ = some (.int .u64 l1) ∧ w'.cell? ⟨w8.heap.size + 1, 0, none⟩ = some (.int .i64 h2) ∧ w'.cell? ⟨w8.heap.size + 1, 1, none⟩ = some (.int .u64 l2))
    (first
      | (go_split_ands; refine ⟨?_, ?_, ?_, ?_⟩ <;> first | exact keepc hb21 (by assumption) | exact keepc hb20 (by assumption) | exact keepc hb19 (by assumption) | exact keepc hb18 (by assumption) | exact keepc hb17 (by assumption) | exact keepc hb16 (by assumption) | exact keepc hb15 (by assumption) | exact keepc hb14 (by assumption) | exact keepc hb13 (by assumption) | exact keepc hb12 (by assumption) | exact keepc hb11 (by assumption))
      | go_keep)
    (first
      | (go_at_call 25; have _t := B20; clear _t; (with_reducible refine (K.out _).mono ?_); rintro e w21 ⟨rfl, hb21⟩; have B21 := belowT B20 hb21)
      | (go_at_call 26; have _t := B19; clear _t; (with_reducible refine (C4.out _).mono ?_); rintro e w20 ⟨rfl, hb20⟩; have B20 := belowT B19 hb20)
      | (go_at_call 23; have _t := B18; clear _t; (with_reducible refine (C3.out _).mono ?_); rintro e w19 ⟨rfl, hb19⟩; have B19 := belowT B18 hb19)
      | (go_at_call 13; have _t := B17; clear _t; (with_reducible refine (O2.out _).mono ?_); rintro e w18 ⟨rfl, hb18⟩; have B18 := belowT B17 hb18)
      | (go_at_call 13; have _t := B16; clear _t; (with_reducible refine (O1.out _).mono ?_); rintro e w17 ⟨rfl, hb17⟩; have B17 := belowT B16 hb17)
      | (go_at_call 23; have _t := B15; clear _t; (with_reducible refine (C1.out _).mono ?_); rintro e w16 ⟨rfl, hb16⟩; have B16 := belowT B15 hb16)
      | (go_at_call 23; have _t := B14; clear _t; (with_reducible refine (C2.out _).mono ?_); rintro e w15 ⟨rfl, hb15⟩; have B15 := belowT B14 hb15)
      | (go_at_call 23; have _t := B13; clear _t; (with_reducible refine (C1.out _).mono ?_); rintro e w14 ⟨rfl, hb14⟩; have B14 := belowT B13 hb14)
      | (go_at_call 17; have _t := B12; clear _t; (with_reducible refine (P2.out _).mono ?_); rintro e w13 ⟨rfl, hb13⟩; have B13 := belowT B12 hb13)
      | (go_at_call 19; have _t := B11; clear _t; (with_reducible refine (N.out _).mono ?_); rintro e w12 ⟨rfl, hb12⟩; have B12 := belowT B11 hb12)
      | (go_at_call 17; (with_reducible refine (P1.out _).mono ?_); rintro e w11 ⟨rfl, hb11⟩; have B11 := belowT (belowT B8 (below2 w8 _ _)).drew hb11))
  all_goals
    go_wp2_with fail
    go_ret
    exact ⟨rfl, B21⟩

set_option maxHeartbeats 2000000 in
set_option maxRecDepth 100000 in
theorem ring_hi_down (a b c A B s g3 h1 l1 h2 l2 hs ls hn ln oa pa ob pb : Int) (w : World) (eA : a / 2 = A) (eB : b / 2 = B) (es : IntKind.i64.wrap (A + B) = s) (q : (h1 == h2) = false)
    (M1 : Hid (∀ w, Calls Try.prog 15 #[.int .i64 A, .int .i64 c] w fun e w' => e = .returned (.agg #[.int .i64 h1, .int .u64 l1]) ∧ Below w.heap.size w w'))
    (M2 : Hid (∀ w, Calls Try.prog 15 #[.int .i64 c, .int .i64 A] w fun e w' => e = .returned (.agg #[.int .i64 h1, .int .u64 l1]) ∧ Below w.heap.size w w'))
    (M3 : Hid (∀ w, Calls Try.prog 15 #[.int .i64 s, .int .i64 c] w fun e w' => e = .returned (.agg #[.int .i64 hs, .int .u64 ls]) ∧ Below w.heap.size w w'))
    (M4 : Hid (∀ w, Calls Try.prog 15 #[.int .i64 B, .int .i64 c] w fun e w' => e = .returned (.agg #[.int .i64 h2, .int .u64 l2]) ∧ Below w.heap.size w w'))
    (P1 : Hid (∀ w, Calls Try.prog 17 #[.agg #[.int .i64 h1, .int .u64 l1], .agg #[.int .i64 h2, .int .u64 l2]] w fun e w' => e = .returned (.agg #[.int .i64 hs, .int .u64 ls]) ∧ Below w.heap.size w w'))
    (N : Hid (∀ w, Calls Try.prog 19 #[.agg #[.int .i64 h2, .int .u64 l2]] w fun e w' => e = .returned (.agg #[.int .i64 hn, .int .u64 ln]) ∧ Below w.heap.size w w'))
    (P2 : Hid (∀ w, Calls Try.prog 17 #[.agg #[.int .i64 hs, .int .u64 ls], .agg #[.int .i64 hn, .int .u64 ln]] w fun e w' => e = .returned (.agg #[.int .i64 h1, .int .u64 l1]) ∧ Below w.heap.size w w'))
    (C1 : Hid (∀ w, Calls Try.prog 23 #[.agg #[.int .i64 h1, .int .u64 l1], .agg #[.int .i64 h2, .int .u64 l2]] w fun e w' => e = .returned (.int .i64 (-1)) ∧ Below w.heap.size w w'))
    (C2 : Hid (∀ w, Calls Try.prog 23 #[.agg #[.int .i64 h2, .int .u64 l2], .agg #[.int .i64 h1, .int .u64 l1]] w fun e w' => e = .returned (.int .i64 1) ∧ Below w.heap.size w w'))
    (O1 : Hid (∀ w, Calls Try.prog 13 #[.int .i64 A] w fun e w' => e = .returned (.agg #[.int .i64 oa, .int .u64 pa]) ∧ Below w.heap.size w w'))
    (O2 : Hid (∀ w, Calls Try.prog 13 #[.int .i64 B] w fun e w' => e = .returned (.agg #[.int .i64 ob, .int .u64 pb]) ∧ Below w.heap.size w w'))
    (C3 : Hid (∀ w, Calls Try.prog 23 #[.agg #[.int .i64 oa, .int .u64 pa], .agg #[.int .i64 ob, .int .u64 pb]] w fun e w' => e = .returned (.int .i64 g3) ∧ Below w.heap.size w w'))
    (C4 : Hid (∀ w, Calls Try.prog 26 #[.int .i64 A, .int .i64 B] w fun e w' => e = .returned (.int .i64 g3) ∧ Below w.heap.size w w'))
    (K : Hid (∀ w, Calls Try.prog 25 #[] w fun e w' => e = .returned (.bool true) ∧ Below w.heap.size w w')) :
    Calls Try.prog 5 #[.int .i64 a, .int .i64 b, .int .i64 c] w fun e w' => e = .returned (.bool true) ∧ Below w.heap.size w w' := by
  have n0 : IntKind.i64.wrap 0 = 0 := by decide
  have n1 : IntKind.i64.wrap 1 = 1 := by decide
  have n2 : IntKind.i64.wrap (-1) = -1 := by decide
  go_enter Try.func5, Try.ntmps5
  go_wp2_with fail
  refine (M1.out _).mono ?_; rintro e w1 ⟨rfl, hb1⟩
  have B1 := belowT (Below.refl _ _) hb1
  go_wp2_with fail
  refine (M2.out _).mono ?_; rintro e w2 ⟨rfl, hb2⟩
  have B2 := belowT (B1) hb2
  go_wp2_with fail
  refine (M3.out _).mono ?_; rintro e w3 ⟨rfl, hb3⟩
  have B3 := belowT (B2) hb3
  go_wp2_with fail
  refine (M1.out _).mono ?_; rintro e w4 ⟨rfl, hb4⟩
  have B4 := belowT (B3) hb4
  go_wp2_with fail
  refine (M4.out _).mono ?_; rintro e w5 ⟨rfl, hb5⟩
  have B5 := belowT (B4) hb5
  go_wp2_with fail
  refine (P1.out _).mono ?_; rintro e w6 ⟨rfl, hb6⟩
  have B6 := belowT (B5) hb6
  go_wp2_with fail
  refine (M1.out _).mono ?_; rintro e w7 ⟨rfl, hb7⟩
  have B7 := belowT (B6) hb7
  go_wp2_with fail
  refine (M4.out _).mono ?_; rintro e w8 ⟨rfl, hb8⟩
  have B8 := belowT (B7) hb8
  go_wp2_with fail
  go_region_held3 (fun w' => w'.cell? ⟨w8.heap.size, 0, none⟩ = some (.int .i64 h1) ∧ w'.cell? ⟨w8.heap.size, 1, none⟩ = some (.int .u64 l1) ∧ w'.cell? ⟨w8.heap.size + 1, 0, none⟩ = some (.int .i64 h2) ∧ w'.cell? ⟨w8.heap.size + 1, 1, none⟩ = some (.int .u64 l2))
    (first
      | (go_split_ands; refine ⟨?_, ?_, ?_, ?_⟩ <;> first | exact keepc hb21 (by assumption) | exact keepc hb20 (by assumption) | exact keepc hb19 (by assumption) | exact keepc hb18 (by assumption) | exact keepc hb17 (by assumption) | exact keepc hb16 (by assumption) | exact keepc hb15 (by assumption) | exact keepc hb14 (by assumption) | exact keepc hb13 (by assumption) | exact keepc hb12 (by assumption) | exact keepc hb11 (by assumption))
      | go_keep)
    (first
      | (go_at_call 25; have _t := B20; clear _t; (with_reducible refine (K.out _).mono ?_); rintro e w21 ⟨rfl, hb21⟩; have B21 := belowT B20 hb21)
      | (go_at_call 26; have _t := B19; clear _t; (with_reducible refine (C4.out _).mono ?_); rintro e w20 ⟨rfl, hb20⟩; have B20 := belowT B19 hb20)
      | (go_at_call 23; have _t := B18; clear _t; (with_reducible refine (C3.out _).mono ?_); rintro e w19 ⟨rfl, hb19⟩; have B19 := belowT B18 hb19)
      | (go_at_call 13; have _t := B17; clear _t; (with_reducible refine (O2.out _).mono ?_); rintro e w18 ⟨rfl, hb18⟩; have B18 := belowT B17 hb18)
      | (go_at_call 13; have _t := B16; clear _t; (with_reducible refine (O1.out _).mono ?_); rintro e w17 ⟨rfl, hb17⟩; have B17 := belowT B16 hb17)
      | (go_at_call 23; have _t := B15; clear _t; (with_reducible refine (C1.out _).mono ?_); rintro e w16 ⟨rfl, hb16⟩; have B16 := belowT B15 hb16)
      | (go_at_call 23; have _t := B14; clear _t; (with_reducible refine (C2.out _).mono ?_); rintro e w15 ⟨rfl, hb15⟩; have B15 := belowT B14 hb15)
      | (go_at_call 23; have _t := B13; clear _t; (with_reducible refine (C1.out _).mono ?_); rintro e w14 ⟨rfl, hb14⟩; have B14 := belowT B13 hb14)
      | (go_at_call 17; have _t := B12; clear _t; (with_reducible refine (P2.out _).mono ?_); rintro e w13 ⟨rfl, hb13⟩; have B13 := belowT B12 hb13)
      | (go_at_call 19; have _t := B11; clear _t; (with_reducible refine (N.out _).mono ?_); rintro e w12 ⟨rfl, hb12⟩; have B12 := belowT B11 hb12)
      | (go_at_call 17; (with_reducible refine (P1.out _).mono ?_); rintro e w11 ⟨rfl, hb11⟩; have B11 := belowT (belowT B8 (below2 w8 _ _)).drew hb11))
  all_goals
    go_wp2_with fail
    go_ret
    exact ⟨rfl, B21⟩

set_option maxHeartbeats 2000000 in
set_option maxRecDepth 100000 in
theorem ring_lo_up (a b c A B s g3 h1 l1 l2 hs ls hn ln oa pa ob pb : Int) (w : World) (eA : a / 2 = A) (eB : b / 2 = B) (es : IntKind.i64.wrap (A + B) = s) (q : (l1 == l2) = false)
    (M1 : Hid (∀ w, Calls Try.prog 15 #[.int .i64 A, .int .i64 c] w fun e w' => e = .returned (.agg #[.int .i64 h1, .int .u64 l1]) ∧ Below w.heap.size w w'))
    (M2 : Hid (∀ w, Calls Try.prog 15 #[.int .i64 c, .int .i64 A] w fun e w' => e = .returned (.agg #[.int .i64 h1, .int .u64 l1]) ∧ Below w.heap.size w w'))
    (M3 : Hid (∀ w, Calls Try.prog 15 #[.int .i64 s, .int .i64 c] w fun e w' => e = .returned (.agg #[.int .i64 hs, .int .u64 ls]) ∧ Below w.heap.size w w'))
    (M4 : Hid (∀ w, Calls Try.prog 15 #[.int .i64 B, .int .i64 c] w fun e w' => e = .returned (.agg #[.int .i64 h1, .int .u64 l2]) ∧ Below w.heap.size w w'))
    (P1 : Hid (∀ w, Calls Try.prog 17 #[.agg #[.int .i64 h1, .int .u64 l1], .agg #[.int .i64 h1, .int .u64 l2]] w fun e w' => e = .returned (.agg #[.int .i64 hs, .int .u64 ls]) ∧ Below w.heap.size w w'))
    (N : Hid (∀ w, Calls Try.prog 19 #[.agg #[.int .i64 h1, .int .u64 l2]] w fun e w' => e = .returned (.agg #[.int .i64 hn, .int .u64 ln]) ∧ Below w.heap.size w w'))
    (P2 : Hid (∀ w, Calls Try.prog 17 #[.agg #[.int .i64 hs, .int .u64 ls], .agg #[.int .i64 hn, .int .u64 ln]] w fun e w' => e = .returned (.agg #[.int .i64 h1, .int .u64 l1]) ∧ Below w.heap.size w w'))
    (C1 : Hid (∀ w, Calls Try.prog 23 #[.agg #[.int .i64 h1, .int .u64 l1], .agg #[.int .i64 h1, .int .u64 l2]] w fun e w' => e = .returned (.int .i64 1) ∧ Below w.heap.size w w'))
    (C2 : Hid (∀ w, Calls Try.prog 23 #[.agg #[.int .i64 h1, .int .u64 l2], .agg #[.int .i64 h1, .int .u64 l1]] w fun e w' => e = .returned (.int .i64 (-1)) ∧ Below w.heap.size w w'))
    (O1 : Hid (∀ w, Calls Try.prog 13 #[.int .i64 A] w fun e w' => e = .returned (.agg #[.int .i64 oa, .int .u64 pa]) ∧ Below w.heap.size w w'))
    (O2 : Hid (∀ w, Calls Try.prog 13 #[.int .i64 B] w fun e w' => e = .returned (.agg #[.int .i64 ob, .int .u64 pb]) ∧ Below w.heap.size w w'))
    (C3 : Hid (∀ w, Calls Try.prog 23 #[.agg #[.int .i64 oa, .int .u64 pa], .agg #[.int .i64 ob, .int .u64 pb]] w fun e w' => e = .returned (.int .i64 g3) ∧ Below w.heap.size w w'))
    (C4 : Hid (∀ w, Calls Try.prog 26 #[.int .i64 A, .int .i64 B] w fun e w' => e = .returned (.int .i64 g3) ∧ Below w.heap.size w w'))
    (K : Hid (∀ w, Calls Try.prog 25 #[] w fun e w' => e = .returned (.bool true) ∧ Below w.heap.size w w')) :
    Calls Try.prog 5 #[.int .i64 a, .int .i64 b, .int .i64 c] w fun e w' => e = .returned (.bool true) ∧ Below w.heap.size w w' := by
  have n0 : IntKind.i64.wrap 0 = 0 := by decide
  have n1 : IntKind.i64.wrap 1 = 1 := by decide
  have n2 : IntKind.i64.wrap (-1) = -1 := by decide
  go_enter Try.func5, Try.ntmps5
  go_wp2_with fail
  refine (M1.out _).mono ?_; rintro e w1 ⟨rfl, hb1⟩
  have B1 := belowT (Below.refl _ _) hb1
  go_wp2_with fail
  refine (M2.out _).mono ?_; rintro e w2 ⟨rfl, hb2⟩
  have B2 := belowT (B1) hb2
  go_wp2_with fail
  refine (M3.out _).mono ?_; rintro e w3 ⟨rfl, hb3⟩
  have B3 := belowT (B2) hb3
  go_wp2_with fail
  refine (M1.out _).mono ?_; rintro e w4 ⟨rfl, hb4⟩
  have B4 := belowT (B3) hb4
  go_wp2_with fail
  refine (M4.out _).mono ?_; rintro e w5 ⟨rfl, hb5⟩
  have B5 := belowT (B4) hb5
  go_wp2_with fail
  refine (P1.out _).mono ?_; rintro e w6 ⟨rfl, hb6⟩
  have B6 := belowT (B5) hb6
  go_wp2_with fail
  refine (M1.out _).mono ?_; rintro e w7 ⟨rfl, hb7⟩
  have B7 := belowT (B6) hb7
  go_wp2_with fail
  refine (M4.out _).mono ?_; rintro e w8 ⟨rfl, hb8⟩
  have B8 := belowT (B7) hb8
  go_wp2_with fail
  go_region_held3 (fun w' => w'.cell? ⟨w8.heap.size, 0, none⟩ = some (.int .i64 h1) ∧ w'.cell? ⟨w8.heap.size, 1, none⟩ = some (.int .u64 l1) ∧ w'.cell? ⟨w8.heap.size + 1, 0, none⟩ = some (.int .i64 h1) ∧ w'.cell? ⟨w8.heap.size + 1, 1, none⟩ = some (.int .u64 l2))
    (first
      | (go_split_ands; refine ⟨?_, ?_, ?_, ?_⟩ <;> first | exact keepc hb21 (by assumption) | exact keepc hb20 (by assumption) | exact keepc hb19 (by assumption) | exact keepc hb18 (by assumption) | exact keepc hb17 (by assumption) | exact keepc hb16 (by assumption) | exact keepc hb15 (by assumption) | exact keepc hb14 (by assumption) | exact keepc hb13 (by assumption) | exact keepc hb12 (by assumption) | exact keepc hb11 (by assumption))
      | go_keep)
    (first
      | (go_at_call 25; have _t := B20; clear _t; (with_reducible refine (K.out _).mono ?_); rintro e w21 ⟨rfl, hb21⟩; have B21 := belowT B20 hb21)
      | (go_at_call 26; have _t := B19; clear _t; (with_reducible refine (C4.out _).mono ?_); rintro e w20 ⟨rfl, hb20⟩; have B20 := belowT B19 hb20)
      | (go_at_call 23; have _t := B18; clear _t; (with_reducible refine (C3.out _).mono ?_); rintro e w19 ⟨rfl, hb19⟩; have B19 := belowT B18 hb19)
      | (go_at_call 13; have _t := B17; clear _t; (with_reducible refine (O2.out _).mono ?_); rintro e w18 ⟨rfl, hb18⟩; have B18 := belowT B17 hb18)
      | (go_at_call 13; have _t := B16; clear _t; (with_reducible refine (O1.out _).mono ?_); rintro e w17 ⟨rfl, hb17⟩; have B17 := belowT B16 hb17)
      | (go_at_call 23; have _t := B15; clear _t; (with_reducible refine (C1.out _).mono ?_); rintro e w16 ⟨rfl, hb16⟩; have B16 := belowT B15 hb16)
      | (go_at_call 23; have _t := B14; clear _t; (with_reducible refine (C2.out _).mono ?_); rintro e w15 ⟨rfl, hb15⟩; have B15 := belowT B14 hb15)
      | (go_at_call 23; have _t := B13; clear _t; (with_reducible refine (C1.out _).mono ?_); rintro e w14 ⟨rfl, hb14⟩; have B14 := belowT B13 hb14)
      | (go_at_call 17; have _t := B12; clear _t; (with_reducible refine (P2.out _).mono ?_); rintro e w13 ⟨rfl, hb13⟩; have B13 := belowT B12 hb13)
      | (go_at_call 19; have _t := B11; clear _t; (with_reducible refine (N.out _).mono ?_); rintro e w12 ⟨rfl, hb12⟩; have B12 := belowT B11 hb12)
      | (go_at_call 17; (with_reducible refine (P1.out _).mono ?_); rintro e w11 ⟨rfl, hb11⟩; have B11 := belowT (belowT B8 (below2 w8 _ _)).drew hb11))
  all_goals
    go_wp2_with fail
    go_ret
    exact ⟨rfl, B21⟩

set_option maxHeartbeats 2000000 in
set_option maxRecDepth 100000 in
theorem ring_lo_down (a b c A B s g3 h1 l1 l2 hs ls hn ln oa pa ob pb : Int) (w : World) (eA : a / 2 = A) (eB : b / 2 = B) (es : IntKind.i64.wrap (A + B) = s) (q : (l1 == l2) = false)
    (M1 : Hid (∀ w, Calls Try.prog 15 #[.int .i64 A, .int .i64 c] w fun e w' => e = .returned (.agg #[.int .i64 h1, .int .u64 l1]) ∧ Below w.heap.size w w'))
    (M2 : Hid (∀ w, Calls Try.prog 15 #[.int .i64 c, .int .i64 A] w fun e w' => e = .returned (.agg #[.int .i64 h1, .int .u64 l1]) ∧ Below w.heap.size w w'))
    (M3 : Hid (∀ w, Calls Try.prog 15 #[.int .i64 s, .int .i64 c] w fun e w' => e = .returned (.agg #[.int .i64 hs, .int .u64 ls]) ∧ Below w.heap.size w w'))
    (M4 : Hid (∀ w, Calls Try.prog 15 #[.int .i64 B, .int .i64 c] w fun e w' => e = .returned (.agg #[.int .i64 h1, .int .u64 l2]) ∧ Below w.heap.size w w'))
    (P1 : Hid (∀ w, Calls Try.prog 17 #[.agg #[.int .i64 h1, .int .u64 l1], .agg #[.int .i64 h1, .int .u64 l2]] w fun e w' => e = .returned (.agg #[.int .i64 hs, .int .u64 ls]) ∧ Below w.heap.size w w'))
    (N : Hid (∀ w, Calls Try.prog 19 #[.agg #[.int .i64 h1, .int .u64 l2]] w fun e w' => e = .returned (.agg #[.int .i64 hn, .int .u64 ln]) ∧ Below w.heap.size w w'))
    (P2 : Hid (∀ w, Calls Try.prog 17 #[.agg #[.int .i64 hs, .int .u64 ls], .agg #[.int .i64 hn, .int .u64 ln]] w fun e w' => e = .returned (.agg #[.int .i64 h1, .int .u64 l1]) ∧ Below w.heap.size w w'))
    (C1 : Hid (∀ w, Calls Try.prog 23 #[.agg #[.int .i64 h1, .int .u64 l1], .agg #[.int .i64 h1, .int .u64 l2]] w fun e w' => e = .returned (.int .i64 (-1)) ∧ Below w.heap.size w w'))
    (C2 : Hid (∀ w, Calls Try.prog 23 #[.agg #[.int .i64 h1, .int .u64 l2], .agg #[.int .i64 h1, .int .u64 l1]] w fun e w' => e = .returned (.int .i64 1) ∧ Below w.heap.size w w'))
    (O1 : Hid (∀ w, Calls Try.prog 13 #[.int .i64 A] w fun e w' => e = .returned (.agg #[.int .i64 oa, .int .u64 pa]) ∧ Below w.heap.size w w'))
    (O2 : Hid (∀ w, Calls Try.prog 13 #[.int .i64 B] w fun e w' => e = .returned (.agg #[.int .i64 ob, .int .u64 pb]) ∧ Below w.heap.size w w'))
    (C3 : Hid (∀ w, Calls Try.prog 23 #[.agg #[.int .i64 oa, .int .u64 pa], .agg #[.int .i64 ob, .int .u64 pb]] w fun e w' => e = .returned (.int .i64 g3) ∧ Below w.heap.size w w'))
    (C4 : Hid (∀ w, Calls Try.prog 26 #[.int .i64 A, .int .i64 B] w fun e w' => e = .returned (.int .i64 g3) ∧ Below w.heap.size w w'))
    (K : Hid (∀ w, Calls Try.prog 25 #[] w fun e w' => e = .returned (.bool true) ∧ Below w.heap.size w w')) :
    Calls Try.prog 5 #[.int .i64 a, .int .i64 b, .int .i64 c] w fun e w' => e = .returned (.bool true) ∧ Below w.heap.size w w' := by
  have n0 : IntKind.i64.wrap 0 = 0 := by decide
  have n1 : IntKind.i64.wrap 1 = 1 := by decide
  have n2 : IntKind.i64.wrap (-1) = -1 := by decide
  go_enter Try.func5, Try.ntmps5
  go_wp2_with fail
  refine (M1.out _).mono ?_; rintro e w1 ⟨rfl, hb1⟩
  have B1 := belowT (Below.refl _ _) hb1
  go_wp2_with fail
  refine (M2.out _).mono ?_; rintro e w2 ⟨rfl, hb2⟩
  have B2 := belowT (B1) hb2
  go_wp2_with fail
  refine (M3.out _).mono ?_; rintro e w3 ⟨rfl, hb3⟩
  have B3 := belowT (B2) hb3
  go_wp2_with fail
  refine (M1.out _).mono ?_; rintro e w4 ⟨rfl, hb4⟩
  have B4 := belowT (B3) hb4
  go_wp2_with fail
  refine (M4.out _).mono ?_; rintro e w5 ⟨rfl, hb5⟩
  have B5 := belowT (B4) hb5
  go_wp2_with fail
  refine (P1.out _).mono ?_; rintro e w6 ⟨rfl, hb6⟩
  have B6 := belowT (B5) hb6
  go_wp2_with fail
  refine (M1.out _).mono ?_; rintro e w7 ⟨rfl, hb7⟩
  have B7 := belowT (B6) hb7
  go_wp2_with fail
  refine (M4.out _).mono ?_; rintro e w8 ⟨rfl, hb8⟩
  have B8 := belowT (B7) hb8
  go_wp2_with fail
  go_region_held3 (fun w' => w'.cell? ⟨w8.heap.size, 0, none⟩ = some (.int .i64 h1) ∧ w'.cell? ⟨w8.heap.size, 1, none⟩ = some (.int .u64 l1) ∧ w'.cell? ⟨w8.heap.size + 1, 0, none⟩ = some (.int .i64 h1) ∧ w'.cell? ⟨w8.heap.size + 1, 1, none⟩ = some (.int .u64 l2))
    (first
      | (go_split_ands; refine ⟨?_, ?_, ?_, ?_⟩ <;> first | exact keepc hb21 (by assumption) | exact keepc hb20 (by assumption) | exact keepc hb19 (by assumption) | exact keepc hb18 (by assumption) | exact keepc hb17 (by assumption) | exact keepc hb16 (by assumption) | exact keepc hb15 (by assumption) | exact keepc hb14 (by assumption) | exact keepc hb13 (by assumption) | exact keepc hb12 (by assumption) | exact keepc hb11 (by assumption))
      | go_keep)
    (first
      | (go_at_call 25; have _t := B20; clear _t; (with_reducible refine (K.out _).mono ?_); rintro e w21 ⟨rfl, hb21⟩; have B21 := belowT B20 hb21)
      | (go_at_call 26; have _t := B19; clear _t; (with_reducible refine (C4.out _).mono ?_); rintro e w20 ⟨rfl, hb20⟩; have B20 := belowT B19 hb20)
      | (go_at_call 23; have _t := B18; clear _t; (with_reducible refine (C3.out _).mono ?_); rintro e w19 ⟨rfl, hb19⟩; have B19 := belowT B18 hb19)
      | (go_at_call 13; have _t := B17; clear _t; (with_reducible refine (O2.out _).mono ?_); rintro e w18 ⟨rfl, hb18⟩; have B18 := belowT B17 hb18)
      | (go_at_call 13; have _t := B16; clear _t; (with_reducible refine (O1.out _).mono ?_); rintro e w17 ⟨rfl, hb17⟩; have B17 := belowT B16 hb17)
      | (go_at_call 23; have _t := B15; clear _t; (with_reducible refine (C1.out _).mono ?_); rintro e w16 ⟨rfl, hb16⟩; have B16 := belowT B15 hb16)
      | (go_at_call 23; have _t := B14; clear _t; (with_reducible refine (C2.out _).mono ?_); rintro e w15 ⟨rfl, hb15⟩; have B15 := belowT B14 hb15)
      | (go_at_call 23; have _t := B13; clear _t; (with_reducible refine (C1.out _).mono ?_); rintro e w14 ⟨rfl, hb14⟩; have B14 := belowT B13 hb14)
      | (go_at_call 17; have _t := B12; clear _t; (with_reducible refine (P2.out _).mono ?_); rintro e w13 ⟨rfl, hb13⟩; have B13 := belowT B12 hb13)
      | (go_at_call 19; have _t := B11; clear _t; (with_reducible refine (N.out _).mono ?_); rintro e w12 ⟨rfl, hb12⟩; have B12 := belowT B11 hb12)
      | (go_at_call 17; (with_reducible refine (P1.out _).mono ?_); rintro e w11 ⟨rfl, hb11⟩; have B11 := belowT (belowT B8 (below2 w8 _ _)).drew hb11))
  all_goals
    go_wp2_with fail
    go_ret
    exact ⟨rfl, B21⟩

theorem ring_any (a b c : Int) (w : World) (ra : Wd.R6 a) (rb : Wd.R6 b) (rc : Wd.R6 c) :
    Calls Try.prog 5 #[.int .i64 a, .int .i64 b, .int .i64 c] w fun e w' => e = .returned (.bool true) ∧ Below w.heap.size w w' := by
  have rA : Wd.R6 (a / 2) := by unfold Wd.R6 at *; omega
  have rB : Wd.R6 (b / 2) := by unfold Wd.R6 at *; omega
  have rS : Wd.R6 (a / 2 + b / 2) := by unfold Wd.R6 at *; omega
  have es : IntKind.i64.wrap (a / 2 + b / 2) = a / 2 + b / 2 := IntWalk.i64_in _ rS
  have wide : ∀ x y : Int, Wd.R6 x → Wd.R6 y → Wd.Rm (x * y) := fun x y hx hy => by
    obtain ⟨x1, x2⟩ := hx
    obtain ⟨y1, y2⟩ := hy
    have k : (x * y).natAbs ≤ 9223372036854775808 * 9223372036854775808 := by
      rw [Int.natAbs_mul]; exact Nat.mul_le_mul (by omega) (by omega)
    unfold Wd.Rm
    omega
  have rx := wide _ _ rA rc
  have ry := wide _ _ rB rc
  have way := way_of _ _ rx ry
  have e1 : c * (a / 2) = a / 2 * c := Int.mul_comm _ _
  have e2 : (a / 2 + b / 2) * c = a / 2 * c + b / 2 * c := Int.add_mul _ _ _
  have e3 : a / 2 * c + b / 2 * c + -(b / 2 * c) = a / 2 * c := by omega
  have M1 := Lib.hid fun w => Mul_any (a / 2) c w rA rc
  have M2 := Lib.hid fun w => Mul_any c (a / 2) w rc rA
  have M3 := Lib.hid fun w => Mul_any (a / 2 + b / 2) c w rS rc
  have M4 := Lib.hid fun w => Mul_any (b / 2) c w rB rc
  have P1 := Lib.hid fun w => Add_any (a / 2 * c) (b / 2 * c) w
  have N := Lib.hid fun w => Neg_any (b / 2 * c) w
  have P2 := Lib.hid fun w => Add_any (a / 2 * c + b / 2 * c) (-(b / 2 * c)) w
  have C1 := Lib.hid fun w => Cmp_any _ _ w rx ry
  have C2 := Lib.hid fun w => Cmp_any _ _ w ry rx
  have O1 := Lib.hid fun w => Of_any (a / 2) w rA
  have O2 := Lib.hid fun w => Of_any (b / 2) w rB
  have C3 := Lib.hid fun w => Cmp_any _ _ w (Wd.rm_of rA) (Wd.rm_of rB)
  have C4 := Lib.hid fun w => cmp_any (a / 2) (b / 2) w
  have K := Lib.hid fun w => awake_any w
  rw [e1] at M2
  rw [e2] at M3
  rw [e3] at P2
  generalize a / 2 * c = x at *
  generalize b / 2 * c = y at *
  generalize Wd.hi x = h1 at *
  generalize Wd.lo x = l1 at *
  generalize Wd.hi y = h2 at *
  generalize Wd.lo y = l2 at *
  generalize Wd.sg (x - y) = g1 at *
  generalize Wd.sg (y - x) = g2 at *
  rcases way with ⟨rfl, rfl, rfl, rfl⟩ | ⟨q | ⟨rfl, q⟩, ⟨rfl, rfl⟩ | ⟨rfl, rfl⟩⟩
  · exact ring_eq a b c _ _ _ _ _ _ _ _ _ _ _ _ _ _ w rfl rfl es M1 M2 M3 M4 P1 N P2 C1 C2 O1 O2 C3 C4 K
  · exact ring_hi_up a b c _ _ _ _ _ _ _ _ _ _ _ _ _ _ _ _ w rfl rfl es q M1 M2 M3 M4 P1 N P2 C1 C2 O1 O2 C3 C4 K
  · exact ring_hi_down a b c _ _ _ _ _ _ _ _ _ _ _ _ _ _ _ _ w rfl rfl es q M1 M2 M3 M4 P1 N P2 C1 C2 O1 O2 C3 C4 K
  · exact ring_lo_up a b c _ _ _ _ _ _ _ _ _ _ _ _ _ _ _ w rfl rfl es q M1 M2 M3 M4 P1 N P2 C1 C2 O1 O2 C3 C4 K
  · exact ring_lo_down a b c _ _ _ _ _ _ _ _ _ _ _ _ _ _ _ w rfl rfl es q M1 M2 M3 M4 P1 N P2 C1 C2 O1 O2 C3 C4 K

end Go.Proofs.Ytfgjkkabipmhhaa
