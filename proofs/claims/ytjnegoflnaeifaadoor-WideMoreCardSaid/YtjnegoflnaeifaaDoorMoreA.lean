/- Sub and Nearest of package wide; Abs, Sub and Nearest of the document's own. -/
import Derived.Test.YtjnegoflnaeifaaDoorRefD
import Derived.Test.YtjnegoflnaeifaaDoorWideE
import Derived.Deep.RegionWith
namespace Go.Proofs.YtjnegoflnaeifaaDoor
open Go.RowKit

set_option maxHeartbeats 1000000 in
theorem Sub_core (x y m r : Int) (w : World)
    (N : Hid (∀ w, Calls Tryd.prog 26 #[.agg #[.int .i64 (Wd.hi y), .int .u64 (Wd.lo y)]] w fun e w' => e = .returned (.agg #[.int .i64 (Wd.hi m), .int .u64 (Wd.lo m)]) ∧ Below w.heap.size w w'))
    (A : Hid (∀ w, Calls Tryd.prog 25 #[.agg #[.int .i64 (Wd.hi x), .int .u64 (Wd.lo x)], .agg #[.int .i64 (Wd.hi m), .int .u64 (Wd.lo m)]] w fun e w' => e = .returned (.agg #[.int .i64 (Wd.hi r), .int .u64 (Wd.lo r)]) ∧ Below w.heap.size w w')) :
    Calls Tryd.prog 12 #[.agg #[.int .i64 (Wd.hi x), .int .u64 (Wd.lo x)], .agg #[.int .i64 (Wd.hi y), .int .u64 (Wd.lo y)]] w fun e w' => e = .returned (.agg #[.int .i64 (Wd.hi r), .int .u64 (Wd.lo r)]) ∧ Below w.heap.size w w' := by
  go_enter Tryd.func12, Tryd.ntmps12
  go_wp2_with fail
  go_region_held3 (fun w' => w'.cell? ⟨w.heap.size, 0, none⟩ = some (.int .i64 (Wd.hi x)) ∧ w'.cell? ⟨w.heap.size, 1, none⟩ = some (.int .u64 (Wd.lo x)) ∧ w'.cell? ⟨w.heap.size + 1, 0, none⟩ = some (.int .i64 (Wd.hi y)) ∧ w'.cell? ⟨w.heap.size + 1, 1, none⟩ = some (.int .u64 (Wd.lo y)))
    (first
      | (go_split_ands; refine ⟨?_, ?_, ?_, ?_⟩ <;> first | exact keepc hb2 (by assumption) | exact keepc hb1 (by assumption))
      | (go_split_ands; refine ⟨?_, ?_, ?_, ?_⟩ <;> exact keeps (by omega) (keeps (by omega) (by assumption)))
      | go_keep)
    (first
      | (go_at_call 25; have _t := hb1; clear _t; (with_reducible refine (A.out _).mono ?_); rintro e w2 ⟨rfl, hb2⟩; have B2 := belowT B1 hb2; have R2 := R1.keep hb2; obtain ⟨g0, g1, g2, g3⟩ := R2)
      | (go_at_call 26; (with_reducible refine (N.out _).mono ?_); rintro e w1 ⟨rfl, hb1⟩; have B1 := belowT (below3 w _ _ _).drew hb1; have R1 := (own2c w _ _ _ _ _).drew.keep hb1))
  all_goals
    go_wp2_with fail
    exact bodyPost_ret (v := .agg #[.int .i64 (Wd.hi r), .int .u64 (Wd.lo r)]) (by simp [results, Tryd.results12, go_sem, *]) rfl ⟨rfl, (B2.setCell (by simp; omega) _).setCell (by simp; omega) _⟩

theorem Sub_any (x y : Int) (w : World) :
    Calls Tryd.prog 12 #[.agg #[.int .i64 (Wd.hi x), .int .u64 (Wd.lo x)], .agg #[.int .i64 (Wd.hi y), .int .u64 (Wd.lo y)]] w fun e w' => e = .returned (.agg #[.int .i64 (Wd.hi (x - y)), .int .u64 (Wd.lo (x - y))]) ∧ Below w.heap.size w w' :=
  Sub_core x y (-y) (x - y) w (Lib.hid (Neg_any y)) (Lib.hid fun w => by have h := Add_any x (-y) w; rw [← Int.sub_eq_add_neg] at h; exact h)

/-- a quotient rounded to the nearest, up from the middle -/
def near (x d : Int) : Int := if x % d < d - x % d then x / d else x / d + 1

theorem Nearest_arg (x d : Int) (w : World) (hd : d < 1) :
    Calls Tryd.prog 6 #[.agg #[.int .i64 (Wd.hi x), .int .u64 (Wd.lo x)], .int .i64 d] w fun e w' => e = .returned (.tuple #[.agg #[.int .i64 0, .int .u64 0], .int .i64 1]) ∧ Below w.heap.size w w' := by
  have D := Lib.hid fun w => Div_arg (Wd.hi x) (Wd.lo x) d w hd
  rw [Wd.hi_zero, Wd.lo_zero] at D
  clear hd
  go_enter Tryd.func6, Tryd.ntmps6
  go_wp2_with fail
  refine (D.out _).mono ?_; rintro e w1 ⟨rfl, hb1⟩
  have B1 := belowT (below2 w _ _) hb1
  have R1 := (own2b w _ _ _ _).keep hb1; have R1a := R1.c0; have R1b := R1.c1; have R1c := R1.f0; have R1d := R1.f1; have R1l := R1.lt
  go_wp2_with fail
  exact bodyPost_ret (v := .tuple #[.agg #[.int .i64 0, .int .u64 0], .int .i64 1]) (by simp [results, Tryd.results6, go_sem, *]) rfl ⟨rfl, belowT ((B1.setCell (by simp) _).setCell (by simp) _) (below1 _ _)⟩

set_option maxHeartbeats 1000000 in
theorem Nearest_low (x d q r : Int) (w : World) (hlt : r < d - r) (r0 : 0 ≤ r) (d1 : d ≤ 9223372036854775807) 
    (D : Hid (∀ w, Calls Tryd.prog 19 #[.agg #[.int .i64 (Wd.hi x), .int .u64 (Wd.lo x)], .int .i64 d] w fun e w' => e = .returned (.tuple #[.agg #[.int .i64 (Wd.hi q), .int .u64 (Wd.lo q)], .int .i64 r, .int .i64 0]) ∧ Below w.heap.size w w')) :
    Calls Tryd.prog 6 #[.agg #[.int .i64 (Wd.hi x), .int .u64 (Wd.lo x)], .int .i64 d] w fun e w' => e = .returned (.tuple #[.agg #[.int .i64 (Wd.hi q), .int .u64 (Wd.lo q)], .int .i64 0]) ∧ Below w.heap.size w w' := by
  go_enter Tryd.func6, Tryd.ntmps6
  go_wp2_with fail
  refine (D.out _).mono ?_; rintro e w1 ⟨rfl, hb1⟩
  have B1 := belowT (below2 w _ _) hb1
  have R1 := (own2b w _ _ _ _).keep hb1; have R1a := R1.c0; have R1b := R1.c1; have R1c := R1.f0; have R1d := R1.f1; have R1l := R1.lt
  go_wp2_with fail
  exact bodyPost_ret (v := .tuple #[.agg #[.int .i64 (Wd.hi q), .int .u64 (Wd.lo q)], .int .i64 0]) (by simp [results, Tryd.results6, go_sem, *]) rfl ⟨rfl, belowT ((B1.setCell (by simp) _).setCell (by simp) _) (below1 _ _)⟩

set_option maxHeartbeats 1000000 in
theorem Nearest_up (x d q r p : Int) (w : World) (hlt : decide (r < d - r) = false) (r0 : 0 ≤ r) (r1 : r ≤ d) (d1 : d ≤ 9223372036854775807)
    (D : Hid (∀ w, Calls Tryd.prog 19 #[.agg #[.int .i64 (Wd.hi x), .int .u64 (Wd.lo x)], .int .i64 d] w fun e w' => e = .returned (.tuple #[.agg #[.int .i64 (Wd.hi q), .int .u64 (Wd.lo q)], .int .i64 r, .int .i64 0]) ∧ Below w.heap.size w w'))
    (O : Hid (∀ w, Calls Tryd.prog 20 #[.int .i64 1] w fun e w' => e = .returned (.agg #[.int .i64 (Wd.hi 1), .int .u64 (Wd.lo 1)]) ∧ Below w.heap.size w w'))
    (P : Hid (∀ w, Calls Tryd.prog 25 #[.agg #[.int .i64 (Wd.hi q), .int .u64 (Wd.lo q)], .agg #[.int .i64 (Wd.hi 1), .int .u64 (Wd.lo 1)]] w fun e w' => e = .returned (.agg #[.int .i64 (Wd.hi p), .int .u64 (Wd.lo p)]) ∧ Below w.heap.size w w')) :
    Calls Tryd.prog 6 #[.agg #[.int .i64 (Wd.hi x), .int .u64 (Wd.lo x)], .int .i64 d] w fun e w' => e = .returned (.tuple #[.agg #[.int .i64 (Wd.hi p), .int .u64 (Wd.lo p)], .int .i64 0]) ∧ Below w.heap.size w w' := by
  go_enter Tryd.func6, Tryd.ntmps6
  go_wp2_with fail
  refine (D.out _).mono ?_; rintro e w1 ⟨rfl, hb1⟩
  have B1 := belowT (below2 w _ _) hb1
  have R1 := (own2b w _ _ _ _).keep hb1; have R1a := R1.c0; have R1b := R1.c1; have R1c := R1.f0; have R1d := R1.f1; have R1l := R1.lt
  go_wp2_with fail
  go_region_held3 (fun w' => w'.cell? ⟨w1.heap.size, 0, none⟩ = some (.int .i64 (Wd.hi q)) ∧ w'.cell? ⟨w1.heap.size, 1, none⟩ = some (.int .u64 (Wd.lo q)))
    (first
      | (go_split_ands; refine ⟨?_, ?_⟩ <;> first | exact keepc hb3 (by assumption) | exact keepc hb2 (by assumption))
      | (go_split_ands; refine ⟨?_, ?_⟩ <;> exact keeps (Nat.ne_of_lt R1l) (keeps (Nat.ne_of_lt R1l) (by assumption)))
      | go_keep)
    (first
      | (go_at_call 25; have _t := hb2; clear _t; (with_reducible refine (P.out _).mono ?_); rintro e w3 ⟨rfl, hb3⟩; have B3 := belowT B2 hb3; have R3 := R2.keep hb3; obtain ⟨g0, g1, g2, g3⟩ := R3)
      | (go_at_call 20; (with_reducible refine (O.out _).mono ?_); rintro e w2 ⟨rfl, hb2⟩; have B2 := belowT (belowT B1 (below1 _ _)).drew hb2; have R2 := (R1.more _).drew.keep hb2))
  all_goals
    go_wp2_with fail
    exact bodyPost_ret (v := .tuple #[.agg #[.int .i64 (Wd.hi p), .int .u64 (Wd.lo p)], .int .i64 0]) (by simp [results, Tryd.results6, go_sem, *]) rfl ⟨rfl, (B3.setCell (by simp) _).setCell (by simp) _⟩

theorem Nearest_any (x d : Int) (w : World) (rx : Wd.Rm x) (hd : 1 ≤ d) (hd2 : d ≤ 9223372036854775807) :
    Calls Tryd.prog 6 #[.agg #[.int .i64 (Wd.hi x), .int .u64 (Wd.lo x)], .int .i64 d] w fun e w' => e = .returned (.tuple #[.agg #[.int .i64 (Wd.hi (near x d)), .int .u64 (Wd.lo (near x d))], .int .i64 0]) ∧ Below w.heap.size w w' := by
  have D := Lib.hid fun w => Div_any x d w rx hd hd2
  have m0 := Int.emod_nonneg x (show d ≠ 0 by omega)
  have m1 := Int.emod_lt_of_pos x (show 0 < d by omega)
  unfold near
  by_cases h : x % d < d - x % d
  · rw [if_pos h]; exact Nearest_low x d _ _ w h m0 hd2 D
  · rw [if_neg h]
    exact Nearest_up x d _ _ _ w (decide_eq_false h) m0 (by omega) hd2 D (Lib.hid fun w => Of_any 1 w (by unfold Wd.R6; omega)) (Lib.hid fun w => Add_any _ 1 w)

namespace Ref

set_option maxHeartbeats 1000000 in
theorem Sub_core (x y m r : Int) (w : World)
    (N : Hid (∀ w, Calls Tryd.prog 37 #[.agg #[.int .i64 (Wd.hi y), .int .u64 (Wd.lo y)]] w fun e w' => e = .returned (.agg #[.int .i64 (Wd.hi m), .int .u64 (Wd.lo m)]) ∧ Below w.heap.size w w'))
    (A : Hid (∀ w, Calls Tryd.prog 28 #[.agg #[.int .i64 (Wd.hi x), .int .u64 (Wd.lo x)], .agg #[.int .i64 (Wd.hi m), .int .u64 (Wd.lo m)]] w fun e w' => e = .returned (.agg #[.int .i64 (Wd.hi r), .int .u64 (Wd.lo r)]) ∧ Below w.heap.size w w')) :
    Calls Tryd.prog 13 #[.agg #[.int .i64 (Wd.hi x), .int .u64 (Wd.lo x)], .agg #[.int .i64 (Wd.hi y), .int .u64 (Wd.lo y)]] w fun e w' => e = .returned (.agg #[.int .i64 (Wd.hi r), .int .u64 (Wd.lo r)]) ∧ Below w.heap.size w w' := by
  go_enter Tryd.func13, Tryd.ntmps13
  go_wp2_with fail
  go_region_held3 (fun w' => w'.cell? ⟨w.heap.size, 0, none⟩ = some (.int .i64 (Wd.hi x)) ∧ w'.cell? ⟨w.heap.size, 1, none⟩ = some (.int .u64 (Wd.lo x)) ∧ w'.cell? ⟨w.heap.size + 1, 0, none⟩ = some (.int .i64 (Wd.hi y)) ∧ w'.cell? ⟨w.heap.size + 1, 1, none⟩ = some (.int .u64 (Wd.lo y)))
    (first
      | (go_split_ands; refine ⟨?_, ?_, ?_, ?_⟩ <;> first | exact keepc hb2 (by assumption) | exact keepc hb1 (by assumption))
      | (go_split_ands; refine ⟨?_, ?_, ?_, ?_⟩ <;> exact keeps (by omega) (keeps (by omega) (by assumption)))
      | go_keep)
    (first
      | (go_at_call 28; have _t := hb1; clear _t; (with_reducible refine (A.out _).mono ?_); rintro e w2 ⟨rfl, hb2⟩; have B2 := belowT B1 hb2; have R2 := R1.keep hb2; obtain ⟨g0, g1, g2, g3⟩ := R2)
      | (go_at_call 37; (with_reducible refine (N.out _).mono ?_); rintro e w1 ⟨rfl, hb1⟩; have B1 := belowT (below3 w _ _ _).drew hb1; have R1 := (own2c w _ _ _ _ _).drew.keep hb1))
  all_goals
    go_wp2_with fail
    exact bodyPost_ret (v := .agg #[.int .i64 (Wd.hi r), .int .u64 (Wd.lo r)]) (by simp [results, Tryd.results13, go_sem, *]) rfl ⟨rfl, (B2.setCell (by simp; omega) _).setCell (by simp; omega) _⟩

theorem Sub_any (x y : Int) (w : World) :
    Calls Tryd.prog 13 #[.agg #[.int .i64 (Wd.hi x), .int .u64 (Wd.lo x)], .agg #[.int .i64 (Wd.hi y), .int .u64 (Wd.lo y)]] w fun e w' => e = .returned (.agg #[.int .i64 (Wd.hi (x - y)), .int .u64 (Wd.lo (x - y))]) ∧ Below w.heap.size w w' :=
  Sub_core x y (-y) (x - y) w (Lib.hid (Neg_any y)) (Lib.hid fun w => by have h := Add_any x (-y) w; rw [← Int.sub_eq_add_neg] at h; exact h)

theorem Abs_low (x g m : Int) (w : World) (hg : decide (g < 0) = true)
    (S : Hid (∀ w, Calls Tryd.prog 30 #[.agg #[.int .i64 (Wd.hi x), .int .u64 (Wd.lo x)]] w fun e w' => e = .returned (.int .i64 g) ∧ Below w.heap.size w w'))
    (N : Hid (∀ w, Calls Tryd.prog 37 #[.agg #[.int .i64 (Wd.hi x), .int .u64 (Wd.lo x)]] w fun e w' => e = .returned (.agg #[.int .i64 (Wd.hi m), .int .u64 (Wd.lo m)]) ∧ Below w.heap.size w w')) :
    Calls Tryd.prog 15 #[.agg #[.int .i64 (Wd.hi x), .int .u64 (Wd.lo x)]] w fun e w' => e = .returned (.agg #[.int .i64 (Wd.hi m), .int .u64 (Wd.lo m)]) ∧ Below w.heap.size w w' := by
  go_enter Tryd.func15, Tryd.ntmps15
  go_wp2_with fail
  refine (S.out _).mono ?_; rintro e w1 ⟨rfl, hb1⟩
  have B1 := belowT (below2 w _ _) hb1
  have X1 := ((own2 w _ _ _).more _).keep hb1; have X1a := X1.c0; have X1b := X1.c1; have X1c := X1.f0; have X1d := X1.f1; have X1l := X1.lt
  have R1 := (own2b w _ _ _ _).keep hb1; have R1a := R1.c0; have R1b := R1.c1; have R1c := R1.f0; have R1d := R1.f1; have R1l := R1.lt
  go_wp2_with fail
  refine (N.out _).mono ?_; rintro e w2 ⟨rfl, hb2⟩
  have B2 := belowT (B1) hb2
  have X2 := (X1).keep hb2; have X2a := X2.c0; have X2b := X2.c1; have X2c := X2.f0; have X2d := X2.f1; have X2l := X2.lt
  have R2 := (R1).keep hb2; have R2a := R2.c0; have R2b := R2.c1; have R2c := R2.f0; have R2d := R2.f1; have R2l := R2.lt
  go_wp2_with fail
  exact bodyPost_ret (v := .agg #[.int .i64 (Wd.hi m), .int .u64 (Wd.lo m)]) (by simp [results, Tryd.results15, go_sem, *]) rfl ⟨rfl, (B2.setCell (by simp) _).setCell (by simp) _⟩

theorem Abs_up (x g : Int) (w : World) (hg : decide (g < 0) = false)
    (S : Hid (∀ w, Calls Tryd.prog 30 #[.agg #[.int .i64 (Wd.hi x), .int .u64 (Wd.lo x)]] w fun e w' => e = .returned (.int .i64 g) ∧ Below w.heap.size w w')) :
    Calls Tryd.prog 15 #[.agg #[.int .i64 (Wd.hi x), .int .u64 (Wd.lo x)]] w fun e w' => e = .returned (.agg #[.int .i64 (Wd.hi x), .int .u64 (Wd.lo x)]) ∧ Below w.heap.size w w' := by
  go_enter Tryd.func15, Tryd.ntmps15
  go_wp2_with fail
  refine (S.out _).mono ?_; rintro e w1 ⟨rfl, hb1⟩
  have B1 := belowT (below2 w _ _) hb1
  have X1 := ((own2 w _ _ _).more _).keep hb1; have X1a := X1.c0; have X1b := X1.c1; have X1c := X1.f0; have X1d := X1.f1; have X1l := X1.lt
  have R1 := (own2b w _ _ _ _).keep hb1; have R1a := R1.c0; have R1b := R1.c1; have R1c := R1.f0; have R1d := R1.f1; have R1l := R1.lt
  go_wp2_with fail
  exact bodyPost_ret (v := .agg #[.int .i64 (Wd.hi x), .int .u64 (Wd.lo x)]) (by simp [results, Tryd.results15, go_sem, *]) rfl ⟨rfl, (B1.setCell (by simp) _).setCell (by simp) _⟩

theorem Abs_any (x : Int) (w : World) (rx : Wd.Rm x) :
    Calls Tryd.prog 15 #[.agg #[.int .i64 (Wd.hi x), .int .u64 (Wd.lo x)]] w fun e w' => e = .returned (.agg #[.int .i64 (Wd.hi ((x.natAbs : Int))), .int .u64 (Wd.lo ((x.natAbs : Int)))]) ∧ Below w.heap.size w w' := by
  have S := Lib.hid fun w => Sign_any x w rx
  by_cases h : x < 0
  · rw [show ((x.natAbs : Nat) : Int) = -x by omega]
    exact Abs_low x _ _ w (decide_eq_true (by rw [Wd.sg_neg h]; omega)) S (Lib.hid fun w => Neg_any x w)
  · rw [show ((x.natAbs : Nat) : Int) = x by omega]
    exact Abs_up x _ w (decide_eq_false (by unfold Wd.sg; split <;> (try split) <;> omega)) S

theorem Nearest_arg (x d : Int) (w : World) (hd : d < 1) :
    Calls Tryd.prog 7 #[.agg #[.int .i64 (Wd.hi x), .int .u64 (Wd.lo x)], .int .i64 d] w fun e w' => e = .returned (.tuple #[.agg #[.int .i64 0, .int .u64 0], .int .i64 1]) ∧ Below w.heap.size w w' := by
  have D := Lib.hid fun w => Div_arg (Wd.hi x) (Wd.lo x) d w hd
  clear hd
  go_enter Tryd.func7, Tryd.ntmps7
  go_wp2_with fail
  refine (D.out _).mono ?_; rintro e w1 ⟨rfl, hb1⟩
  have B1 := belowT (below2 w _ _) hb1
  have R1 := (own2b w _ _ _ _).keep hb1; have R1a := R1.c0; have R1b := R1.c1; have R1c := R1.f0; have R1d := R1.f1; have R1l := R1.lt
  go_wp2_with fail
  exact bodyPost_ret (v := .tuple #[.agg #[.int .i64 0, .int .u64 0], .int .i64 1]) (by simp [results, Tryd.results7, go_sem, *]) rfl ⟨rfl, belowT ((B1.setCell (by simp) _).setCell (by simp) _) (below1 _ _)⟩

set_option maxHeartbeats 1000000 in
theorem Nearest_low (x d q r : Int) (w : World) (hlt : decide (d - r ≤ r) = false) (r0 : 0 ≤ r) (r1 : r ≤ d) (d1 : d ≤ 9223372036854775807)
    (D : Hid (∀ w, Calls Tryd.prog 27 #[.agg #[.int .i64 (Wd.hi x), .int .u64 (Wd.lo x)], .int .i64 d] w fun e w' => e = .returned (.tuple #[.agg #[.int .i64 (Wd.hi q), .int .u64 (Wd.lo q)], .int .i64 r, .int .i64 0]) ∧ Below w.heap.size w w')) :
    Calls Tryd.prog 7 #[.agg #[.int .i64 (Wd.hi x), .int .u64 (Wd.lo x)], .int .i64 d] w fun e w' => e = .returned (.tuple #[.agg #[.int .i64 (Wd.hi q), .int .u64 (Wd.lo q)], .int .i64 0]) ∧ Below w.heap.size w w' := by
  go_enter Tryd.func7, Tryd.ntmps7
  go_wp2_with fail
  refine (D.out _).mono ?_; rintro e w1 ⟨rfl, hb1⟩
  have B1 := belowT (below2 w _ _) hb1
  have R1 := (own2b w _ _ _ _).keep hb1; have R1a := R1.c0; have R1b := R1.c1; have R1c := R1.f0; have R1d := R1.f1; have R1l := R1.lt
  go_wp2_with fail
  exact bodyPost_ret (v := .tuple #[.agg #[.int .i64 (Wd.hi q), .int .u64 (Wd.lo q)], .int .i64 0]) (by simp [results, Tryd.results7, go_sem, *]) rfl ⟨rfl, belowT ((B1.setCell (by simp) _).setCell (by simp) _) (below1 _ _)⟩

set_option maxHeartbeats 1000000 in
theorem Nearest_up (x d q r p : Int) (w : World) (hlt : d - r ≤ r) (_r0 : 0 ≤ r) (r1 : r ≤ d) (d1 : d ≤ 9223372036854775807)
    (D : Hid (∀ w, Calls Tryd.prog 27 #[.agg #[.int .i64 (Wd.hi x), .int .u64 (Wd.lo x)], .int .i64 d] w fun e w' => e = .returned (.tuple #[.agg #[.int .i64 (Wd.hi q), .int .u64 (Wd.lo q)], .int .i64 r, .int .i64 0]) ∧ Below w.heap.size w w'))
    (O : Hid (∀ w, Calls Tryd.prog 29 #[.int .i64 1] w fun e w' => e = .returned (.agg #[.int .i64 (Wd.hi 1), .int .u64 (Wd.lo 1)]) ∧ Below w.heap.size w w'))
    (P : Hid (∀ w, Calls Tryd.prog 28 #[.agg #[.int .i64 (Wd.hi q), .int .u64 (Wd.lo q)], .agg #[.int .i64 (Wd.hi 1), .int .u64 (Wd.lo 1)]] w fun e w' => e = .returned (.agg #[.int .i64 (Wd.hi p), .int .u64 (Wd.lo p)]) ∧ Below w.heap.size w w')) :
    Calls Tryd.prog 7 #[.agg #[.int .i64 (Wd.hi x), .int .u64 (Wd.lo x)], .int .i64 d] w fun e w' => e = .returned (.tuple #[.agg #[.int .i64 (Wd.hi p), .int .u64 (Wd.lo p)], .int .i64 0]) ∧ Below w.heap.size w w' := by
  go_enter Tryd.func7, Tryd.ntmps7
  go_wp2_with fail
  refine (D.out _).mono ?_; rintro e w1 ⟨rfl, hb1⟩
  have B1 := belowT (below2 w _ _) hb1
  have R1 := (own2b w _ _ _ _).keep hb1; have R1a := R1.c0; have R1b := R1.c1; have R1c := R1.f0; have R1d := R1.f1; have R1l := R1.lt
  go_wp2_with fail
  have Q1 := own2 w1 (.int .i64 (Wd.hi q)) (.int .u64 (Wd.lo q)) 24
  have gn : w1.heap.size ≠ w.heap.size + 1 := by omega
  go_region_with (first
    | (go_at_call 28; (with_reducible refine (P.out _).mono ?_); rintro e w3 ⟨rfl, hb3⟩; have B3 := belowT B2 hb3; have R3 := R2.keep hb3; have Q3 := Q2.keep hb3; have R3a := R3.c0; have R3b := R3.c1; have R3c := R3.f0; have R3d := R3.f1; have Q3a := Q3.c0; have Q3b := Q3.c1; have Q3c := Q3.f0; have Q3d := Q3.f1)
    | (go_at_call 29; (with_reducible refine (O.out _).mono ?_); rintro e w2 ⟨rfl, hb2⟩; (first | (have B2 := belowT (belowT B1 (below1 _ _)) hb2; have R2 := (R1.more _).keep hb2; have Q2 := Q1.keep hb2) | (have B2 := belowT (belowT B1 (below1 _ _)).drew hb2; have R2 := (R1.more _).drew.keep hb2; have Q2 := Q1.drew.keep hb2)); have Q2a := Q2.c0; have Q2b := Q2.c1))
  all_goals
    go_wp2_with fail
    have R4 := (R3.other gn 0 (.int .i64 (Wd.hi p))).other gn 1 (.int .u64 (Wd.lo p))
    exact bodyPost_ret (v := .tuple #[.agg #[.int .i64 (Wd.hi p), .int .u64 (Wd.lo p)], .int .i64 0]) (by simp [results, Tryd.results7, go_sem, *]) rfl ⟨rfl, (((B3.setCell (by simp; omega) _).setCell (by simp; omega) _).setCell (by simp) _).setCell (by simp) _⟩

theorem Nearest_any (x d : Int) (w : World) (rx : Wd.Rm x) (hd : 1 ≤ d) (hd2 : d ≤ 9223372036854775807) :
    Calls Tryd.prog 7 #[.agg #[.int .i64 (Wd.hi x), .int .u64 (Wd.lo x)], .int .i64 d] w fun e w' => e = .returned (.tuple #[.agg #[.int .i64 (Wd.hi (near x d)), .int .u64 (Wd.lo (near x d))], .int .i64 0]) ∧ Below w.heap.size w w' := by
  have D := Lib.hid fun w => Div_any x d w rx hd hd2
  have m0 := Int.emod_nonneg x (show d ≠ 0 by omega)
  have m1 := Int.emod_lt_of_pos x (show 0 < d by omega)
  unfold near
  by_cases h : x % d < d - x % d
  · rw [if_pos h]; exact Nearest_low x d _ _ w (decide_eq_false (by omega)) m0 (by omega) hd2 D
  · rw [if_neg h]
    exact Nearest_up x d _ _ _ w (by omega) m0 (by omega) hd2 D (Lib.hid fun w => Of_any 1 w (by unfold Wd.R6; omega)) (Lib.hid fun w => Add_any _ 1 w)

end Ref

end Go.Proofs.YtjnegoflnaeifaaDoor
