/- Middles, halves, the nearest number, quotients, parts and gaps of package span. -/
import Derived.Test.YtdembidbaojldaaDoorSpanA
import Derived.Deep.RegionWith
namespace Go.Proofs.YtdembidbaojldaaDoor
open Go.RowKit

theorem sMid (a b : Int) (w : World) (ra : Fix.Room a) (rb : Fix.Room b) :
    Calls Tryd.prog 24 #[.agg #[.int .i64 a, .int .i64 b]] w fun e w' => e = .returned (.int .i64 ((a + b) / 2)) ∧ Below w.heap.size w w' := by
  have M : Hid (∀ w, Calls Tryd.prog 34 #[.int .i64 a, .int .i64 b] w fun e w' => e = .returned (.int .i64 ((a + b) / 2)) ∧ w = w') := Lib.hid fun w => Mean_any a b w ra rb
  generalize (a + b) / 2 = m at *
  go_enter Tryd.func24, Tryd.ntmps24
  go_wp2_with (go_at_call 34; refine (M.out _).mono ?_; rintro e w' ⟨rfl, rfl⟩)
  go_ret
  exact ⟨rfl, below1 w _⟩

theorem half_lit (w : World) :
    Calls Tryd.prog 25 #[.agg #[.int .i64 4, .int .i64 5]] w fun e w' => e = .returned (.int .i64 1) ∧ Below w.heap.size w w' := by
  have E1 : Hid (∀ w, Calls Tryd.prog 10 #[.agg #[.int .i64 4, .int .i64 5]] w fun e w' => e = .returned (.bool false) ∧ Below w.heap.size w w') := Lib.hid (Empty_any 4 5)
  go_enter Tryd.func25, Tryd.ntmps25
  go_wp2_with fail
  refine (E1.out _).mono ?_; rintro e w1 ⟨rfl, hb1⟩
  have B1 := belowT (below1 w _) hb1
  have X1 := (own2 w _ _ _).keep hb1; have X1a := X1.c0; have X1b := X1.c1; have X1c := X1.f0; have X1d := X1.f1; have X1l := X1.lt
  go_wp2_with fail
  go_ret
  exact ⟨rfl, B1⟩

theorem clamp_lit (w : World) :
    Calls Tryd.prog 27 #[.agg #[.int .i64 4, .int .i64 5], .int .i64 99] w fun e w' => e = .returned (.int .i64 5) ∧ Below w.heap.size w w' := by
  have E1 : Hid (∀ w, Calls Tryd.prog 10 #[.agg #[.int .i64 4, .int .i64 5]] w fun e w' => e = .returned (.bool false) ∧ Below w.heap.size w w') := Lib.hid (Empty_any 4 5)
  have C : Hid (∀ w, Calls Tryd.prog 35 #[.int .i64 99, .int .i64 4, .int .i64 5] w fun e w' => e = .returned (.int .i64 5) ∧ w = w') := Lib.hid fun w => Clamp_any 99 4 5 w
  go_enter Tryd.func27, Tryd.ntmps27
  go_wp2_with fail
  refine (E1.out _).mono ?_; rintro e w1 ⟨rfl, hb1⟩
  have B1 := belowT (below1 w _) hb1
  have X1 := (own2 w _ _ _).keep hb1; have X1a := X1.c0; have X1b := X1.c1; have X1c := X1.f0; have X1d := X1.f1; have X1l := X1.lt
  go_wp2_with (go_at_call 35; refine (C.out _).mono ?_; rintro e w' ⟨rfl, rfl⟩)
  go_ret
  exact ⟨rfl, B1⟩

theorem sDiv_core (a b d l h L H : Int) (w : World) (h1 : 1 ≤ d)
    (C : Hid (∀ w, Calls Tryd.prog 32 #[.int .i64 a, .int .i64 d] w fun e w' => e = .returned (.tuple #[.int .i64 l, .int .i64 0]) ∧ Below w.heap.size w w'))
    (F : Hid (∀ w, Calls Tryd.prog 33 #[.int .i64 b, .int .i64 d] w fun e w' => e = .returned (.tuple #[.int .i64 h, .int .i64 0]) ∧ Below w.heap.size w w'))
    (O : Hid (∀ w', Below w.heap.size w w' → Calls Tryd.prog 23 #[.int .i64 l, .int .i64 h] w' fun e w'' => e = .returned (.agg #[.int .i64 L, .int .i64 H]) ∧ Below w'.heap.size w' w'')) :
    Calls Tryd.prog 20 #[.agg #[.int .i64 a, .int .i64 b], .int .i64 d] w fun e w' => e = .returned (.tuple #[.agg #[.int .i64 L, .int .i64 H], .int .i64 0]) ∧ Below w.heap.size w w' := by
  go_enter Tryd.func20, Tryd.ntmps20
  go_wp2_with fail
  refine (C.out _).mono ?_; rintro e w1 ⟨rfl, hb1⟩
  have B1 := belowT (below2 w _ _) hb1
  have X1 := (own2b w _ _ _ _).keep hb1; have X1a := X1.c0; have X1b := X1.c1; have X1c := X1.f0; have X1d := X1.f1; have X1l := X1.lt
  have Y1 := ((own2 w _ _ _).more _).keep hb1; have Y1a := Y1.c0; have Y1b := Y1.c1; have Y1c := Y1.f0; have Y1d := Y1.f1; have Y1l := Y1.lt
  go_wp2_with fail
  refine (F.out _).mono ?_; rintro e w2 ⟨rfl, hb2⟩
  have B2 := belowT (B1) hb2
  have X2 := (X1).keep hb2; have X2a := X2.c0; have X2b := X2.c1; have X2c := X2.f0; have X2d := X2.f1; have X2l := X2.lt
  go_wp2_with fail
  refine (O.out _ B2).mono ?_; rintro e w3 ⟨rfl, hb3⟩
  have B3 := belowT (B2) hb3
  have X3 := (X2).keep hb3; have X3a := X3.c0; have X3b := X3.c1; have X3c := X3.f0; have X3d := X3.f1; have X3l := X3.lt
  go_wp2_with fail
  exact bodyPost_ret (v := .tuple #[.agg #[.int .i64 L, .int .i64 H], .int .i64 0]) (by simp [results, Tryd.results20, go_sem, *]) rfl ⟨rfl, (B3.setCell (by simp) _).setCell (by simp) _⟩

theorem quot_room {x d : Int} (r : Fix.Room x) (h1 : 1 ≤ d) : Fix.Room (x / d) ∧ Fix.Room (-(-x / d)) := by
  obtain ⟨r1, r2⟩ := r
  have a1 : -9223372036854775808 ≤ x / d := by
    rw [Int.le_ediv_iff_mul_le (by omega)]; have := Int.mul_le_mul_of_nonpos_left (show (-9223372036854775808 : Int) ≤ 0 by omega) h1; omega
  have a2 : x / d < 9223372036854775808 := by
    rw [Int.ediv_lt_iff_lt_mul (by omega)]; have := Int.mul_le_mul_of_nonneg_left h1 (show (0 : Int) ≤ 9223372036854775808 by omega); omega
  have a3 : -9223372036854775807 ≤ -x / d := by
    rw [Int.le_ediv_iff_mul_le (by omega)]; have := Int.mul_le_mul_of_nonpos_left (show (-9223372036854775807 : Int) ≤ 0 by omega) h1; omega
  have a4 : -x / d < 9223372036854775809 := by
    rw [Int.ediv_lt_iff_lt_mul (by omega)]; have := Int.mul_le_mul_of_nonneg_left h1 (show (0 : Int) ≤ 9223372036854775809 by omega); omega
  exact ⟨⟨a1, by omega⟩, ⟨by omega, by omega⟩⟩

theorem sDiv (a b d : Int) (w : World) (n : NoneAt w) (ra : Fix.Room a) (rb : Fix.Room b) (rd : Fix.Room d) (h1 : 1 ≤ d) :
    Calls Tryd.prog 20 #[.agg #[.int .i64 a, .int .i64 b], .int .i64 d] w fun e w' => e = .returned (.tuple #[.agg #[.int .i64 (Sp.oL (Sp.up a d) (b / d)), .int .i64 (Sp.oH (Sp.up a d) (b / d))], .int .i64 0]) ∧ Below w.heap.size w w' := by
  refine sDiv_core a b d _ _ _ _ w h1 (Lib.hid fun w => ?_) (Lib.hid fun w => ?_) (Lib.hid fun w' B => of_any _ _ w' (n.keep B))
  · have c := Ceil_any a d w ra rd
    unfold Fix.ceilV Fix.ceilE at c
    rw [if_neg (by omega), if_neg (by omega), Fix.flr_pos (by omega), Fix.okV_in (quot_room ra h1).2, Fix.okE_in (quot_room ra h1).2] at c
    exact c.mono fun e w' h => ⟨h.1, let ⟨k, e⟩ := h.2; e ▸ belowN (Below.refl _ _) k⟩
  · have c := Floor_any b d w rb rd
    unfold Fix.floorV Fix.floorE at c
    rw [if_neg (by omega), if_neg (by omega), Fix.flr_pos (by omega), Fix.okV_in (quot_room rb h1).1, Fix.okE_in (quot_room rb h1).1] at c
    exact c.mono fun e w' h => ⟨h.1, let ⟨k, e⟩ := h.2; e ▸ belowN (Below.refl _ _) k⟩

end Go.Proofs.YtdembidbaojldaaDoor
