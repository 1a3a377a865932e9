/- The small calls of package span. -/
import Derived.Test.YtdembidbaojldaaDoorMem
import Derived.Test.YtdembidbaojldaaDoorFixD
import Derived.Test.YtdembidbaojldaaDoorSpanNum
import Derived.Lib.MinMax
import Derived.Deep.RegionHeld3
namespace Go.Proofs.YtdembidbaojldaaDoor
open Go.RowKit

/-- the package's own empty span, as it is laid -/
structure NoneAt (w : World) : Prop where
  c0 : w.cell? ⟨0, 0, none⟩ = some (.int .i64 1)
  c1 : w.cell? ⟨0, 1, none⟩ = some (.int .i64 0)
theorem NoneAt.keep {w w' : World} (h : NoneAt w) (b : Below w.heap.size w w') : NoneAt w' := ⟨keepc b h.c0, keepc b h.c1⟩

theorem ret_s {a b c d : Int} (h : a = c) (g : b = d) : Ending.returned (.agg #[.int .i64 a, .int .i64 b]) = .returned (.agg #[.int .i64 c, .int .i64 d]) := by rw [h, g]
theorem ret_b {a b : Bool} (h : a = b) : Ending.returned (.bool a) = .returned (.bool b) := by rw [h]

theorem of_any (l h : Int) (w : World) (n : NoneAt w) :
    Calls Tryd.prog 23 #[.int .i64 l, .int .i64 h] w fun e w' => e = .returned (.agg #[.int .i64 (Sp.oL l h), .int .i64 (Sp.oH l h)]) ∧ Below w.heap.size w w' := by
  obtain ⟨n0, n1⟩ := n
  have m0 : ∀ o, (w.alloc o).cell? ⟨0, 0, none⟩ = some (.int .i64 1) := fun o => keepc (below1 w o) n0
  have m1 : ∀ o, (w.alloc o).cell? ⟨0, 1, none⟩ = some (.int .i64 0) := fun o => keepc (below1 w o) n1
  by_cases c : h < l
  · rw [Sp.oL_out c, Sp.oH_out c]
    go_enter Tryd.func23, Tryd.ntmps23
    go_wp2_with fail
    exact bodyPost_ret (v := .agg #[.int .i64 1, .int .i64 0]) (by simp [results, Tryd.results23, go_sem, *]) rfl ⟨rfl, below1 w _⟩
  · rw [Sp.oL_in c, Sp.oH_in c]
    go_enter Tryd.func23, Tryd.ntmps23
    go_wp2_with fail
    exact bodyPost_ret (v := .agg #[.int .i64 l, .int .i64 h]) (by simp [results, Tryd.results23, go_sem, *]) rfl ⟨rfl, below1 w _⟩

theorem Empty_any (l h : Int) (w : World) :
    Calls Tryd.prog 10 #[.agg #[.int .i64 l, .int .i64 h]] w fun e w' => e = .returned (.bool (decide (h < l))) ∧ Below w.heap.size w w' := by
  go_enter Tryd.func10, Tryd.ntmps10
  go_wp2
  go_ret
  exact ⟨rfl, below1 w _⟩

theorem Has_any (l h x : Int) (w : World) :
    Calls Tryd.prog 9 #[.agg #[.int .i64 l, .int .i64 h], .int .i64 x] w fun e w' => e = .returned (.bool (Sp.has l h x)) ∧ Below w.heap.size w w' := by
  unfold Sp.has
  by_cases c : l ≤ x
  · by_cases d : x ≤ h
    · rw [decide_eq_true (And.intro c d)]
      go_enter Tryd.func9, Tryd.ntmps9
      go_wp2
      go_ret
      exact ⟨rfl, below1 w _⟩
    · rw [decide_eq_false (fun e => d e.2)]
      go_enter Tryd.func9, Tryd.ntmps9
      go_wp2
      go_ret
      exact ⟨rfl, below1 w _⟩
  · rw [decide_eq_false (fun e => c e.1)]
    go_enter Tryd.func9, Tryd.ntmps9
    go_wp2
    go_ret
    exact ⟨rfl, below1 w _⟩

theorem Meet_any (a b c d : Int) (w : World) (n : NoneAt w) :
    Calls Tryd.prog 7 #[.agg #[.int .i64 a, .int .i64 b], .agg #[.int .i64 c, .int .i64 d]] w fun e w' => e = .returned (.agg #[.int .i64 (Sp.oL (max a c) (min b d)), .int .i64 (Sp.oH (max a c) (min b d))]) ∧ Below w.heap.size w w' := by
  have O : Hid (∀ w', Below w.heap.size w w' → Calls Tryd.prog 23 #[.int .i64 (max a c), .int .i64 (min b d)] w' fun e w'' => e = .returned (.agg #[.int .i64 (Sp.oL (max a c) (min b d)), .int .i64 (Sp.oH (max a c) (min b d))]) ∧ Below w'.heap.size w' w'') :=
    Lib.hid fun w' B => of_any _ _ w' (n.keep B)
  generalize Sp.oL (max a c) (min b d) = L at *
  generalize Sp.oH (max a c) (min b d) = H at *
  go_enter Tryd.func7, Tryd.ntmps7
  go_wp2_with fail
  refine (O.out _ (below3 w _ _ _)).mono ?_; rintro e w1 ⟨rfl, hb1⟩
  have B1 := belowT (below3 w _ _ _) hb1
  have X1 := (own2c w _ _ _ _ _).keep hb1; have X1a := X1.c0; have X1b := X1.c1; have X1c := X1.f0; have X1d := X1.f1; have X1l := X1.lt
  go_wp2_with fail
  exact bodyPost_ret (v := .agg #[.int .i64 L, .int .i64 H]) (by simp [results, Tryd.results7, go_sem, *]) rfl ⟨rfl, (B1.setCell (by simp; omega) _).setCell (by simp; omega) _⟩

theorem Hull_any (a b c d : Int) (w : World) (n : NoneAt w) :
    Calls Tryd.prog 8 #[.agg #[.int .i64 a, .int .i64 b], .agg #[.int .i64 c, .int .i64 d]] w fun e w' => e = .returned (.agg #[.int .i64 (Sp.hullL a b c d), .int .i64 (Sp.hullH a b c d)]) ∧ Below w.heap.size w w' := by
  have O : Hid (∀ w', Below w.heap.size w w' → Calls Tryd.prog 23 #[.int .i64 (min a c), .int .i64 (max b d)] w' fun e w'' => e = .returned (.agg #[.int .i64 (Sp.oL (min a c) (max b d)), .int .i64 (Sp.oH (min a c) (max b d))]) ∧ Below w'.heap.size w' w'') :=
    Lib.hid fun w' B => of_any _ _ w' (n.keep B)
  have E1 := Lib.hid (Empty_any a b)
  have E2 := Lib.hid (Empty_any c d)
  unfold Sp.hullL Sp.hullH
  by_cases h1 : b < a
  · rw [if_pos h1, if_pos h1]
    rw [decide_eq_true h1] at E1
    clear O E2 h1 n
    go_enter Tryd.func8, Tryd.ntmps8
    go_wp2_with fail
    refine (E1.out _).mono ?_; rintro e w1 ⟨rfl, hb1⟩
    have B1 := belowT (below3 w _ _ _) hb1
    have X1 := (own2c w _ _ _ _ _).keep hb1; have X1a := X1.c0; have X1b := X1.c1; have X1c := X1.f0; have X1d := X1.f1; have X1l := X1.lt
    have Y1 := ((own2b w _ _ _ _).more _).keep hb1; have Y1a := Y1.c0; have Y1b := Y1.c1; have Y1c := Y1.f0; have Y1d := Y1.f1; have Y1l := Y1.lt
    go_wp2_with fail
    exact bodyPost_ret (v := .agg #[.int .i64 c, .int .i64 d]) (by simp [results, Tryd.results8, go_sem, *]) rfl ⟨rfl, (B1.setCell (by simp; omega) _).setCell (by simp; omega) _⟩
  · rw [if_neg h1, if_neg h1]
    rw [decide_eq_false h1] at E1
    by_cases h2 : d < c
    · rw [if_pos h2, if_pos h2]
      rw [decide_eq_true h2] at E2
      clear O h1 h2 n
      go_enter Tryd.func8, Tryd.ntmps8
      go_wp2_with fail
      refine (E1.out _).mono ?_; rintro e w1 ⟨rfl, hb1⟩
      have B1 := belowT (below3 w _ _ _) hb1
      have X1 := (own2c w _ _ _ _ _).keep hb1; have X1a := X1.c0; have X1b := X1.c1; have X1c := X1.f0; have X1d := X1.f1; have X1l := X1.lt
      have Y1 := ((own2b w _ _ _ _).more _).keep hb1; have Y1a := Y1.c0; have Y1b := Y1.c1; have Y1c := Y1.f0; have Y1d := Y1.f1; have Y1l := Y1.lt
      have Z1 := (((own2 w _ _ _).more _).more _).keep hb1; have Z1a := Z1.c0; have Z1b := Z1.c1; have Z1c := Z1.f0; have Z1d := Z1.f1; have Z1l := Z1.lt
      go_wp2_with fail
      refine (E2.out _).mono ?_; rintro e w2 ⟨rfl, hb2⟩
      have B2 := belowT (B1) hb2
      have X2 := (X1).keep hb2; have X2a := X2.c0; have X2b := X2.c1; have X2c := X2.f0; have X2d := X2.f1; have X2l := X2.lt
      have Y2 := (Y1).keep hb2; have Y2a := Y2.c0; have Y2b := Y2.c1; have Y2c := Y2.f0; have Y2d := Y2.f1; have Y2l := Y2.lt
      have Z2 := (Z1).keep hb2; have Z2a := Z2.c0; have Z2b := Z2.c1; have Z2c := Z2.f0; have Z2d := Z2.f1; have Z2l := Z2.lt
      go_wp2_with fail
      exact bodyPost_ret (v := .agg #[.int .i64 a, .int .i64 b]) (by simp [results, Tryd.results8, go_sem, *]) rfl ⟨rfl, (B2.setCell (by simp; omega) _).setCell (by simp; omega) _⟩
    · rw [if_neg h2, if_neg h2]
      rw [decide_eq_false h2] at E2
      generalize Sp.oL (min a c) (max b d) = L at *
      generalize Sp.oH (min a c) (max b d) = H at *
      clear h1 h2 n
      go_enter Tryd.func8, Tryd.ntmps8
      go_wp2_with fail
      refine (E1.out _).mono ?_; rintro e w1 ⟨rfl, hb1⟩
      have B1 := belowT (below3 w _ _ _) hb1
      have X1 := (own2c w _ _ _ _ _).keep hb1; have X1a := X1.c0; have X1b := X1.c1; have X1c := X1.f0; have X1d := X1.f1; have X1l := X1.lt
      have Y1 := ((own2b w _ _ _ _).more _).keep hb1; have Y1a := Y1.c0; have Y1b := Y1.c1; have Y1c := Y1.f0; have Y1d := Y1.f1; have Y1l := Y1.lt
      have Z1 := (((own2 w _ _ _).more _).more _).keep hb1; have Z1a := Z1.c0; have Z1b := Z1.c1; have Z1c := Z1.f0; have Z1d := Z1.f1; have Z1l := Z1.lt
      go_wp2_with fail
      refine (E2.out _).mono ?_; rintro e w2 ⟨rfl, hb2⟩
      have B2 := belowT (B1) hb2
      have X2 := (X1).keep hb2; have X2a := X2.c0; have X2b := X2.c1; have X2c := X2.f0; have X2d := X2.f1; have X2l := X2.lt
      have Y2 := (Y1).keep hb2; have Y2a := Y2.c0; have Y2b := Y2.c1; have Y2c := Y2.f0; have Y2d := Y2.f1; have Y2l := Y2.lt
      have Z2 := (Z1).keep hb2; have Z2a := Z2.c0; have Z2b := Z2.c1; have Z2c := Z2.f0; have Z2d := Z2.f1; have Z2l := Z2.lt
      go_wp2_with fail
      refine (O.out _ B2).mono ?_; rintro e w3 ⟨rfl, hb3⟩
      have B3 := belowT (B2) hb3
      have X3 := (X2).keep hb3; have X3a := X3.c0; have X3b := X3.c1; have X3c := X3.f0; have X3d := X3.f1; have X3l := X3.lt
      have Y3 := (Y2).keep hb3; have Y3a := Y3.c0; have Y3b := Y3.c1; have Y3c := Y3.f0; have Y3d := Y3.f1; have Y3l := Y3.lt
      have Z3 := (Z2).keep hb3; have Z3a := Z3.c0; have Z3b := Z3.c1; have Z3c := Z3.f0; have Z3d := Z3.f1; have Z3l := Z3.lt
      go_wp2_with fail
      exact bodyPost_ret (v := .agg #[.int .i64 L, .int .i64 H]) (by simp [results, Tryd.results8, go_sem, *]) rfl ⟨rfl, (B3.setCell (by simp; omega) _).setCell (by simp; omega) _⟩

theorem less_core (a b v e g : Int) (w : World)
    (S : Hid (∀ w, Calls Tryd.prog 14 #[.int .i64 a, .int .i64 b] w fun e' w' => e' = .returned (.tuple #[.int .i64 v, .int .i64 e]) ∧ w = w'))
    (c : (e == 0) = true ∧ g = v ∨ (e == 0) = false ∧ 0 < b ∧ g = -9223372036854775808 ∨ (e == 0) = false ∧ decide (0 < b) = false ∧ g = 9223372036854775807) :
    Calls Tryd.prog 29 #[.int .i64 a, .int .i64 b] w fun e w' => e = .returned (.int .i64 g) ∧ w = w' := by
  rcases c with ⟨c1, rfl⟩ | ⟨c1, c2, rfl⟩ | ⟨c1, c2, rfl⟩
  all_goals
    go_enter Tryd.func29, Tryd.ntmps29
    go_wp2_with (go_at_call 14; refine (S.out _).mono ?_; rintro e w' ⟨rfl, rfl⟩)
    go_ret
    exact ⟨rfl, rfl⟩

theorem room_sat {x : Int} (h : Fix.Room x) : Sp.sat x = x := Sp.sat_in h

theorem less_any (a b : Int) (w : World) (ha : Fix.Room a) (hb : Fix.Room b) :
    Calls Tryd.prog 29 #[.int .i64 a, .int .i64 b] w fun e w' => e = .returned (.int .i64 (Sp.sat (a - b))) ∧ Below w.heap.size w w' := by
  refine (less_core a b _ _ (Sp.sat (a - b)) w (Lib.hid fun w => Sub_any a b w ha hb) ?_).mono fun e w' h => ⟨h.1, h.2 ▸ Below.refl _ _⟩
  rcases Fix.okE_cases (a - b) with ⟨e1, e2, e3⟩ | ⟨e1, e2, e3⟩
  · exact Or.inl ⟨by rw [e1]; rfl, by rw [e2]; exact room_sat e3⟩
  · unfold Fix.Room at e3
    obtain ⟨a1, a2⟩ := ha; obtain ⟨b1, b2⟩ := hb
    by_cases p : 0 < b
    · exact Or.inr (Or.inl ⟨by rw [e1]; rfl, p, by unfold Sp.sat; rw [if_pos (by omega)]⟩)
    · exact Or.inr (Or.inr ⟨by rw [e1]; rfl, decide_eq_false p, by unfold Sp.sat; rw [if_neg (by omega), if_pos (by omega)]⟩)

theorem times_core (a b v e g : Int) (w : World)
    (S : Hid (∀ w, Calls Tryd.prog 16 #[.int .i64 a, .int .i64 b] w fun e' w' => e' = .returned (.tuple #[.int .i64 v, .int .i64 e]) ∧ ∃ n, w' = w.drewN n))
    (c : (e == 0) = true ∧ g = v ∨ (e == 0) = false ∧ (!(decide (a < 0) == decide (b < 0))) = true ∧ g = -9223372036854775808 ∨ (e == 0) = false ∧ (!(decide (a < 0) == decide (b < 0))) = false ∧ g = 9223372036854775807) :
    Calls Tryd.prog 31 #[.int .i64 a, .int .i64 b] w fun e w' => e = .returned (.int .i64 g) ∧ Below w.heap.size w w' := by
  rcases c with ⟨c1, rfl⟩ | ⟨c1, c2, rfl⟩ | ⟨c1, c2, rfl⟩
  all_goals
    go_enter Tryd.func31, Tryd.ntmps31
    go_wp2_with (go_at_call 16; refine (S.out _).mono ?_; rintro e w' ⟨rfl, nq, rfl⟩)
    go_ret
    exact ⟨rfl, belowN (Below.refl _ _) _⟩

theorem times_any (a b : Int) (w : World) (ha : Fix.Room a) (hb : Fix.Room b) :
    Calls Tryd.prog 31 #[.int .i64 a, .int .i64 b] w fun e w' => e = .returned (.int .i64 (Sp.sat (a * b))) ∧ Below w.heap.size w w' := by
  refine times_core a b _ _ (Sp.sat (a * b)) w (Lib.hid fun w => Mul_any a b w ha hb) ?_
  rcases Fix.okE_cases (a * b) with ⟨e1, e2, e3⟩ | ⟨e1, e2, e3⟩
  · exact Or.inl ⟨by rw [e1]; rfl, by rw [e2]; exact room_sat e3⟩
  · have m := signed_mul a b
    unfold Fix.Room at e3
    generalize a.natAbs * b.natAbs = P at m
    by_cases p : (!(decide (a < 0) == decide (b < 0))) = true
    · rw [if_pos p] at m
      exact Or.inr (Or.inl ⟨by rw [e1]; rfl, p, by unfold Sp.sat; rw [if_pos (by omega)]⟩)
    · rw [if_neg p] at m
      exact Or.inr (Or.inr ⟨by rw [e1]; rfl, by simpa using p, by unfold Sp.sat; rw [if_neg (by omega), if_pos (by omega)]⟩)

end Go.Proofs.YtdembidbaojldaaDoor
