
/- The small calls of package span. -/
import Derived.Test.YtkjkmnclnedfhaaDoorMem
import Derived.Test.YtkjkmnclnedfhaaDoorObSub
import Derived.Test.YtkjkmnclnedfhaaDoorSpanNum
import Derived.Lib.MinMax
import Derived.Deep.RegionHeld3
namespace Go.Proofs.YtkjkmnclnedfhaaDoor
open Go.RowKit

/-- the package's own empty span, as it is laid -/
structure NoneAt (w : World) : Prop where
  c0 : w.cell? ⟨0, 0, none⟩ = some (.int .i64 1)
  c1 : w.cell? ⟨0, 1, none⟩ = some (.int .i64 0)
theorem NoneAt.keep {w w' : World} (h : NoneAt w) (b : Below w.heap.size w w') : NoneAt w' := ⟨keepc b h.c0, keepc b h.c1⟩

theorem ret_s {a b c d : Int} (h : a = c) (g : b = d) : Ending.returned (.agg #[.int .i64 a, .int .i64 b]) = .returned (.agg #[.int .i64 c, .int .i64 d]) := by rw [h, g]
theorem ret_b {a b : Bool} (h : a = b) : Ending.returned (.bool a) = .returned (.bool b) := by rw [h]

theorem of_any (l h : Int) (w : World) (n : NoneAt w) :
    Calls Tryd.prog 36 #[.int .i64 l, .int .i64 h] w fun e w' => e = .returned (.agg #[.int .i64 (Sp.oL l h), .int .i64 (Sp.oH l h)]) ∧ Below w.heap.size w w' := by
  obtain ⟨n0, n1⟩ := n
  have m0 : ∀ o, (w.alloc o).cell? ⟨0, 0, none⟩ = some (.int .i64 1) := fun o => keepc (below1 w o) n0
  have m1 : ∀ o, (w.alloc o).cell? ⟨0, 1, none⟩ = some (.int .i64 0) := fun o => keepc (below1 w o) n1
  by_cases c : h < l
  · rw [Sp.oL_out c, Sp.oH_out c]
    go_enter Tryd.func36, Tryd.ntmps36
    go_wp2_with fail
    exact bodyPost_ret (v := .agg #[.int .i64 1, .int .i64 0]) (by simp [results, Tryd.results36, go_sem, *]) rfl ⟨rfl, below1 w _⟩
  · rw [Sp.oL_in c, Sp.oH_in c]
    go_enter Tryd.func36, Tryd.ntmps36
    go_wp2_with fail
    exact bodyPost_ret (v := .agg #[.int .i64 l, .int .i64 h]) (by simp [results, Tryd.results36, go_sem, *]) rfl ⟨rfl, below1 w _⟩

theorem Empty_any (l h : Int) (w : World) :
    Calls Tryd.prog 35 #[.agg #[.int .i64 l, .int .i64 h]] w fun e w' => e = .returned (.bool (decide (h < l))) ∧ Below w.heap.size w w' := by
  go_enter Tryd.func35, Tryd.ntmps35
  go_wp2
  go_ret
  exact ⟨rfl, below1 w _⟩

theorem Has_any (l h x : Int) (w : World) :
    Calls Tryd.prog 11 #[.agg #[.int .i64 l, .int .i64 h], .int .i64 x] w fun e w' => e = .returned (.bool (Sp.has l h x)) ∧ Below w.heap.size w w' := by
  unfold Sp.has
  by_cases c : l ≤ x
  · by_cases d : x ≤ h
    · rw [decide_eq_true (And.intro c d)]
      go_enter Tryd.func11, Tryd.ntmps11
      go_wp2
      go_ret
      exact ⟨rfl, below1 w _⟩
    · rw [decide_eq_false (fun e => d e.2)]
      go_enter Tryd.func11, Tryd.ntmps11
      go_wp2
      go_ret
      exact ⟨rfl, below1 w _⟩
  · rw [decide_eq_false (fun e => c e.1)]
    go_enter Tryd.func11, Tryd.ntmps11
    go_wp2
    go_ret
    exact ⟨rfl, below1 w _⟩

theorem Meet_any (a b c d : Int) (w : World) (n : NoneAt w) :
    Calls Tryd.prog 26 #[.agg #[.int .i64 a, .int .i64 b], .agg #[.int .i64 c, .int .i64 d]] w fun e w' => e = .returned (.agg #[.int .i64 (Sp.oL (max a c) (min b d)), .int .i64 (Sp.oH (max a c) (min b d))]) ∧ Below w.heap.size w w' := by
  have O : Hid (∀ w', Below w.heap.size w w' → Calls Tryd.prog 36 #[.int .i64 (max a c), .int .i64 (min b d)] w' fun e w'' => e = .returned (.agg #[.int .i64 (Sp.oL (max a c) (min b d)), .int .i64 (Sp.oH (max a c) (min b d))]) ∧ Below w'.heap.size w' w'') :=
    Lib.hid fun w' B => of_any _ _ w' (n.keep B)
  generalize Sp.oL (max a c) (min b d) = L at *
  generalize Sp.oH (max a c) (min b d) = H at *
  go_enter Tryd.func26, Tryd.ntmps26
  go_wp2_with fail
  refine (O.out _ (below3 w _ _ _)).mono ?_; rintro e w1 ⟨rfl, hb1⟩
  have B1 := belowT (below3 w _ _ _) hb1
  have X1 := (own2c w _ _ _ _ _).keep hb1; have X1a := X1.c0; have X1b := X1.c1; have X1c := X1.f0; have X1d := X1.f1; have X1l := X1.lt
  go_wp2_with fail
  exact bodyPost_ret (v := .agg #[.int .i64 L, .int .i64 H]) (by simp [results, Tryd.results26, go_sem, *]) rfl ⟨rfl, (B1.setCell (by simp; omega) _).setCell (by simp; omega) _⟩

theorem less_core (a b v e g : Int) (w : World)
    (S : Hid (∀ w, Calls Tryd.prog 41 #[.int .i64 a, .int .i64 b] w fun e' w' => e' = .returned (.tuple #[.int .i64 v, .int .i64 e]) ∧ w = w'))
    (c : (e == 0) = true ∧ g = v ∨ (e == 0) = false ∧ 0 < b ∧ g = -9223372036854775808 ∨ (e == 0) = false ∧ decide (0 < b) = false ∧ g = 9223372036854775807) :
    Calls Tryd.prog 37 #[.int .i64 a, .int .i64 b] w fun e w' => e = .returned (.int .i64 g) ∧ w = w' := by
  rcases c with ⟨c1, rfl⟩ | ⟨c1, c2, rfl⟩ | ⟨c1, c2, rfl⟩
  all_goals
    go_enter Tryd.func37, Tryd.ntmps37
    go_wp2_with (go_at_call 41; refine (S.out _).mono ?_; rintro e w' ⟨rfl, rfl⟩)
    go_ret
    exact ⟨rfl, rfl⟩

theorem room_sat {x : Int} (h : Fix.Room x) : Sp.sat x = x := Sp.sat_in h

theorem less_any (a b : Int) (w : World) (ha : Fix.Room a) (hb : Fix.Room b) :
    Calls Tryd.prog 37 #[.int .i64 a, .int .i64 b] w fun e w' => e = .returned (.int .i64 (Sp.sat (a - b))) ∧ Below w.heap.size w w' := by
  refine (less_core a b _ _ (Sp.sat (a - b)) w (Lib.hid fun w => Sub_any a b w ha hb) ?_).mono fun e w' h => ⟨h.1, h.2 ▸ Below.refl _ _⟩
  rcases Fix.okE_cases (a - b) with ⟨e1, e2, e3⟩ | ⟨e1, e2, e3⟩
  · exact Or.inl ⟨by rw [e1]; rfl, by rw [e2]; exact room_sat e3⟩
  · unfold Fix.Room at e3
    obtain ⟨a1, a2⟩ := ha; obtain ⟨b1, b2⟩ := hb
    by_cases p : 0 < b
    · exact Or.inr (Or.inl ⟨by rw [e1]; rfl, p, by unfold Sp.sat; rw [if_pos (by omega)]⟩)
    · exact Or.inr (Or.inr ⟨by rw [e1]; rfl, decide_eq_false p, by unfold Sp.sat; rw [if_neg (by omega), if_pos (by omega)]⟩)

end Go.Proofs.YtkjkmnclnedfhaaDoor
