/- Layer 29's law: a number at most most away from 0 (Within). -/
import Derived.Test.YtkjkmnclnedfhaaDoorObLanA
namespace Go.Proofs.YtkjkmnclnedfhaaDoor
open Go.RowKit Obs

/-- a number at most m away from 0, told by any number -/
def wt (x m : Int) : Int := (IntKind.u64.wrap x).tmod (2 * m + 1) - m
theorem wt_in (x m : Int) (h : 0 ≤ m) : -m ≤ wt x m ∧ wt x m ≤ m := by
  have h0 : 0 ≤ IntKind.u64.wrap x := by rw [IntKind.wrap_u64]; omega
  have h1 := Int.tmod_lt_of_pos (IntKind.u64.wrap x) (show 0 < 2 * m + 1 by omega)
  have h2 := Int.tmod_nonneg (2 * m + 1) h0
  unfold wt
  omega
theorem Within_core (x m u q r : Int) (w : World) (hu : IntKind.u64.wrap x = u) (h0 : 0 ≤ m) (h1 : m ≤ 1073741824) (hq : 2 * m + 1 = q) (hr : u.tmod q = r) (r0 : 0 ≤ r) (r1 : r < q) :
    Calls Tryd.prog 6 #[.int .i64 x, .int .i64 m] w fun e w' => e = .returned (.int .i64 (r - m)) ∧ w = w' := by
  have e1 : IntKind.i64.wrap (2 * m) = 2 * m := (wrap_i64 _).trans (by omega)
  have e2 : IntKind.i64.wrap (2 * m + 1) = q := (wrap_i64 _).trans (by omega)
  have e3 : IntKind.u64.wrap q = q := by rw [IntKind.wrap_u64]; omega
  have e4 : IntKind.i64.wrap r = r := (wrap_i64 _).trans (by omega)
  have e5 : IntKind.i64.wrap (r - m) = r - m := (wrap_i64 _).trans (by omega)
  have q0 : (q == 0) = false := by simp; omega
  have q1 : ¬ q = 0 := by omega
  go_enter Tryd.func6, Tryd.ntmps6
  go_wp2
  go_ret
  exact ⟨rfl, rfl⟩
theorem Within_any (x m : Int) (w : World) (h0 : 0 ≤ m) (h1 : m ≤ 1073741824) :
    Calls Tryd.prog 6 #[.int .i64 x, .int .i64 m] w fun e w' => e = .returned (.int .i64 (wt x m)) ∧ w = w' := by
  have hw : 0 ≤ IntKind.u64.wrap x := by rw [IntKind.wrap_u64]; omega
  exact Within_core x m _ _ _ w rfl h0 h1 rfl rfl (Int.tmod_nonneg _ hw) (Int.tmod_lt_of_pos _ (by omega))
theorem Within_b (x m : Int) (w : World) (h0 : 0 ≤ m) (h1 : m ≤ 1073741824) :
    Calls Tryd.prog 6 #[.int .i64 x, .int .i64 m] w fun e w' => e = .returned (.int .i64 (wt x m)) ∧ Below w.heap.size w w' :=
  (Within_any x m w h0 h1).mono fun _ _ h => ⟨h.1, h.2 ▸ Below.refl _ _⟩
theorem Clamp_b (x l h : Int) (w : World) :
    Calls Tryd.prog 22 #[.int .i64 x, .int .i64 l, .int .i64 h] w fun e w' => e = .returned (.int .i64 (Fix.clamp x l h)) ∧ Below w.heap.size w w' :=
  (Clamp_any x l h w).mono fun _ _ h => ⟨h.1, h.2 ▸ Below.refl _ _⟩
end Go.Proofs.YtkjkmnclnedfhaaDoor
