/- WideSays: every input. -/
import Derived.Test.YtfgjkkabipmhhaaLawSays2
namespace Go.Proofs.Ytfgjkkabipmhhaa
open Go.RowKit

theorem says_any (h1 l1 h2 l2 n0 n1 n2 : Int) (w : World) (rh1 : Wd.R6 h1) (rl1 : 0 ≤ l1 ∧ l1 ≤ 18446744073709551615) (rh2 : Wd.R6 h2) (rl2 : 0 ≤ l2 ∧ l2 ≤ 18446744073709551615) (r0 : Wd.R6 n0) (r2 : Wd.R6 n2) :
    Calls Try.prog 3 #[.agg #[.int .i64 h1, .int .u64 l1], .agg #[.int .i64 h2, .int .u64 l2], .agg #[.int .i64 n0, .int .i64 n1, .int .i64 n2]] w fun e w' => e = .returned (.bool true) ∧ Below w.heap.size w w' := by
  obtain ⟨x1, x2, rx⟩ := Wd.of_halves h1 l1 rh1.1 rh1.2 rl1.1 rl1.2
  obtain ⟨y1, y2, ry⟩ := Wd.of_halves h2 l2 rh2.1 rh2.2 rl2.1 rl2.2
  generalize h1 * 18446744073709551616 + l1 = x at *
  generalize h2 * 18446744073709551616 + l2 = y at *
  subst x1 x2 y1 y2
  have nar : ∃ nv ne : Int, (∀ w, Calls Try.prog 7 #[.agg #[.int .i64 (Wd.hi x), .int .u64 (Wd.lo x)]] w fun e w' => e = .returned (.tuple #[.int .i64 nv, .int .i64 ne]) ∧ Below w.heap.size w w')
      ∧ (∀ w, Calls Try.prog 8 #[.agg #[.int .i64 (Wd.hi x), .int .u64 (Wd.lo x)]] w fun e w' => e = .returned (.tuple #[.int .i64 nv, .int .i64 ne]) ∧ Below w.heap.size w w') := by
    by_cases r : Wd.R6 x
    · exact ⟨x, 0, fun w => Narrow_in x w r, fun w => Ref.Narrow_in x w r⟩
    · exact ⟨0, 8, fun w => Narrow_out x w rx r, fun w => Ref.Narrow_out x w rx r⟩
  have div : ∃ q r e0 : Int, (∀ w, Calls Try.prog 9 #[.agg #[.int .i64 (Wd.hi x), .int .u64 (Wd.lo x)], .int .i64 n0] w fun e w' => e = .returned (.tuple #[.agg #[.int .i64 (Wd.hi q), .int .u64 (Wd.lo q)], .int .i64 r, .int .i64 e0]) ∧ Below w.heap.size w w')
      ∧ (∀ w, Calls Try.prog 10 #[.agg #[.int .i64 (Wd.hi x), .int .u64 (Wd.lo x)], .int .i64 n0] w fun e w' => e = .returned (.tuple #[.agg #[.int .i64 (Wd.hi q), .int .u64 (Wd.lo q)], .int .i64 r, .int .i64 e0]) ∧ Below w.heap.size w w') := by
    by_cases r : n0 < 1
    · exact ⟨0, 0, 1, fun w => Div_arg _ _ n0 w r, fun w => Ref.Div_arg _ _ n0 w r⟩
    · exact ⟨x / n0, x % n0, 0, fun w => Div_any x n0 w rx (by omega) r0.2, fun w => Ref.Div_any x n0 w rx (by omega) r0.2⟩
  have shf : ∃ s e0 : Int, (∀ w, Calls Try.prog 11 #[.agg #[.int .i64 (Wd.hi x), .int .u64 (Wd.lo x)], .int .i64 n1] w fun e w' => e = .returned (.tuple #[.agg #[.int .i64 (Wd.hi s), .int .u64 (Wd.lo s)], .int .i64 e0]) ∧ Below w.heap.size w w')
      ∧ (∀ w, Calls Try.prog 12 #[.agg #[.int .i64 (Wd.hi x), .int .u64 (Wd.lo x)], .int .i64 n1] w fun e w' => e = .returned (.tuple #[.agg #[.int .i64 (Wd.hi s), .int .u64 (Wd.lo s)], .int .i64 e0]) ∧ Below w.heap.size w w') := by
    by_cases r : n1 < 0 ∨ 127 < n1
    · exact ⟨0, 1, fun w => Shift_arg _ _ n1 w r, fun w => Ref.Shift_arg _ _ n1 w r⟩
    · exact ⟨x / 2 ^ n1.toNat, 0, fun w => Shift_any x n1 w rx (by omega) (by omega), fun w => Ref.Shift_any x n1 w rx (by omega) (by omega)⟩
  obtain ⟨nv, ne, N1, N2⟩ := nar
  obtain ⟨q, r, e0, D1, D2⟩ := div
  obtain ⟨s, e1, S1, S2⟩ := shf
  exact says_core _ _ _ _ n0 n1 n2 nv ne _ _ r e0 _ _ e1 _ _ _ _ _ _ _ _ _ _ w (Lib.hid N1) (Lib.hid N2) (Lib.hid D1) (Lib.hid D2) (Lib.hid S1) (Lib.hid S2)
    (Lib.hid fun w => Of_any n2 w r2) (Lib.hid fun w => Ref.Of_any n2 w r2) (Lib.hid fun w => Mul_any n0 n2 w r0 r2) (Lib.hid fun w => Ref.Mul_any n0 n2 w r0 r2)
    (Lib.hid fun w => Add_any x y w) (Lib.hid fun w => Ref.Add_any x y w) (Lib.hid fun w => Neg_any x w) (Lib.hid fun w => Ref.Neg_any x w)
    (Lib.hid fun w => Sign_any x w rx) (Lib.hid fun w => Ref.Sign_any x w rx) (Lib.hid fun w => Cmp_any x y w rx ry) (Lib.hid fun w => Ref.Cmp_any x y w rx ry) (Lib.hid fun w => awake_any w)

end Go.Proofs.Ytfgjkkabipmhhaa
