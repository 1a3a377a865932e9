
/- Quotients of package wide: split, Div. -/
import Derived.Test.YtkjnjhdanbjmpaaRgWA
import Derived.Test.YtkjnjhdanbjmpaaRgDiv
import Derived.Deep.RegionHeld3
namespace Go.Proofs.Ytkjnjhdanbjmpaa
open Go.RowKit

theorem quot_nat (b H L d : Nat) (hd : 0 < d) :
    H / d * b + (H % d * b + L) / d = (H * b + L) / d ∧ (H % d * b + L) % d = (H * b + L) % d := by
  have h := Num.two_digits_of b 0 H L d hd
  simp only [Nat.zero_mul, Nat.zero_add] at h
  exact h

theorem quot_int (b H L d : Nat) (hd : 0 < d) :
    ((H : Int) * (b : Int) + (L : Int)) / (d : Int) = ((H / d : Nat) : Int) * (b : Int) + (((H % d * b + L) / d : Nat) : Int)
    ∧ ((H : Int) * (b : Int) + (L : Int)) % (d : Int) = (((H % d * b + L) % d : Nat) : Int) := by
  obtain ⟨q1, q2⟩ := quot_nat b H L d hd
  have e : (H : Int) * (b : Int) + (L : Int) = ((H * b + L : Nat) : Int) := by push_cast; rfl
  rw [e, ← Int.natCast_ediv, ← Int.natCast_emod, ← q1, q2]
  exact ⟨by push_cast; rfl, rfl⟩

theorem big_cast : ((18446744073709551616 : Nat) : Int) = 18446744073709551616 := rfl

theorem split_core (h l d qh r ql s : Int) (w : World)
    (D1 : Hid (∀ w, Calls Try.prog 36 #[.int .u64 0, .int .u64 (IntKind.u64.wrap h), .int .u64 d] w fun e w' => e = .returned (.tuple #[.int .u64 qh, .int .u64 r]) ∧ ∃ n, w' = w.drewN n))
    (D2 : Hid (∀ w, Calls Try.prog 36 #[.int .u64 r, .int .u64 l, .int .u64 d] w fun e w' => e = .returned (.tuple #[.int .u64 ql, .int .u64 s]) ∧ ∃ n, w' = w.drewN n)) :
    Calls Try.prog 27 #[.agg #[.int .i64 h, .int .u64 l], .int .u64 d] w fun e w' => e = .returned (.tuple #[.agg #[.int .i64 (wrap64 qh), .int .u64 ql], .int .u64 s]) ∧ Below w.heap.size w w' := by
  go_enter Try.func27, Try.ntmps27
  go_wp2_with fail
  refine (D1.out _).mono ?_; rintro e w1 ⟨rfl, n1, rfl⟩
  go_wp2_with fail
  refine (D2.out _).mono ?_; rintro e w2 ⟨rfl, n2, rfl⟩
  go_wp2_with fail
  exact bodyPost_ret (v := .tuple #[.agg #[.int .i64 (wrap64 qh), .int .u64 ql], .int .u64 s]) (by simp [results, Try.results27, go_sem]) rfl ⟨rfl, ((belowN (below2 w _ _) _).setCell (by simp) _).setCell (by simp) _⟩

theorem quo_lt (H L d : Nat) (hd : 0 < d) (hm : H % d < d) (hl : L < 18446744073709551616) : (H % d * 18446744073709551616 + L) / d < 18446744073709551616 := by
  rw [Nat.div_lt_iff_lt_mul hd]
  have := Nat.mul_le_mul_right 18446744073709551616 (show H % d + 1 ≤ d by omega)
  omega

theorem split_mid (H L d P T Q R : Nat) (w : World) (x : Int) (hL : L < 18446744073709551616) (hQ : Q < 18446744073709551616) (hH : H < 18446744073709551616)
    (hx : x = (H : Int) * 18446744073709551616 + L) (eq : x / (d : Int) = (P : Int) * 18446744073709551616 + Q) (er : x % (d : Int) = (R : Int))
    (k1 : ∀ w, Calls Try.prog 36 #[.int .u64 0, .int .u64 H, .int .u64 d] w fun e w' => e = .returned (.tuple #[.int .u64 P, .int .u64 T]) ∧ ∃ n, w' = w.drewN n)
    (k2 : ∀ w, Calls Try.prog 36 #[.int .u64 T, .int .u64 L, .int .u64 d] w fun e w' => e = .returned (.tuple #[.int .u64 Q, .int .u64 R]) ∧ ∃ n, w' = w.drewN n) :
    Calls Try.prog 27 #[.agg #[.int .i64 (Wd.hi x), .int .u64 (Wd.lo x)], .int .u64 d] w fun e w' => e = .returned (.tuple #[.agg #[.int .i64 (Wd.hi (x / d)), .int .u64 (Wd.lo (x / d))], .int .u64 (x % d)]) ∧ Below w.heap.size w w' := by
  have hl : Wd.lo x = (L : Int) := by unfold Wd.lo; omega
  have hh : IntKind.u64.wrap (Wd.hi x) = (H : Int) := by rw [wrap_u]; unfold Wd.hi; omega
  have c := split_core (Wd.hi x) (L : Int) (d : Int) (P : Int) (T : Int) (Q : Int) (R : Int) w (Lib.hid fun w => by rw [hh]; exact k1 w) (Lib.hid k2)
  rw [hl, eq, er]
  obtain ⟨m1, m2⟩ := Wd.hi_mk (P : Int) (Q : Int) (by omega) (by omega)
  rw [m1, m2, ← wrap_i]
  exact c

theorem split_nat (H L d : Nat) (w : World) (hH : H < 18446744073709551616) (hL : L < 18446744073709551616) (hd : 0 < d) (hd1 : d < 18446744073709551616) (x : Int) (hx : x = (H : Int) * 18446744073709551616 + L) :
    Calls Try.prog 27 #[.agg #[.int .i64 (Wd.hi x), .int .u64 (Wd.lo x)], .int .u64 d] w fun e w' => e = .returned (.tuple #[.agg #[.int .i64 (Wd.hi (x / d)), .int .u64 (Wd.lo (x / d))], .int .u64 (x % d)]) ∧ Below w.heap.size w w' := by
  obtain ⟨q1, q2⟩ := quot_int 18446744073709551616 H L d hd
  rw [big_cast, ← hx] at q1 q2
  have hm := Nat.mod_lt H hd
  have k1 := Div64_any 0 H d hH hd1 hd
  rw [Nat.zero_mul, Nat.zero_add] at k1
  exact split_mid H L d _ _ _ _ w x hL (quo_lt H L d hd hm hL) hH hx q1 q2 k1 (Div64_any (H % d) L d hL hd1 hm)

/-- split of a number without sign -/
theorem split_any (x d : Int) (w : World) (h0 : 0 ≤ x) (hx : x ≤ 340282366920938463463374607431768211455) (hd : 1 ≤ d) (hd1 : d ≤ 18446744073709551615) :
    Calls Try.prog 27 #[.agg #[.int .i64 (Wd.hi x), .int .u64 (Wd.lo x)], .int .u64 d] w fun e w' => e = .returned (.tuple #[.agg #[.int .i64 (Wd.hi (x / d)), .int .u64 (Wd.lo (x / d))], .int .u64 (x % d)]) ∧ Below w.heap.size w w' := by
  have c := split_nat (x / 18446744073709551616).toNat (x % 18446744073709551616).toNat d.toNat w (by omega) (by omega) (by omega) (by omega) x (by omega)
  rw [show ((d.toNat : Nat) : Int) = d by omega] at c
  exact c

end Go.Proofs.Ytkjnjhdanbjmpaa
