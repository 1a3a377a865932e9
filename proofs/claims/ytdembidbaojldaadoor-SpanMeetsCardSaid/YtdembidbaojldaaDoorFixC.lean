/- MulDiv of package fixq: a product by a divisor, exact also where the product has no room. -/
import Derived.Test.YtdembidbaojldaaDoorFixA
import Derived.Test.YtdembidbaojldaaDoorDiv
import Derived.Deep.RegionWith
namespace Go.Proofs.YtdembidbaojldaaDoor
open Go.RowKit

theorem MulDiv_arg (a b d : Int) (w : World) (h : d < 1) :
    Calls Tryd.prog 30 #[.int .i64 a, .int .i64 b, .int .i64 d] w fun e w' => e = .returned (.tuple #[.int .i64 0, .int .i64 1]) ∧ w = w' := by
  go_enter Tryd.func30, Tryd.ntmps30
  go_wp2
  go_ret2
  exact ⟨rfl, rfl⟩

theorem MulDiv_big (a b : Int) (x y h l d : Nat) (w : World)
    (Za : Hid (∀ w, Calls Tryd.prog 37 #[.int .i64 a] w fun e w' => e = .returned (.int .u64 (x : Int)) ∧ w = w'))
    (Zb : Hid (∀ w, Calls Tryd.prog 37 #[.int .i64 b] w fun e w' => e = .returned (.int .u64 (y : Int)) ∧ w = w'))
    (M : Hid (∀ w, Calls Tryd.prog 36 #[.int .u64 x, .int .u64 y] w fun e w' => e = .returned (.tuple #[.int .u64 (h : Int), .int .u64 (l : Int)]) ∧ w = w'))
    (d1 : (1 : Int) ≤ d) (d2 : (d : Int) ≤ 9223372036854775807) (hd : (d : Int) ≤ h) :
    Calls Tryd.prog 30 #[.int .i64 a, .int .i64 b, .int .i64 d] w fun e w' => e = .returned (.tuple #[.int .i64 0, .int .i64 8]) ∧ w = w' := by
  go_enter Tryd.func30, Tryd.ntmps30
  go_wp2_with (first | (go_at_call_of 37 (Value.int .i64 a); refine (Za.out _).mono ?_; rintro e w' ⟨rfl, rfl⟩) | (go_at_call_of 37 (Value.int .i64 b); refine (Zb.out _).mono ?_; rintro e w' ⟨rfl, rfl⟩) | (go_at_call 36; refine (M.out _).mono ?_; rintro e w' ⟨rfl, rfl⟩))
  go_ret2
  exact ⟨rfl, rfl⟩

set_option maxHeartbeats 400000 in
theorem MulDiv_core (a b : Int) (x y h l d q r : Nat) (V E : Int) (bl : Bool) (w : World)
    (Za : Hid (∀ w, Calls Tryd.prog 37 #[.int .i64 a] w fun e w' => e = .returned (.int .u64 (x : Int)) ∧ w = w'))
    (Zb : Hid (∀ w, Calls Tryd.prog 37 #[.int .i64 b] w fun e w' => e = .returned (.int .u64 (y : Int)) ∧ w = w'))
    (M : Hid (∀ w, Calls Tryd.prog 36 #[.int .u64 x, .int .u64 y] w fun e w' => e = .returned (.tuple #[.int .u64 (h : Int), .int .u64 (l : Int)]) ∧ w = w'))
    (D : Hid (∀ w, Calls Tryd.prog 38 #[.int .u64 h, .int .u64 l, .int .u64 d] w fun e w' => e = .returned (.tuple #[.int .u64 (q : Int), .int .u64 (r : Int)]) ∧ ∃ n, w' = w.drewN n))
    (G : Hid (∀ w, Calls Tryd.prog 39 #[.int .u64 q, .bool bl] w fun e w' => e = .returned (.tuple #[.int .i64 V, .int .i64 E]) ∧ w = w'))
    (d1 : (1 : Int) ≤ d) (d2 : (d : Int) ≤ 9223372036854775807) (hd : (h : Int) < d)
    (hbl : (!(decide (a < 0) == decide (b < 0))) = bl)
    (c : (E != 0) = true ∨ (E != 0) = false ∧ bl = false ∨ (E != 0) = false ∧ bl = true ∧ ((r : Int) == 0) = true) :
    Calls Tryd.prog 30 #[.int .i64 a, .int .i64 b, .int .i64 d] w fun e w' => e = .returned (.tuple #[.int .i64 V, .int .i64 E]) ∧ ∃ n, w' = w.drewN n := by
  rcases c with c | ⟨c, c2⟩ | ⟨c, c2, c3⟩
  all_goals try subst c2
  all_goals
    go_enter Tryd.func30, Tryd.ntmps30
    go_wp2_with (first | (go_at_call_of 37 (Value.int .i64 a); refine (Za.out _).mono ?_; rintro e w' ⟨rfl, rfl⟩) | (go_at_call_of 37 (Value.int .i64 b); refine (Zb.out _).mono ?_; rintro e w' ⟨rfl, rfl⟩) | (go_at_call 36; refine (M.out _).mono ?_; rintro e w' ⟨rfl, rfl⟩) | (go_at_call 38; refine (D.out _).mono ?_; rintro e w' ⟨rfl, nq, rfl⟩) | (go_at_call 39; refine (G.out _).mono ?_; rintro e w' ⟨rfl, rfl⟩))
    go_ret2
    exact ⟨rfl, _, rfl⟩

set_option maxHeartbeats 400000 in
theorem MulDiv_less (a b : Int) (x y h l d q r : Nat) (V U F : Int) (w : World)
    (Za : Hid (∀ w, Calls Tryd.prog 37 #[.int .i64 a] w fun e w' => e = .returned (.int .u64 (x : Int)) ∧ w = w'))
    (Zb : Hid (∀ w, Calls Tryd.prog 37 #[.int .i64 b] w fun e w' => e = .returned (.int .u64 (y : Int)) ∧ w = w'))
    (M : Hid (∀ w, Calls Tryd.prog 36 #[.int .u64 x, .int .u64 y] w fun e w' => e = .returned (.tuple #[.int .u64 (h : Int), .int .u64 (l : Int)]) ∧ w = w'))
    (D : Hid (∀ w, Calls Tryd.prog 38 #[.int .u64 h, .int .u64 l, .int .u64 d] w fun e w' => e = .returned (.tuple #[.int .u64 (q : Int), .int .u64 (r : Int)]) ∧ ∃ n, w' = w.drewN n))
    (G : Hid (∀ w, Calls Tryd.prog 39 #[.int .u64 q, .bool true] w fun e w' => e = .returned (.tuple #[.int .i64 V, .int .i64 0]) ∧ w = w'))
    (S : Hid (∀ w, Calls Tryd.prog 14 #[.int .i64 V, .int .i64 1] w fun e w' => e = .returned (.tuple #[.int .i64 U, .int .i64 F]) ∧ w = w'))
    (d1 : (1 : Int) ≤ d) (d2 : (d : Int) ≤ 9223372036854775807) (hd : (h : Int) < d)
    (hbl : (!(decide (a < 0) == decide (b < 0))) = true) (c : ((r : Int) == 0) = false) :
    Calls Tryd.prog 30 #[.int .i64 a, .int .i64 b, .int .i64 d] w fun e w' => e = .returned (.tuple #[.int .i64 U, .int .i64 F]) ∧ ∃ n, w' = w.drewN n := by
  go_enter Tryd.func30, Tryd.ntmps30
  go_wp2_with (first | (go_at_call_of 37 (Value.int .i64 a); refine (Za.out _).mono ?_; rintro e w' ⟨rfl, rfl⟩) | (go_at_call_of 37 (Value.int .i64 b); refine (Zb.out _).mono ?_; rintro e w' ⟨rfl, rfl⟩) | (go_at_call 36; refine (M.out _).mono ?_; rintro e w' ⟨rfl, rfl⟩) | (go_at_call 38; refine (D.out _).mono ?_; rintro e w' ⟨rfl, nq, rfl⟩) | (go_at_call 39; refine (G.out _).mono ?_; rintro e w' ⟨rfl, rfl⟩) | (go_at_call 14; refine (S.out _).mono ?_; rintro e w' ⟨rfl, rfl⟩))
  go_ret2
  exact ⟨rfl, _, rfl⟩

/-- a quotient of a size, with its sign put back, rounded down -/
theorem down_of (P d : Nat) (hd : 0 < d) : (-(P : Int)) / (d : Int) = if P % d = 0 then -((P / d : Nat) : Int) else -((P / d : Nat) : Int) - 1 := by
  have e := Nat.div_add_mod P d
  have l := Nat.mod_lt P hd
  rw [← Fix.flr_pos (show (0 : Int) < d by omega)]
  rw [Nat.mul_comm] at e
  generalize P / d = q at *
  generalize P % d = r at *
  have e' : (P : Int) = q * d + r := by rw [← Int.natCast_mul, ← Int.natCast_add, e]
  by_cases z : r = 0
  · rw [if_pos z]
    refine Fix.flr_eq (by omega) (fun _ => ?_) (fun n => by omega)
    rw [Int.neg_mul]
    generalize (q : Int) * d = X at *
    omega
  · rw [if_neg z]
    refine Fix.flr_eq (by omega) (fun _ => ?_) (fun n => by omega)
    rw [Int.sub_mul, Int.neg_mul, Int.one_mul]
    generalize (q : Int) * d = X at *
    omega

theorem signed_mul (a b : Int) : a * b = if (!(decide (a < 0) == decide (b < 0))) then -((a.natAbs * b.natAbs : Nat) : Int) else ((a.natAbs * b.natAbs : Nat) : Int) := by
  have ha : a < 0 → a = -(a.natAbs : Int) := by omega
  have ha' : ¬ a < 0 → a = (a.natAbs : Int) := by omega
  have hb : b < 0 → b = -(b.natAbs : Int) := by omega
  have hb' : ¬ b < 0 → b = (b.natAbs : Int) := by omega
  rw [Int.natCast_mul]
  by_cases p : a < 0 <;> by_cases q : b < 0
  · rw [if_neg (by simp [p, q])]
    conv => lhs; rw [ha p, hb q]
    exact Int.neg_mul_neg _ _
  · rw [if_pos (by simp [p, q])]
    conv => lhs; rw [ha p, hb' q]
    exact Int.neg_mul _ _
  · rw [if_pos (by simp [p, q])]
    conv => lhs; rw [ha' p, hb q]
    exact Int.mul_neg _ _
  · rw [if_neg (by simp [p, q])]
    conv => lhs; rw [ha' p, hb' q]

theorem MulDiv_any (a b d : Int) (w : World) (ha : Fix.Room a) (hb : Fix.Room b) (hd : Fix.Room d) :
    Calls Tryd.prog 30 #[.int .i64 a, .int .i64 b, .int .i64 d] w fun e w' => e = .returned (.tuple #[.int .i64 (Fix.mulDivV a b d), .int .i64 (Fix.mulDivE a b d)]) ∧ ∃ n, w' = w.drewN n := by
  unfold Fix.mulDivV Fix.mulDivE
  by_cases h : d < 1
  · rw [if_pos h, if_pos h]
    exact (MulDiv_arg a b d w h).mono fun e w' h => ⟨h.1, 0, h.2.symm⟩
  rw [if_neg h, if_neg h]
  obtain ⟨n, rfl⟩ : ∃ n : Nat, d = n := ⟨d.toNat, by omega⟩
  have hn : (n : Int) ≤ 9223372036854775807 := hd.2
  have Za := Lib.hid fun w => size_any a w ha
  have Zb := Lib.hid fun w => size_any b w hb
  have hx : a.natAbs < 18446744073709551616 := by have := ha.1; have := ha.2; omega
  have hy : b.natAbs < 18446744073709551616 := by have := hb.1; have := hb.2; omega
  have M := Lib.hid fun w => Mul64_any a.natAbs b.natAbs hx hy w
  have hm := signed_mul a b
  obtain ⟨P, hP⟩ : ∃ P, P = a.natAbs * b.natAbs := ⟨_, rfl⟩
  rw [← hP] at M hm
  have hdm := Nat.div_add_mod P 18446744073709551616
  have hlt := Nat.mod_lt P (show 0 < 18446744073709551616 by omega)
  by_cases hbig : (n : Int) ≤ (P / 18446744073709551616 : Nat)
  · have c := MulDiv_big a b _ _ _ _ n w Za Zb M (by omega) hn hbig
    have hq : n * 18446744073709551616 ≤ P := by omega
    have hq2 : 18446744073709551616 ≤ P / n := by
      rw [Nat.le_div_iff_mul_le (by omega)]; omega
    have nr : ¬ Fix.Room (a * b / n) := by
      intro r
      obtain ⟨r1, r2⟩ := r
      rw [hm] at r1 r2
      by_cases bl : (!(decide (a < 0) == decide (b < 0))) = true
      · rw [if_pos bl, down_of P n (by omega)] at r1
        split at r1 <;> omega
      · rw [if_neg bl, ← Int.natCast_ediv] at r2
        omega
    rw [Fix.okV_out nr, Fix.okE_out nr]
    exact c.mono fun e w' h => ⟨h.1, 0, h.2.symm⟩
  · have D := Lib.hid fun w => Div64_any (P / 18446744073709551616) (P % 18446744073709551616) n hlt (by omega) (by omega) w
    rw [show P / 18446744073709551616 * 18446744073709551616 + P % 18446744073709551616 = P by omega] at D
    have hq : P / n < 18446744073709551616 := by
      rw [Nat.div_lt_iff_lt_mul (by omega)]; omega
    by_cases bl : (!(decide (a < 0) == decide (b < 0))) = true
    · rw [if_pos bl] at hm
      rw [hm, down_of P n (by omega)]
      have G := Lib.hid fun w => signed_any (P / n) true w hq
      simp only [if_true] at G
      by_cases z : P % n = 0
      · rw [if_pos z]
        rcases Fix.okE_cases (-((P / n : Nat) : Int)) with ⟨e1, e2, e3⟩ | ⟨e1, e2, e3⟩
        · exact MulDiv_core a b _ _ _ _ n _ _ _ _ true w Za Zb M D G (by omega) hn (by omega) bl (Or.inr (Or.inr ⟨by rw [e1]; rfl, rfl, by rw [z]; rfl⟩))
        · exact MulDiv_core a b _ _ _ _ n _ _ _ _ true w Za Zb M D G (by omega) hn (by omega) bl (Or.inl (by rw [e1]; rfl))
      · rw [if_neg z]
        rcases Fix.okE_cases (-((P / n : Nat) : Int)) with ⟨e1, e2, e3⟩ | ⟨e1, e2, e3⟩
        · rw [e1, e2] at G
          have S := Lib.hid fun w => Sub_any (-((P / n : Nat) : Int)) 1 w e3 ⟨by omega, by omega⟩
          exact MulDiv_less a b _ _ _ _ n _ _ _ _ _ w Za Zb M D G S (by omega) hn (by omega) bl (by rw [beq_eq_false_iff_ne]; omega)
        · have c := MulDiv_core a b _ _ _ _ n _ _ _ _ true w Za Zb M D G (by omega) hn (by omega) bl (Or.inl (by rw [e1]; rfl))
          rw [e1, e2] at c
          have np : (0 : Int) ≤ ((P / n : Nat) : Int) := Int.natCast_nonneg _
          have nr : ¬ Fix.Room (-((P / n : Nat) : Int) - 1) := fun r => e3 ⟨by have := r.1; omega, by omega⟩
          rw [Fix.okV_out nr, Fix.okE_out nr]; exact c
    · rw [if_neg bl] at hm
      have bl' : (!(decide (a < 0) == decide (b < 0))) = false := by simpa using bl
      rw [hm, ← Int.natCast_ediv]
      have G := Lib.hid fun w => signed_any (P / n) false w hq
      simp only [Bool.false_eq_true, if_false] at G
      rcases Fix.okE_cases ((P / n : Nat) : Int) with ⟨e1, e2, e3⟩ | ⟨e1, e2, e3⟩
      · exact MulDiv_core a b _ _ _ _ n _ _ _ _ false w Za Zb M D G (by omega) hn (by omega) bl' (Or.inr (Or.inl ⟨by rw [e1]; rfl, rfl⟩))
      · exact MulDiv_core a b _ _ _ _ n _ _ _ _ false w Za Zb M D G (by omega) hn (by omega) bl' (Or.inl (by rw [e1]; rfl))

end Go.Proofs.YtdembidbaojldaaDoor
