/- Plain arithmetic behind math/bits.Div64: one digit of the school method in base 2^32 (Knuth's D with two digits). No program is named here. -/
namespace Go.Proofs.Ytkjnjhdanbjmpaa.Num

theorem scaled (q n1 n0 : Nat) : q * (n1 * 4294967296 + n0) = q * n1 * 4294967296 + q * n0 := by
  rw [Nat.mul_add, Nat.mul_assoc]

theorem start_le (n1 n0 u d : Nat) (h1 : 2147483648 ≤ n1) (hd : d < 4294967296) :
    (u * 4294967296 + d) / (n1 * 4294967296 + n0) ≤ u / n1 := by
  rw [Nat.le_div_iff_mul_le (by omega)]
  have h := Nat.div_mul_le_self (u * 4294967296 + d) (n1 * 4294967296 + n0)
  generalize (u * 4294967296 + d) / (n1 * 4294967296 + n0) = Q at *
  rw [scaled] at h
  generalize Q * n1 = a at *
  generalize Q * n0 = b at *
  omega

theorem start_top (n1 n0 u : Nat) (h1 : 2147483648 ≤ n1) (h0 : n0 < 4294967296) (hu : u < n1 * 4294967296 + n0) : u / n1 ≤ 4294967296 + 1 := by
  have : u / n1 < 4294967296 + 2 := by
    rw [Nat.div_lt_iff_lt_mul (by omega)]
    omega
  omega

theorem top (n1 n0 u d : Nat) (hd : d < 4294967296) (hu : u < n1 * 4294967296 + n0) : (u * 4294967296 + d) / (n1 * 4294967296 + n0) < 4294967296 := by
  rw [Nat.div_lt_iff_lt_mul (by omega)]
  omega

theorem stop_le (n1 n0 u d q r : Nat) (hY : 0 < n1 * 4294967296 + n0) (hq : q * n1 + r = u) (hs : q * n0 ≤ 4294967296 * r + d) :
    q ≤ (u * 4294967296 + d) / (n1 * 4294967296 + n0) := by
  rw [Nat.le_div_iff_mul_le hY, scaled]
  generalize q * n1 = a at *
  generalize q * n0 = b at *
  omega

theorem go_lt (n1 n0 u d q r : Nat) (hd : d < 4294967296) (hu : u < n1 * 4294967296 + n0) (hq : q * n1 + r = u) (hs : 4294967296 ≤ q ∨ 4294967296 * r + d < q * n0) :
    (u * 4294967296 + d) / (n1 * 4294967296 + n0) < q := by
  rcases hs with hs | hs
  · have := top n1 n0 u d hd hu; omega
  · rw [Nat.div_lt_iff_lt_mul (by omega), scaled]
    generalize q * n1 = a at *
    generalize q * n0 = b at *
    omega

theorem brk_le (n0 d q r : Nat) (h0 : n0 < 4294967296) (hq : q ≤ 4294967296) (hr : 4294967296 ≤ r) : q * n0 ≤ 4294967296 * r + d := by
  have := Nat.mul_le_mul hq (Nat.le_of_lt (Nat.lt_of_lt_of_le h0 hr))
  omega

/-- one step down keeps the sum -/
theorem step_sum (q n1 r : Nat) (hq : 0 < q) : (q - 1) * n1 + (r + n1) = q * n1 + r := by
  obtain ⟨k, rfl⟩ : ∃ k, q = k + 1 := ⟨q - 1, by omega⟩
  rw [Nat.add_sub_cancel, Nat.add_mul]; omega

/-- what is left behind one digit -/
theorem left_lt (u d Y : Nat) (hY : 0 < Y) : (u * 4294967296 + d) - (u * 4294967296 + d) / Y * Y = (u * 4294967296 + d) % Y ∧ (u * 4294967296 + d) % Y < Y := by
  refine ⟨?_, Nat.mod_lt _ hY⟩
  have := Nat.div_add_mod (u * 4294967296 + d) Y
  rw [Nat.mul_comm] at this
  omega

theorem two_digits_of (b u d1 d0 Y : Nat) (hY : 0 < Y) :
    (u * b + d1) / Y * b + ((u * b + d1) % Y * b + d0) / Y = (u * (b * b) + (d1 * b + d0)) / Y
    ∧ ((u * b + d1) % Y * b + d0) % Y = (u * (b * b) + (d1 * b + d0)) % Y := by
  have e1 := Nat.div_add_mod (u * b + d1) Y
  have e2 := Nat.div_add_mod ((u * b + d1) % Y * b + d0) Y
  have l2 := Nat.mod_lt ((u * b + d1) % Y * b + d0) hY
  generalize (u * b + d1) / Y = q1 at *
  generalize (u * b + d1) % Y = r1 at *
  generalize (r1 * b + d0) / Y = q0 at *
  generalize (r1 * b + d0) % Y = r0 at *
  have e : u * (b * b) + (d1 * b + d0) = Y * (q1 * b + q0) + r0 := by
    have e3 : u * (b * b) + d1 * b = Y * q1 * b + r1 * b := by
      rw [← Nat.add_mul, e1, Nat.add_mul, Nat.mul_assoc]
    rw [Nat.mul_add, ← Nat.mul_assoc Y q1 b]
    omega
  rw [e]
  refine ⟨?_, ?_⟩
  · rw [Nat.mul_add_div hY, Nat.div_eq_of_lt l2]; omega
  · rw [Nat.mul_add_mod, Nat.mod_eq_of_lt l2]

/-- two digits one behind the other are the whole -/
theorem two_digits (u d1 d0 Y : Nat) (hY : 0 < Y) :
    (u * 4294967296 + d1) / Y * 4294967296 + ((u * 4294967296 + d1) % Y * 4294967296 + d0) / Y = (u * 18446744073709551616 + (d1 * 4294967296 + d0)) / Y
    ∧ ((u * 4294967296 + d1) % Y * 4294967296 + d0) % Y = (u * 18446744073709551616 + (d1 * 4294967296 + d0)) % Y := by
  have h := two_digits_of 4294967296 u d1 d0 Y hY
  rw [show (4294967296 * 4294967296 : Nat) = 18446744073709551616 from rfl] at h
  exact h

/-- scaled by the same power a quotient is the same, and what is left is scaled -/
theorem scale_div (n y s : Nat) : (n * 2 ^ s) / (y * 2 ^ s) = n / y ∧ (n * 2 ^ s) % (y * 2 ^ s) = (n % y) * 2 ^ s :=
  ⟨Nat.mul_div_mul_right _ _ (Nat.two_pow_pos s), Nat.mul_mod_mul_right _ _ _⟩

/-- the two halves of a number shifted up -/
theorem shifted (hi lo y s : Nat) (hs : s < 64) (hlo : lo < 18446744073709551616) (hhi : hi < y) (hy : y * 2 ^ s < 18446744073709551616) :
    hi * 2 ^ s + lo / 2 ^ (64 - s) < y * 2 ^ s
    ∧ (hi * 2 ^ s + lo / 2 ^ (64 - s)) * 18446744073709551616 + lo * 2 ^ s % 18446744073709551616 = (hi * 18446744073709551616 + lo) * 2 ^ s
    ∧ lo / 2 ^ (64 - s) < 2 ^ s ∧ hi * 2 ^ s < 18446744073709551616 := by
  have e64 : 2 ^ s * 2 ^ (64 - s) = 18446744073709551616 := by rw [← Nat.pow_add, show s + (64 - s) = 64 by omega]
  have hp := Nat.two_pow_pos (64 - s)
  have hp2 := Nat.two_pow_pos s
  have hd := Nat.div_add_mod lo (2 ^ (64 - s))
  have hl : lo / 2 ^ (64 - s) < 2 ^ s := by
    rw [Nat.div_lt_iff_lt_mul hp, e64]; exact hlo
  have hyh : hi * 2 ^ s + 2 ^ s ≤ y * 2 ^ s := by
    have := Nat.mul_le_mul_right (2 ^ s) (show hi + 1 ≤ y by omega)
    rw [Nat.add_mul] at this; omega
  have hm : lo * 2 ^ s % 18446744073709551616 = lo % 2 ^ (64 - s) * 2 ^ s := by
    rw [← e64, Nat.mul_comm (2 ^ s) (2 ^ (64 - s)), Nat.mul_mod_mul_right]
  refine ⟨by omega, ?_, hl, by omega⟩
  rw [hm, Nat.add_mul, Nat.add_mul, Nat.mul_assoc]
  rw [← e64]
  generalize hA : lo / 2 ^ (64 - s) = a at *
  generalize hR : lo % 2 ^ (64 - s) = r at *
  generalize hP : 2 ^ (64 - s) = p at *
  generalize hS : 2 ^ s = t at *
  rw [← hd, Nat.add_mul]
  have x1 : a * (t * p) = p * a * t := by rw [Nat.mul_comm t p, ← Nat.mul_assoc, Nat.mul_comm a p]
  have x2 : hi * (t * (t * p)) = hi * (t * p) * t := by rw [Nat.mul_assoc hi, Nat.mul_comm t (t * p)]
  omega

/-- or of a shifted number and one below it is their sum -/
theorem or_add (a s b : Nat) (h : b < 2 ^ s) : (a * 2 ^ s) ||| b = a * 2 ^ s + b := by
  rw [Nat.mul_comm, Nat.two_pow_add_eq_or_of_lt h]

end Go.Proofs.Ytkjnjhdanbjmpaa.Num
