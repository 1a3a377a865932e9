
/- The document's own long division: bit by bit. -/
import Derived.Test.YtkjnjhdanbjmpaaRgRA
import Derived.Test.YtkjnjhdanbjmpaaNum
import Derived.LoopTactic
namespace Go.Proofs.Ytkjnjhdanbjmpaa.Ref
open Go.RowKit Go.Proofs.Ytkjnjhdanbjmpaa

/-- Behind all bits from k on: the quotient so far, in two halves, and what is left. -/
def St (X d k qh ql r : Nat) : Prop := ql < 18446744073709551616 ∧ r < d ∧ (qh * 18446744073709551616 + ql) * d + r = X / 2 ^ k

theorem bit_next (X k : Nat) : X / 2 ^ k = 2 * (X / 2 ^ (k + 1)) + X / 2 ^ k % 2 := by
  have e : X / 2 ^ (k + 1) = X / 2 ^ k / 2 := by rw [Nat.pow_succ, Nat.div_div_eq_div_mul]
  omega

theorem St.step {X d k qh ql r b : Nat} (c : Nat) (h : St X d (k + 1) qh ql r) (hb : b = X / 2 ^ k % 2) (qh2 ql2 r2 : Nat) (q : qh2 * 18446744073709551616 + ql2 = 2 * (qh * 18446744073709551616 + ql) + c)
    (hl : ql2 < 18446744073709551616) (hr : r2 < d) (hs : c * d + r2 = 2 * r + b) : St X d k qh2 ql2 r2 := by
  obtain ⟨h1, h2, h3⟩ := h
  refine ⟨hl, hr, ?_⟩
  rw [q, Nat.add_mul, Nat.mul_assoc, bit_next X k, ← hb, ← h3]
  generalize (qh * 18446744073709551616 + ql) * d = D at *
  omega

theorem St.high {H L d k qh ql r : Nat} (h : St (H * 18446744073709551616 + L) d (k + 1) qh ql r) (hH : H < 18446744073709551616) (hL : L < 18446744073709551616) (hd : 0 < d) : qh < 9223372036854775808 := by
  obtain ⟨_, _, h3⟩ := h
  have e : (H * 18446744073709551616 + L) / 2 ^ (k + 1) ≤ (H * 18446744073709551616 + L) / 2 := by
    have : 2 ≤ 2 ^ (k + 1) := by have := Nat.two_pow_pos k; rw [Nat.pow_succ]; omega
    exact Nat.div_le_div_left this (by omega)
  have g : (qh * 18446744073709551616 + ql) * 1 ≤ (qh * 18446744073709551616 + ql) * d := Nat.mul_le_mul_left _ hd
  omega

theorem bit_low (H L i : Nat) (hi : i < 64) : (H * 18446744073709551616 + L) / 2 ^ i % 2 = L / 2 ^ i % 2 := by
  have e : (18446744073709551616 : Nat) = 2 ^ (63 - i) * 2 * 2 ^ i := by
    rw [Nat.mul_assoc, ← Nat.pow_succ', ← Nat.pow_add, show 63 - i + (i + 1) = 64 by omega]
  rw [e, ← Nat.mul_assoc, ← Nat.mul_assoc, Nat.add_comm, Nat.add_mul_div_right _ _ (Nat.two_pow_pos i), Nat.add_mul_mod_self_right]

theorem bit_high (H L i : Nat) (hL : L < 18446744073709551616) : (H * 18446744073709551616 + L) / 2 ^ (i + 64) % 2 = H / 2 ^ i % 2 := by
  rw [Nat.add_comm i 64, Nat.pow_add, ← Nat.div_div_eq_div_mul, show (2 ^ 64 : Nat) = 18446744073709551616 by decide]
  rw [show (H * 18446744073709551616 + L) / 18446744073709551616 = H by omega]

theorem and_one (v : Nat) (hv : v < 18446744073709551616) : bits .and .u64 (v : Int) 1 = ((v % 2 : Nat) : Int) := by
  have h := bits_and_u64_nat v 1 hv (by omega)
  rw [Nat.and_one_is_mod] at h
  exact h

theorem or_twice (a b : Nat) (hb : b < 2) (ha : a < 9223372036854775808) : bits .or .u64 ((a * 2 : Nat) : Int) (b : Int) = ((a * 2 + b : Nat) : Int) := by
  have e := Num.or_add a 1 b hb
  rw [Nat.pow_one] at e
  rw [bits_or_u64_nat _ _ (by omega) (by omega), e]

theorem st_start (H L d : Nat) (hH : H < 18446744073709551616) (hL : L < 18446744073709551616) (hd : 0 < d) : St (H * 18446744073709551616 + L) d 128 0 0 0 := by
  have e : (H * 18446744073709551616 + L) / 2 ^ 128 = 0 := by
    rw [show 128 = 64 + 64 by decide, Nat.pow_add, ← Nat.div_div_eq_div_mul, show (2 ^ 64 : Nat) = 18446744073709551616 by decide]
    rw [show (H * 18446744073709551616 + L) / 18446744073709551616 = H by omega]
    exact Nat.div_eq_of_lt hH
  exact ⟨by omega, hd, by rw [e]; simp⟩

/-- what a round computes: all its values, spelled as the walk spells them -/
structure Round (d qh ql r b o r2 qh2 ql2 ql3 r3 : Nat) : Prop where
  eo : (r : Int) / 9223372036854775808 = (o : Int)
  er : bits .or .u64 (IntKind.u64.wrap ((r : Int) * 2)) (b : Int) = (r2 : Int)
  eq : bits .or .u64 (IntKind.u64.wrap ((qh : Int) * 2)) ((ql : Int) / 9223372036854775808) = (qh2 : Int)
  el : IntKind.u64.wrap ((ql : Int) * 2) = (ql2 : Int)
  e3 : bits .or .u64 (ql2 : Int) 1 = (ql3 : Int)
  es : IntKind.u64.wrap ((r2 : Int) - (d : Int)) = (r3 : Int)
  bo : o ≤ 1
  b2 : r2 < 18446744073709551616
  bl : ql2 < 18446744073709551616
  br : r3 < 18446744073709551616

theorem round_of (d qh ql r b : Nat) (hd1 : d < 18446744073709551616) (hr : r < d) (hb : b < 2) (hq : qh < 9223372036854775808) (hl : ql < 18446744073709551616) :
    ∃ o r2 qh2 ql2 ql3 r3 : Nat, Round d qh ql r b o r2 qh2 ql2 ql3 r3 ∧ qh2 = qh * 2 + ql / 9223372036854775808 ∧ ql2 = ql * 2 % 18446744073709551616 ∧ ql3 = ql2 + 1 ∧ ql3 < 18446744073709551616
      ∧ ((o = 1 ∨ d ≤ r2) → r3 + d = 2 * r + b) ∧ (¬ (o = 1 ∨ d ≤ r2) → r2 = 2 * r + b) := by
  refine ⟨r / 9223372036854775808, r % 9223372036854775808 * 2 + b, qh * 2 + ql / 9223372036854775808, ql % 9223372036854775808 * 2, ql % 9223372036854775808 * 2 + 1,
    (r % 9223372036854775808 * 2 + b + 18446744073709551616 - d) % 18446744073709551616, ⟨by omega, ?_, ?_, ?_, ?_, ?_, by omega, by omega, by omega, by omega⟩, rfl, by omega, rfl, by omega, ?_, ?_⟩
  · rw [show IntKind.u64.wrap ((r : Int) * 2) = ((r % 9223372036854775808 * 2 : Nat) : Int) by rw [IntKind.wrap_u64]; omega]
    exact or_twice _ b hb (by omega)
  · rw [show IntKind.u64.wrap ((qh : Int) * 2) = ((qh * 2 : Nat) : Int) by rw [IntKind.wrap_u64]; omega, show (ql : Int) / 9223372036854775808 = ((ql / 9223372036854775808 : Nat) : Int) by omega]
    exact or_twice qh _ (by omega) hq
  · rw [IntKind.wrap_u64]; omega
  · exact or_twice _ 1 (by omega) (by omega)
  · rw [IntKind.wrap_u64]; omega
  · omega
  · omega

theorem St.one {X d k qh ql r b o r2 qh2 ql2 ql3 r3 : Nat} (h : St X d (k + 1) qh ql r) (hb : b = X / 2 ^ k % 2) (g1 : qh2 = qh * 2 + ql / 9223372036854775808) (g2 : ql2 = ql * 2 % 18446744073709551616) (g3 : ql3 = ql2 + 1)
    (g4 : ql3 < 18446744073709551616) (g5 : (o = 1 ∨ d ≤ r2) → r3 + d = 2 * r + b) (c : o = 1 ∨ d ≤ r2) : St X d k qh2 ql3 r3 := by
  have l := h.1
  have m := h.2.1
  have e := g5 c
  have b2 : b < 2 := by omega
  exact h.step 1 hb _ _ _ (by omega) g4 (by omega) (by omega)

theorem St.nought {X d k qh ql r b o r2 qh2 ql2 : Nat} (h : St X d (k + 1) qh ql r) (hb : b = X / 2 ^ k % 2) (g1 : qh2 = qh * 2 + ql / 9223372036854775808) (g2 : ql2 = ql * 2 % 18446744073709551616)
    (g6 : ¬ (o = 1 ∨ d ≤ r2) → r2 = 2 * r + b) (c : ¬ (o = 1 ∨ d ≤ r2)) : St X d k qh2 ql2 r2 := by
  have l := h.1
  have e := g6 c
  exact h.step 0 hb _ _ _ (by omega) (by omega) (by omega) (by omega)

set_option maxHeartbeats 1000000 in
theorem split_loop (H L d : Nat) (w : World) (hH : H < 18446744073709551616) (hL : L < 18446744073709551616) (hd : 0 < d) (hd1 : d < 18446744073709551616) :
    Calls Try.prog 33 #[.int .u64 H, .int .u64 L, .int .u64 d] w fun e w' => (∃ qh ql r : Nat, St (H * 18446744073709551616 + L) d 0 qh ql r ∧ e = .returned (.tuple #[.int .u64 qh, .int .u64 ql, .int .u64 r])) ∧ w = w' := by
  go_enter Try.func33, Try.ntmps33
  go_wp2_with fail
  go_loop [9, 10, 11, 12] (fun a b c i => ∃ k qh ql r : Nat, k ≤ 128 ∧ St (H * 18446744073709551616 + L) d k qh ql r ∧ a = .int .u64 qh ∧ b = .int .u64 ql ∧ c = .int .u64 r ∧ i = .int .i64 ((k : Int) - 1)) (fun _ _ _ i => (intOf i + 1).toNat)
  case atStart =>
    exact ⟨128, 0, 0, 0, by omega, st_start H L d hH hL hd, rfl, rfl, rfl, rfl⟩
  case round =>
    obtain ⟨k, qh, ql, r, hk, hS, rfl, rfl, rfl, rfl⟩ := hrel
    match k, hk, hS with
    | 0, _, hS =>
      have HS := Lib.hid hS
      clear hS
      have e : ((0 : Nat) : Int) - 1 = -1 := by omega
      rw [e]
      clear e
      go_wp2_with fail
      go_ret3
      exact ⟨⟨qh, ql, r, HS.out, rfl⟩, rfl⟩
    | k + 1, hk, hS =>
      have e : ((k + 1 : Nat) : Int) - 1 = (k : Int) := by omega
      rw [e]
      clear e
      obtain ⟨b, hb⟩ : ∃ b : Nat, b = (H * 18446744073709551616 + L) / 2 ^ k % 2 := ⟨_, rfl⟩
      obtain ⟨o, r2, qh2, ql2, ql3, r3, hR, g1, g2, g3, g4, g5, g6⟩ := round_of d qh ql r b hd1 hS.2.1 (by omega) (hS.high hH hL hd) hS.1
      obtain ⟨eo, er, eq, el, e3, es, bo, b2, bl, br⟩ := hR
      obtain ⟨j, hj⟩ : ∃ j : Nat, j = k % 64 := ⟨_, rfl⟩
      have j64 : j < 64 := by omega
      have ej : (k : Int) % 64 = (j : Int) := by omega
      have el1 : bits .and .u64 ((L : Int) / 2 ^ j) 1 = ((L / 2 ^ j % 2 : Nat) : Int) := by
        rw [show (L : Int) / 2 ^ j = ((L / 2 ^ j : Nat) : Int) by push_cast; rfl]
        exact and_one _ (Nat.lt_of_le_of_lt (Nat.div_le_self _ _) hL)
      have el2 : bits .and .u64 ((H : Int) / 2 ^ j) 1 = ((H / 2 ^ j % 2 : Nat) : Int) := by
        rw [show (H : Int) / 2 ^ j = ((H / 2 ^ j : Nat) : Int) by push_cast; rfl]
        exact and_one _ (Nat.lt_of_le_of_lt (Nat.div_le_self _ _) hH)
      have k0 : (0 : Int) ≤ (k : Int) := by omega
      have k1 : (k : Int) ≤ 127 := by omega
      have HS := Lib.hid hS
      have HB := Lib.hid hb
      have G1 := Lib.hid g1
      have G2 := Lib.hid g2
      have G3 := Lib.hid g3
      have G4 := Lib.hid g4
      have G5 := Lib.hid g5
      have G6 := Lib.hid g6
      by_cases hi : (64 : Int) ≤ (k : Int)
      · have eb : ((H / 2 ^ j % 2 : Nat) : Int) = (b : Int) := by
          have := bit_high H L j hL
          rw [show j + 64 = k by omega] at this
          rw [hb, this]
        rw [eb] at el2
        clear hb hj eb g1 g2 g3 g4 g5 g6 hS hk
        by_cases ho : o = 1
        · subst ho
          have b1 : (((1 : Nat) : Int) == 1) = true := rfl
          go_wp2_with fail
          go_round
          case rel => exact ⟨k, qh2, ql3, r3, by omega, HS.out.one HB.out G1.out G2.out G3.out G4.out G5.out (Or.inl rfl), rfl, rfl, rfl, rfl⟩
          case measure => simp [intOf]
        · have b1 : ((o : Int) == 1) = false := by rw [beq_eq_false_iff_ne]; omega
          by_cases hc : (d : Int) ≤ (r2 : Int)
          · have HC := Lib.hid (show o = 1 ∨ d ≤ r2 from Or.inr (by omega))
            clear ho
            go_wp2_with fail
            go_round
            case rel => exact ⟨k, qh2, ql3, r3, by omega, HS.out.one HB.out G1.out G2.out G3.out G4.out G5.out HC.out, rfl, rfl, rfl, rfl⟩
            case measure => simp [intOf]
          · have HC := Lib.hid (show ¬ (o = 1 ∨ d ≤ r2) by omega)
            have dc : decide (d ≤ r2) = false := decide_eq_false (by omega)
            clear ho hc
            go_wp2_with fail
            go_round
            case rel => exact ⟨k, qh2, ql2, r2, by omega, HS.out.nought HB.out G1.out G2.out G6.out HC.out, rfl, rfl, rfl, rfl⟩
            case measure => simp [intOf]
      · have eb : ((L / 2 ^ j % 2 : Nat) : Int) = (b : Int) := by
          have := bit_low H L j j64
          rw [show j = k by omega] at this
          rw [show j = k by omega, hb, this]
        have di : decide ((64 : Int) ≤ (k : Int)) = false := decide_eq_false hi
        rw [eb] at el1
        clear hb hj eb g1 g2 g3 g4 g5 g6 hS hk hi el2
        by_cases ho : o = 1
        · subst ho
          have b1 : (((1 : Nat) : Int) == 1) = true := rfl
          go_wp2_with fail
          go_round
          case rel => exact ⟨k, qh2, ql3, r3, by omega, HS.out.one HB.out G1.out G2.out G3.out G4.out G5.out (Or.inl rfl), rfl, rfl, rfl, rfl⟩
          case measure => simp [intOf]
        · have b1 : ((o : Int) == 1) = false := by rw [beq_eq_false_iff_ne]; omega
          by_cases hc : (d : Int) ≤ (r2 : Int)
          · have HC := Lib.hid (show o = 1 ∨ d ≤ r2 from Or.inr (by omega))
            clear ho
            go_wp2_with fail
            go_round
            case rel => exact ⟨k, qh2, ql3, r3, by omega, HS.out.one HB.out G1.out G2.out G3.out G4.out G5.out HC.out, rfl, rfl, rfl, rfl⟩
            case measure => simp [intOf]
          · have HC := Lib.hid (show ¬ (o = 1 ∨ d ≤ r2) by omega)
            have dc : decide (d ≤ r2) = false := decide_eq_false (by omega)
            clear ho hc
            go_wp2_with fail
            go_round
            case rel => exact ⟨k, qh2, ql2, r2, by omega, HS.out.nought HB.out G1.out G2.out G6.out HC.out, rfl, rfl, rfl, rfl⟩
            case measure => simp [intOf]

theorem St.whole {X d qh ql r : Nat} (h : St X d 0 qh ql r) (hd : 0 < d) : X / d = qh * 18446744073709551616 + ql ∧ X % d = r ∧ ql < 18446744073709551616 := by
  obtain ⟨h1, h2, h3⟩ := h
  rw [Nat.pow_zero, Nat.div_one] at h3
  generalize qh * 18446744073709551616 + ql = q at *
  subst h3
  refine ⟨?_, ?_, h1⟩
  · rw [Nat.mul_comm, Nat.mul_add_div hd, Nat.div_eq_of_lt h2]; omega
  · rw [Nat.mul_comm, Nat.mul_add_mod, Nat.mod_eq_of_lt h2]

theorem halves_back (A : Nat) (a b : Nat) (h : A = a * 18446744073709551616 + b) (hb : b < 18446744073709551616) : (A : Int) / 18446744073709551616 = (a : Int) ∧ (A : Int) % 18446744073709551616 = (b : Int) := by
  subst h; omega

/-- the document's split: quotient and rest of a number of 128 bits without sign -/
theorem split_any (H L d : Nat) (x : Int) (w : World) (hH : H < 18446744073709551616) (hL : L < 18446744073709551616) (hd : 0 < d) (hd1 : d < 18446744073709551616) (hx : x = ((H * 18446744073709551616 + L : Nat) : Int)) :
    Calls Try.prog 33 #[.int .u64 H, .int .u64 L, .int .u64 d] w fun e w' => e = .returned (.tuple #[.int .u64 (x / d / 18446744073709551616), .int .u64 (x / d % 18446744073709551616), .int .u64 (x % d)]) ∧ w = w' := by
  refine (split_loop H L d w hH hL hd hd1).mono ?_
  rintro e w' ⟨⟨qh, ql, r, hS, rfl⟩, rfl⟩
  obtain ⟨q1, q2, q3⟩ := hS.whole hd
  obtain ⟨e1, e2⟩ := halves_back _ _ _ q1 q3
  rw [hx, ← Int.natCast_ediv, ← Int.natCast_emod, e1, e2, q2]
  exact ⟨rfl, rfl⟩

end Go.Proofs.Ytkjnjhdanbjmpaa.Ref
