
/- What math/bits.Div64 returns, walked over this program's own dump: the quotient and what is left, whenever the high half is below the divisor. -/
import Derived.Test.YtkjnjhdanbjmpaaRgBits
import Derived.Test.YtkjnjhdanbjmpaaNum
import Derived.Deep.QuietTactic
import Derived.BigQuiet
import Derived.Lib.Hide
import Derived.Outline
import Derived.Deep.CutBlock
import Derived.Deep.CutRange
namespace Go.Proofs.Ytkjnjhdanbjmpaa
open Go.RowKit

theorem parts (Y : Nat) : Y / 4294967296 * 4294967296 + Y % 4294967296 = Y := by omega

theorem named (x : Nat) : ∃ v, v = x := ⟨x, rfl⟩

theorem ret2 {k l : IntKind} {a b c d : Int} (h : a = b) (g : c = d) : Ending.returned (.tuple #[.int k a, .int l c]) = .returned (.tuple #[.int k b, .int l d]) := by rw [h, g]

set_option maxHeartbeats 400000 in
set_option maxRecDepth 100000 in
theorem Div64_low (lo y : Nat) (hlo : lo < 18446744073709551616) (hy : y < 18446744073709551616) (h : 0 < y) (w : World) :
    Calls Try.prog 36 #[.int .u64 0, .int .u64 lo, .int .u64 y] w fun e w' => e = .returned (.tuple #[.int .u64 ((lo / y : Nat) : Int), .int .u64 ((lo % y : Nat) : Int)]) ∧ ∃ n, w' = w.drewN n := by
  have h1 : (0 : Int) ≤ lo := by omega
  have h2 : (1 : Int) ≤ y := by omega
  go_enter Try.func36, Try.ntmps36
  go_wp2
  go_quiet (fail)
  go_wp2
  go_ret2
  have e1 : IntKind.u64.wrap ((lo : Int) / (y : Int)) = ((lo / y : Nat) : Int) := by
    have := Nat.div_le_self lo y
    rw [← Int.natCast_ediv]; exact Mul.wrapN _ (by omega)
  exact ⟨ret2 e1 (Int.natCast_emod lo y).symm, _, rfl⟩

theorem Lead_nat (y s : Nat) (h1 : y < 18446744073709551616) (hs : (64 - (Lib.bitLen y : Int)) = (s : Int)) (w : World) :
    Calls Try.prog 40 #[.int .u64 y] w fun e w' => e = .returned (.int .i64 (s : Int)) ∧ w = w' := by
  have h := LeadingZeros64_any (y : Int) w (by omega) (by omega)
  rw [Int.toNat_natCast, hs] at h
  exact h

/-- One digit's loop, as the walk wants it: Q is the digit. -/
structure Digit (n1 n0 u d Q : Nat) : Prop where
  more : ∀ a b : Nat, a * n1 + b = u → (4294967296 ≤ a ∨ 4294967296 * b + d < a * n0) → Q < a
  less : ∀ a b : Nat, a * n1 + b = u → a * n0 ≤ 4294967296 * b + d → a ≤ Q
  brk : ∀ a b : Nat, a ≤ 4294967296 → 4294967296 ≤ b → a * n0 ≤ 4294967296 * b + d
  first : Q ≤ u / n1
  top : u / n1 ≤ 4294967297

/-- how the sum a * n1 + b = u is carried: behind a name, so that the walk takes it for no rule -/
def Sum (n1 u a b : Nat) : Prop := a * n1 + b = u

theorem Sum.step {n1 u a b : Nat} (h : Sum n1 u a b) (ha : 0 < a) : Sum n1 u (a - 1) (b + n1) := by
  unfold Sum at *; rw [Num.step_sum a n1 b ha, h]

set_option maxHeartbeats 1000000 in
set_option maxRecDepth 100000 in
theorem Div64_core (hi lo y s Y n1 n0 u L d1 d0 q r Q1 v q' r' Q0 t z : Nat) (w : World)
    (lead : ∀ w, Calls Try.prog 40 #[.int .u64 y] w fun e w' => e = .returned (.int .i64 (s : Int)) ∧ w = w')
    (hlo : lo < 18446744073709551616) (hy : y < 18446744073709551616) (h : hi < y) (h0 : 0 < hi) (s64 : s < 64)
    (bn1 : 2147483648 ≤ n1) (bn1' : n1 < 4294967296) (bn0 : n0 < 4294967296) (bd1 : d1 < 4294967296) (bd0 : d0 < 4294967296)
    (bQ1 : Q1 < 4294967296) (bQ0 : Q0 < 4294967296)
    (br : r < 4294967296) (br' : r' < 4294967296)
    (eY : IntKind.u64.wrap ((y : Int) * 2 ^ s) = (Y : Int)) (eN1 : (Y : Int) / 4294967296 = (n1 : Int)) (eN0 : bits .and .u64 (Y : Int) 4294967295 = (n0 : Int))
    (eU : bits .or .u64 (IntKind.u64.wrap ((hi : Int) * 2 ^ s)) ((lo : Int) / 2 ^ (64 - s)) = (u : Int))
    (eL : IntKind.u64.wrap ((lo : Int) * 2 ^ s) = (L : Int)) (eD1 : (L : Int) / 4294967296 = (d1 : Int)) (eD0 : bits .and .u64 (L : Int) 4294967295 = (d0 : Int))
    (eq : IntKind.u64.wrap ((u : Int) / (n1 : Int)) = (q : Int)) (er : IntKind.u64.wrap ((u : Int) - IntKind.u64.wrap ((q : Int) * (n1 : Int))) = (r : Int))
    (D1 : Digit n1 n0 u d1 Q1) (S1 : Sum n1 u q r) (T1 : Q1 ≤ q) (U1 : q ≤ 4294967297)
    (ev : IntKind.u64.wrap (IntKind.u64.wrap (IntKind.u64.wrap ((u : Int) * 4294967296) + (d1 : Int)) - IntKind.u64.wrap ((Q1 : Int) * (Y : Int))) = (v : Int))
    (eq' : IntKind.u64.wrap ((v : Int) / (n1 : Int)) = (q' : Int)) (er' : IntKind.u64.wrap ((v : Int) - IntKind.u64.wrap ((q' : Int) * (n1 : Int))) = (r' : Int))
    (D0 : Digit n1 n0 v d0 Q0) (S0 : Sum n1 v q' r') (T0 : Q0 ≤ q') (U0 : q' ≤ 4294967297)
    (et : IntKind.u64.wrap (IntKind.u64.wrap (IntKind.u64.wrap ((v : Int) * 4294967296) + (d0 : Int)) - IntKind.u64.wrap ((Q0 : Int) * (Y : Int))) = (t : Int))
    (ez : (t : Int) / 2 ^ s = (z : Int)) :
    Calls Try.prog 36 #[.int .u64 hi, .int .u64 lo, .int .u64 y] w fun e w' => e = .returned (.tuple #[.int .u64 ((Q1 * 4294967296 + Q0 : Nat) : Int), .int .u64 (z : Int)]) ∧ w = w' := by
  have HL := Lib.hid lead; clear lead
  have h1 : (0 : Int) ≤ lo := by omega
  have h2 : (1 : Int) ≤ y := by omega
  have h3 : (1 : Int) ≤ hi := by omega
  have h4 : ((hi : Int) == 0) = false := by rw [beq_eq_false_iff_ne]; omega
  have h5 : ((y : Int) == 0) = false := by rw [beq_eq_false_iff_ne]; omega
  have h6 : ((n1 : Int) == 0) = false := by rw [beq_eq_false_iff_ne]; omega
  go_enter Try.func36, Try.ntmps36
  go_upto_block 0 with (go_at_call 40; refine (HL.out _).mono ?_; rintro e w' ⟨rfl, rfl⟩)
  go_cut [15, 16] from 67 to 85 (fun qv _ wx => qv = .int .u64 Q1 ∧ w = wx)
  case first =>
    go_wp2_with fail
    go_loop [15, 16] (fun qv rv => ∃ a b : Nat, Sum n1 u a b ∧ Q1 ≤ a ∧ a ≤ 4294967297 ∧ b < 4294967296 ∧ qv = .int .u64 a ∧ rv = .int .u64 b) (fun qv _ => (intOf qv).toNat)
    case atStart => exact ⟨q, r, S1, T1, U1, br, rfl, rfl⟩
    case round =>
      obtain ⟨a, b, hsum, ha, hb, hr, rfl, rfl⟩ := hrel
      have hb' : (a : Int) ≤ 4294967297 := by omega
      have hr' : (b : Int) < 4294967296 := by omega
      have hn1 : (n1 : Int) < 4294967296 := by omega
      by_cases hA : (4294967296 : Int) ≤ a
      · have hgt := D1.more a b hsum (Or.inl (by omega))
        have hst := hsum.step (by omega)
        have hgt' : (Q1 : Int) < a := by omega
        by_cases hC : (4294967296 : Int) ≤ b + n1
        · have hle := D1.less (a - 1) (b + n1) hst (D1.brk _ _ (by omega) (by omega))
          have hq : (a : Int) = Q1 + 1 := by omega
          have Hq := Lib.hid hq
          clear hle hq hst hgt hb hr
          go_wp2
          go_meet
          exact ⟨by rw [Hq.out, Int.add_sub_cancel], rfl⟩
        · have Hst := Lib.hid hst
          clear hst hgt hb hr
          go_wp2
          go_round
          case rel => exact ⟨a - 1, b + n1, Hst.out, by omega, by omega, by omega, by congr 1; omega, by congr 1⟩
          case measure => simp [intOf]; omega
      · have bm := Nat.mul_lt_mul'' (show a < 4294967296 by omega) bn0
        obtain ⟨m, hm⟩ : ∃ m, m = a * n0 := ⟨_, rfl⟩
        have em : IntKind.u64.wrap ((a : Int) * (n0 : Int)) = (m : Int) := by rw [hm, Mul.mulN]; exact Mul.wrapN _ bm
        rw [← hm] at bm
        by_cases hB : 4294967296 * (b : Int) + d1 < m
        · have hgt := D1.more a b hsum (Or.inr (by omega))
          have hst := hsum.step (by omega)
          have hgt' : (Q1 : Int) < a := by omega
          by_cases hC : (4294967296 : Int) ≤ b + n1
          · have hle := D1.less (a - 1) (b + n1) hst (D1.brk _ _ (by omega) (by omega))
            have hq : (a : Int) = Q1 + 1 := by omega
            have Hq := Lib.hid hq
            clear hle hq hst hgt hb hr hm bm
            go_wp2
            go_meet
            exact ⟨by rw [Hq.out, Int.add_sub_cancel], rfl⟩
          · have Hst := Lib.hid hst
            clear hst hgt hb hr hm bm
            go_wp2
            go_round
            case rel => exact ⟨a - 1, b + n1, Hst.out, by omega, by omega, by omega, by congr 1; omega, by congr 1⟩
            case measure => simp [intOf]; omega
        · have hle := D1.less a b hsum (by omega)
          have hq : (a : Int) = Q1 := by omega
          have Hq := Lib.hid hq
          clear hle hq hb hr hm bm
          go_wp2
          go_meet
          exact ⟨by rw [Hq.out], rfl⟩
  case rest =>
    obtain ⟨rfl, rfl⟩ := hcut
    go_upto_block 2 with fail
    go_cut [18, 16] from 102 to 120 (fun qv _ wx => qv = .int .u64 Q0 ∧ w = wx)
    case first =>
      go_wp2_with fail
      go_loop [18, 16] (fun qv rv => ∃ a b : Nat, Sum n1 v a b ∧ Q0 ≤ a ∧ a ≤ 4294967297 ∧ b < 4294967296 ∧ qv = .int .u64 a ∧ rv = .int .u64 b) (fun qv _ => (intOf qv).toNat)
      case atStart => exact ⟨q', r', S0, T0, U0, br', rfl, rfl⟩
      case round =>
        obtain ⟨a, b, hsum, ha, hb, hr, rfl, rfl⟩ := hrel
        have hb' : (a : Int) ≤ 4294967297 := by omega
        have hr' : (b : Int) < 4294967296 := by omega
        have hn1 : (n1 : Int) < 4294967296 := by omega
        by_cases hA : (4294967296 : Int) ≤ a
        · have hgt := D0.more a b hsum (Or.inl (by omega))
          have hst := hsum.step (by omega)
          have hgt' : (Q0 : Int) < a := by omega
          by_cases hC : (4294967296 : Int) ≤ b + n1
          · have hle := D0.less (a - 1) (b + n1) hst (D0.brk _ _ (by omega) (by omega))
            have hq : (a : Int) = Q0 + 1 := by omega
            have Hq := Lib.hid hq
            clear hle hq hst hgt hb hr
            go_wp2
            go_meet
            exact ⟨by rw [Hq.out, Int.add_sub_cancel], rfl⟩
          · have Hst := Lib.hid hst
            clear hst hgt hb hr
            go_wp2
            go_round
            case rel => exact ⟨a - 1, b + n1, Hst.out, by omega, by omega, by omega, by congr 1; omega, by congr 1⟩
            case measure => simp [intOf]; omega
        · have bm := Nat.mul_lt_mul'' (show a < 4294967296 by omega) bn0
          obtain ⟨m, hm⟩ : ∃ m, m = a * n0 := ⟨_, rfl⟩
          have em : IntKind.u64.wrap ((a : Int) * (n0 : Int)) = (m : Int) := by rw [hm, Mul.mulN]; exact Mul.wrapN _ bm
          rw [← hm] at bm
          by_cases hB : 4294967296 * (b : Int) + d0 < m
          · have hgt := D0.more a b hsum (Or.inr (by omega))
            have hst := hsum.step (by omega)
            have hgt' : (Q0 : Int) < a := by omega
            by_cases hC : (4294967296 : Int) ≤ b + n1
            · have hle := D0.less (a - 1) (b + n1) hst (D0.brk _ _ (by omega) (by omega))
              have hq : (a : Int) = Q0 + 1 := by omega
              have Hq := Lib.hid hq
              clear hle hq hst hgt hb hr hm bm
              go_wp2
              go_meet
              exact ⟨by rw [Hq.out, Int.add_sub_cancel], rfl⟩
            · have Hst := Lib.hid hst
              clear hst hgt hb hr hm bm
              go_wp2
              go_round
              case rel => exact ⟨a - 1, b + n1, Hst.out, by omega, by omega, by omega, by congr 1; omega, by congr 1⟩
              case measure => simp [intOf]; omega
          · have hle := D0.less a b hsum (by omega)
            have hq : (a : Int) = Q0 := by omega
            have Hq := Lib.hid hq
            clear hle hq hb hr hm bm
            go_wp2
            go_meet
            exact ⟨by rw [Hq.out], rfl⟩
    case rest =>
      obtain ⟨rfl, rfl⟩ := hcut
      go_wp2
      go_ret2
      exact ⟨ret2 (by omega) rfl, rfl⟩

theorem digit (n1 n0 u d : Nat) (h1 : 2147483648 ≤ n1) (h0 : n0 < 4294967296) (hd : d < 4294967296) (hu : u < n1 * 4294967296 + n0) :
    Digit n1 n0 u d ((u * 4294967296 + d) / (n1 * 4294967296 + n0)) where
  more a b e h := Num.go_lt n1 n0 u d a b hd hu e h
  less a b e h := Num.stop_le n1 n0 u d a b (by omega) e h
  brk a b ha hb := Num.brk_le n0 d a b h0 ha hb
  first := Num.start_le n1 n0 u d h1 hd
  top := Num.start_top n1 n0 u h1 h0 hu

/-- the number that is left when a multiple is taken away, in 64 bits -/
theorem left_wrap (u d X v : Nat) (h : u * 4294967296 + d = X + v) (hv : v < 18446744073709551616) :
    IntKind.u64.wrap (IntKind.u64.wrap (IntKind.u64.wrap ((u : Int) * 4294967296) + (d : Int)) - IntKind.u64.wrap (X : Int)) = (v : Int) := by
  simp only [IntKind.wrap_u64]; omega

theorem rest_wrap (u X r : Nat) (h : X + r = u) (hu : u < 18446744073709551616) :
    IntKind.u64.wrap ((u : Int) - IntKind.u64.wrap (X : Int)) = (r : Int) := by
  simp only [IntKind.wrap_u64]; omega

theorem quo_wrap (u n : Nat) (hu : u < 18446744073709551616) : IntKind.u64.wrap ((u : Int) / (n : Int)) = ((u / n : Nat) : Int) := by
  have := Nat.div_le_self u n
  rw [← Int.natCast_ediv]; exact Mul.wrapN _ (by omega)

theorem Div64_mid (hi lo y s Y u L : Nat) (hlo : lo < 18446744073709551616) (hy : y < 18446744073709551616) (h : hi < y) (h0 : 0 < hi) (s64 : s < 64)
    (lead : ∀ w, Calls Try.prog 40 #[.int .u64 y] w fun e w' => e = .returned (.int .i64 (s : Int)) ∧ w = w')
    (hA : 9223372036854775808 ≤ Y) (hB : Y < 18446744073709551616) (hu : u < Y) (bL : L < 18446744073709551616)
    (eY : IntKind.u64.wrap ((y : Int) * 2 ^ s) = (Y : Int))
    (eU : bits .or .u64 (IntKind.u64.wrap ((hi : Int) * 2 ^ s)) ((lo : Int) / 2 ^ (64 - s)) = (u : Int))
    (eL : IntKind.u64.wrap ((lo : Int) * 2 ^ s) = (L : Int)) (w : World) :
    Calls Try.prog 36 #[.int .u64 hi, .int .u64 lo, .int .u64 y] w fun e w' => e = .returned (.tuple #[.int .u64 (((u * 18446744073709551616 + L) / Y : Nat) : Int), .int .u64 (((u * 18446744073709551616 + L) % Y / 2 ^ s : Nat) : Int)]) ∧ w = w' := by
  obtain ⟨n1, hn1⟩ := named (Y / 4294967296)
  obtain ⟨n0, hn0⟩ := named (Y % 4294967296)
  obtain ⟨d1, hd1⟩ := named (L / 4294967296)
  obtain ⟨d0, hd0⟩ := named (L % 4294967296)
  have eYn : n1 * 4294967296 + n0 = Y := by rw [hn1, hn0]; exact parts Y
  have eLd : d1 * 4294967296 + d0 = L := by rw [hd1, hd0]; exact parts L
  have hY : 0 < Y := by omega
  obtain ⟨v, hv⟩ := named ((u * 4294967296 + d1) % Y)
  obtain ⟨Q1, hQ1⟩ := named ((u * 4294967296 + d1) / Y)
  have lv := (Num.left_lt u d1 Y hY).2
  rw [← hv] at lv
  have D1 := digit n1 n0 u d1 (by omega) (by omega) (by omega) (by omega)
  have D0 := digit n1 n0 v d0 (by omega) (by omega) (by omega) (by omega)
  have bQ1 := Num.top n1 n0 u d1 (by omega) (by omega)
  have bQ0 := Num.top n1 n0 v d0 (by omega) (by omega)
  have m1 := Nat.div_add_mod (u * 4294967296 + d1) Y
  have m0 := Nat.div_add_mod (v * 4294967296 + d0) Y
  have lt := Nat.mod_lt (v * 4294967296 + d0) hY
  obtain ⟨TQ, TR⟩ := Num.two_digits u d1 d0 Y hY
  rw [eLd, ← hv, ← hQ1] at TQ
  rw [eLd, ← hv] at TR
  rw [eYn] at D1 D0 bQ1 bQ0
  rw [← hQ1] at D1 bQ1
  rw [← hv, ← hQ1, Nat.mul_comm] at m1
  obtain ⟨Q0, hQ0⟩ := named ((v * 4294967296 + d0) / Y)
  obtain ⟨t, ht⟩ := named ((v * 4294967296 + d0) % Y)
  rw [← hQ0] at D0 bQ0 TQ
  rw [← hQ0, ← ht, Nat.mul_comm] at m0
  rw [← ht] at TR lt
  have k1 := Nat.div_add_mod u n1
  have k0 := Nat.div_add_mod v n1
  rw [Nat.mul_comm] at k1 k0
  have r1 := Nat.mod_lt u (show 0 < n1 by omega)
  have r0 := Nat.mod_lt v (show 0 < n1 by omega)
  have core := Div64_core hi lo y s Y n1 n0 u L d1 d0 (u / n1) (u % n1) Q1 v (v / n1) (v % n1) Q0 t (t / 2 ^ s) w lead hlo hy h h0 s64
    (by omega) (by omega) (by omega) (by omega) (by omega) bQ1 bQ0 (by omega) (by omega)
    eY (by omega) (by rw [Mul.maskN _ hB, hn0]) eU eL (by omega) (by rw [Mul.maskN _ bL, hd0])
    (quo_wrap u n1 (by omega)) (by rw [Mul.mulN]; exact rest_wrap u _ _ k1 (by omega)) D1 k1 D1.first D1.top
    (by rw [Mul.mulN]; exact left_wrap u d1 _ v m1.symm (by omega))
    (quo_wrap v n1 (by omega)) (by rw [Mul.mulN]; exact rest_wrap v _ _ k0 (by omega)) D0 k0 D0.first D0.top
    (by rw [Mul.mulN]; exact left_wrap v d0 _ t m0.symm (by omega))
    (by push_cast; rfl)
  rw [TQ, TR] at *
  exact core

theorem Div64_any (hi lo y : Nat) (hlo : lo < 18446744073709551616) (hy : y < 18446744073709551616) (h : hi < y) (w : World) :
    Calls Try.prog 36 #[.int .u64 hi, .int .u64 lo, .int .u64 y] w fun e w' => e = .returned (.tuple #[.int .u64 (((hi * 18446744073709551616 + lo) / y : Nat) : Int), .int .u64 (((hi * 18446744073709551616 + lo) % y : Nat) : Int)]) ∧ ∃ n, w' = w.drewN n := by
  by_cases h0 : hi = 0
  · subst h0
    have := Div64_low lo y hlo hy h w
    rw [Nat.zero_mul, Nat.zero_add]
    exact this
  obtain ⟨s, s64, hs, hA, hB⟩ := lead y (by omega) hy
  obtain ⟨hu, hN, hl, hh⟩ := Num.shifted hi lo y s s64 hlo h hB
  have eY : IntKind.u64.wrap ((y : Int) * 2 ^ s) = ((y * 2 ^ s : Nat) : Int) := by
    rw [show ((y : Int) * 2 ^ s) = ((y * 2 ^ s : Nat) : Int) by push_cast; rfl]; exact Mul.wrapN _ hB
  have eH : IntKind.u64.wrap ((hi : Int) * 2 ^ s) = ((hi * 2 ^ s : Nat) : Int) := by
    rw [show ((hi : Int) * 2 ^ s) = ((hi * 2 ^ s : Nat) : Int) by push_cast; rfl]; exact Mul.wrapN _ hh
  have eL : IntKind.u64.wrap ((lo : Int) * 2 ^ s) = ((lo * 2 ^ s % 18446744073709551616 : Nat) : Int) := by
    rw [show ((lo : Int) * 2 ^ s) = ((lo * 2 ^ s : Nat) : Int) by push_cast; rfl]; exact Mul.wrapM _
  have eU : bits .or .u64 (IntKind.u64.wrap ((hi : Int) * 2 ^ s)) ((lo : Int) / 2 ^ (64 - s)) = ((hi * 2 ^ s + lo / 2 ^ (64 - s) : Nat) : Int) := by
    rw [eH, show ((lo : Int) / 2 ^ (64 - s)) = ((lo / 2 ^ (64 - s) : Nat) : Int) by push_cast; rfl]
    rw [bits_or_u64_nat _ _ hh (by omega), Num.or_add _ _ _ hl]
  have bL : lo * 2 ^ s % 18446744073709551616 < 18446744073709551616 := Nat.mod_lt _ (by omega)
  obtain ⟨Q, R⟩ := Num.scale_div (hi * 18446744073709551616 + lo) y s
  have core := Div64_mid hi lo y s _ _ _ hlo hy h (by omega) s64 (Lead_nat y s hy hs) hA hB hu bL eY eU eL w
  rw [hN, Q, R, Nat.mul_div_cancel _ (Nat.two_pow_pos s)] at core
  refine core.mono ?_
  rintro e w' ⟨rfl, rfl⟩
  exact ⟨rfl, 0, rfl⟩

end Go.Proofs.Ytkjnjhdanbjmpaa
