/- Sqrt of package wide: bit by bit from the highest one on. -/
import Derived.Test.YtjnegoflnaeifaaDoorWideB
import Derived.Deep.RegionHeld3
import Derived.LoopTactic
namespace Go.Proofs.YtjnegoflnaeifaaDoor
open Go.RowKit

/-- r is the greatest number of 63 bits whose square is not above x -/
def IsRoot (x r : Int) : Prop := 0 ≤ r ∧ r ≤ 9223372036854775807 ∧ r * r ≤ x ∧ ∀ t : Int, 0 ≤ t → t ≤ 9223372036854775807 → t * t ≤ x → t ≤ r

theorem IsRoot.same {x r s : Int} (h : IsRoot x r) (g : IsRoot x s) : r = s := by
  have a := h.2.2.2 s g.1 g.2.1 g.2.2.1
  have b := g.2.2.2 r h.1 h.2.1 h.2.2.1
  omega

/-- Where the search stands: all bits from p on are found. -/
structure Rt (x r p : Int) : Prop where
  low : 0 ≤ r
  sq : r * r ≤ x
  top : ∀ t : Int, 0 ≤ t → t ≤ 9223372036854775807 → t * t ≤ x → t < r + p
  div : r % p = 0
  room : r + p ≤ 9223372036854775808
  pos : 0 < p

theorem sq_le {s t : Int} (h0 : 0 ≤ s) (h : s ≤ t) : s * s ≤ t * t :=
  Int.le_trans (Int.mul_le_mul_of_nonneg_left h h0) (Int.mul_le_mul_of_nonneg_right h (by omega))

theorem mod_half {r b : Int} (h : r % (b + b) = 0) : r % b = 0 := by
  have e := Int.mul_ediv_add_emod r (b + b)
  rw [h] at e
  have e2 : r = b * (2 * (r / (b + b))) := by
    rw [Int.add_mul] at e
    rw [← Int.mul_assoc, Int.mul_comm b 2, Int.mul_assoc]
    omega
  rw [e2]; exact Int.mul_emod_right _ _

theorem Rt.yes {x r b : Int} (h : Rt x r (b + b)) (hb : 0 < b) (g : (r + b) * (r + b) ≤ x) : Rt x (r + b) b where
  low := by have := h.low; omega
  sq := g
  top t a c d := by have := h.top t a c d; omega
  div := by rw [Int.add_emod_right]; exact mod_half h.div
  room := by have := h.room; omega
  pos := hb

theorem Rt.no {x r b : Int} (h : Rt x r (b + b)) (hb : 0 < b) (g : ¬ (r + b) * (r + b) ≤ x) : Rt x r b where
  low := h.low
  sq := h.sq
  top t a c d := by
    by_cases l : t < r + b
    · exact l
    · have := sq_le (s := r + b) (t := t) (by have := h.low; omega) (by omega)
      omega
  div := mod_half h.div
  room := by have := h.room; omega
  pos := hb

theorem Rt.root {x r : Int} (h : Rt x r 1) : IsRoot x r :=
  ⟨h.low, by have := h.room; omega, h.sq, fun t a c d => by have := h.top t a c d; omega⟩

/-- the bit b is half of p; both are powers of two, or p is 1 and b is none -/
def Half (p b : Int) : Prop := ∃ k : Nat, k ≤ 63 ∧ p = 2 ^ k ∧ b = p / 2

theorem Half.zero {p b : Int} (h : Half p b) (g : ¬ 0 < b) : p = 1 := by
  obtain ⟨k, hk, rfl, rfl⟩ := h
  match k with
  | 0 => rfl
  | j + 1 =>
    have p1 : (0 : Int) < 2 ^ j := Int.pow_pos (by omega)
    rw [Int.pow_succ] at g
    omega

theorem Half.next {p b : Int} (h : Half p b) (g : 0 < b) : p = b + b ∧ Half b (b / 2) ∧ b ≤ 4611686018427387904 ∧ ∃ k : Nat, p = 2 ^ (k + 1) ∧ b = 2 ^ k := by
  obtain ⟨k, hk, rfl, rfl⟩ := h
  match k with
  | 0 => exact absurd g (by decide)
  | j + 1 =>
    have e : (2 : Int) ^ (j + 1) / 2 = 2 ^ j := by rw [Int.pow_succ]; omega
    have le : (2 : Int) ^ j ≤ 2 ^ 62 := by
      have := Nat.pow_le_pow_right (n := 2) (by omega) (show j ≤ 62 by omega)
      have c : ((2 ^ j : Nat) : Int) ≤ ((2 ^ 62 : Nat) : Int) := by omega
      rw [Int.natCast_pow, Int.natCast_pow] at c
      exact c
    rw [e]
    refine ⟨by rw [Int.pow_succ]; omega, ⟨j, by omega, rfl, rfl⟩, le, j, rfl, rfl⟩

theorem bits_or_i64_nat (a b : Nat) (h : (a ||| b) < 9223372036854775808) (ha : a < 18446744073709551616) (hb : b < 18446744073709551616) :
    bits .or .i64 (a : Int) (b : Int) = ((a ||| b : Nat) : Int) := by
  have h1 : (BitVec.ofInt 64 (a : Int)).toNat = a := by
    rw [BitVec.ofInt_natCast, BitVec.toNat_ofNat]; exact Nat.mod_eq_of_lt (by omega)
  have h2 : (BitVec.ofInt 64 (b : Int)).toNat = b := by
    rw [BitVec.ofInt_natCast, BitVec.toNat_ofNat]; exact Nat.mod_eq_of_lt (by omega)
  show IntKind.i64.wrap ((BitVec.ofInt 64 (a : Int) ||| BitVec.ofInt 64 (b : Int)).toNat : Int) = _
  rw [BitVec.toNat_or, h1, h2, IntKind.wrap_i64]
  omega

theorem or_bit {r : Int} (k : Nat) (r0 : 0 ≤ r) (hd : r % 2 ^ (k + 1) = 0) (hr : r + 2 ^ k < 9223372036854775808) :
    bits .or .i64 r (2 ^ k) = r + 2 ^ k := by
  obtain ⟨R, rfl⟩ := Int.eq_ofNat_of_zero_le r0
  have c : ((2 ^ k : Nat) : Int) = 2 ^ k := Int.natCast_pow 2 k
  have c1 : ((2 ^ (k + 1) : Nat) : Int) = 2 ^ (k + 1) := Int.natCast_pow 2 (k + 1)
  rw [← c] at hr ⊢
  rw [← c1] at hd
  have hd' : R % 2 ^ (k + 1) = 0 := by omega
  have q := Nat.div_add_mod R (2 ^ (k + 1))
  rw [hd', Nat.add_zero] at q
  have hlt : 2 ^ k < 2 ^ (k + 1) := Nat.pow_lt_pow_right (by omega) (by omega)
  have e : R ||| 2 ^ k = R + 2 ^ k := by
    rw [← q, Nat.two_pow_add_eq_or_of_lt hlt]
  rw [bits_or_i64_nat _ _ (by rw [e]; omega) (by omega) (by omega), e]
  omega

theorem Sqrt_neg (x : Int) (w : World) (rx : Wd.Rm x) (h : x < 0) :
    Calls Tryd.prog 8 #[.agg #[.int .i64 (Wd.hi x), .int .u64 (Wd.lo x)]] w fun e w' => e = .returned (.tuple #[.int .i64 0, .int .i64 1]) ∧ Below w.heap.size w w' := by
  have S := Lib.hid fun w => Sign_any x w rx
  rw [Wd.sg_neg h] at S
  clear h rx
  go_enter Tryd.func8, Tryd.ntmps8
  go_wp2_with fail
  refine (S.out _).mono ?_; rintro e w1 ⟨rfl, hb1⟩
  have B1 := belowT (below1 w _) hb1
  go_wp2_with fail
  go_ret2
  exact ⟨rfl, B1⟩

def RootOf (x : Int) (w : World) (e : Ending) (w' : World) : Prop := ∃ r : Int, IsRoot x r ∧ e = .returned (.tuple #[.int .i64 r, .int .i64 0]) ∧ Below w.heap.size w w'

set_option maxHeartbeats 1000000 in
theorem Sqrt_pos (x g : Int) (w : World) (rx : Wd.Rm x) (h0 : 0 ≤ x) (hg : 0 ≤ g)
    (S : Hid (∀ w, Calls Tryd.prog 23 #[.agg #[.int .i64 (Wd.hi x), .int .u64 (Wd.lo x)]] w fun e w' => e = .returned (.int .i64 g) ∧ Below w.heap.size w w')) :
    Calls Tryd.prog 8 #[.agg #[.int .i64 (Wd.hi x), .int .u64 (Wd.lo x)]] w (RootOf x w) := by
  have dg : decide (g < 0) = false := decide_eq_false (by omega)
  go_enter Tryd.func8, Tryd.ntmps8
  go_wp2_with fail
  refine (S.out _).mono ?_; rintro e w1 ⟨rfl, hb1⟩
  have B1 := belowT (below1 w _) hb1
  have X1 := (own2 w _ _ _).keep hb1; have X1a := X1.c0; have X1b := X1.c1; have X1c := X1.f0; have X1d := X1.f1; have X1l := X1.lt
  go_wp2_with fail
  go_loopw [4, 5] (fun vr vb wr => ∃ p b r : Int, Half p b ∧ Rt x r p ∧ vr = .int .i64 r ∧ vb = .int .i64 b ∧ Own2 wr w.heap.size (.int .i64 (Wd.hi x)) (.int .u64 (Wd.lo x)) ∧ Below w.heap.size w wr) (fun _ vb _ => (intOf vb).toNat)
  case atStart =>
    refine ⟨9223372036854775808, 4611686018427387904, 0, ⟨63, by omega, by decide, by decide⟩, ⟨by omega, by omega, fun t _ _ _ => by omega, by decide, by omega, by omega⟩, rfl, rfl, X1, B1⟩
  case round =>
    obtain ⟨p, b, r, hP, hR, rfl, rfl, X, B⟩ := hrel
    have r0 := hR.low
    have rr := hR.room
    have rp := hR.pos
    by_cases hb : 0 < b
    · obtain ⟨hp, hN, bl, k, ek, eb⟩ := hP.next hb
      have m0 : r + b ≤ 9223372036854775807 := by omega
      have eo : bits .or .i64 r b = r + b := by
        have d := hR.div
        rw [ek] at d
        rw [eb]
        exact or_bit k r0 d (by omega)
      have M := Lib.hid fun w => Mul_any (r + b) (r + b) w ⟨by omega, m0⟩ ⟨by omega, m0⟩
      have rm : Wd.Rm ((r + b) * (r + b)) := by
        have := sq_le (s := r + b) (t := 9223372036854775807) (by omega) m0
        have := sq_le (s := 0) (t := r + b) (by omega) (by omega)
        unfold Wd.Rm; omega
      have C := Lib.hid fun w => Cmp_any _ _ w rm rx
      have Xa := X.c0; have Xb := X.c1; have Xc := X.f0; have Xd := X.f1
      have HE := Lib.hid ek
      have HP := Lib.hid hp
      have HB := Lib.hid eb
      have HR := Lib.hid hR
      have HN := Lib.hid hN
      clear ek hp eb hP hR hN
      by_cases hm : (r + b) * (r + b) ≤ x
      · have gs : Wd.sg ((r + b) * (r + b) - x) ≤ 0 := by
          by_cases z : (r + b) * (r + b) - x = 0
          · rw [Wd.sg_zero z]; omega
          · rw [Wd.sg_neg (by omega)]; omega
        have HM := Lib.hid hm
        clear hm rm
        generalize Wd.sg ((r + b) * (r + b) - x) = g2 at *
        go_wp2_with fail
        go_region_held3 (fun w' => w'.cell? ⟨w.heap.size, 0, none⟩ = some (.int .i64 (Wd.hi x)) ∧ w'.cell? ⟨w.heap.size, 1, none⟩ = some (.int .u64 (Wd.lo x)))
          (first
            | (go_split_ands; refine ⟨?_, ?_⟩ <;> first | exact keepc hb12 (by assumption) | exact keepc hb11 (by assumption))
            | go_keep)
          (first
            | (go_at_call 24; have _t := B11; clear _t; (with_reducible refine (C.out _).mono ?_); rintro e w12 ⟨rfl, hb12⟩; have B12 := belowT B11 hb12)
            | (go_at_call 18; (with_reducible refine (M.out _).mono ?_); rintro e w11 ⟨rfl, hb11⟩; have B11 := belowT (B).drew hb11))
        go_wp2_with fail
        go_roundw
        case rel => exact ⟨b, b / 2, r + b, HN.out, Rt.yes (by have := HR.out; rw [HP.out] at this; exact this) hb (by have := HM.out; omega), rfl, rfl, (X.drew.keep hb11).keep hb12, B12⟩
        case measure => simp [intOf]; omega
      · have gs : Wd.sg ((r + b) * (r + b) - x) = 1 := Wd.sg_pos (by omega)
        rw [gs] at C
        have HM := Lib.hid hm
        clear hm rm gs
        go_wp2_with fail
        go_region_held3 (fun w' => w'.cell? ⟨w.heap.size, 0, none⟩ = some (.int .i64 (Wd.hi x)) ∧ w'.cell? ⟨w.heap.size, 1, none⟩ = some (.int .u64 (Wd.lo x)))
          (first
            | (go_split_ands; refine ⟨?_, ?_⟩ <;> first | exact keepc hb12 (by assumption) | exact keepc hb11 (by assumption))
            | go_keep)
          (first
            | (go_at_call 24; have _t := B11; clear _t; (with_reducible refine (C.out _).mono ?_); rintro e w12 ⟨rfl, hb12⟩; have B12 := belowT B11 hb12)
            | (go_at_call 18; (with_reducible refine (M.out _).mono ?_); rintro e w11 ⟨rfl, hb11⟩; have B11 := belowT (B).drew hb11))
        go_wp2_with fail
        go_roundw
        case rel => exact ⟨b, b / 2, r, HN.out, Rt.no (by have := HR.out; rw [HP.out] at this; exact this) hb (by have := HM.out; omega), rfl, rfl, (X.drew.keep hb11).keep hb12, B12⟩
        case measure => simp [intOf]; omega
    · have p1 := hP.zero hb
      have db : decide (0 < b) = false := decide_eq_false hb
      have HR := Lib.hid hR
      have HP := Lib.hid p1
      clear hP hR p1 hb
      go_wp2_with fail
      go_ret2
      exact ⟨r, Rt.root (by have := HR.out; rw [HP.out] at this; exact this), rfl, B⟩

theorem Sqrt_any (x : Int) (w : World) (rx : Wd.Rm x) (h0 : 0 ≤ x) :
    Calls Tryd.prog 8 #[.agg #[.int .i64 (Wd.hi x), .int .u64 (Wd.lo x)]] w (RootOf x w) := by
  have hg : 0 ≤ Wd.sg x := by
    by_cases z : x = 0
    · rw [Wd.sg_zero z]; omega
    · rw [Wd.sg_pos (by omega)]; omega
  exact Sqrt_pos x _ w rx h0 hg (Lib.hid fun w => Sign_any x w rx)

/-- Sqrt at a number whose root is known -/
theorem Sqrt_at (x r : Int) (w : World) (rx : Wd.Rm x) (h0 : 0 ≤ x) (h : IsRoot x r) :
    Calls Tryd.prog 8 #[.agg #[.int .i64 (Wd.hi x), .int .u64 (Wd.lo x)]] w fun e w' => e = .returned (.tuple #[.int .i64 r, .int .i64 0]) ∧ Below w.heap.size w w' := by
  refine (Sqrt_any x w rx h0).mono ?_
  rintro e w' ⟨s, hs, rfl, hb⟩
  rw [hs.same h]
  exact ⟨rfl, hb⟩

/-- every number that is not below 0 has a root -/
theorem has_root (x : Int) (h0 : 0 ≤ x) : ∃ r, IsRoot x r := by
  have go : ∀ n : Nat, ∀ r : Int, 0 ≤ r → r ≤ 9223372036854775807 → r * r ≤ x → (∀ t : Int, 0 ≤ t → t ≤ 9223372036854775807 → t * t ≤ x → t ≤ r + n) → ∃ r, IsRoot x r := by
    intro n
    induction n with
    | zero => exact fun r a b c d => ⟨r, a, b, c, fun t e f g => by have := d t e f g; omega⟩
    | succ n ih =>
      intro r a b c d
      by_cases h : r + 1 ≤ 9223372036854775807 ∧ (r + 1) * (r + 1) ≤ x
      · exact ih (r + 1) (by omega) h.1 h.2 (fun t e f g => by have := d t e f g; omega)
      · refine ⟨r, a, b, c, fun t e f g => ?_⟩
        by_cases l : t ≤ r
        · exact l
        · have := sq_le (s := r + 1) (t := t) (by omega) (by omega)
          omega
  exact go 9223372036854775807 0 (by omega) (by omega) (by omega) (fun t _ f _ => by omega)

end Go.Proofs.YtjnegoflnaeifaaDoor
