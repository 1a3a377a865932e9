/- The document's own root. -/
import Derived.Test.YtjnegoflnaeifaaDoorSqrt
import Derived.Test.YtjnegoflnaeifaaDoorRefD
import Derived.LoopTactic
namespace Go.Proofs.YtjnegoflnaeifaaDoor.Ref
open Go.RowKit Go.Proofs.YtjnegoflnaeifaaDoor

theorem Sqrt_neg (x : Int) (w : World) (rx : Wd.Rm x) (h : x < 0) :
    Calls Tryd.prog 9 #[.agg #[.int .i64 (Wd.hi x), .int .u64 (Wd.lo x)]] w fun e w' => e = .returned (.tuple #[.int .i64 0, .int .i64 1]) ∧ Below w.heap.size w w' := by
  have S := Lib.hid fun w => Sign_any x w rx
  rw [Wd.sg_neg h] at S
  clear h rx
  go_enter Tryd.func9, Tryd.ntmps9
  go_wp2_with fail
  refine (S.out _).mono ?_; rintro e w1 ⟨rfl, hb1⟩
  have B1 := belowT (below1 w _) hb1
  go_wp2_with fail
  go_ret2
  exact ⟨rfl, B1⟩

theorem pow_next (k : Nat) : (2 : Int) ^ (k + 1) = 2 ^ k + 2 ^ k := by rw [Int.pow_succ]; omega
theorem pow_pos (k : Nat) : (0 : Int) < 2 ^ k := by
  have : ((2 ^ k : Nat) : Int) = 2 ^ k := Int.natCast_pow 2 k
  have := Nat.two_pow_pos k
  omega
theorem pow_le62 (k : Nat) (h : k ≤ 62) : (2 : Int) ^ k ≤ 4611686018427387904 := by
  have e : ((2 ^ k : Nat) : Int) = 2 ^ k := Int.natCast_pow 2 k
  have : 2 ^ k ≤ 2 ^ 62 := Nat.pow_le_pow_right (by decide) h
  rw [← e]
  have e2 : (2 : Nat) ^ 62 = 4611686018427387904 := by decide
  omega

theorem rt_start (x : Int) (h0 : 0 ≤ x) : Rt x 0 (2 ^ 63) := by
  have e : (2 : Int) ^ 63 = 9223372036854775808 := by decide
  rw [e]
  exact ⟨by omega, by omega, fun t _ _ _ => by omega, by decide, by omega, by omega⟩

set_option maxHeartbeats 1000000 in
theorem Sqrt_pos (x g : Int) (w : World) (rx : Wd.Rm x) (h0 : 0 ≤ x) (hg : 0 ≤ g)
    (S : Hid (∀ w, Calls Tryd.prog 30 #[.agg #[.int .i64 (Wd.hi x), .int .u64 (Wd.lo x)]] w fun e w' => e = .returned (.int .i64 g) ∧ Below w.heap.size w w')) :
    Calls Tryd.prog 9 #[.agg #[.int .i64 (Wd.hi x), .int .u64 (Wd.lo x)]] w (RootOf x w) := by
  have dg : decide (g < 0) = false := decide_eq_false (by omega)
  go_enter Tryd.func9, Tryd.ntmps9
  go_wp2_with fail
  refine (S.out _).mono ?_; rintro e w1 ⟨rfl, hb1⟩
  have B1 := belowT (below1 w _) hb1
  have X1 := (own2 w _ _ _).keep hb1; have X1a := X1.c0; have X1b := X1.c1; have X1c := X1.f0; have X1d := X1.f1; have X1l := X1.lt
  go_wp2_with fail
  go_loopw [4, 5] (fun vr vi wr => ∃ (k : Nat) (r : Int), k ≤ 63 ∧ Rt x r (2 ^ k) ∧ vr = .int .i64 r ∧ vi = .int .i64 ((k : Int) - 1) ∧ Own2 wr w.heap.size (.int .i64 (Wd.hi x)) (.int .u64 (Wd.lo x)) ∧ Below w.heap.size w wr) (fun _ vi _ => (intOf vi + 1).toNat)
  case atStart =>
    exact ⟨63, 0, by omega, rt_start x h0, rfl, rfl, X1, B1⟩
  case round =>
    obtain ⟨k, r, hk, hR, rfl, rfl, X, B⟩ := hrel
    match k, hk, hR with
    | 0, _, hR =>
      have HR := Lib.hid hR
      clear hR
      have e : ((0 : Nat) : Int) - 1 = -1 := by omega
      rw [e]
      clear e
      go_wp2_with fail
      go_ret2
      exact ⟨r, Rt.root (by have := HR.out; rw [Int.pow_zero] at this; exact this), rfl, B⟩
    | k + 1, hk, hR =>
      have e : ((k + 1 : Nat) : Int) - 1 = (k : Int) := by omega
      rw [e]
      clear e
      have r0 := hR.low
      have rr := hR.room
      have pp := pow_pos k
      have pl := pow_le62 k (by omega)
      have eo : bits .or .i64 r (2 ^ k) = r + 2 ^ k := or_bit k r0 hR.div (by rw [pow_next] at rr; omega)
      have hR2 : Rt x r ((2 : Int) ^ k + 2 ^ k) := by rw [← pow_next]; exact hR
      have m0 : r + 2 ^ k ≤ 9223372036854775807 := by have := hR2.room; omega
      have k0 : (0 : Int) ≤ (k : Int) := by omega
      have k1 : (k : Int) ≤ 62 := by omega
      clear rr hR
      obtain ⟨b, hb⟩ : ∃ b : Int, (2 : Int) ^ k = b := ⟨_, rfl⟩
      obtain ⟨n, hn⟩ : ∃ n : Int, r + b = n := ⟨_, rfl⟩
      have es : IntKind.i64.wrap (2 ^ k) = b := by rw [hb, IntKind.wrap_i64]; omega
      rw [hb] at eo hR2 m0 pp pl
      have M := Lib.hid fun w => Mul_any n n w (by unfold Wd.R6; omega) (by unfold Wd.R6; omega)
      have rm : Wd.Rm (n * n) := by
        have := sq_le (s := n) (t := 9223372036854775807) (by omega) (by omega)
        have := sq_le (s := 0) (t := n) (by omega) (by omega)
        unfold Wd.Rm; omega
      have C := Lib.hid fun w => Cmp_any _ _ w rm rx
      rw [hn] at eo
      have Xa := X.c0; have Xb := X.c1; have Xc := X.f0; have Xd := X.f1
      have HR := Lib.hid hR2
      have HN := Lib.hid hn
      have HB := Lib.hid hb
      clear hR2 hn hb hk
      by_cases hm : n * n ≤ x
      · have gs : Wd.sg (n * n - x) ≤ 0 := by
          by_cases z : n * n - x = 0
          · rw [Wd.sg_zero z]; omega
          · rw [Wd.sg_neg (by omega)]; omega
        have HM := Lib.hid hm
        clear hm rm
        generalize Wd.sg (n * n - x) = g2 at *
        go_wp2_with fail
        go_region_held3 (fun w' => w'.cell? ⟨w.heap.size, 0, none⟩ = some (.int .i64 (Wd.hi x)) ∧ w'.cell? ⟨w.heap.size, 1, none⟩ = some (.int .u64 (Wd.lo x)))
          (first
            | (go_split_ands; refine ⟨?_, ?_⟩ <;> first | exact keepc hb12 (by assumption) | exact keepc hb11 (by assumption))
            | go_keep)
          (first
            | (go_at_call 31; have _t := B11; clear _t; (with_reducible refine (C.out _).mono ?_); rintro e w12 ⟨rfl, hb12⟩; have B12 := belowT B11 hb12)
            | (go_at_call 32; (with_reducible refine (M.out _).mono ?_); rintro e w11 ⟨rfl, hb11⟩; have B11 := belowT (B).drew hb11))
        go_wp2_with fail
        go_roundw
        case rel => exact ⟨k, n, by omega, by rw [← HN.out, HB.out]; exact Rt.yes HR.out pp (by have := HM.out; rw [← HN.out] at this; exact this), rfl, rfl, (X.drew.keep hb11).keep hb12, B12⟩
        case measure => simp [intOf]
      · have gs : Wd.sg (n * n - x) = 1 := Wd.sg_pos (by omega)
        rw [gs] at C
        have HM := Lib.hid hm
        clear hm rm gs
        go_wp2_with fail
        go_region_held3 (fun w' => w'.cell? ⟨w.heap.size, 0, none⟩ = some (.int .i64 (Wd.hi x)) ∧ w'.cell? ⟨w.heap.size, 1, none⟩ = some (.int .u64 (Wd.lo x)))
          (first
            | (go_split_ands; refine ⟨?_, ?_⟩ <;> first | exact keepc hb12 (by assumption) | exact keepc hb11 (by assumption))
            | go_keep)
          (first
            | (go_at_call 31; have _t := B11; clear _t; (with_reducible refine (C.out _).mono ?_); rintro e w12 ⟨rfl, hb12⟩; have B12 := belowT B11 hb12)
            | (go_at_call 32; (with_reducible refine (M.out _).mono ?_); rintro e w11 ⟨rfl, hb11⟩; have B11 := belowT (B).drew hb11))
        go_wp2_with fail
        go_roundw
        case rel => exact ⟨k, r, by omega, by rw [HB.out]; exact Rt.no HR.out pp (by have := HM.out; rw [← HN.out] at this; exact Int.not_le.mpr this), rfl, rfl, (X.drew.keep hb11).keep hb12, B12⟩
        case measure => simp [intOf]

theorem Sqrt_at (x r : Int) (w : World) (rx : Wd.Rm x) (h0 : 0 ≤ x) (h : IsRoot x r) :
    Calls Tryd.prog 9 #[.agg #[.int .i64 (Wd.hi x), .int .u64 (Wd.lo x)]] w fun e w' => e = .returned (.tuple #[.int .i64 r, .int .i64 0]) ∧ Below w.heap.size w w' := by
  have hg : 0 ≤ Wd.sg x := by
    by_cases z : x = 0
    · rw [Wd.sg_zero z]; omega
    · rw [Wd.sg_pos (by omega)]; omega
  refine (Sqrt_pos x _ w rx h0 hg (Lib.hid fun w => Sign_any x w rx)).mono ?_
  rintro e w' ⟨s, hs, rfl, hb⟩
  rw [hs.same h]
  exact ⟨rfl, hb⟩

end Go.Proofs.YtjnegoflnaeifaaDoor.Ref
