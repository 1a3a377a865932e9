/- The document's own answer for shifts. -/
import Derived.Test.YtfgjkkabipmhhaaRefA
import Derived.Test.YtfgjkkabipmhhaaWideE
namespace Go.Proofs.Ytfgjkkabipmhhaa.Ref
open Go.RowKit Go.Proofs.Ytfgjkkabipmhhaa

theorem Shift_arg (h l n : Int) (w : World) (hn : n < 0 ∨ 127 < n) :
    Calls Try.prog 12 #[.agg #[.int .i64 h, .int .u64 l], .int .i64 n] w fun e w' => e = .returned (.tuple #[.agg #[.int .i64 (Wd.hi 0), .int .u64 (Wd.lo 0)], .int .i64 1]) ∧ Below w.heap.size w w' := by
  rw [Wd.hi_zero, Wd.lo_zero]
  rcases hn with hn | hn
  all_goals
    go_enter Try.func12, Try.ntmps12
    go_wp2_with fail
    exact bodyPost_ret (v := .tuple #[.agg #[.int .i64 0, .int .u64 0], .int .i64 1]) (by simp [results, Try.results12, go_sem]) rfl ⟨rfl, below2 w _ _⟩

theorem Shift_none (h l : Int) (w : World) :
    Calls Try.prog 12 #[.agg #[.int .i64 h, .int .u64 l], .int .i64 0] w fun e w' => e = .returned (.tuple #[.agg #[.int .i64 h, .int .u64 l], .int .i64 0]) ∧ Below w.heap.size w w' := by
  go_enter Try.func12, Try.ntmps12
  go_wp2_with fail
  exact bodyPost_ret (v := .tuple #[.agg #[.int .i64 h, .int .u64 l], .int .i64 0]) (by simp [results, Try.results12, go_sem]) rfl ⟨rfl, below2 w _ _⟩

theorem Shift_lo (h l v : Int) (k : Nat) (w : World) (hk : k < 64) (h0 : 0 < k)
    (ev : bits .or .u64 (l / 2 ^ k) (IntKind.u64.wrap (IntKind.u64.wrap h * 2 ^ (64 - k))) = v) :
    Calls Try.prog 12 #[.agg #[.int .i64 h, .int .u64 l], .int .i64 (k : Int)] w fun e w' => e = .returned (.tuple #[.agg #[.int .i64 (h / 2 ^ k), .int .u64 v], .int .i64 0]) ∧ Below w.heap.size w w' := by
  have k1 : (k : Int) < 64 := by omega
  have k3 : decide ((k : Int) < 0) = false := decide_eq_false (by omega)
  have k4 : decide (127 < (k : Int)) = false := decide_eq_false (by omega)
  have k5 : decide (64 ≤ (k : Int)) = false := decide_eq_false (by omega)
  have k6 : ((k : Int) == 0) = false := by rw [beq_eq_false_iff_ne]; omega
  go_enter Try.func12, Try.ntmps12
  go_wp2_with fail
  exact bodyPost_ret (v := .tuple #[.agg #[.int .i64 (h / 2 ^ k), .int .u64 v], .int .i64 0]) (by simp [results, Try.results12, go_sem, *]) rfl ⟨rfl, below2 w _ _⟩

theorem Shift_hi (h l u v : Int) (k : Nat) (w : World) (hk : k < 64) (eu : h / 9223372036854775808 = u) (ev : IntKind.u64.wrap (h / 2 ^ k) = v) :
    Calls Try.prog 12 #[.agg #[.int .i64 h, .int .u64 l], .int .i64 ((k : Int) + 64)] w fun e w' => e = .returned (.tuple #[.agg #[.int .i64 u, .int .u64 v], .int .i64 0]) ∧ Below w.heap.size w w' := by
  have k0 : (0 : Int) ≤ (k : Int) := by omega
  have k1 : (k : Int) < 64 := by omega
  have k3 : decide ((k : Int) + 64 < 0) = false := decide_eq_false (by omega)
  have k4 : decide (127 < (k : Int) + 64) = false := decide_eq_false (by omega)
  have k6 : ((k : Int) + 64 == 0) = false := by rw [beq_eq_false_iff_ne]; omega
  go_enter Try.func12, Try.ntmps12
  go_wp2_with fail
  exact bodyPost_ret (v := .tuple #[.agg #[.int .i64 u, .int .u64 v], .int .i64 0]) (by simp [results, Try.results12, go_sem, *]) rfl ⟨rfl, below2 w _ _⟩

theorem or_comm64 (a b : Int) : bits .or .u64 a b = bits .or .u64 b a := by
  show IntKind.u64.wrap ((BitVec.ofInt 64 a ||| BitVec.ofInt 64 b).toNat : Int) = IntKind.u64.wrap ((BitVec.ofInt 64 b ||| BitVec.ofInt 64 a).toNat : Int)
  rw [BitVec.or_comm]

theorem Shift_small (x : Int) (k : Nat) (w : World) (rx : Wd.Rm x) (hk : k < 64) :
    Calls Try.prog 12 #[.agg #[.int .i64 (Wd.hi x), .int .u64 (Wd.lo x)], .int .i64 (k : Int)] w fun e w' => e = .returned (.tuple #[.agg #[.int .i64 (Wd.hi (x / 2 ^ k)), .int .u64 (Wd.lo (x / 2 ^ k))], .int .i64 0]) ∧ Below w.heap.size w w' := by
  by_cases k0 : k = 0
  · subst k0
    rw [Int.pow_zero, Int.ediv_one]
    exact Shift_none _ _ w
  have h := Wd.hi_rm x
  have l := Wd.lo_rm x
  have ex := Wd.halves x rx
  have e : (2 : Int) ^ (64 - k) * 2 ^ k = 18446744073709551616 := by
    rw [← Int.pow_add, show 64 - k + k = 64 by omega]; rfl
  have p1 : (0 : Int) < 2 ^ k := Int.pow_pos (by omega)
  have p2 : (0 : Int) < 2 ^ (64 - k) := Int.pow_pos (by omega)
  obtain ⟨s1, s2, s3, s4, s5, s6, s7⟩ := shift_num (Wd.hi x) (Wd.lo x) (2 ^ k) (2 ^ (64 - k)) p1 p2 e h.1 h.2 l.1 (by omega)
  rw [← ex] at s1 s2
  have m := Int.emod_nonneg (Wd.hi x) (show (2 : Int) ^ k ≠ 0 by omega)
  have o := or_shift _ _ (64 - k) m s3 s4 s7 s6
  rw [s1, s2]
  refine Shift_lo (Wd.hi x) (Wd.lo x) _ k w hk (by omega) ?_
  rw [or_comm64, wrap_u, wrap_u, emod_mul, s5]
  exact o

theorem Shift_great (x : Int) (k : Nat) (w : World) (rx : Wd.Rm x) (hk : k < 64) :
    Calls Try.prog 12 #[.agg #[.int .i64 (Wd.hi x), .int .u64 (Wd.lo x)], .int .i64 ((k : Int) + 64)] w fun e w' => e = .returned (.tuple #[.agg #[.int .i64 (Wd.hi (x / 2 ^ (k + 64))), .int .u64 (Wd.lo (x / 2 ^ (k + 64)))], .int .i64 0]) ∧ Below w.heap.size w w' := by
  have h := Wd.hi_rm x
  have l := Wd.lo_rm x
  have ex := Wd.halves x rx
  have p1 : (0 : Int) < 2 ^ k := Int.pow_pos (by omega)
  have e : x / 2 ^ (k + 64) = Wd.hi x / 2 ^ k := by
    rw [Nat.add_comm, Int.pow_add, ← Int.ediv_ediv_of_nonneg (by decide), show (2 : Int) ^ 64 = 18446744073709551616 from rfl]
    congr 1
    omega
  have a1 : -9223372036854775808 ≤ Wd.hi x / 2 ^ k := by
    rw [Int.le_ediv_iff_mul_le p1]
    have := Int.mul_le_mul_of_nonpos_left (a := -9223372036854775808) (by omega) (show (1 : Int) ≤ 2 ^ k by omega)
    omega
  have a2 : Wd.hi x / 2 ^ k < 9223372036854775808 := by
    refine Int.ediv_lt_of_lt_mul p1 ?_
    have := Int.mul_le_mul_of_nonneg_left (show (1 : Int) ≤ 2 ^ k by omega) (show (0 : Int) ≤ 9223372036854775808 by omega)
    omega
  have a3 : Wd.hi x / 2 ^ k < 0 ↔ Wd.hi x < 0 := by
    constructor
    · intro g
      by_cases z : Wd.hi x < 0
      · exact z
      · have := Int.ediv_nonneg (show 0 ≤ Wd.hi x by omega) (show (0 : Int) ≤ 2 ^ k by omega)
        omega
    · intro g
      exact Int.ediv_neg_of_neg_of_pos g p1
  rw [e]
  generalize hq : Wd.hi x / 2 ^ k = q at *
  refine Shift_hi (Wd.hi x) (Wd.lo x) _ _ k w hk ?_ ?_
  · unfold Wd.hi at *; omega
  · rw [hq, wrap_u]; rfl

theorem Shift_any (x n : Int) (w : World) (rx : Wd.Rm x) (h0 : 0 ≤ n) (h1 : n ≤ 127) :
    Calls Try.prog 12 #[.agg #[.int .i64 (Wd.hi x), .int .u64 (Wd.lo x)], .int .i64 n] w fun e w' => e = .returned (.tuple #[.agg #[.int .i64 (Wd.hi (x / 2 ^ n.toNat)), .int .u64 (Wd.lo (x / 2 ^ n.toNat))], .int .i64 0]) ∧ Below w.heap.size w w' := by
  by_cases h : n < 64
  · have c := Shift_small x n.toNat w rx (by omega)
    rw [show ((n.toNat : Nat) : Int) = n by omega] at c
    exact c
  · have c := Shift_great x (n.toNat - 64) w rx (by omega)
    rw [show (((n.toNat - 64 : Nat) : Int) + 64) = n by omega, show n.toNat - 64 + 64 = n.toNat by omega] at c
    exact c

end Go.Proofs.Ytfgjkkabipmhhaa.Ref
