/- The document's shl, at numbers that have room. -/
import Derived.Test.YtjnegoflnaeifaaDoorRefA
import Derived.Test.YtjnegoflnaeifaaDoorSqrt
namespace Go.Proofs.YtjnegoflnaeifaaDoor.Ref
open Go.RowKit Go.Proofs.YtjnegoflnaeifaaDoor

theorem or_low (a b : Int) (i : Nat) (a0 : 0 ≤ a) (b0 : 0 ≤ b) (hb : b < ((2 ^ i : Nat) : Int)) (hs : a * ((2 ^ i : Nat) : Int) + b < 9223372036854775808) :
    bits .or .i64 (a * ((2 ^ i : Nat) : Int)) b = a * ((2 ^ i : Nat) : Int) + b := by
  obtain ⟨A, rfl⟩ := Int.eq_ofNat_of_zero_le a0
  obtain ⟨B, rfl⟩ := Int.eq_ofNat_of_zero_le b0
  have hb' : B < 2 ^ i := by omega
  have e : A * 2 ^ i ||| B = A * 2 ^ i + B := by rw [Nat.mul_comm, Nat.two_pow_add_eq_or_of_lt hb']
  rw [← Int.natCast_mul] at hs ⊢
  rw [bits_or_i64_nat _ _ (by rw [e]; omega) (by omega) (by omega), e]
  omega

theorem shl3_core (h l u v : Int) (w : World) (h0 : 0 ≤ h) (h1 : h ≤ 1000000000000000000) (l0 : 0 ≤ l) (l1 : l ≤ 18446744073709551615) (eu : bits .or .i64 (h * 8) (l / 2305843009213693952) = u) (ev : IntKind.u64.wrap (l * 8) = v) :
    Calls Tryd.prog 36 #[.agg #[.int .i64 h, .int .u64 l], .int .i64 3] w fun e w' => e = .returned (.tuple #[.agg #[.int .i64 u, .int .u64 v], .bool true]) ∧ Below w.heap.size w w' := by
  go_enter Tryd.func36, Tryd.ntmps36
  go_wp2_with fail
  exact bodyPost_ret (v := .tuple #[.agg #[.int .i64 u, .int .u64 v], .bool true]) (by simp [results, Tryd.results36, go_sem, *]) rfl ⟨rfl, below2 w _ _⟩

theorem shl1_core (h l u v : Int) (w : World) (h0 : 0 ≤ h) (h1 : h ≤ 1000000000000000000) (l0 : 0 ≤ l) (l1 : l ≤ 18446744073709551615) (eu : bits .or .i64 (h * 2) (l / 9223372036854775808) = u) (ev : IntKind.u64.wrap (l * 2) = v) :
    Calls Tryd.prog 36 #[.agg #[.int .i64 h, .int .u64 l], .int .i64 1] w fun e w' => e = .returned (.tuple #[.agg #[.int .i64 u, .int .u64 v], .bool true]) ∧ Below w.heap.size w w' := by
  go_enter Tryd.func36, Tryd.ntmps36
  go_wp2_with fail
  exact bodyPost_ret (v := .tuple #[.agg #[.int .i64 u, .int .u64 v], .bool true]) (by simp [results, Tryd.results36, go_sem, *]) rfl ⟨rfl, below2 w _ _⟩

theorem shl3 (x : Int) (w : World) (h0 : 0 ≤ x) (h1 : x < 10000000000000000000000000000000000000) :
    Calls Tryd.prog 36 #[.agg #[.int .i64 (Wd.hi x), .int .u64 (Wd.lo x)], .int .i64 3] w fun e w' => e = .returned (.tuple #[.agg #[.int .i64 (Wd.hi (x * 8)), .int .u64 (Wd.lo (x * 8))], .bool true]) ∧ Below w.heap.size w w' := by
  have l := Wd.lo_rm x
  have a : 0 ≤ Wd.hi x ∧ Wd.hi x ≤ 1000000000000000000 := by unfold Wd.hi; omega
  refine shl3_core _ _ _ _ w a.1 a.2 l.1 l.2 ?_ ?_
  · have o := or_low (Wd.hi x) (Wd.lo x / 2305843009213693952) 3 a.1 (by omega) (by rw [show ((2 ^ 3 : Nat) : Int) = 8 from rfl]; omega) (by rw [show ((2 ^ 3 : Nat) : Int) = 8 from rfl]; omega)
    rw [show ((2 ^ 3 : Nat) : Int) = 8 from rfl] at o
    rw [o]; unfold Wd.hi Wd.lo; omega
  · rw [wrap_u]; unfold Wd.lo; omega

theorem shl1 (x : Int) (w : World) (h0 : 0 ≤ x) (h1 : x < 10000000000000000000000000000000000000) :
    Calls Tryd.prog 36 #[.agg #[.int .i64 (Wd.hi x), .int .u64 (Wd.lo x)], .int .i64 1] w fun e w' => e = .returned (.tuple #[.agg #[.int .i64 (Wd.hi (x * 2)), .int .u64 (Wd.lo (x * 2))], .bool true]) ∧ Below w.heap.size w w' := by
  have l := Wd.lo_rm x
  have a : 0 ≤ Wd.hi x ∧ Wd.hi x ≤ 1000000000000000000 := by unfold Wd.hi; omega
  refine shl1_core _ _ _ _ w a.1 a.2 l.1 l.2 ?_ ?_
  · have o := or_low (Wd.hi x) (Wd.lo x / 9223372036854775808) 1 a.1 (by omega) (by rw [show ((2 ^ 1 : Nat) : Int) = 2 from rfl]; omega) (by rw [show ((2 ^ 1 : Nat) : Int) = 2 from rfl]; omega)
    rw [show ((2 ^ 1 : Nat) : Int) = 2 from rfl] at o
    rw [o]; unfold Wd.hi Wd.lo; omega
  · rw [wrap_u]; unfold Wd.lo; omega

end Go.Proofs.YtjnegoflnaeifaaDoor.Ref
