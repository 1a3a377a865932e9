/- Signed of the document's own answers for layer 5, over XBuf. -/
import Derived.Test.YtnafodnaolmffaaRefGet
namespace Go.Proofs.Ytnafodnaolmffaa
open Go.RowKit

/-- which of 1 .. 8 -/
theorem eight {n : Nat} (h1 : (1 : Int) ≤ n) (h2 : (n : Int) ≤ 8) : n = 1 ∨ n = 2 ∨ n = 3 ∨ n = 4 ∨ n = 5 ∨ n = 6 ∨ n = 7 ∨ n = 8 := by omega

/-- a number of n bytes, moved up to the top of 64 bits and back: its sign -/
theorem top_back (n m : Nat) (h1 : (1 : Int) ≤ n) (h2 : (n : Int) ≤ 8) (hm : m < 256 ^ n) :
    wrap64 (IntKind.u64.wrap ((m : Int) * 2 ^ (64 - 8 * n))) / 2 ^ (64 - 8 * n) = Oct.sgn n m := by
  unfold Oct.sgn wrap64
  rw [IntKind.wrap_u64]
  rcases eight h1 h2 with rfl | rfl | rfl | rfl | rfl | rfl | rfl | rfl <;> simp only [Nat.reduceMul, Nat.reduceSub, Nat.reducePow, Int.reducePow] at * <;> split <;> omega

namespace Ref

theorem Signed_err (v : Option Addr) (len cap : Nat) (at_ width err : Int) (w : World) (he : (err != 0) = true)
    (G : Hid (Calls Try.prog 45 #[.slice v len cap, .int .i64 at_, .int .i64 width] w fun e w' => e = .returned (.tuple #[.int .u64 0, .int .i64 err]) ∧ w = w')) :
    Calls Try.prog 35 #[.slice v len cap, .int .i64 at_, .int .i64 width] w fun e w' => e = .returned (.tuple #[.int .i64 0, .int .i64 err]) ∧ w = w' := by
  go_enter Try.func35, Try.ntmps35
  go_wp2_with fail
  refine G.out.mono ?_; rintro e w1 ⟨rfl, rfl⟩
  go_wp2
  go_ret2
  exact ⟨rfl, rfl⟩

theorem Signed_ok (v : Option Addr) (len cap n m : Nat) (at_ : Int) (w : World) (h1 : (1 : Int) ≤ n) (h2 : (n : Int) ≤ 8) (hm : m < 256 ^ n)
    (G : Hid (Calls Try.prog 45 #[.slice v len cap, .int .i64 at_, .int .i64 n] w fun e w' => e = .returned (.tuple #[.int .u64 m, .int .i64 0]) ∧ w = w')) :
    Calls Try.prog 35 #[.slice v len cap, .int .i64 at_, .int .i64 n] w fun e w' => e = .returned (.tuple #[.int .i64 (Oct.sgn n m), .int .i64 0]) ∧ w = w' := by
  rw [← top_back n m h1 h2 hm]
  rcases eight h1 h2 with rfl | rfl | rfl | rfl | rfl | rfl | rfl | rfl
  all_goals
    clear h1 h2 hm
    go_enter Try.func35, Try.ntmps35
    go_wp2_with fail
    refine G.out.mono ?_; rintro e w1 ⟨rfl, rfl⟩
    go_wp2
    go_ret2
    first | exact ⟨rfl, rfl⟩ | exact ⟨by simp, rfl⟩

end Ref
end Go.Proofs.Ytnafodnaolmffaa
