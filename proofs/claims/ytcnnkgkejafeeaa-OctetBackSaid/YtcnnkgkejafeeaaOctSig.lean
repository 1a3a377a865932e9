/- Signed and PutSigned of the document's own answers for layer 5. -/
import Derived.Test.YtcnnkgkejafeeaaOctGet
namespace Go.Proofs.Ytcnnkgkejafeeaa
open Go.RowKit

/-- which of 1 .. 8 -/
theorem eight {n : Nat} (h1 : (1 : Int) ≤ n) (h2 : (n : Int) ≤ 8) : n = 1 ∨ n = 2 ∨ n = 3 ∨ n = 4 ∨ n = 5 ∨ n = 6 ∨ n = 7 ∨ n = 8 := by omega

/-- a number of n bytes, moved up to the top of 64 bits and back: its sign -/
theorem top_back (n m : Nat) (h1 : (1 : Int) ≤ n) (h2 : (n : Int) ≤ 8) (hm : m < 256 ^ n) :
    wrap64 (IntKind.u64.wrap ((m : Int) * 2 ^ (64 - 8 * n))) / 2 ^ (64 - 8 * n) = Oct.sgn n m := by
  unfold Oct.sgn wrap64
  rw [IntKind.wrap_u64]
  rcases eight h1 h2 with rfl | rfl | rfl | rfl | rfl | rfl | rfl | rfl <;> simp only [Nat.reduceMul, Nat.reduceSub, Nat.reducePow, Int.reducePow] at * <;> split <;> omega

namespace Ref

theorem Signed_err (v : Option Addr) (len cap : Nat) (at_ width err : Int) (w : World) (he : (err != 0) = true)
    (G : Hid (Calls Try.prog 11 #[.slice v len cap, .int .i64 at_, .int .i64 width] w fun e w' => e = .returned (.tuple #[.int .u64 0, .int .i64 err]) ∧ w = w')) :
    Calls Try.prog 13 #[.slice v len cap, .int .i64 at_, .int .i64 width] w fun e w' => e = .returned (.tuple #[.int .i64 0, .int .i64 err]) ∧ w = w' := by
  go_enter Try.func13, Try.ntmps13
  go_wp2_with fail
  refine G.out.mono ?_; rintro e w1 ⟨rfl, rfl⟩
  go_wp2
  go_ret2
  exact ⟨rfl, rfl⟩

theorem Signed_ok (v : Option Addr) (len cap n m : Nat) (at_ : Int) (w : World) (h1 : (1 : Int) ≤ n) (h2 : (n : Int) ≤ 8) (hm : m < 256 ^ n)
    (G : Hid (Calls Try.prog 11 #[.slice v len cap, .int .i64 at_, .int .i64 n] w fun e w' => e = .returned (.tuple #[.int .u64 m, .int .i64 0]) ∧ w = w')) :
    Calls Try.prog 13 #[.slice v len cap, .int .i64 at_, .int .i64 n] w fun e w' => e = .returned (.tuple #[.int .i64 (Oct.sgn n m), .int .i64 0]) ∧ w = w' := by
  rw [← top_back n m h1 h2 hm]
  rcases eight h1 h2 with rfl | rfl | rfl | rfl | rfl | rfl | rfl | rfl
  all_goals
    clear h1 h2 hm
    go_enter Try.func13, Try.ntmps13
    go_wp2_with fail
    refine G.out.mono ?_; rintro e w1 ⟨rfl, rfl⟩
    go_wp2
    go_ret2
    first | exact ⟨rfl, rfl⟩ | exact ⟨by simp, rfl⟩

theorem PutSigned_arg (n width : Int) (w : World) (h : width < 1 ∨ 8 < width) :
    Calls Try.prog 9 #[.int .i64 n, .int .i64 width] w fun e w' => e = .returned (.tuple #[.slice none 0 0, .int .i64 1]) ∧ w = w' := by
  rcases h with h | h
  · go_enter Try.func9, Try.ntmps9
    go_wp2
    go_ret2
    exact ⟨rfl, rfl⟩
  · have d : decide (width < 1) = false := decide_eq_false (by omega)
    go_enter Try.func9, Try.ntmps9
    go_wp2
    go_ret2
    exact ⟨rfl, rfl⟩

theorem PutSigned_over (n : Int) (k : Nat) (w : World) (h1 : (1 : Int) ≤ k) (h2 : (k : Int) ≤ 8) (c0 : (n / 2 ^ (8 * k - 1) != 0) = true) (c1 : (n / 2 ^ (8 * k - 1) != -1) = true) :
    Calls Try.prog 9 #[.int .i64 n, .int .i64 k] w fun e w' => e = .returned (.tuple #[.slice none 0 0, .int .i64 8]) ∧ w = w' := by
  rcases eight h1 h2 with rfl | rfl | rfl | rfl | rfl | rfl | rfl | rfl
  all_goals
    simp only [Nat.reduceMul, Nat.reduceSub, Int.reducePow] at c0 c1
    clear h1 h2
    go_enter Try.func9, Try.ntmps9
    go_wp2
    go_ret2
    exact ⟨rfl, rfl⟩

theorem PutSigned_ok (n : Int) (k u : Nat) (w : World) (h1 : (1 : Int) ≤ k) (h2 : (k : Int) ≤ 8) (hu : IntKind.u64.wrap n = (u : Int))
    (c : (n / 2 ^ (8 * k - 1) != 0) = false ∨ (n / 2 ^ (8 * k - 1) != 0) = true ∧ (n / 2 ^ (8 * k - 1) != -1) = false)
    (P : Hid (∀ w, Calls Try.prog 19 #[.int .u64 u, .int .i64 k] w fun e w' => e = .returned (.slice (some ⟨w.heap.size, 0, none⟩) k k) ∧ w' = w.alloc (.cells (vals (Oct.be k u)).toArray 5))) :
    Calls Try.prog 9 #[.int .i64 n, .int .i64 k] w fun e w' => e = .returned (.tuple #[.slice (some ⟨w.heap.size, 0, none⟩) k k, .int .i64 0]) ∧ w' = w.alloc (.cells (vals (Oct.be k u)).toArray 5) := by
  obtain ⟨O, hO⟩ : ∃ O, O = Obj.cells (vals (Oct.be k u)).toArray 5 := ⟨_, rfl⟩
  rw [← hO] at P ⊢
  clear hO
  rcases eight h1 h2 with rfl | rfl | rfl | rfl | rfl | rfl | rfl | rfl
  all_goals
    simp only [Nat.reduceMul, Nat.reduceSub, Int.reducePow] at c
    clear h1 h2
    rcases c with c | ⟨c, c2⟩
    all_goals
      go_enter Try.func9, Try.ntmps9
      go_wp2_with fail
      refine (P.out _).mono ?_; rintro e w1 ⟨rfl, rfl⟩
      go_wp2_with fail
      go_ret2
      exact ⟨rfl, rfl⟩

end Ref
end Go.Proofs.Ytcnnkgkejafeeaa
