/- octet's own Get, Signed, PutSigned. -/
import Derived.Test.YtcnnkgkejafeeaaOwnPut
import Derived.Test.YtcnnkgkejafeeaaOctSig
namespace Go.Proofs.Ytcnnkgkejafeeaa
open Go.RowKit

namespace Own

theorem Get_arg (v : Option Addr) (len cap : Nat) (at_ width : Int) (w : World) (h : at_ < 0 ∨ (0 ≤ at_ ∧ (len : Int) < at_) ∨ (0 ≤ at_ ∧ at_ ≤ len ∧ width < 1) ∨ (0 ≤ at_ ∧ at_ ≤ len ∧ 8 < width)) :
    Calls Try.prog 10 #[.slice v len cap, .int .i64 at_, .int .i64 width] w fun e w' => e = .returned (.tuple #[.int .u64 0, .int .i64 1]) ∧ w = w' := by
  rcases h with h | ⟨h0, h⟩ | ⟨h0, h1, h⟩ | ⟨h0, h1, h⟩
  · go_enter Try.func10, Try.ntmps10
    go_wp2_with fail
    refine (outside_lo v len cap at_ _ h).mono ?_; rintro e w1 ⟨rfl, rfl⟩
    go_wp2
    go_ret2
    exact ⟨rfl, rfl⟩
  · go_enter Try.func10, Try.ntmps10
    go_wp2_with fail
    refine (outside_hi v len cap at_ _ h0 h).mono ?_; rintro e w1 ⟨rfl, rfl⟩
    go_wp2
    go_ret2
    exact ⟨rfl, rfl⟩
  · go_enter Try.func10, Try.ntmps10
    go_wp2_with fail
    refine (outside_no v len cap at_ _ h0 h1).mono ?_; rintro e w1 ⟨rfl, rfl⟩
    go_wp2_with fail
    refine (badWidth_lo width _ h).mono ?_; rintro e w1 ⟨rfl, rfl⟩
    go_wp2
    go_ret2
    exact ⟨rfl, rfl⟩
  · go_enter Try.func10, Try.ntmps10
    go_wp2_with fail
    refine (outside_no v len cap at_ _ h0 h1).mono ?_; rintro e w1 ⟨rfl, rfl⟩
    go_wp2_with fail
    refine (badWidth_hi width _ h).mono ?_; rintro e w1 ⟨rfl, rfl⟩
    go_wp2
    go_ret2
    exact ⟨rfl, rfl⟩

theorem Get_short (v : Option Addr) (len cap k n : Nat) (w : World) (_hl : (len : Int) ≤ 9223372036854775807) (h1 : (k : Int) ≤ len) (h2 : (1 : Int) ≤ n) (h3 : (n : Int) ≤ 8) (h : (len : Int) - k < n) :
    Calls Try.prog 10 #[.slice v len cap, .int .i64 k, .int .i64 n] w fun e w' => e = .returned (.tuple #[.int .u64 0, .int .i64 2]) ∧ w = w' := by
  go_enter Try.func10, Try.ntmps10
  go_wp2_with fail
  refine (outside_no v len cap k _ (by omega) h1).mono ?_; rintro e w1 ⟨rfl, rfl⟩
  go_wp2_with fail
  refine (badWidth_no n _ h2 h3).mono ?_; rintro e w1 ⟨rfl, rfl⟩
  go_wp2
  go_ret2
  exact ⟨rfl, rfl⟩

set_option maxHeartbeats 2000000 in
theorem Get_ok (b o cap k n : Nat) (l : List UInt8) (w : World) (hl : (l.length : Int) ≤ 9223372036854775807) (h2 : (1 : Int) ≤ n) (h3 : (n : Int) ≤ 8) (h : k + n ≤ l.length) (L : Lies w b o l) :
    Calls Try.prog 10 #[.slice (some ⟨b, o, none⟩) l.length cap, .int .i64 k, .int .i64 n] w fun e w' => e = .returned (.tuple #[.int .u64 (sofar l k n : Nat), .int .i64 0]) ∧ w = w' := by
  have d0 : (k : Int) ≤ l.length := by omega
  have d4 : decide ((l.length : Int) - k < n) = false := decide_eq_false (by omega)
  go_enter Try.func10, Try.ntmps10
  go_wp2_with fail
  refine (outside_no _ l.length cap k _ (by omega) d0).mono ?_; rintro e w1 ⟨rfl, rfl⟩
  go_wp2_with fail
  refine (badWidth_no n _ h2 h3).mono ?_; rintro e w1 ⟨rfl, rfl⟩
  go_wp2
  go_loop [8, 26] (fun a i => ∃ j : Nat, j ≤ n ∧ a = .int .u64 (sofar l k j : Nat) ∧ i = .int .i64 j) (fun _ i => n - (intOf i).toNat)
  case atStart => exact ⟨0, Nat.zero_le _, by rw [sofar_zero]; rfl, rfl⟩
  case round =>
    obtain ⟨j, hj, rfl, rfl⟩ := hrel
    by_cases hc : (j : Int) < n
    · have hcell := L (k + j) (by omega)
      have eo := or_byte (sofar l k j) (l.getD (k + j) 0).toNat (sofar_lt l k j (by omega)) (l.getD (k + j) 0).toNat_lt
      rw [← sofar_succ l k j (by omega)] at eo
      obtain ⟨c, hcv⟩ : ∃ c : Nat, c = (l.getD (k + j) 0).toNat := ⟨_, rfl⟩
      have c1 : (c : Int) ≤ 255 := by have := (l.getD (k + j) 0).toNat_lt; omega
      have hlt : (k : Int) + j < l.length := by omega
      rw [← hcv] at hcell eo
      clear hcv L
      go_wp2
      exact ⟨⟨j + 1, by omega, rfl, by simp⟩, by simp [intOf]; omega⟩
    · obtain rfl : j = n := by omega
      go_wp2
      go_ret2
      exact ⟨rfl, rfl⟩

theorem Signed_err (v : Option Addr) (len cap : Nat) (at_ width err : Int) (w : World) (he : (err != 0) = true)
    (G : Hid (Calls Try.prog 10 #[.slice v len cap, .int .i64 at_, .int .i64 width] w fun e w' => e = .returned (.tuple #[.int .u64 0, .int .i64 err]) ∧ w = w')) :
    Calls Try.prog 12 #[.slice v len cap, .int .i64 at_, .int .i64 width] w fun e w' => e = .returned (.tuple #[.int .i64 0, .int .i64 err]) ∧ w = w' := by
  go_enter Try.func12, Try.ntmps12
  go_wp2_with fail
  refine G.out.mono ?_; rintro e w1 ⟨rfl, rfl⟩
  go_wp2
  go_ret2
  exact ⟨rfl, rfl⟩

theorem Signed_ok (v : Option Addr) (len cap n m : Nat) (at_ : Int) (w : World) (h1 : (1 : Int) ≤ n) (h2 : (n : Int) ≤ 8) (hm : m < 256 ^ n)
    (G : Hid (Calls Try.prog 10 #[.slice v len cap, .int .i64 at_, .int .i64 n] w fun e w' => e = .returned (.tuple #[.int .u64 m, .int .i64 0]) ∧ w = w')) :
    Calls Try.prog 12 #[.slice v len cap, .int .i64 at_, .int .i64 n] w fun e w' => e = .returned (.tuple #[.int .i64 (Oct.sgn n m), .int .i64 0]) ∧ w = w' := by
  rw [← top_back n m h1 h2 hm]
  rcases eight h1 h2 with rfl | rfl | rfl | rfl | rfl | rfl | rfl | rfl
  all_goals
    clear h1 h2 hm
    go_enter Try.func12, Try.ntmps12
    go_wp2_with fail
    refine G.out.mono ?_; rintro e w1 ⟨rfl, rfl⟩
    go_wp2
    go_ret2
    first | exact ⟨rfl, rfl⟩ | exact ⟨by simp, rfl⟩

theorem PutSigned_arg (n width : Int) (w : World) (h : width < 1 ∨ 8 < width) :
    Calls Try.prog 8 #[.int .i64 n, .int .i64 width] w fun e w' => e = .returned (.tuple #[.slice none 0 0, .int .i64 1]) ∧ w = w' := by
  rcases h with h | h
  · go_enter Try.func8, Try.ntmps8
    go_wp2_with fail
    refine (badWidth_lo width _ h).mono ?_; rintro e w1 ⟨rfl, rfl⟩
    go_wp2
    go_ret2
    exact ⟨rfl, rfl⟩
  · go_enter Try.func8, Try.ntmps8
    go_wp2_with fail
    refine (badWidth_hi width _ h).mono ?_; rintro e w1 ⟨rfl, rfl⟩
    go_wp2
    go_ret2
    exact ⟨rfl, rfl⟩

theorem PutSigned_over (n : Int) (k : Nat) (w : World) (h1 : (1 : Int) ≤ k) (h2 : (k : Int) ≤ 8) (c0 : (n / 2 ^ (8 * k - 1) != 0) = true) (c1 : (n / 2 ^ (8 * k - 1) != -1) = true) :
    Calls Try.prog 8 #[.int .i64 n, .int .i64 k] w fun e w' => e = .returned (.tuple #[.slice none 0 0, .int .i64 8]) ∧ w = w' := by
  rcases eight h1 h2 with rfl | rfl | rfl | rfl | rfl | rfl | rfl | rfl
  all_goals
    simp only [Nat.reduceMul, Nat.reduceSub, Int.reducePow] at c0 c1
    go_enter Try.func8, Try.ntmps8
    go_wp2_with fail
    refine (badWidth_no _ _ h1 h2).mono ?_; rintro e w1 ⟨rfl, rfl⟩
    clear h1 h2
    go_wp2
    go_ret2
    exact ⟨rfl, rfl⟩

theorem PutSigned_ok (n : Int) (k u : Nat) (w : World) (h1 : (1 : Int) ≤ k) (h2 : (k : Int) ≤ 8) (hu : IntKind.u64.wrap n = (u : Int))
    (c : (n / 2 ^ (8 * k - 1) != 0) = false ∨ (n / 2 ^ (8 * k - 1) != 0) = true ∧ (n / 2 ^ (8 * k - 1) != -1) = false)
    (P : Hid (∀ w, Calls Try.prog 18 #[.int .u64 u, .int .i64 k] w fun e w' => e = .returned (.slice (some ⟨w.heap.size, 0, none⟩) k k) ∧ w' = w.alloc (.cells (vals (Oct.be k u)).toArray 5))) :
    Calls Try.prog 8 #[.int .i64 n, .int .i64 k] w fun e w' => e = .returned (.tuple #[.slice (some ⟨w.heap.size, 0, none⟩) k k, .int .i64 0]) ∧ w' = w.alloc (.cells (vals (Oct.be k u)).toArray 5) := by
  obtain ⟨O, hO⟩ : ∃ O, O = Obj.cells (vals (Oct.be k u)).toArray 5 := ⟨_, rfl⟩
  rw [← hO] at P ⊢
  clear hO
  rcases eight h1 h2 with rfl | rfl | rfl | rfl | rfl | rfl | rfl | rfl
  all_goals
    simp only [Nat.reduceMul, Nat.reduceSub, Int.reducePow] at c
    rcases c with c | ⟨c, c2⟩
    all_goals
      go_enter Try.func8, Try.ntmps8
      go_wp2_with fail
      refine (badWidth_no _ _ h1 h2).mono ?_; rintro e w1 ⟨rfl, rfl⟩
      clear h1 h2
      go_wp2_with fail
      refine (P.out _).mono ?_; rintro e w1 ⟨rfl, rfl⟩
      go_wp2_with fail
      go_ret2
      exact ⟨rfl, rfl⟩

end Own
end Go.Proofs.Ytcnnkgkejafeeaa
