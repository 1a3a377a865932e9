/- The landed octet's Get, over XBuf (Signed: XLanSig). -/
import Derived.Test.YtdalajfjikbcaaaLanPut
namespace Go.Proofs.Ytdalajfjikbcaaa
open Go.RowKit

namespace Own

theorem Get_arg (v : Option Addr) (len cap : Nat) (at_ width : Int) (w : World) (h : at_ < 0 ∨ (0 ≤ at_ ∧ (len : Int) < at_) ∨ (0 ≤ at_ ∧ at_ ≤ len ∧ width < 1) ∨ (0 ≤ at_ ∧ at_ ≤ len ∧ 8 < width)) :
    Calls Try.prog 45 #[.slice v len cap, .int .i64 at_, .int .i64 width] w fun e w' => e = .returned (.tuple #[.int .u64 0, .int .i64 1]) ∧ w = w' := by
  rcases h with h | ⟨h0, h⟩ | ⟨h0, h1, h⟩ | ⟨h0, h1, h⟩
  · go_enter Try.func45, Try.ntmps45
    go_wp2_with fail
    refine (outside_lo v len cap at_ _ h).mono ?_; rintro e w1 ⟨rfl, rfl⟩
    go_wp2
    go_ret2
    exact ⟨rfl, rfl⟩
  · go_enter Try.func45, Try.ntmps45
    go_wp2_with fail
    refine (outside_hi v len cap at_ _ h0 h).mono ?_; rintro e w1 ⟨rfl, rfl⟩
    go_wp2
    go_ret2
    exact ⟨rfl, rfl⟩
  · go_enter Try.func45, Try.ntmps45
    go_wp2_with fail
    refine (outside_no v len cap at_ _ h0 h1).mono ?_; rintro e w1 ⟨rfl, rfl⟩
    go_wp2_with fail
    refine (badWidth_lo width _ h).mono ?_; rintro e w1 ⟨rfl, rfl⟩
    go_wp2
    go_ret2
    exact ⟨rfl, rfl⟩
  · go_enter Try.func45, Try.ntmps45
    go_wp2_with fail
    refine (outside_no v len cap at_ _ h0 h1).mono ?_; rintro e w1 ⟨rfl, rfl⟩
    go_wp2_with fail
    refine (badWidth_hi width _ h).mono ?_; rintro e w1 ⟨rfl, rfl⟩
    go_wp2
    go_ret2
    exact ⟨rfl, rfl⟩

theorem Get_short (v : Option Addr) (len cap k n : Nat) (w : World) (_hl : (len : Int) ≤ 9223372036854775807) (h1 : (k : Int) ≤ len) (h2 : (1 : Int) ≤ n) (h3 : (n : Int) ≤ 8) (h : (len : Int) - k < n) :
    Calls Try.prog 45 #[.slice v len cap, .int .i64 k, .int .i64 n] w fun e w' => e = .returned (.tuple #[.int .u64 0, .int .i64 2]) ∧ w = w' := by
  go_enter Try.func45, Try.ntmps45
  go_wp2_with fail
  refine (outside_no v len cap k _ (by omega) h1).mono ?_; rintro e w1 ⟨rfl, rfl⟩
  go_wp2_with fail
  refine (badWidth_no n _ h2 h3).mono ?_; rintro e w1 ⟨rfl, rfl⟩
  go_wp2
  go_ret2
  exact ⟨rfl, rfl⟩

set_option maxHeartbeats 2000000 in
theorem Get_ok (b o cap k n : Nat) (l : List UInt8) (w : World) (hl : (l.length : Int) ≤ 9223372036854775807) (h2 : (1 : Int) ≤ n) (h3 : (n : Int) ≤ 8) (h : k + n ≤ l.length) (L : Lies w b o l) :
    Calls Try.prog 45 #[.slice (some ⟨b, o, none⟩) l.length cap, .int .i64 k, .int .i64 n] w fun e w' => e = .returned (.tuple #[.int .u64 (sofar l k n : Nat), .int .i64 0]) ∧ w = w' := by
  have d0 : (k : Int) ≤ l.length := by omega
  have d4 : decide ((l.length : Int) - k < n) = false := decide_eq_false (by omega)
  go_enter Try.func45, Try.ntmps45
  go_wp2_with fail
  refine (outside_no _ l.length cap k _ (by omega) d0).mono ?_; rintro e w1 ⟨rfl, rfl⟩
  go_wp2_with fail
  refine (badWidth_no n _ h2 h3).mono ?_; rintro e w1 ⟨rfl, rfl⟩
  go_wp2
  go_loop [8, 26] (fun a i => ∃ j : Nat, j ≤ n ∧ a = .int .u64 (sofar l k j : Nat) ∧ i = .int .i64 j) (fun _ i => n - (intOf i).toNat)
  case atStart => exact ⟨0, Nat.zero_le _, by rw [sofar_zero]; rfl, rfl⟩
  case round =>
    obtain ⟨j, hj, rfl, rfl⟩ := hrel
    by_cases hc : (j : Int) < n
    · have hcell := L (k + j) (by omega)
      have eo := or_byte (sofar l k j) (l.getD (k + j) 0).toNat (sofar_lt l k j (by omega)) (l.getD (k + j) 0).toNat_lt
      rw [← sofar_succ l k j (by omega)] at eo
      obtain ⟨c, hcv⟩ : ∃ c : Nat, c = (l.getD (k + j) 0).toNat := ⟨_, rfl⟩
      have c1 : (c : Int) ≤ 255 := by have := (l.getD (k + j) 0).toNat_lt; omega
      have hlt : (k : Int) + j < l.length := by omega
      rw [← hcv] at hcell eo
      clear hcv L
      go_wp2
      exact ⟨⟨j + 1, by omega, rfl, by simp⟩, by simp [intOf]; omega⟩
    · obtain rfl : j = n := by omega
      go_wp2
      go_ret2
      exact ⟨rfl, rfl⟩

end Own
end Go.Proofs.Ytdalajfjikbcaaa
