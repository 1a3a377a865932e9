/- The document's own From. -/
import Derived.Test.YtldbkompebefmaaDoorLtB
import Derived.Lib.MinMax
import Derived.Deep.RegionWith
import Derived.Deep.CutBlock
import Derived.Deep.CutRange
import Derived.BigRegion
namespace Go.Proofs.YtldbkompebefmaaDoor
open Go.RowKit Ld Lat

namespace Ref33
theorem and1 (x : Int) : bits .and .i64 x 1 = x % 2 := by
  show IntKind.i64.wrap ((BitVec.ofInt 64 x &&& BitVec.ofInt 64 1).toNat : Int) = _
  rw [BitVec.toNat_and, BitVec.toNat_ofInt, show (BitVec.ofInt 64 1).toNat = 2 ^ 1 - 1 by decide, Nat.and_two_pow_sub_one_eq_mod, IntKind.wrap_i64]
  omega
theorem cast_bit {k : Nat} (m : Nat) : (((m : Int) / (k : Int)) % 2 == 1) = (m / k % 2 == 1) := by
  have e : ((m : Int) / (k : Int)) % 2 = ((m / k % 2 : Nat) : Int) := by omega
  rw [e]
  rcases (show m / k % 2 = 0 ∨ m / k % 2 = 1 by omega) with h | h <;> rw [h] <;> rfl
theorem or_lo (u al sp : Int) (h1 : 0 ≤ u) (h2 : u ≤ 7) (h3 : 0 ≤ al) (h4 : al ≤ 3) (h5 : 0 ≤ sp) (h6 : sp ≤ 3) : bits .or .i64 u (al * 8) = u + 8 * al ∧ bits .or .i64 (u + 8 * al) (sp * 32) = u + 8 * al + 32 * sp := by
  have g : ∀ (u : Fin 8) (al : Fin 4), bits .or .i64 (u.val : Int) ((al.val : Int) * 8) = (u.val : Int) + 8 * (al.val : Int) := by decide +kernel
  have g2 : ∀ (x : Fin 32) (sp : Fin 4), bits .or .i64 (x.val : Int) ((sp.val : Int) * 32) = (x.val : Int) + 32 * (sp.val : Int) := by decide +kernel
  have k := g ⟨u.toNat, by omega⟩ ⟨al.toNat, by omega⟩
  have k2 := g2 ⟨(u + 8 * al).toNat, by omega⟩ ⟨sp.toNat, by omega⟩
  simp only at k k2
  rw [show ((u.toNat : Nat) : Int) = u by omega, show ((al.toNat : Nat) : Int) = al by omega] at k
  rw [show (((u + 8 * al).toNat : Nat) : Int) = u + 8 * al by omega, show ((sp.toNat : Nat) : Int) = sp by omega] at k2
  exact ⟨k, k2⟩
theorem or_top (x : Nat) (k : Nat) (h : x < 2 ^ k) (hk : k < 10) : bits .or .i64 (x : Int) ((2 ^ k : Nat) : Int) = ((x + 2 ^ k : Nat) : Int) := by
  have h10 : (2 : Nat) ^ k ≤ 2 ^ 9 := Nat.pow_le_pow_right (by decide) (by omega)
  have e1 : (BitVec.ofInt 64 (x : Int)).toNat = x := by rw [BitVec.toNat_ofInt]; omega
  have e2 : (BitVec.ofInt 64 ((2 ^ k : Nat) : Int)).toNat = 2 ^ k := by rw [BitVec.toNat_ofInt]; omega
  have e3 : x ||| 2 ^ k = x + 2 ^ k := by
    have := Nat.two_pow_add_eq_or_of_lt h 1
    rw [Nat.mul_one, Nat.or_comm] at this
    rw [← this, Nat.add_comm]
  show IntKind.i64.wrap ((BitVec.ofInt 64 (x : Int) ||| BitVec.ofInt 64 ((2 ^ k : Nat) : Int)).toNat : Int) = _
  rw [BitVec.toNat_or, e1, e2, e3, wrap_i64]
  omega
theorem or_fl (x : Int) (k : Nat) (h0 : 0 ≤ x) (h : x < ((2 ^ k : Nat) : Int)) (hk : k < 10) : bits .or .i64 x ((2 ^ k : Nat) : Int) = x + ((2 ^ k : Nat) : Int) := by
  have g := or_top x.toNat k (by omega) hk
  rw [show ((x.toNat : Nat) : Int) = x by omega] at g
  rw [g]
  omega
set_option maxHeartbeats 8000000 in
set_option maxRecDepth 100000 in
theorem From_low (n : Int) (w : World)
    (D0 : Hid (decide (n < 0) = true))
    : Calls Tryd.prog 20 #[.int .i64 n] w fun e w' => e = .returned (.tuple #[.agg #[.int .i64 0, .bool false, .int .i64 0, .int .i64 0, .bool false, .bool false], .int .i64 1]) ∧ Below w.heap.size w w' := by
  have hS1 := (Sp.none w).more [.int .i64 0, .bool false, .int .i64 0, .int .i64 0, .bool false, .bool false] 23
  have HS1 := Lib.hid hS1
  clear hS1
  have d0 := D0.out
  go_enter Tryd.func20, Tryd.ntmps20
  go_upto_region 2 with fail
  obtain ⟨w1, hX, hS⟩ := (HS1.out).named
  rw [← hX]
  clear hX HS1
  have HS2 := Lib.hid hS
  clear hS
  have r0_0 := (HS2.out).at 0 rfl 0 (v := .int .i64 0) rfl
  have r0_1 := (HS2.out).at 0 rfl 1 (v := .bool false) rfl
  have r0_2 := (HS2.out).at 0 rfl 2 (v := .int .i64 0) rfl
  have r0_3 := (HS2.out).at 0 rfl 3 (v := .int .i64 0) rfl
  have r0_4 := (HS2.out).at 0 rfl 4 (v := .bool false) rfl
  have r0_5 := (HS2.out).at 0 rfl 5 (v := .bool false) rfl
  have rf0_0 := (HS2.out).free 0 rfl 0 rfl
  have rf0_1 := (HS2.out).free 0 rfl 1 rfl
  have rf0_2 := (HS2.out).free 0 rfl 2 rfl
  have rf0_3 := (HS2.out).free 0 rfl 3 rfl
  have rf0_4 := (HS2.out).free 0 rfl 4 rfl
  have rf0_5 := (HS2.out).free 0 rfl 5 rfl
  have BH := Lib.hid HS2.out.below
  go_wp2_with fail
  refine bodyPost_ret (v := .tuple #[.agg #[.int .i64 0, .bool false, .int .i64 0, .int .i64 0, .bool false, .bool false], .int .i64 1]) (by simp [results, Tryd.results20, go_sem, r0_0, r0_1, r0_2, r0_3, r0_4, r0_5]) rfl ⟨rfl, ?_⟩
  iterate 6 refine Below.setCell (p := ⟨w.heap.size, _, none⟩) ?_ (show w.heap.size ≤ w.heap.size by omega) _
  exact BH.out

set_option maxHeartbeats 8000000 in
set_option maxRecDepth 100000 in
theorem From_high (n : Int) (w : World)
    (D0 : Hid (decide (n < 0) = false)) (D1 : Hid (decide (1024 ≤ n) = true))
    : Calls Tryd.prog 20 #[.int .i64 n] w fun e w' => e = .returned (.tuple #[.agg #[.int .i64 0, .bool false, .int .i64 0, .int .i64 0, .bool false, .bool false], .int .i64 1]) ∧ Below w.heap.size w w' := by
  have hS1 := (Sp.none w).more [.int .i64 0, .bool false, .int .i64 0, .int .i64 0, .bool false, .bool false] 23
  have HS1 := Lib.hid hS1
  clear hS1
  have d0 := D0.out
  have d1 := D1.out
  go_enter Tryd.func20, Tryd.ntmps20
  go_upto_region 2 with fail
  obtain ⟨w1, hX, hS⟩ := (HS1.out).named
  rw [← hX]
  clear hX HS1
  have HS2 := Lib.hid hS
  clear hS
  have r0_0 := (HS2.out).at 0 rfl 0 (v := .int .i64 0) rfl
  have r0_1 := (HS2.out).at 0 rfl 1 (v := .bool false) rfl
  have r0_2 := (HS2.out).at 0 rfl 2 (v := .int .i64 0) rfl
  have r0_3 := (HS2.out).at 0 rfl 3 (v := .int .i64 0) rfl
  have r0_4 := (HS2.out).at 0 rfl 4 (v := .bool false) rfl
  have r0_5 := (HS2.out).at 0 rfl 5 (v := .bool false) rfl
  have rf0_0 := (HS2.out).free 0 rfl 0 rfl
  have rf0_1 := (HS2.out).free 0 rfl 1 rfl
  have rf0_2 := (HS2.out).free 0 rfl 2 rfl
  have rf0_3 := (HS2.out).free 0 rfl 3 rfl
  have rf0_4 := (HS2.out).free 0 rfl 4 rfl
  have rf0_5 := (HS2.out).free 0 rfl 5 rfl
  have BH := Lib.hid HS2.out.below
  go_wp2_with fail
  refine bodyPost_ret (v := .tuple #[.agg #[.int .i64 0, .bool false, .int .i64 0, .int .i64 0, .bool false, .bool false], .int .i64 1]) (by simp [results, Tryd.results20, go_sem, r0_0, r0_1, r0_2, r0_3, r0_4, r0_5]) rfl ⟨rfl, ?_⟩
  iterate 6 refine Below.setCell (p := ⟨w.heap.size, _, none⟩) ?_ (show w.heap.size ≤ w.heap.size by omega) _
  exact BH.out

set_option maxHeartbeats 8000000 in
set_option maxRecDepth 100000 in
theorem From_core (n x y z q8 q32 p7 p8 p9 : Int) (b7 b8 b9 : Bool) (w : World)
    (D0 : Hid (decide (n < 0) = false)) (D1 : Hid (decide (1024 ≤ n) = false)) (A7 : Hid (bits .and .i64 n 7 = x)) (Q8 : Hid (n / 8 = q8)) (A3 : Hid (bits .and .i64 q8 3 = y)) (Q32 : Hid (n / 32 = q32)) (B3 : Hid (bits .and .i64 q32 3 = z))
    (P7 : Hid (n / 128 = p7)) (E7 : Hid ((bits .and .i64 p7 1 == 1) = b7))
    (P8 : Hid (n / 256 = p8)) (E8 : Hid ((bits .and .i64 p8 1 == 1) = b8))
    (P9 : Hid (n / 512 = p9)) (E9 : Hid ((bits .and .i64 p9 1 == 1) = b9))
    : Calls Tryd.prog 20 #[.int .i64 n] w fun e w' => e = .returned (.tuple #[.agg #[.int .i64 x, .bool b7, .int .i64 y, .int .i64 z, .bool b8, .bool b9], .int .i64 0]) ∧ Below w.heap.size w w' := by
  have hD0 := D0.out
  have hD1 := D1.out
  have hA7 := A7.out
  have hQ8 := Q8.out
  have hA3 := A3.out
  have hQ32 := Q32.out
  have hB3 := B3.out
  have hP7 := P7.out
  have hP8 := P8.out
  have hP9 := P9.out
  have hE7 := E7.out
  have hE8 := E8.out
  have hE9 := E9.out
  clear D0 D1 A7 Q8 A3 Q32 B3 P7 P8 P9 E7 E8 E9
  go_enter Tryd.func20, Tryd.ntmps20
  go_wp2_with fail
  exact bodyPost_ret (v := .tuple #[.agg #[.int .i64 x, .bool b7, .int .i64 y, .int .i64 z, .bool b8, .bool b9], .int .i64 0]) (by simp [results, Tryd.results20, go_sem, *]) rfl ⟨rfl, below1 w _⟩
theorem From_any (n : Int) (w : World) : Calls Tryd.prog 20 #[.int .i64 n] w fun e w' => e = .returned (.tuple #[lv (fromL n), .int .i64 (fromE n)]) ∧ Below w.heap.size w w' := by
  by_cases h0 : n < 0
  · rw [fromE_no (by omega), show fromL n = zero from if_neg (by omega)]
    exact From_low n w (Lib.hid (decide_eq_true h0))
  by_cases h1 : 1024 ≤ n
  · rw [fromE_no (by omega), show fromL n = zero from if_neg (by omega)]
    exact From_high n w (Lib.hid (decide_eq_false h0)) (Lib.hid (decide_eq_true h1))
  rw [fromE_ok (by omega), show fromL n = latN n.toNat from if_pos (by omega)]
  obtain ⟨m, rfl⟩ : ∃ m : Nat, n = (m : Int) := ⟨n.toNat, by omega⟩
  rw [Int.toNat_natCast]
  exact From_core (m : Int) (m % 8 : Nat) (m / 8 % 4 : Nat) (m / 32 % 4 : Nat) _ _ _ _ _ (m / 128 % 2 == 1) (m / 256 % 2 == 1) (m / 512 % 2 == 1) w (Lib.hid (decide_eq_false h0)) (Lib.hid (decide_eq_false h1)) (Lib.hid (by rw [and7]; omega)) (Lib.hid rfl) (Lib.hid (by rw [and3]; omega)) (Lib.hid rfl) (Lib.hid (by rw [and3]; omega))
    (Lib.hid rfl) (Lib.hid (by rw [and1]; exact cast_bit _)) (Lib.hid rfl) (Lib.hid (by rw [and1]; exact cast_bit _)) (Lib.hid rfl) (Lib.hid (by rw [and1]; exact cast_bit _))

end Ref33
end Go.Proofs.YtldbkompebefmaaDoor
