/- The landed latch's From. -/
import Derived.Test.YtldbkompebefmaaDoorLtA
import Derived.Lib.MinMax
import Derived.Deep.RegionWith
import Derived.Deep.CutBlock
import Derived.Deep.CutRange
import Derived.BigRegion
namespace Go.Proofs.YtldbkompebefmaaDoor
open Go.RowKit Ld Lat

namespace Lat
theorem bit_ne {x : Int} {b : Bool} (h : (x == 0) = !b) : (x != 0) = b := by
  show (!(x == 0)) = b
  rw [h, Bool.not_not]
theorem bit7 (m : Nat) (h : m < 1024) : (bits .and .i64 (m : Int) 128 == 0) = !(m / 128 % 2 == 1) := by
  have e : (BitVec.ofInt 64 (m : Int)).toNat = m := by rw [BitVec.toNat_ofInt]; omega
  have e3 : m &&& 2 ^ 7 = m / 2 ^ 7 % 2 * 2 ^ 7 := by
    refine Nat.eq_of_testBit_eq fun i => ?_
    have ht := Nat.testBit_eq_decide_div_mod_eq (x := m) (i := 7)
    rw [Nat.testBit_and, Nat.testBit_two_pow]
    rcases (show m / 2 ^ 7 % 2 = 0 ∨ m / 2 ^ 7 % 2 = 1 by omega) with k | k <;> rw [k] at ht ⊢ <;> by_cases hi : 7 = i
    · subst hi; rw [ht]; simp
    · simp [hi]
    · subst hi; rw [ht, Nat.one_mul, Nat.testBit_two_pow]; simp
    · rw [Nat.one_mul, Nat.testBit_two_pow]; simp [hi]
  have e2 : bits .and .i64 (m : Int) 128 = IntKind.i64.wrap ((m / 2 ^ 7 % 2 * 2 ^ 7 : Nat) : Int) := by
    show IntKind.i64.wrap ((BitVec.ofInt 64 (m : Int) &&& BitVec.ofInt 64 128).toNat : Int) = _
    rw [BitVec.toNat_and, e, show (BitVec.ofInt 64 128).toNat = 2 ^ 7 by decide, e3]
  rw [e2, wrap_i64, show (2 : Nat) ^ 7 = 128 by decide]
  rcases (show m / 128 % 2 = 0 ∨ m / 128 % 2 = 1 by omega) with k | k <;> rw [k] <;> decide
theorem bit8 (m : Nat) (h : m < 1024) : (bits .and .i64 (m : Int) 256 == 0) = !(m / 256 % 2 == 1) := by
  have e : (BitVec.ofInt 64 (m : Int)).toNat = m := by rw [BitVec.toNat_ofInt]; omega
  have e3 : m &&& 2 ^ 8 = m / 2 ^ 8 % 2 * 2 ^ 8 := by
    refine Nat.eq_of_testBit_eq fun i => ?_
    have ht := Nat.testBit_eq_decide_div_mod_eq (x := m) (i := 8)
    rw [Nat.testBit_and, Nat.testBit_two_pow]
    rcases (show m / 2 ^ 8 % 2 = 0 ∨ m / 2 ^ 8 % 2 = 1 by omega) with k | k <;> rw [k] at ht ⊢ <;> by_cases hi : 8 = i
    · subst hi; rw [ht]; simp
    · simp [hi]
    · subst hi; rw [ht, Nat.one_mul, Nat.testBit_two_pow]; simp
    · rw [Nat.one_mul, Nat.testBit_two_pow]; simp [hi]
  have e2 : bits .and .i64 (m : Int) 256 = IntKind.i64.wrap ((m / 2 ^ 8 % 2 * 2 ^ 8 : Nat) : Int) := by
    show IntKind.i64.wrap ((BitVec.ofInt 64 (m : Int) &&& BitVec.ofInt 64 256).toNat : Int) = _
    rw [BitVec.toNat_and, e, show (BitVec.ofInt 64 256).toNat = 2 ^ 8 by decide, e3]
  rw [e2, wrap_i64, show (2 : Nat) ^ 8 = 256 by decide]
  rcases (show m / 256 % 2 = 0 ∨ m / 256 % 2 = 1 by omega) with k | k <;> rw [k] <;> decide
theorem bit9 (m : Nat) (h : m < 1024) : (bits .and .i64 (m : Int) 512 == 0) = !(m / 512 % 2 == 1) := by
  have e : (BitVec.ofInt 64 (m : Int)).toNat = m := by rw [BitVec.toNat_ofInt]; omega
  have e3 : m &&& 2 ^ 9 = m / 2 ^ 9 % 2 * 2 ^ 9 := by
    refine Nat.eq_of_testBit_eq fun i => ?_
    have ht := Nat.testBit_eq_decide_div_mod_eq (x := m) (i := 9)
    rw [Nat.testBit_and, Nat.testBit_two_pow]
    rcases (show m / 2 ^ 9 % 2 = 0 ∨ m / 2 ^ 9 % 2 = 1 by omega) with k | k <;> rw [k] at ht ⊢ <;> by_cases hi : 9 = i
    · subst hi; rw [ht]; simp
    · simp [hi]
    · subst hi; rw [ht, Nat.one_mul, Nat.testBit_two_pow]; simp
    · rw [Nat.one_mul, Nat.testBit_two_pow]; simp [hi]
  have e2 : bits .and .i64 (m : Int) 512 = IntKind.i64.wrap ((m / 2 ^ 9 % 2 * 2 ^ 9 : Nat) : Int) := by
    show IntKind.i64.wrap ((BitVec.ofInt 64 (m : Int) &&& BitVec.ofInt 64 512).toNat : Int) = _
    rw [BitVec.toNat_and, e, show (BitVec.ofInt 64 512).toNat = 2 ^ 9 by decide, e3]
  rw [e2, wrap_i64, show (2 : Nat) ^ 9 = 512 by decide]
  rcases (show m / 512 % 2 = 0 ∨ m / 512 % 2 = 1 by omega) with k | k <;> rw [k] <;> decide
set_option maxHeartbeats 8000000 in
set_option maxRecDepth 100000 in
theorem From_low (n : Int) (w : World)
    (D0 : Hid (decide (n < 0) = true))
    : Calls Tryd.prog 19 #[.int .i64 n] w fun e w' => e = .returned (.tuple #[.agg #[.int .i64 0, .bool false, .int .i64 0, .int .i64 0, .bool false, .bool false], .int .i64 1]) ∧ Below w.heap.size w w' := by
  have hS1 := (Sp.none w).more [.int .i64 0, .bool false, .int .i64 0, .int .i64 0, .bool false, .bool false] 23
  have HS1 := Lib.hid hS1
  clear hS1
  have d0 := D0.out
  go_enter Tryd.func19, Tryd.ntmps19
  go_upto_region 2 with fail
  obtain ⟨w1, hX, hS⟩ := (HS1.out).named
  rw [← hX]
  clear hX HS1
  have HS2 := Lib.hid hS
  clear hS
  have r0_0 := (HS2.out).at 0 rfl 0 (v := .int .i64 0) rfl
  have r0_1 := (HS2.out).at 0 rfl 1 (v := .bool false) rfl
  have r0_2 := (HS2.out).at 0 rfl 2 (v := .int .i64 0) rfl
  have r0_3 := (HS2.out).at 0 rfl 3 (v := .int .i64 0) rfl
  have r0_4 := (HS2.out).at 0 rfl 4 (v := .bool false) rfl
  have r0_5 := (HS2.out).at 0 rfl 5 (v := .bool false) rfl
  have rf0_0 := (HS2.out).free 0 rfl 0 rfl
  have rf0_1 := (HS2.out).free 0 rfl 1 rfl
  have rf0_2 := (HS2.out).free 0 rfl 2 rfl
  have rf0_3 := (HS2.out).free 0 rfl 3 rfl
  have rf0_4 := (HS2.out).free 0 rfl 4 rfl
  have rf0_5 := (HS2.out).free 0 rfl 5 rfl
  have BH := Lib.hid HS2.out.below
  go_wp2_with fail
  refine bodyPost_ret (v := .tuple #[.agg #[.int .i64 0, .bool false, .int .i64 0, .int .i64 0, .bool false, .bool false], .int .i64 1]) (by simp [results, Tryd.results19, go_sem, r0_0, r0_1, r0_2, r0_3, r0_4, r0_5]) rfl ⟨rfl, ?_⟩
  iterate 6 refine Below.setCell (p := ⟨w.heap.size, _, none⟩) ?_ (show w.heap.size ≤ w.heap.size by omega) _
  exact BH.out

set_option maxHeartbeats 8000000 in
set_option maxRecDepth 100000 in
theorem From_high (n : Int) (w : World)
    (D0 : Hid (decide (n < 0) = false)) (D1 : Hid (decide (1024 ≤ n) = true))
    : Calls Tryd.prog 19 #[.int .i64 n] w fun e w' => e = .returned (.tuple #[.agg #[.int .i64 0, .bool false, .int .i64 0, .int .i64 0, .bool false, .bool false], .int .i64 1]) ∧ Below w.heap.size w w' := by
  have hS1 := (Sp.none w).more [.int .i64 0, .bool false, .int .i64 0, .int .i64 0, .bool false, .bool false] 23
  have HS1 := Lib.hid hS1
  clear hS1
  have d0 := D0.out
  have d1 := D1.out
  go_enter Tryd.func19, Tryd.ntmps19
  go_upto_region 2 with fail
  obtain ⟨w1, hX, hS⟩ := (HS1.out).named
  rw [← hX]
  clear hX HS1
  have HS2 := Lib.hid hS
  clear hS
  have r0_0 := (HS2.out).at 0 rfl 0 (v := .int .i64 0) rfl
  have r0_1 := (HS2.out).at 0 rfl 1 (v := .bool false) rfl
  have r0_2 := (HS2.out).at 0 rfl 2 (v := .int .i64 0) rfl
  have r0_3 := (HS2.out).at 0 rfl 3 (v := .int .i64 0) rfl
  have r0_4 := (HS2.out).at 0 rfl 4 (v := .bool false) rfl
  have r0_5 := (HS2.out).at 0 rfl 5 (v := .bool false) rfl
  have rf0_0 := (HS2.out).free 0 rfl 0 rfl
  have rf0_1 := (HS2.out).free 0 rfl 1 rfl
  have rf0_2 := (HS2.out).free 0 rfl 2 rfl
  have rf0_3 := (HS2.out).free 0 rfl 3 rfl
  have rf0_4 := (HS2.out).free 0 rfl 4 rfl
  have rf0_5 := (HS2.out).free 0 rfl 5 rfl
  have BH := Lib.hid HS2.out.below
  go_wp2_with fail
  refine bodyPost_ret (v := .tuple #[.agg #[.int .i64 0, .bool false, .int .i64 0, .int .i64 0, .bool false, .bool false], .int .i64 1]) (by simp [results, Tryd.results19, go_sem, r0_0, r0_1, r0_2, r0_3, r0_4, r0_5]) rfl ⟨rfl, ?_⟩
  iterate 6 refine Below.setCell (p := ⟨w.heap.size, _, none⟩) ?_ (show w.heap.size ≤ w.heap.size by omega) _
  exact BH.out

set_option maxHeartbeats 8000000 in
set_option maxRecDepth 100000 in
theorem From_core (n x7 x8 x9 q8 q32 : Int) (b7 b8 b9 : Bool) (r : La) (w : World)
    (D0 : Hid (decide (n < 0) = false)) (D1 : Hid (decide (1024 ≤ n) = false))
    (A7 : Hid (bits .and .i64 n 128 = x7)) (B7 : Hid ((x7 != 0) = b7))
    (A8 : Hid (bits .and .i64 n 256 = x8)) (B8 : Hid ((x8 != 0) = b8))
    (A9 : Hid (bits .and .i64 n 512 = x9)) (B9 : Hid ((x9 != 0) = b9))
    (Q8 : Hid (n.tdiv 8 = q8)) (Q32 : Hid (n.tdiv 32 = q32)) (W8 : Hid (IntKind.i64.wrap q8 = q8)) (W32 : Hid (IntKind.i64.wrap q32 = q32))
    (IR : Hid (∀ w', Below w.heap.size w w' → Calls Tryd.prog 34 #[.agg #[.int .i64 n, .bool b7, .int .i64 q8, .int .i64 q32, .bool b8, .bool b9]] w' fun e w'' => e = .returned (.agg #[.int .i64 r.u, .bool r.am, .int .i64 r.al, .int .i64 r.sp, .bool r.fo, .bool r.no]) ∧ Below w'.heap.size w' w''))
    : Calls Tryd.prog 19 #[.int .i64 n] w fun e w' => e = .returned (.tuple #[.agg #[.int .i64 r.u, .bool r.am, .int .i64 r.al, .int .i64 r.sp, .bool r.fo, .bool r.no], .int .i64 0]) ∧ Below w.heap.size w w' := by
  have hS1 := (Sp.none w).more [.int .i64 0, .bool false, .int .i64 0, .int .i64 0, .bool false, .bool false] 23
  have HS1 := Lib.hid hS1
  clear hS1
  have hD0 := D0.out
  have hD1 := D1.out
  have hA7 := A7.out
  have hA8 := A8.out
  have hA9 := A9.out
  have hB7 := B7.out
  have hB8 := B8.out
  have hB9 := B9.out
  have hQ8 := Q8.out
  have hQ32 := Q32.out
  have hW8 := W8.out
  have hW32 := W32.out
  clear D0 D1 A7 A8 A9 B7 B8 B9 Q8 Q32 W8 W32
  go_enter Tryd.func19, Tryd.ntmps19
  go_wp2_with fail
  refine (IR.out _ HS1.out.below).mono ?_; rintro e w1 ⟨rfl, hb1⟩
  have hS2 := (HS1.out).keep hb1
  have HS2 := Lib.hid hS2
  clear hS2 HS1
  clear hb1
  have r0_0 := (HS2.out).at 0 rfl 0 (v := .int .i64 0) rfl
  have r0_1 := (HS2.out).at 0 rfl 1 (v := .bool false) rfl
  have r0_2 := (HS2.out).at 0 rfl 2 (v := .int .i64 0) rfl
  have r0_3 := (HS2.out).at 0 rfl 3 (v := .int .i64 0) rfl
  have r0_4 := (HS2.out).at 0 rfl 4 (v := .bool false) rfl
  have r0_5 := (HS2.out).at 0 rfl 5 (v := .bool false) rfl
  have rf0_0 := (HS2.out).free 0 rfl 0 rfl
  have rf0_1 := (HS2.out).free 0 rfl 1 rfl
  have rf0_2 := (HS2.out).free 0 rfl 2 rfl
  have rf0_3 := (HS2.out).free 0 rfl 3 rfl
  have rf0_4 := (HS2.out).free 0 rfl 4 rfl
  have rf0_5 := (HS2.out).free 0 rfl 5 rfl
  have BH := Lib.hid HS2.out.below
  go_wp2_with fail
  refine bodyPost_ret (v := .tuple #[.agg #[.int .i64 r.u, .bool r.am, .int .i64 r.al, .int .i64 r.sp, .bool r.fo, .bool r.no], .int .i64 0]) (by simp [results, Tryd.results19, go_sem, *]) rfl ⟨rfl, ?_⟩
  iterate 6 refine Below.setCell (p := ⟨w.heap.size, _, none⟩) ?_ (show w.heap.size ≤ w.heap.size by omega) _
  exact BH.out
theorem From_any (n : Int) (w : World) : Calls Tryd.prog 19 #[.int .i64 n] w fun e w' => e = .returned (.tuple #[lv (fromL n), .int .i64 (fromE n)]) ∧ Below w.heap.size w w' := by
  by_cases h0 : n < 0
  · rw [fromE_no (by omega), show fromL n = zero from if_neg (by omega)]
    exact From_low n w (Lib.hid (decide_eq_true h0))
  by_cases h1 : 1024 ≤ n
  · rw [fromE_no (by omega), show fromL n = zero from if_neg (by omega)]
    exact From_high n w (Lib.hid (decide_eq_false h0)) (Lib.hid (decide_eq_true h1))
  rw [fromE_ok (by omega), show fromL n = latN n.toNat from if_pos (by omega)]
  obtain ⟨m, rfl⟩ : ∃ m : Nat, n = (m : Int) := ⟨n.toNat, by omega⟩
  have hm : m < 1024 := by omega
  rw [Int.toNat_natCast]
  exact From_core (m : Int) _ _ _ (m / 8 : Nat) (m / 32 : Nat) (m / 128 % 2 == 1) (m / 256 % 2 == 1) (m / 512 % 2 == 1) (latN m) w (Lib.hid (decide_eq_false h0)) (Lib.hid (decide_eq_false h1)) (Lib.hid rfl) (Lib.hid (bit_ne (bit7 m hm))) (Lib.hid rfl) (Lib.hid (bit_ne (bit8 m hm))) (Lib.hid rfl) (Lib.hid (bit_ne (bit9 m hm)))
    (Lib.hid (by rw [Int.tdiv_eq_ediv_of_nonneg (by omega)]; omega)) (Lib.hid (by rw [Int.tdiv_eq_ediv_of_nonneg (by omega)]; omega)) (Lib.hid ((wrap_i64 _).trans (by omega))) (Lib.hid ((wrap_i64 _).trans (by omega)))
    (Lib.hid fun w' _ => by
      have k := inRoom_any ⟨(m : Int), m / 128 % 2 == 1, (m / 8 : Nat), (m / 32 : Nat), m / 256 % 2 == 1, m / 512 % 2 == 1⟩ w'
      rwa [show cut ⟨(m : Int), m / 128 % 2 == 1, (m / 8 : Nat), (m / 32 : Nat), m / 256 % 2 == 1, m / 512 % 2 == 1⟩ = latN m from la_ext (by show (m : Int) % 8 = ((m % 8 : Nat) : Int); omega) rfl (by show ((m / 8 : Nat) : Int) % 4 = ((m / 8 % 4 : Nat) : Int); omega) (by show ((m / 32 : Nat) : Int) % 4 = ((m / 32 % 4 : Nat) : Int); omega) rfl rfl] at k)

end Lat
end Go.Proofs.YtldbkompebefmaaDoor
