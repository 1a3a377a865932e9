/- The landed slot's isSet, Right, guard. -/
import Derived.Test.YtdalajfjikbcaaaSltRefA
import Derived.Test.YtdalajfjikbcaaaV64
namespace Go.Proofs.Ytdalajfjikbcaaa
open Go.RowKit

namespace Lan18
theorem isSet_any (x : Int) (b : Bool) (hb : (decide (0 ≤ x) && decide (x < 64)) = b) (w : World) :
    Calls Try.prog 25 #[.int .i64 x] w fun e w' => e = .returned (.bool b) ∧ w = w' := by
  by_cases h0 : (0 : Int) ≤ x
  · by_cases h1 : x ≤ 63
    · have e : b = true := by rw [← hb, decide_eq_true h0, decide_eq_true (by omega)]; rfl
      rw [e]
      clear hb e
      go_enter Try.func25, Try.ntmps25
      go_wp2
      go_ret
      exact ⟨rfl, rfl⟩
    · have e : b = false := by rw [← hb, decide_eq_false (p := x < 64) (by omega), Bool.and_false]
      rw [e]
      have d1 : decide (x ≤ 63) = false := decide_eq_false h1
      clear hb e
      go_enter Try.func25, Try.ntmps25
      go_wp2
      go_ret
      exact ⟨rfl, rfl⟩
  · have e : b = false := by rw [← hb, decide_eq_false h0]; rfl
    rw [e]
    have d0 : decide ((0 : Int) ≤ x) = false := decide_eq_false h0
    clear hb e
    go_enter Try.func25, Try.ntmps25
    go_wp2
    go_ret
    exact ⟨rfl, rfl⟩

set_option maxRecDepth 100000 in
theorem Right_any (n : Nt) (w : World) :
    Calls Try.prog 17 #[nv n] w fun e w' => e = .returned (.bool (rightN n)) ∧ Below w.heap.size w w' := by
  obtain ⟨x, y, z⟩ := n
  have B1 := below1 w (.cells #[.int .i64 x, .int .i64 y, .int .i64 z] 26)
  simp only [nv]
  obtain ⟨p, hp⟩ : ∃ p, (decide (0 ≤ x) && decide (x < 64)) = p := ⟨_, rfl⟩
  obtain ⟨q, hq⟩ : ∃ q, (decide (0 ≤ y) && decide (y < 64)) = q := ⟨_, rfl⟩
  have e : rightN ⟨x, y, z⟩ = (p && (q && (decide (0 ≤ z) && decide (z ≤ 5)))) := by
    rw [← hp, ← hq]; unfold rightN; simp only [Bool.and_assoc]
  rw [e]
  have HX := Lib.hid fun w => isSet_any x p hp w
  have HY := Lib.hid fun w => isSet_any y q hq w
  clear e hp hq
  cases p
  · clear HY
    go_enter Try.func17, Try.ntmps17
    go_wp2_with fail
    refine (HX.out _).mono ?_; rintro e w1 ⟨rfl, rfl⟩
    clear HX
    go_wp2
    go_ret
    exact ⟨rfl, B1⟩
  · cases q
    · go_enter Try.func17, Try.ntmps17
      go_wp2_with fail
      refine (HX.out _).mono ?_; rintro e w1 ⟨rfl, rfl⟩
      clear HX
      go_wp2_with fail
      refine (HY.out _).mono ?_; rintro e w1 ⟨rfl, rfl⟩
      clear HY
      go_wp2
      go_ret
      exact ⟨rfl, B1⟩
    · by_cases h0 : (0 : Int) ≤ z
      · by_cases h1 : z ≤ 5
        · have e : (true && (true && (decide (0 ≤ z) && decide (z ≤ 5)))) = true := by rw [decide_eq_true h0, decide_eq_true h1]; rfl
          rw [e]
          clear e
          go_enter Try.func17, Try.ntmps17
          go_wp2_with fail
          refine (HX.out _).mono ?_; rintro e w1 ⟨rfl, rfl⟩
          clear HX
          go_wp2_with fail
          refine (HY.out _).mono ?_; rintro e w1 ⟨rfl, rfl⟩
          clear HY
          go_wp2
          go_ret
          exact ⟨rfl, B1⟩
        · have e : (true && (true && (decide (0 ≤ z) && decide (z ≤ 5)))) = false := by rw [decide_eq_false h1]; simp
          rw [e]
          clear e
          have d1 : decide (z ≤ 5) = false := decide_eq_false h1
          go_enter Try.func17, Try.ntmps17
          go_wp2_with fail
          refine (HX.out _).mono ?_; rintro e w1 ⟨rfl, rfl⟩
          clear HX
          go_wp2_with fail
          refine (HY.out _).mono ?_; rintro e w1 ⟨rfl, rfl⟩
          clear HY
          go_wp2
          go_ret
          exact ⟨rfl, B1⟩
      · have e : (true && (true && (decide (0 ≤ z) && decide (z ≤ 5)))) = false := by rw [decide_eq_false h0]; simp
        rw [e]
        clear e
        have d0 : decide ((0 : Int) ≤ z) = false := decide_eq_false h0
        go_enter Try.func17, Try.ntmps17
        go_wp2_with fail
        refine (HX.out _).mono ?_; rintro e w1 ⟨rfl, rfl⟩
        clear HX
        go_wp2_with fail
        refine (HY.out _).mono ?_; rintro e w1 ⟨rfl, rfl⟩
        clear HY
        go_wp2
        go_ret
        exact ⟨rfl, B1⟩

theorem guard_any (s : Nat) (hs : s < 4294967296) (w : World) :
    Calls Try.prog 35 #[.int .u32 s] w fun e w' => e = .returned (.int .u8 ((guardN s).toNat : Int)) ∧ Below w.heap.size w w' := by
  rw [guardN_nat]
  have e : ((s % 250 + 1 : Nat) : Int) = (s : Int) % 250 + 1 := by omega
  rw [e]
  have h0 : (s : Int) ≤ 4294967295 := by omega
  have B0 := Below.refl w.heap.size w
  clear hs e
  go_enter Try.func35, Try.ntmps35
  go_wp2
  go_ret
  exact ⟨rfl, B0⟩
end Lan18
end Go.Proofs.Ytdalajfjikbcaaa
