
/- The landed subset's Members, Count, Within, Of, Part, Next; math/bits.OnesCount of small numbers; slices.Index over ints. -/
import Derived.Test.YtaooigldchojcaaDoorHsLanA
namespace Go.Proofs.YtaooigldchojcaaDoor
open Go.RowKit

namespace Lan11
set_option maxHeartbeats 2000000 in
set_option maxRecDepth 100000 in
theorem Members_any (x : Int) (w : World) :
    Calls Tryd.prog 50 #[.int .i64 x] w fun e w' => ∃ v, e = .returned v ∧ Ints w.heap.size w w' v (memI x) := by
  go_enter Tryd.func50, Tryd.ntmps50
  go_wp2
  go_loopw [3, 5] (fun v i wr => ∃ (j : Nat), j ≤ 6 ∧ i = .int .i64 j ∧ Ints w.heap.size w wr v (upTo x j)) (fun _ i _ => 6 - (intOf i).toNat)
  case atStart => exact ⟨0, by omega, rfl, Ints.nil w⟩
  case round =>
    obtain ⟨j, hj, rfl, hb⟩ := hrel
    by_cases h6 : (j : Int) < 6
    · go_wp2_with fail
      refine (Has_any x j wr).mono ?_
      rintro e w1 ⟨rfl, rfl⟩
      rw [hasI_nat x j (by omega)]
      have hl : (upTo x j).length + 1 ≤ 10000000000000 := by have := upTo_len x j; omega
      cases hh : Sub.has (Sub.low x) j
      · have hs := upTo_same x j hh
        clear hl
        go_wp2
        go_roundw
        case rel => exact ⟨j + 1, by omega, rfl, by rw [hs]; exact hb⟩
        case measure => simp [intOf]; omega
      · have hs := upTo_one x j hh
        go_wp2_with (at_builtin; refine list_append_int rfl _ _ rfl (w0 := w1) (v := u3) rfl (j : Int) hb rfl hl ?_)
        intro v' w' hb'
        go_wp2
        go_roundw
        case rel => exact ⟨j + 1, by omega, rfl, by rw [hs]; exact hb'⟩
        case measure => simp [intOf]; omega
    · obtain rfl : j = 6 := by omega
      rw [upTo_six] at hb
      go_wp2
      go_ret
      exact ⟨u3, rfl, hb⟩

theorem andNot_low (a b : Int) : (bits .and .i64 (bits .andNot .i64 a b) 63 == 0) = Sub.within (Sub.low a) (Sub.low b) := by
  rw [Sub.and63, ← Sub.andNot_bits (Sub.low a) (Sub.low_lt a) b]
  have h1 : (Sub.low (bits .andNot .i64 a b) : Int) = bits .andNot .i64 (Sub.low a : Int) b := by
    have e : ∀ c : Int, bits .andNot .i64 c b = IntKind.i64.wrap ((BitVec.ofInt 64 c &&& ~~~BitVec.ofInt 64 b).toNat : Int) := fun _ => rfl
    have hx : (BitVec.ofInt 64 (Sub.low a : Int)).toNat = Sub.low a := by rw [BitVec.toNat_ofInt]; have := Sub.low_lt a; omega
    have hle : (BitVec.ofInt 64 (Sub.low a : Int) &&& ~~~BitVec.ofInt 64 b).toNat < 64 := by
      rw [BitVec.toNat_and, hx]
      exact Nat.lt_of_le_of_lt Nat.and_le_left (Sub.low_lt a)
    rw [e, e]
    have hm : (BitVec.ofInt 64 a &&& ~~~BitVec.ofInt 64 b).toNat % 64 = (BitVec.ofInt 64 (Sub.low a : Int) &&& ~~~BitVec.ofInt 64 b).toNat := by
      refine Nat.eq_of_testBit_eq fun i => ?_
      rw [show (64 : Nat) = 2 ^ 6 by decide, Nat.testBit_mod_two_pow]
      show (decide (i < 6) && (BitVec.ofInt 64 a &&& ~~~BitVec.ofInt 64 b).getLsbD i) = (BitVec.ofInt 64 (Sub.low a : Int) &&& ~~~BitVec.ofInt 64 b).getLsbD i
      rw [BitVec.getLsbD_and, BitVec.getLsbD_and]
      have hb : (BitVec.ofInt 64 (Sub.low a : Int)).getLsbD i = (decide (i < 6) && (BitVec.ofInt 64 a).getLsbD i) := by
        by_cases hi : i < 6
        · rw [decide_eq_true hi, Bool.true_and, ← Sub.low_bit a i hi]
          show Nat.testBit _ i = _
          rw [hx]
        · rw [decide_eq_false hi, Bool.false_and]
          show Nat.testBit _ i = false
          rw [hx]
          exact Nat.testBit_lt_two_pow (Nat.lt_of_lt_of_le (Sub.low_lt a) (show 2 ^ 6 ≤ 2 ^ i from Nat.pow_le_pow_right (by decide) (by omega)))
      rw [hb, Bool.and_assoc]
    generalize (BitVec.ofInt 64 a &&& ~~~BitVec.ofInt 64 b).toNat = p at *
    generalize (BitVec.ofInt 64 (Sub.low a : Int) &&& ~~~BitVec.ofInt 64 b).toNat = q at *
    rw [IntKind.wrap_i64, IntKind.wrap_i64]
    unfold Sub.low
    omega
  rw [h1]

theorem Within_any (a b : Int) (w : World) :
    Calls Tryd.prog 31 #[.int .i64 a, .int .i64 b] w fun e w' => e = .returned (.bool (Sub.within (Sub.low a) (Sub.low b))) ∧ w' = w := by
  have e2 := andNot_low a b
  generalize Sub.within (Sub.low a) (Sub.low b) = r at *
  go_enter Tryd.func31, Tryd.ntmps31
  go_wp2
  go_ret
  exact ⟨rfl, rfl⟩

set_option maxHeartbeats 2000000 in
set_option maxRecDepth 100000 in
theorem Part_any (x : Int) (w : World) :
    Calls Tryd.prog 33 #[.int .i64 x] w fun e w' => ∃ v, e = .returned v ∧ Ints w.heap.size w w' v (partI x) := by
  unfold partI
  obtain ⟨p, hp⟩ : ∃ p, p = fun s => Sub.within s (Sub.low x) := ⟨_, rfl⟩
  have hpj : ∀ j, p j = Sub.within j (Sub.low x) := fun j => by rw [hp]
  rw [← hp]
  clear hp
  go_enter Tryd.func33, Tryd.ntmps33
  go_wp2
  go_loopw [3, 5] (fun v i wr => ∃ (j : Nat), j ≤ 64 ∧ i = .int .i64 j ∧ Ints w.heap.size w wr v (below64 p j)) (fun _ i _ => 64 - (intOf i).toNat)
  case atStart => exact ⟨0, by omega, rfl, Ints.nil w⟩
  case round =>
    obtain ⟨j, hj, rfl, hb⟩ := hrel
    by_cases h6 : (j : Int) < 64
    · go_wp2_with fail
      refine (Within_any j x wr).mono ?_
      rintro e w1 ⟨rfl, rfl⟩
      rw [Sub.low_of j (by omega), ← hpj]
      have hl : (below64 p j).length + 1 ≤ 10000000000000 := by have := below64_len p j; omega
      cases hh : p j
      · have hs := below64_same p j hh
        clear hl hpj
        go_wp2
        go_roundw
        case rel => exact ⟨j + 1, by omega, rfl, by rw [hs]; exact hb⟩
        case measure => simp [intOf]; omega
      · have hs := below64_one p j hh
        clear hpj
        go_wp2_with (at_builtin; refine list_append_int rfl _ _ rfl (w0 := w1) (v := u3) rfl (j : Int) hb rfl hl ?_)
        intro v' w' hb'
        go_wp2
        go_roundw
        case rel => exact ⟨j + 1, by omega, rfl, by rw [hs]; exact hb'⟩
        case measure => simp [intOf]; omega
    · obtain rfl : j = 64 := by omega
      clear hpj
      go_wp2
      go_ret
      exact ⟨u3, rfl, hb⟩

end Lan11
end Go.Proofs.YtaooigldchojcaaDoor
