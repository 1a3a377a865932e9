/- Join of the document's own answers for layer 6. -/
import Derived.Test.YtaipjhfgkidbfaaCrcPow
namespace Go.Proofs.Ytaipjhfgkidbfaa
open Go.RowKit

/-- the sum so far, j bits gone through -/
def jn (m : Nat) (x b : BitVec 16) : Nat → BitVec 16
  | 0 => b
  | j + 1 => if x.getLsbD j then jn m x b j ^^^ powF m j else jn m x b j

theorem more_lin (m : Nat) (x y : BitVec 16) : Crc.more (x ^^^ y) (List.replicate m 0#8) = Crc.more x (List.replicate m 0#8) ^^^ Crc.more y (List.replicate m 0#8) := by
  have h := Crc.more_start x y (List.replicate m 0#8)
  rw [List.length_replicate] at h
  exact h
/-- the lowest j bits -/
def lows (x : BitVec 16) (j : Nat) : BitVec 16 := (x.setWidth j).setWidth 16
theorem lows_get (x : BitVec 16) (j i : Nat) (h : i < 16) : (lows x j).getLsbD i = (decide (i < j) && x.getLsbD i) := by
  unfold lows
  rw [BitVec.getLsbD_setWidth, BitVec.getLsbD_setWidth, decide_eq_true h, Bool.true_and]
theorem lows_next (x : BitVec 16) (j : Nat) (h : j < 16) : lows x (j + 1) = lows x j ^^^ (if x.getLsbD j then BitVec.twoPow 16 j else 0#16) := by
  apply BitVec.eq_of_getLsbD_eq
  intro i hi
  rw [BitVec.getLsbD_xor, lows_get x _ i hi, lows_get x _ i hi]
  have g : (if x.getLsbD j then BitVec.twoPow 16 j else 0#16).getLsbD i = (x.getLsbD j && decide (j = i)) := by
    cases x.getLsbD j
    · simp
    · rw [if_pos rfl, BitVec.getLsbD_twoPow, decide_eq_true h]
  rw [g]
  by_cases e : j = i
  · subst e
    rw [decide_eq_true (Nat.lt_succ_self _), decide_eq_false (Nat.lt_irrefl _), decide_eq_true rfl]
    cases x.getLsbD j <;> rfl
  · rw [decide_eq_false e, show decide (i < j + 1) = decide (i < j) by simp only [decide_eq_decide]; omega]
    cases x.getLsbD j <;> cases (decide (i < j) && x.getLsbD i) <;> rfl
theorem jn_lows (m : Nat) (x b : BitVec 16) : ∀ j, j ≤ 16 → jn m x b j = b ^^^ Crc.more (lows x j) (List.replicate m 0#8)
  | 0, _ => by
    have e : lows x 0 = 0#16 := by
      apply BitVec.eq_of_getLsbD_eq
      intro i hi
      rw [lows_get x 0 i hi]; simp
    rw [jn, e, Crc.more_noughts, BitVec.xor_zero]
  | j + 1, h => by
    rw [jn, lows_next x j (by omega), jn_lows m x b j (by omega)]
    cases x.getLsbD j
    · rw [if_neg (by decide), if_neg (by decide), BitVec.xor_zero]
    · rw [if_pos rfl, if_pos rfl, more_lin, BitVec.xor_assoc]; rfl
theorem jn_all (m : Nat) (x b : BitVec 16) : jn m x b 16 = b ^^^ Crc.more x (List.replicate m 0#8) := by
  rw [jn_lows m x b 16 (by omega)]
  have e : lows x 16 = x := by
    apply BitVec.eq_of_getLsbD_eq
    intro i hi
    rw [lows_get x 16 i hi, decide_eq_true hi, Bool.true_and]
  rw [e]

theorem bit_u16 (x : BitVec 16) (j : Nat) : (bits .and .u16 ((x.toNat : Int) / 2 ^ j) 1 == 1) = x.getLsbD j := by
  have hx := x.isLt
  have e : (x.toNat : Int) / 2 ^ j = ((x.toNat / 2 ^ j : Nat) : Int) := by rw [Int.natCast_ediv, Int.natCast_pow]; rfl
  have hlt : x.toNat / 2 ^ j < 65536 := Nat.lt_of_le_of_lt (Nat.div_le_self _ _) hx
  have h : bits .and .u16 ((x.toNat / 2 ^ j : Nat) : Int) 1 = ((x.toNat / 2 ^ j % 2 : Nat) : Int) := by
    have o : (BitVec.ofInt 16 ((x.toNat / 2 ^ j : Nat) : Int)).toNat = x.toNat / 2 ^ j := by
      rw [BitVec.ofInt_natCast, BitVec.toNat_ofNat]; exact Nat.mod_eq_of_lt hlt
    show IntKind.u16.wrap ((BitVec.ofInt 16 ((x.toNat / 2 ^ j : Nat) : Int) &&& BitVec.ofInt 16 1).toNat : Int) = _
    rw [BitVec.toNat_and, o, show (BitVec.ofInt 16 1).toNat = 1 by decide, Nat.and_one_is_mod]
    exact wrap16 _ (by omega)
  rw [e, h]
  show _ = x.toNat.testBit j
  rw [Nat.testBit_eq_decide_div_mod_eq]
  by_cases g : x.toNat / 2 ^ j % 2 = 1
  · rw [g]; rfl
  · rw [decide_eq_false g, show x.toNat / 2 ^ j % 2 = 0 by omega]; rfl

namespace Ref6
set_option maxHeartbeats 4000000 in
theorem Join_any (a b : BitVec 16) (n : Int) (m : Nat) (w : World) (hm : max 0 (min n 4000) = (m : Int)) :
    Calls Try.prog 22 #[.int .u16 (a.toNat : Int), .int .u16 (b.toNat : Int), .int .i64 n] w fun e w' => e = .returned (.int .u16 ((b ^^^ Crc.more (a ^^^ 0xffff#16) (List.replicate m 0#8)).toNat : Int)) ∧ Below w.heap.size w w' := by
  have PW := Lib.hid fun w => Power_any n m w hm (by omega)
  have hx := xor_u16 a 0xffff#16
  rw [show ((0xffff#16).toNat : Int) = 65535 by decide] at hx
  rw [← jn_all m (a ^^^ 0xffff#16) b]
  generalize a ^^^ 0xffff#16 = x at *
  go_enter Try.func22, Try.ntmps22
  go_wp2_with fail
  refine (PW.out _).mono ?_; rintro e w1 ⟨rfl, hb1⟩
  have hA : Arr (w1.alloc (.cells #[.int .u16 ((powF m 0).toNat : Int), .int .u16 ((powF m 1).toNat : Int), .int .u16 ((powF m 2).toNat : Int), .int .u16 ((powF m 3).toNat : Int), .int .u16 ((powF m 4).toNat : Int), .int .u16 ((powF m 5).toNat : Int), .int .u16 ((powF m 6).toNat : Int), .int .u16 ((powF m 7).toNat : Int), .int .u16 ((powF m 8).toNat : Int), .int .u16 ((powF m 9).toNat : Int), .int .u16 ((powF m 10).toNat : Int), .int .u16 ((powF m 11).toNat : Int), .int .u16 ((powF m 12).toNat : Int), .int .u16 ((powF m 13).toNat : Int), .int .u16 ((powF m 14).toNat : Int), .int .u16 ((powF m 15).toNat : Int)] 35)) w1.heap.size (mid m 16) := arr_alloc w1 (mid m 16) _
  unfold powV
  go_wp2_with fail
  go_loopw [1, 14] (fun bv iv wr => ∃ j : Nat, j ≤ 16 ∧ bv = .int .u16 ((jn m x b j).toNat : Int) ∧ iv = .int .i64 j ∧ Arr wr w1.heap.size (mid m 16) ∧ Below w.heap.size w wr) (fun _ iv _ => 16 - (intOf iv).toNat)
  case atStart => exact ⟨0, by omega, rfl, rfl, hA, belowT hb1 (below1 w1 _)⟩
  case round =>
    obtain ⟨j, hj, rfl, rfl, A, B⟩ := hrel
    clear hA
    by_cases hc : (j : Int) < 16
    · have hbit := bit_u16 x j
      have hcell := (A j (by rw [mid_length]; omega)).1
      rw [mid_get m j (by omega)] at hcell
      have hxor := xor_u16 (jn m x b j) (powF m j)
      have hend : ∀ s, s = ((jn m x b (j + 1)).toNat : Int) → ∃ j' : Nat, j' ≤ 16 ∧ Value.int .u16 s = .int .u16 ((jn m x b j').toNat : Int) ∧ Value.int .i64 ((j : Int) + 1) = .int .i64 (j' : Int) ∧ Arr wr w1.heap.size (mid m 16) ∧ Below w.heap.size w wr := fun s hs => ⟨j + 1, by omega, by rw [hs], rfl, A, B⟩
      have HE := Lib.hid hend
      cases hg : x.getLsbD j
      · have hn : jn m x b (j + 1) = jn m x b j := by rw [jn, hg, if_neg (by decide)]
        rw [hn] at HE
        rw [hg] at hbit
        clear A B hend hn hg hxor hcell
        generalize (jn m x b j).toNat = s0 at *
        generalize x.toNat = xn at *
        go_wp2
        go_roundw
        case rel => exact HE.out _ rfl
        case measure => simp [intOf]; omega
      · have hn : jn m x b (j + 1) = jn m x b j ^^^ powF m j := by rw [jn, hg, if_pos rfl]
        rw [hn] at HE
        rw [hg] at hbit
        clear A B hend hn hg
        generalize (jn m x b j ^^^ powF m j).toNat = s1 at *
        generalize (jn m x b j).toNat = s0 at *
        generalize (powF m j).toNat = pn at *
        generalize x.toNat = xn at *
        go_wp2
        go_roundw
        case rel => exact HE.out _ rfl
        case measure => simp [intOf]; omega
    · obtain rfl : j = 16 := by omega
      have B' := Lib.hid B
      clear A B
      go_wp2
      go_ret
      exact ⟨rfl, B'.out⟩
end Ref6
end Go.Proofs.Ytaipjhfgkidbfaa
