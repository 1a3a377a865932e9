/- Power of the document's own answers for layer 6. -/
import Derived.Test.YtaipjhfgkidbfaaArr
import Derived.Lib.MinMax
namespace Go.Proofs.Ytaipjhfgkidbfaa
open Go.RowKit

/-- what m bytes 0 make of a sum in which the i-th bit alone is 1 -/
def powF (m i : Nat) : BitVec 16 := Crc.more (BitVec.twoPow 16 i) (List.replicate m 0#8)
/-- the first j of the sixteen -/
def mid (m j : Nat) : List (BitVec 16) := (List.range 16).map fun i => if i < j then powF m i else 0#16
def powV (m : Nat) : Value := .agg #[.int .u16 ((powF m 0).toNat : Int), .int .u16 ((powF m 1).toNat : Int), .int .u16 ((powF m 2).toNat : Int), .int .u16 ((powF m 3).toNat : Int), .int .u16 ((powF m 4).toNat : Int), .int .u16 ((powF m 5).toNat : Int), .int .u16 ((powF m 6).toNat : Int), .int .u16 ((powF m 7).toNat : Int), .int .u16 ((powF m 8).toNat : Int), .int .u16 ((powF m 9).toNat : Int), .int .u16 ((powF m 10).toNat : Int), .int .u16 ((powF m 11).toNat : Int), .int .u16 ((powF m 12).toNat : Int), .int .u16 ((powF m 13).toNat : Int), .int .u16 ((powF m 14).toNat : Int), .int .u16 ((powF m 15).toNat : Int)]
theorem mid_length (m j : Nat) : (mid m j).length = 16 := by simp [mid]
theorem mid_zero (m : Nat) : mid m 0 = List.replicate 16 0#16 := by rfl
theorem mid_get (m i : Nat) (h : i < 16) : (mid m 16).getD i 0#16 = powF m i := by simp [mid, List.getD, h]
theorem nought_get (m i : Nat) (h : i < 16) : (mid m 0).getD i 0#16 = 0#16 := by simp [mid, List.getD, h]
theorem mid_set (m j : Nat) : (mid m j).set j (powF m j) = mid m (j + 1) := by
  apply List.ext_getElem
  · simp [mid]
  · intro i h1 h2
    rw [mid_length] at h2
    rw [List.getElem_set]
    by_cases e : j = i
    · subst e; rw [if_pos rfl]; simp [mid]
    · rw [if_neg e]; simp [mid, show (i < j + 1) ↔ (i < j) by omega]
theorem set_set (xs : List (BitVec 16)) (j : Nat) (a b : BitVec 16) : (xs.set j a).set j b = xs.set j b := by simp
theorem shl_pow (j : Nat) (h : j < 16) : IntKind.u16.wrap ((2 : Int) ^ j) = ((BitVec.twoPow 16 j).toNat : Int) := by
  have k : ∀ j : Fin 16, IntKind.u16.wrap ((2 : Int) ^ j.val) = ((BitVec.twoPow 16 j.val).toNat : Int) := by decide
  exact k ⟨j, h⟩
theorem more_next (x : BitVec 16) (k : Nat) : Crc.more x (List.replicate (k + 1) 0#8) = Crc.byte (Crc.more x (List.replicate k 0#8)) 0#8 := by
  rw [List.replicate_succ', Crc.more_append]; rfl

namespace Ref6
set_option maxHeartbeats 8000000 in
theorem Power_any (n : Int) (m : Nat) (w : World) (hm : max 0 (min n 4000) = (m : Int)) (hm2 : (m : Int) ≤ 4000) :
    Calls Try.prog 20 #[.int .i64 n] w fun e w' => e = .returned (powV m) ∧ Below w.heap.size w w' := by
  have BY := Lib.hid fun x w => Byte_any x 0 w
  obtain ⟨V, hV⟩ : ∃ V, V = powV m := ⟨_, rfl⟩
  rw [← hV]
  go_enter Try.func20, Try.ntmps20
  go_wp2
  go_loopw [5] (fun iv wr => ∃ j : Nat, j ≤ 16 ∧ iv = .int .i64 j ∧ Arr wr (w.heap.size + 1) (mid m j) ∧ Arr wr w.heap.size (mid m 0) ∧ Below w.heap.size w wr) (fun iv _ => 16 - (intOf iv).toNat)
  case atStart =>
    refine ⟨0, by omega, rfl, ?_, ?_, below2 w _ _⟩
    · rw [mid_zero, ← heap1 w (.cells ((List.replicate 16 0#16).map fun x => Value.int .u16 (x.toNat : Int)).toArray _)]
      exact arr_alloc _ (List.replicate 16 0#16) _
    · rw [mid_zero]
      exact (arr_alloc w (List.replicate 16 0#16) _).keep (below1 _ _)
  case round =>
    obtain ⟨j, hj, rfl, A1, A0, B⟩ := hrel
    have hsz := B.size
    by_cases hc : (j : Int) < 16
    · obtain ⟨c1, f1⟩ := A1 j (by rw [mid_length]; omega)
      have hp := shl_pow j (by omega)
      obtain ⟨P, hP⟩ : ∃ P : BitVec 16, P = BitVec.twoPow 16 j := ⟨_, rfl⟩
      have hP0 : P = powF 0 j := hP
      rw [← hP] at hp
      clear hP
      have A1' := Lib.hid (A1.set j P)
      have A0' := Lib.hid (A0.other (c := w.heap.size + 1) (by omega) j (.int .u16 (P.toNat : Int)))
      have B' := Lib.hid (B.setCell (p := ⟨w.heap.size + 1, j, none⟩) (show w.heap.size ≤ w.heap.size + 1 by omega) (.int .u16 (P.toNat : Int)))
      have A1'' : Arr (wr.setCell ⟨w.heap.size + 1, j, none⟩ (.int .u16 (P.toNat : Int))) (w.heap.size + 1) ((mid m j).set j (powF 0 j)) := by rw [← hP0]; exact A1'.out
      have A2 := Lib.hid A1''
      clear A1 A0 B A1'' A1' hP0
      go_wp2
      go_loopw [16] (fun kv wq => ∃ k : Nat, k ≤ m ∧ kv = .int .i64 k ∧ Arr wq (w.heap.size + 1) ((mid m j).set j (powF k j)) ∧ Arr wq w.heap.size (mid m 0) ∧ Below w.heap.size w wq) (fun kv _ => m - (intOf kv).toNat)
      case atStart => exact ⟨0, by omega, rfl, A2.out, A0'.out, B'.out⟩
      case round =>
        obtain ⟨k, hk, rfl, A1, A0, B⟩ := hrel
        clear A2 A0' B'
        by_cases hkc : (k : Int) < m
        · obtain ⟨c2, f2⟩ := A1 j (by rw [List.length_set, mid_length]; omega)
          have g2 : ((mid m j).set j (powF k j)).getD j 0#16 = powF k j := by simp [List.getD, mid_length, show j < 16 by omega]
          rw [g2] at c2
          have A1' := Lib.hid (A1.set j (powF (k + 1) j))
          rw [set_set] at A1'
          have A0' := Lib.hid (A0.other (c := w.heap.size + 1) (by omega) j (.int .u16 ((powF (k + 1) j).toNat : Int)))
          have B' := Lib.hid (B.setCell (p := ⟨w.heap.size + 1, j, none⟩) (show w.heap.size ≤ w.heap.size + 1 by omega) (.int .u16 ((powF (k + 1) j).toNat : Int)))
          have BYk := BY.out (powF k j)
          rw [show Crc.byte (powF k j) (0 : UInt8).toBitVec = powF (k + 1) j from (more_next _ k).symm] at BYk
          have BYh := Lib.hid BYk
          clear A1 A0 B BYk
          go_wp2_with fail
          refine (BYh.out _).mono ?_; rintro e w1 ⟨rfl, rfl⟩
          go_wp2_with fail
          go_roundw
          case rel => exact ⟨k + 1, by omega, rfl, A1'.out, A0'.out, B'.out⟩
          case measure => simp [intOf]; omega
        · obtain rfl : k = m := by omega
          rw [mid_set k j] at A1
          have A1' := Lib.hid A1; have A0' := Lib.hid A0; have B' := Lib.hid B
          clear A1 A0 B
          go_wp2
          go_roundw
          case rel => exact ⟨j + 1, by omega, rfl, A1'.out, A0'.out, B'.out⟩
          case measure => simp [intOf]; omega
    · obtain rfl : j = 16 := by omega
      have c0 := (A1 0 (by rw [mid_length]; omega)).1; have z0 := A0 0 (by rw [mid_length]; omega); have y0 := z0.1; have q0 := z0.2
      have c1 := (A1 1 (by rw [mid_length]; omega)).1; have z1 := A0 1 (by rw [mid_length]; omega); have y1 := z1.1; have q1 := z1.2
      have c2 := (A1 2 (by rw [mid_length]; omega)).1; have z2 := A0 2 (by rw [mid_length]; omega); have y2 := z2.1; have q2 := z2.2
      have c3 := (A1 3 (by rw [mid_length]; omega)).1; have z3 := A0 3 (by rw [mid_length]; omega); have y3 := z3.1; have q3 := z3.2
      have c4 := (A1 4 (by rw [mid_length]; omega)).1; have z4 := A0 4 (by rw [mid_length]; omega); have y4 := z4.1; have q4 := z4.2
      have c5 := (A1 5 (by rw [mid_length]; omega)).1; have z5 := A0 5 (by rw [mid_length]; omega); have y5 := z5.1; have q5 := z5.2
      have c6 := (A1 6 (by rw [mid_length]; omega)).1; have z6 := A0 6 (by rw [mid_length]; omega); have y6 := z6.1; have q6 := z6.2
      have c7 := (A1 7 (by rw [mid_length]; omega)).1; have z7 := A0 7 (by rw [mid_length]; omega); have y7 := z7.1; have q7 := z7.2
      have c8 := (A1 8 (by rw [mid_length]; omega)).1; have z8 := A0 8 (by rw [mid_length]; omega); have y8 := z8.1; have q8 := z8.2
      have c9 := (A1 9 (by rw [mid_length]; omega)).1; have z9 := A0 9 (by rw [mid_length]; omega); have y9 := z9.1; have q9 := z9.2
      have c10 := (A1 10 (by rw [mid_length]; omega)).1; have z10 := A0 10 (by rw [mid_length]; omega); have y10 := z10.1; have q10 := z10.2
      have c11 := (A1 11 (by rw [mid_length]; omega)).1; have z11 := A0 11 (by rw [mid_length]; omega); have y11 := z11.1; have q11 := z11.2
      have c12 := (A1 12 (by rw [mid_length]; omega)).1; have z12 := A0 12 (by rw [mid_length]; omega); have y12 := z12.1; have q12 := z12.2
      have c13 := (A1 13 (by rw [mid_length]; omega)).1; have z13 := A0 13 (by rw [mid_length]; omega); have y13 := z13.1; have q13 := z13.2
      have c14 := (A1 14 (by rw [mid_length]; omega)).1; have z14 := A0 14 (by rw [mid_length]; omega); have y14 := z14.1; have q14 := z14.2
      have c15 := (A1 15 (by rw [mid_length]; omega)).1; have z15 := A0 15 (by rw [mid_length]; omega); have y15 := z15.1; have q15 := z15.2
      rw [mid_get m 0 (by omega)] at c0; rw [nought_get m 0 (by omega)] at y0
      rw [mid_get m 1 (by omega)] at c1; rw [nought_get m 1 (by omega)] at y1
      rw [mid_get m 2 (by omega)] at c2; rw [nought_get m 2 (by omega)] at y2
      rw [mid_get m 3 (by omega)] at c3; rw [nought_get m 3 (by omega)] at y3
      rw [mid_get m 4 (by omega)] at c4; rw [nought_get m 4 (by omega)] at y4
      rw [mid_get m 5 (by omega)] at c5; rw [nought_get m 5 (by omega)] at y5
      rw [mid_get m 6 (by omega)] at c6; rw [nought_get m 6 (by omega)] at y6
      rw [mid_get m 7 (by omega)] at c7; rw [nought_get m 7 (by omega)] at y7
      rw [mid_get m 8 (by omega)] at c8; rw [nought_get m 8 (by omega)] at y8
      rw [mid_get m 9 (by omega)] at c9; rw [nought_get m 9 (by omega)] at y9
      rw [mid_get m 10 (by omega)] at c10; rw [nought_get m 10 (by omega)] at y10
      rw [mid_get m 11 (by omega)] at c11; rw [nought_get m 11 (by omega)] at y11
      rw [mid_get m 12 (by omega)] at c12; rw [nought_get m 12 (by omega)] at y12
      rw [mid_get m 13 (by omega)] at c13; rw [nought_get m 13 (by omega)] at y13
      rw [mid_get m 14 (by omega)] at c14; rw [nought_get m 14 (by omega)] at y14
      rw [mid_get m 15 (by omega)] at c15; rw [nought_get m 15 (by omega)] at y15
      have B' := Lib.hid B
      clear A1 A0 B z0 z1 z2 z3 z4 z5 z6 z7 z8 z9 z10 z11 z12 z13 z14 z15
      unfold powV at hV
      generalize ((powF m 0).toNat : Int) = v0 at *
      generalize ((powF m 1).toNat : Int) = v1 at *
      generalize ((powF m 2).toNat : Int) = v2 at *
      generalize ((powF m 3).toNat : Int) = v3 at *
      generalize ((powF m 4).toNat : Int) = v4 at *
      generalize ((powF m 5).toNat : Int) = v5 at *
      generalize ((powF m 6).toNat : Int) = v6 at *
      generalize ((powF m 7).toNat : Int) = v7 at *
      generalize ((powF m 8).toNat : Int) = v8 at *
      generalize ((powF m 9).toNat : Int) = v9 at *
      generalize ((powF m 10).toNat : Int) = v10 at *
      generalize ((powF m 11).toNat : Int) = v11 at *
      generalize ((powF m 12).toNat : Int) = v12 at *
      generalize ((powF m 13).toNat : Int) = v13 at *
      generalize ((powF m 14).toNat : Int) = v14 at *
      generalize ((powF m 15).toNat : Int) = v15 at *
      go_wp2
      refine bodyPost_ret (v := .agg #[.int .u16 v0, .int .u16 v1, .int .u16 v2, .int .u16 v3, .int .u16 v4, .int .u16 v5, .int .u16 v6, .int .u16 v7, .int .u16 v8, .int .u16 v9, .int .u16 v10, .int .u16 v11, .int .u16 v12, .int .u16 v13, .int .u16 v14, .int .u16 v15]) (by simp [results, Try.results20, go_sem, *]) rfl ⟨rfl, ?_⟩
      iterate 16 refine Below.setCell (p := ⟨w.heap.size, _, none⟩) ?_ (Nat.le_refl w.heap.size) _
      exact B'.out
end Ref6
end Go.Proofs.Ytaipjhfgkidbfaa
