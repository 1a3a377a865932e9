/- The landed crc's own call Power. -/
import Derived.Test.YtaipjhfgkidbfaaCrcOwnF
import Derived.Deep.OwnRows
import Derived.Lib.MinMax
namespace Go.Proofs.Ytaipjhfgkidbfaa
open Go.RowKit

theorem byte_nought (x : BitVec 16) : Crc.byte (Crc.step x) 0#8 = Crc.step (Crc.byte x 0#8) := by
  have e : Crc.up 0#8 = 0#16 := by decide
  unfold Crc.byte
  rw [e, BitVec.xor_zero, BitVec.xor_zero]
  simp only [Crc.steps]
theorem more_step (m : Nat) (x : BitVec 16) : Crc.more (Crc.step x) (List.replicate m 0#8) = Crc.step (Crc.more x (List.replicate m 0#8)) := by
  induction m with
  | zero => rfl
  | succ m ih => rw [more_next, more_next, ih, byte_nought]
theorem step_pow (j : Nat) (h : j < 15) : Crc.step (BitVec.twoPow 16 j) = BitVec.twoPow 16 (j + 1) := by
  have k : ∀ j : Fin 15, Crc.step (BitVec.twoPow 16 j.val) = BitVec.twoPow 16 (j.val + 1) := by decide
  exact k ⟨j, h⟩
theorem powF_next (m j : Nat) (h : j < 15) : Crc.step (powF m j) = powF m (j + 1) := by
  unfold powF
  rw [← step_pow j h, more_step]
theorem made_bytes (m : Nat) : madeCells #[Value.int .u8 0] m = (vals (List.replicate m 0)).toArray := by
  apply Array.ext
  · simp [madeCells, vals]
  · intro i h1 h2
    simp [madeCells, vals, Nat.mod_one]
theorem came_made (w : World) (m : Nat) (t : TypeId) (hm : m ≤ 4000) : Came (w.alloc (.cells (madeCells #[Value.int .u8 0] m) t)) (some ⟨w.heap.size, 0, none⟩) m (List.replicate m 0) := by
  refine ⟨by simp, by unfold maxLen; omega, fun e => (by cases e), fun _ => ⟨_, _, rfl, ?_⟩⟩
  rw [made_bytes]
  exact lies_alloc w (List.replicate m 0) t
theorem bv_noughts (m : Nat) : bv (List.replicate m 0) = List.replicate m 0#8 := by simp [bv]
theorem heap2 (w : World) (o p : Obj) : ((w.alloc o).alloc p).heap.size = w.heap.size + 2 := by simp

namespace Own6
set_option maxHeartbeats 8000000 in
theorem Power_any (n : Int) (m : Nat) (w : World) (hm : max 0 (min n 4000) = (m : Int)) :
    Calls Try.prog 19 #[.int .i64 n] w fun e w' => e = .returned (powV m) ∧ Below w.heap.size w w' := by
  have hm1 : min (max n 0) 4000 = (m : Int) := by omega
  have hm4 : m ≤ 4000 := by omega
  have hmk := run_make_row' (P := Try.prog) 23 5 (.int .u8 0) 1 rfl info8 rfl .i64 .i64 m (by omega) (by omega)
  obtain ⟨V, hV⟩ : ∃ V, V = powV m := ⟨_, rfl⟩
  rw [← hV]
  have MO0 : ∀ t1 t2 t3 c1 c3, Calls Try.prog 13 #[.int .u16 1, .slice (some ⟨w.heap.size + 1, 0, none⟩) m m] (((w.alloc (.cells c1 t1)).alloc (.cells (madeCells #[Value.int .u8 0] m) t2)).alloc (.cells c3 t3)) fun e w' =>
      e = .returned (.int .u16 ((powF m 0).toNat : Int)) ∧ Below (((w.alloc (.cells c1 t1)).alloc (.cells (madeCells #[Value.int .u8 0] m) t2)).alloc (.cells c3 t3)).heap.size (((w.alloc (.cells c1 t1)).alloc (.cells (madeCells #[Value.int .u8 0] m) t2)).alloc (.cells c3 t3)) w' := fun t1 t2 t3 c1 c3 => by
    have c := (came_made (w.alloc (.cells c1 t1)) m t2 hm4).keep (below1 _ (.cells c3 t3))
    rw [heap1] at c
    have h := More_any c 1#16
    rw [bv_noughts, List.length_replicate] at h
    exact h
  have MO := Lib.hid MO0
  clear hm MO0
  go_enter Try.func19, Try.ntmps19
  go_wp2_with fail
  refine (MO.out _ _ _ _ _).mono ?_; rintro e w1 ⟨rfl, hb1⟩
  have B1 := belowT (below3 w _ _ _) hb1
  have A0 : Arr w1 w.heap.size (mid m 0) := by
    rw [mid_zero]
    exact ((arr_alloc w (List.replicate 16 0#16) _).keep (below2 _ _ _)).keep hb1
  have A1 : Arr w1 (w.heap.size + 2) (mid m 0) := by
    rw [mid_zero, ← heap2 w (.cells ((List.replicate 16 0#16).map fun x => Value.int .u16 (x.toNat : Int)).toArray 35) (.cells (madeCells #[Value.int .u8 0] m) 5)]
    exact (arr_alloc _ (List.replicate 16 0#16) _).keep hb1
  have P1 := A1.set 0 (powF m 0)
  rw [mid_set m 0] at P1
  have P1' := Lib.hid P1
  have P0' := Lib.hid (A0.other (c := w.heap.size + 2) (by omega) 0 (.int .u16 ((powF m 0).toNat : Int)))
  have B1' := Lib.hid (B1.setCell (p := ⟨w.heap.size + 2, 0, none⟩) (show w.heap.size ≤ w.heap.size + 2 by omega) (.int .u16 ((powF m 0).toNat : Int)))
  obtain ⟨c0, f0⟩ := A1 0 (by rw [mid_length]; omega)
  clear A0 A1 B1 P1 hb1 MO
  go_wp2
  go_loopw [5] (fun iv wr => ∃ k : Nat, k ≤ 15 ∧ iv = .int .i64 ((k : Int) + 1) ∧ Arr wr (w.heap.size + 2) (mid m (k + 1)) ∧ Arr wr w.heap.size (mid m 0) ∧ Below w.heap.size w wr) (fun iv _ => 17 - (intOf iv).toNat)
  case atStart => exact ⟨0, by omega, rfl, P1'.out, P0'.out, B1'.out⟩
  case round =>
    obtain ⟨k, hk, rfl, A1, A0, B⟩ := hrel
    clear P1' P0' B1' c0 f0
    by_cases hc : (k : Int) + 1 < 16
    · obtain ⟨c1, f1⟩ := A1 k (by rw [mid_length]; omega)
      have g1 : (mid m (k + 1)).getD k 0#16 = powF m k := by simp [mid, List.getD, show k < 16 by omega]
      rw [g1] at c1
      obtain ⟨c2, f2⟩ := A1 (k + 1) (by rw [mid_length]; omega)
      have ST := fun w => Step_eq (powF m k) w
      rw [powF_next m k (by omega)] at ST
      have SH := Lib.hid ST
      have A2 := A1.set (k + 1) (powF m (k + 1))
      rw [mid_set m (k + 1)] at A2
      have A2' := Lib.hid A2
      have A0' := Lib.hid (A0.other (c := w.heap.size + 2) (by omega) (k + 1) (.int .u16 ((powF m (k + 1)).toNat : Int)))
      have B' := Lib.hid (B.setCell (p := ⟨w.heap.size + 2, k + 1, none⟩) (show w.heap.size ≤ w.heap.size + 2 by omega) (.int .u16 ((powF m (k + 1)).toNat : Int)))
      clear A1 A0 B A2 ST g1
      go_wp2_with fail
      refine (SH.out _).mono ?_; rintro e w2 ⟨rfl, rfl⟩
      go_wp2_with fail
      go_roundw
      case rel => exact ⟨k + 1, by omega, rfl, A2'.out, A0'.out, B'.out⟩
      case measure => simp [intOf]; omega
    · obtain rfl : k = 15 := by omega
      have c0 := (A1 0 (by rw [mid_length]; omega)).1; have z0 := A0 0 (by rw [mid_length]; omega); have y0 := z0.1; have q0 := z0.2
      have c1 := (A1 1 (by rw [mid_length]; omega)).1; have z1 := A0 1 (by rw [mid_length]; omega); have y1 := z1.1; have q1 := z1.2
      have c2 := (A1 2 (by rw [mid_length]; omega)).1; have z2 := A0 2 (by rw [mid_length]; omega); have y2 := z2.1; have q2 := z2.2
      have c3 := (A1 3 (by rw [mid_length]; omega)).1; have z3 := A0 3 (by rw [mid_length]; omega); have y3 := z3.1; have q3 := z3.2
      have c4 := (A1 4 (by rw [mid_length]; omega)).1; have z4 := A0 4 (by rw [mid_length]; omega); have y4 := z4.1; have q4 := z4.2
      have c5 := (A1 5 (by rw [mid_length]; omega)).1; have z5 := A0 5 (by rw [mid_length]; omega); have y5 := z5.1; have q5 := z5.2
      have c6 := (A1 6 (by rw [mid_length]; omega)).1; have z6 := A0 6 (by rw [mid_length]; omega); have y6 := z6.1; have q6 := z6.2
      have c7 := (A1 7 (by rw [mid_length]; omega)).1; have z7 := A0 7 (by rw [mid_length]; omega); have y7 := z7.1; have q7 := z7.2
      have c8 := (A1 8 (by rw [mid_length]; omega)).1; have z8 := A0 8 (by rw [mid_length]; omega); have y8 := z8.1; have q8 := z8.2
      have c9 := (A1 9 (by rw [mid_length]; omega)).1; have z9 := A0 9 (by rw [mid_length]; omega); have y9 := z9.1; have q9 := z9.2
      have c10 := (A1 10 (by rw [mid_length]; omega)).1; have z10 := A0 10 (by rw [mid_length]; omega); have y10 := z10.1; have q10 := z10.2
      have c11 := (A1 11 (by rw [mid_length]; omega)).1; have z11 := A0 11 (by rw [mid_length]; omega); have y11 := z11.1; have q11 := z11.2
      have c12 := (A1 12 (by rw [mid_length]; omega)).1; have z12 := A0 12 (by rw [mid_length]; omega); have y12 := z12.1; have q12 := z12.2
      have c13 := (A1 13 (by rw [mid_length]; omega)).1; have z13 := A0 13 (by rw [mid_length]; omega); have y13 := z13.1; have q13 := z13.2
      have c14 := (A1 14 (by rw [mid_length]; omega)).1; have z14 := A0 14 (by rw [mid_length]; omega); have y14 := z14.1; have q14 := z14.2
      have c15 := (A1 15 (by rw [mid_length]; omega)).1; have z15 := A0 15 (by rw [mid_length]; omega); have y15 := z15.1; have q15 := z15.2
      rw [mid_get m 0 (by omega)] at c0; rw [nought_get m 0 (by omega)] at y0
      rw [mid_get m 1 (by omega)] at c1; rw [nought_get m 1 (by omega)] at y1
      rw [mid_get m 2 (by omega)] at c2; rw [nought_get m 2 (by omega)] at y2
      rw [mid_get m 3 (by omega)] at c3; rw [nought_get m 3 (by omega)] at y3
      rw [mid_get m 4 (by omega)] at c4; rw [nought_get m 4 (by omega)] at y4
      rw [mid_get m 5 (by omega)] at c5; rw [nought_get m 5 (by omega)] at y5
      rw [mid_get m 6 (by omega)] at c6; rw [nought_get m 6 (by omega)] at y6
      rw [mid_get m 7 (by omega)] at c7; rw [nought_get m 7 (by omega)] at y7
      rw [mid_get m 8 (by omega)] at c8; rw [nought_get m 8 (by omega)] at y8
      rw [mid_get m 9 (by omega)] at c9; rw [nought_get m 9 (by omega)] at y9
      rw [mid_get m 10 (by omega)] at c10; rw [nought_get m 10 (by omega)] at y10
      rw [mid_get m 11 (by omega)] at c11; rw [nought_get m 11 (by omega)] at y11
      rw [mid_get m 12 (by omega)] at c12; rw [nought_get m 12 (by omega)] at y12
      rw [mid_get m 13 (by omega)] at c13; rw [nought_get m 13 (by omega)] at y13
      rw [mid_get m 14 (by omega)] at c14; rw [nought_get m 14 (by omega)] at y14
      rw [mid_get m 15 (by omega)] at c15; rw [nought_get m 15 (by omega)] at y15
      have B' := Lib.hid B
      clear A1 A0 B z0 z1 z2 z3 z4 z5 z6 z7 z8 z9 z10 z11 z12 z13 z14 z15
      unfold powV at hV
      generalize ((powF m 0).toNat : Int) = v0 at *
      generalize ((powF m 1).toNat : Int) = v1 at *
      generalize ((powF m 2).toNat : Int) = v2 at *
      generalize ((powF m 3).toNat : Int) = v3 at *
      generalize ((powF m 4).toNat : Int) = v4 at *
      generalize ((powF m 5).toNat : Int) = v5 at *
      generalize ((powF m 6).toNat : Int) = v6 at *
      generalize ((powF m 7).toNat : Int) = v7 at *
      generalize ((powF m 8).toNat : Int) = v8 at *
      generalize ((powF m 9).toNat : Int) = v9 at *
      generalize ((powF m 10).toNat : Int) = v10 at *
      generalize ((powF m 11).toNat : Int) = v11 at *
      generalize ((powF m 12).toNat : Int) = v12 at *
      generalize ((powF m 13).toNat : Int) = v13 at *
      generalize ((powF m 14).toNat : Int) = v14 at *
      generalize ((powF m 15).toNat : Int) = v15 at *
      go_wp2
      refine bodyPost_ret (v := .agg #[.int .u16 v0, .int .u16 v1, .int .u16 v2, .int .u16 v3, .int .u16 v4, .int .u16 v5, .int .u16 v6, .int .u16 v7, .int .u16 v8, .int .u16 v9, .int .u16 v10, .int .u16 v11, .int .u16 v12, .int .u16 v13, .int .u16 v14, .int .u16 v15]) (by simp [results, Try.results19, go_sem, *]) rfl ⟨rfl, ?_⟩
      iterate 16 refine Below.setCell (p := ⟨w.heap.size, _, none⟩) ?_ (Nat.le_refl w.heap.size) _
      exact B'.out
end Own6
end Go.Proofs.Ytaipjhfgkidbfaa
