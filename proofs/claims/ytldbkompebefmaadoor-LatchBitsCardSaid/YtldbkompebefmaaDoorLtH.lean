/- The document's own Bits. -/
import Derived.Test.YtldbkompebefmaaDoorLtG
import Derived.Lib.MinMax
import Derived.Deep.RegionWith
import Derived.Deep.CutBlock
import Derived.Deep.CutRange
import Derived.BigRegion
namespace Go.Proofs.YtldbkompebefmaaDoor
open Go.RowKit Ld Lat

namespace Ref33
set_option maxHeartbeats 8000000 in
set_option maxRecDepth 100000 in
theorem Bits_no0 (l : La) (w : World)
    (D0 : Hid (decide (l.u < 0) = true))
    : Calls Tryd.prog 18 #[lv l] w fun e w' => e = .returned (.tuple #[.int .i64 0, .int .i64 1]) ∧ Below w.heap.size w w' := by
  have hS1 := (Sp.none w).more [.int .i64 l.u, .bool l.am, .int .i64 l.al, .int .i64 l.sp, .bool l.fo, .bool l.no] 23
  have HS1 := Lib.hid hS1
  clear hS1
  have d0 := D0.out
  go_enter Tryd.func18, Tryd.ntmps18
  go_upto_region 1 with fail
  obtain ⟨w1, hX, hS⟩ := (HS1.out).named
  rw [← hX]
  clear hX HS1
  have HS2 := Lib.hid hS
  clear hS
  have k0_0 := (HS2.out).at 0 rfl 0 (v := .int .i64 l.u) rfl
  have k0_2 := (HS2.out).at 0 rfl 2 (v := .int .i64 l.al) rfl
  have k0_3 := (HS2.out).at 0 rfl 3 (v := .int .i64 l.sp) rfl
  have BH := Lib.hid HS2.out.below
  go_upto_region 2 with fail
  go_wp2_with fail
  exact bodyPost_ret (v := .tuple #[.int .i64 0, .int .i64 1]) (by simp [results, Tryd.results18, go_sem]) rfl ⟨rfl, BH.out⟩

set_option maxHeartbeats 8000000 in
set_option maxRecDepth 100000 in
theorem Bits_no1 (l : La) (w : World)
    (D0 : Hid (decide (l.u < 0) = false))    (D1 : Hid (decide (7 < l.u) = true))
    : Calls Tryd.prog 18 #[lv l] w fun e w' => e = .returned (.tuple #[.int .i64 0, .int .i64 1]) ∧ Below w.heap.size w w' := by
  have hS1 := (Sp.none w).more [.int .i64 l.u, .bool l.am, .int .i64 l.al, .int .i64 l.sp, .bool l.fo, .bool l.no] 23
  have HS1 := Lib.hid hS1
  clear hS1
  have d0 := D0.out
  have d1 := D1.out
  go_enter Tryd.func18, Tryd.ntmps18
  go_upto_region 1 with fail
  obtain ⟨w1, hX, hS⟩ := (HS1.out).named
  rw [← hX]
  clear hX HS1
  have HS2 := Lib.hid hS
  clear hS
  have k0_0 := (HS2.out).at 0 rfl 0 (v := .int .i64 l.u) rfl
  have k0_2 := (HS2.out).at 0 rfl 2 (v := .int .i64 l.al) rfl
  have k0_3 := (HS2.out).at 0 rfl 3 (v := .int .i64 l.sp) rfl
  have BH := Lib.hid HS2.out.below
  go_upto_region 2 with fail
  go_wp2_with fail
  exact bodyPost_ret (v := .tuple #[.int .i64 0, .int .i64 1]) (by simp [results, Tryd.results18, go_sem]) rfl ⟨rfl, BH.out⟩

set_option maxHeartbeats 8000000 in
set_option maxRecDepth 100000 in
theorem Bits_no2 (l : La) (w : World)
    (D0 : Hid (decide (l.u < 0) = false))    (D1 : Hid (decide (7 < l.u) = false))    (D2 : Hid (decide (l.al < 0) = true))
    : Calls Tryd.prog 18 #[lv l] w fun e w' => e = .returned (.tuple #[.int .i64 0, .int .i64 1]) ∧ Below w.heap.size w w' := by
  have hS1 := (Sp.none w).more [.int .i64 l.u, .bool l.am, .int .i64 l.al, .int .i64 l.sp, .bool l.fo, .bool l.no] 23
  have HS1 := Lib.hid hS1
  clear hS1
  have d0 := D0.out
  have d1 := D1.out
  have d2 := D2.out
  go_enter Tryd.func18, Tryd.ntmps18
  go_upto_region 1 with fail
  obtain ⟨w1, hX, hS⟩ := (HS1.out).named
  rw [← hX]
  clear hX HS1
  have HS2 := Lib.hid hS
  clear hS
  have k0_0 := (HS2.out).at 0 rfl 0 (v := .int .i64 l.u) rfl
  have k0_2 := (HS2.out).at 0 rfl 2 (v := .int .i64 l.al) rfl
  have k0_3 := (HS2.out).at 0 rfl 3 (v := .int .i64 l.sp) rfl
  have BH := Lib.hid HS2.out.below
  go_upto_region 2 with fail
  go_wp2_with fail
  exact bodyPost_ret (v := .tuple #[.int .i64 0, .int .i64 1]) (by simp [results, Tryd.results18, go_sem]) rfl ⟨rfl, BH.out⟩

set_option maxHeartbeats 8000000 in
set_option maxRecDepth 100000 in
theorem Bits_no3 (l : La) (w : World)
    (D0 : Hid (decide (l.u < 0) = false))    (D1 : Hid (decide (7 < l.u) = false))    (D2 : Hid (decide (l.al < 0) = false))    (D3 : Hid (decide (3 < l.al) = true))
    : Calls Tryd.prog 18 #[lv l] w fun e w' => e = .returned (.tuple #[.int .i64 0, .int .i64 1]) ∧ Below w.heap.size w w' := by
  have hS1 := (Sp.none w).more [.int .i64 l.u, .bool l.am, .int .i64 l.al, .int .i64 l.sp, .bool l.fo, .bool l.no] 23
  have HS1 := Lib.hid hS1
  clear hS1
  have d0 := D0.out
  have d1 := D1.out
  have d2 := D2.out
  have d3 := D3.out
  go_enter Tryd.func18, Tryd.ntmps18
  go_upto_region 1 with fail
  obtain ⟨w1, hX, hS⟩ := (HS1.out).named
  rw [← hX]
  clear hX HS1
  have HS2 := Lib.hid hS
  clear hS
  have k0_0 := (HS2.out).at 0 rfl 0 (v := .int .i64 l.u) rfl
  have k0_2 := (HS2.out).at 0 rfl 2 (v := .int .i64 l.al) rfl
  have k0_3 := (HS2.out).at 0 rfl 3 (v := .int .i64 l.sp) rfl
  have BH := Lib.hid HS2.out.below
  go_upto_region 2 with fail
  go_wp2_with fail
  exact bodyPost_ret (v := .tuple #[.int .i64 0, .int .i64 1]) (by simp [results, Tryd.results18, go_sem]) rfl ⟨rfl, BH.out⟩

set_option maxHeartbeats 8000000 in
set_option maxRecDepth 100000 in
theorem Bits_no4 (l : La) (w : World)
    (D0 : Hid (decide (l.u < 0) = false))    (D1 : Hid (decide (7 < l.u) = false))    (D2 : Hid (decide (l.al < 0) = false))    (D3 : Hid (decide (3 < l.al) = false))    (D4 : Hid (decide (l.sp < 0) = true))
    : Calls Tryd.prog 18 #[lv l] w fun e w' => e = .returned (.tuple #[.int .i64 0, .int .i64 1]) ∧ Below w.heap.size w w' := by
  have hS1 := (Sp.none w).more [.int .i64 l.u, .bool l.am, .int .i64 l.al, .int .i64 l.sp, .bool l.fo, .bool l.no] 23
  have HS1 := Lib.hid hS1
  clear hS1
  have d0 := D0.out
  have d1 := D1.out
  have d2 := D2.out
  have d3 := D3.out
  have d4 := D4.out
  go_enter Tryd.func18, Tryd.ntmps18
  go_upto_region 1 with fail
  obtain ⟨w1, hX, hS⟩ := (HS1.out).named
  rw [← hX]
  clear hX HS1
  have HS2 := Lib.hid hS
  clear hS
  have k0_0 := (HS2.out).at 0 rfl 0 (v := .int .i64 l.u) rfl
  have k0_2 := (HS2.out).at 0 rfl 2 (v := .int .i64 l.al) rfl
  have k0_3 := (HS2.out).at 0 rfl 3 (v := .int .i64 l.sp) rfl
  have BH := Lib.hid HS2.out.below
  go_upto_region 2 with fail
  go_wp2_with fail
  exact bodyPost_ret (v := .tuple #[.int .i64 0, .int .i64 1]) (by simp [results, Tryd.results18, go_sem]) rfl ⟨rfl, BH.out⟩

set_option maxHeartbeats 8000000 in
set_option maxRecDepth 100000 in
theorem Bits_no5 (l : La) (w : World)
    (D0 : Hid (decide (l.u < 0) = false))    (D1 : Hid (decide (7 < l.u) = false))    (D2 : Hid (decide (l.al < 0) = false))    (D3 : Hid (decide (3 < l.al) = false))    (D4 : Hid (decide (l.sp < 0) = false))    (D5 : Hid (decide (3 < l.sp) = true))
    : Calls Tryd.prog 18 #[lv l] w fun e w' => e = .returned (.tuple #[.int .i64 0, .int .i64 1]) ∧ Below w.heap.size w w' := by
  have hS1 := (Sp.none w).more [.int .i64 l.u, .bool l.am, .int .i64 l.al, .int .i64 l.sp, .bool l.fo, .bool l.no] 23
  have HS1 := Lib.hid hS1
  clear hS1
  have d0 := D0.out
  have d1 := D1.out
  have d2 := D2.out
  have d3 := D3.out
  have d4 := D4.out
  have d5 := D5.out
  go_enter Tryd.func18, Tryd.ntmps18
  go_upto_region 1 with fail
  obtain ⟨w1, hX, hS⟩ := (HS1.out).named
  rw [← hX]
  clear hX HS1
  have HS2 := Lib.hid hS
  clear hS
  have k0_0 := (HS2.out).at 0 rfl 0 (v := .int .i64 l.u) rfl
  have k0_2 := (HS2.out).at 0 rfl 2 (v := .int .i64 l.al) rfl
  have k0_3 := (HS2.out).at 0 rfl 3 (v := .int .i64 l.sp) rfl
  have BH := Lib.hid HS2.out.below
  go_upto_region 2 with fail
  go_wp2_with fail
  exact bodyPost_ret (v := .tuple #[.int .i64 0, .int .i64 1]) (by simp [results, Tryd.results18, go_sem]) rfl ⟨rfl, BH.out⟩

set_option maxHeartbeats 16000000 in
set_option maxRecDepth 100000 in
theorem Bits_ok (l : La) (a8 m1 a32 n0 n1 n2 n3 : Int) (w : World)
    (D0 : Hid (decide (l.u < 0) = false))    (D1 : Hid (decide (7 < l.u) = false))    (D2 : Hid (decide (l.al < 0) = false))    (D3 : Hid (decide (3 < l.al) = false))    (D4 : Hid (decide (l.sp < 0) = false))    (D5 : Hid (decide (3 < l.sp) = false))
    (W8 : Hid (wrap64 (l.al * 8) = a8)) (O1 : Hid (bits .or .i64 l.u a8 = m1)) (W32 : Hid (wrap64 (l.sp * 32) = a32)) (O2 : Hid (bits .or .i64 m1 a32 = n0))
    (Tam : Hid (l.am = true → bits .or .i64 n0 128 = n1)) (Fam : Hid (l.am = false → n1 = n0))
    (Tfo : Hid (l.fo = true → bits .or .i64 n1 256 = n2)) (Ffo : Hid (l.fo = false → n2 = n1))
    (Tno : Hid (l.no = true → bits .or .i64 n2 512 = n3)) (Fno : Hid (l.no = false → n3 = n2))
    : Calls Tryd.prog 18 #[lv l] w fun e w' => e = .returned (.tuple #[.int .i64 n3, .int .i64 0]) ∧ Below w.heap.size w w' := by
  have hS1 := (Sp.none w).more [.int .i64 l.u, .bool l.am, .int .i64 l.al, .int .i64 l.sp, .bool l.fo, .bool l.no] 23
  have HS1 := Lib.hid hS1
  clear hS1
  have d0 := D0.out
  have d1 := D1.out
  have d2 := D2.out
  have d3 := D3.out
  have d4 := D4.out
  have d5 := D5.out
  have hW8 := W8.out
  have hO1 := O1.out
  have hW32 := W32.out
  have hO2 := O2.out
  clear D0 D1 D2 D3 D4 D5 W8 O1 W32 O2
  go_enter Tryd.func18, Tryd.ntmps18
  go_upto_region 1 with fail
  obtain ⟨w1, hX, hS⟩ := (HS1.out).named
  rw [← hX]
  clear hX HS1
  have HS2 := Lib.hid hS
  clear hS
  have k0_0 := (HS2.out).at 0 rfl 0 (v := .int .i64 l.u) rfl
  have k0_2 := (HS2.out).at 0 rfl 2 (v := .int .i64 l.al) rfl
  have k0_3 := (HS2.out).at 0 rfl 3 (v := .int .i64 l.sp) rfl
  go_upto_region 4 with fail
  clear d0 d1 d2 d3 d4 d5 hW8 hO1 hW32 hO2 k0_0 k0_2 k0_3
  have s0_1 := (HS2.out).at 0 rfl 1 (v := .bool l.am) rfl
  have s0_4 := (HS2.out).at 0 rfl 4 (v := .bool l.fo) rfl
  have s0_5 := (HS2.out).at 0 rfl 5 (v := .bool l.no) rfl
  go_wp2_with fail
  clear s0_1 s0_4 s0_5
  have hS3 := (HS2.out).more [.bool l.am, .bool l.fo, .bool l.no] 4
  have HS3 := Lib.hid hS3
  clear hS3 HS2
  obtain ⟨w2, hX, hS⟩ := (HS3.out).named
  rw [← hX]
  clear hX HS3
  have HS4 := Lib.hid hS
  clear hS
  go_loop [4, 53] (fun v i => ∃ n z : Int, v = .int .i64 n ∧ i = .int .i64 z ∧ (z = 0 ∧ n = n0 ∨ z = 1 ∧ n = n1 ∨ z = 2 ∧ n = n2 ∨ z = 3 ∧ n = n3)) (fun _ i => 3 - (intOf i).toNat)
  case atStart => first | exact ⟨n0, 0, rfl, rfl, .inl ⟨rfl, rfl⟩⟩ | ((repeat apply Exists.intro); exact ⟨⟨n0, 0, rfl, rfl, .inl ⟨rfl, rfl⟩⟩, rfl⟩)
  case round =>
    obtain ⟨n, z, rfl, rfl, hz⟩ := hrel
    rcases hz with ⟨rfl, rfl⟩ | ⟨rfl, rfl⟩ | ⟨rfl, rfl⟩ | ⟨rfl, rfl⟩
    · have kb := (HS4.out).at 1 rfl 0 (v := .bool l.am) rfl
      rcases Bool.eq_false_or_eq_true l.am with c | c
      · skip
        have ho := Tam.out c
        have HN : n1 = n1 := rfl
        rw [c] at kb
        clear c Tam Fam Tfo Ffo Tno Fno
        have HQ := Lib.hid HN
        clear HN
        go_wp2_with fail
        go_round
        case rel => first | exact ⟨n1, 1, rfl, rfl, .inr (.inl ⟨rfl, HQ.out⟩)⟩ | ((repeat apply Exists.intro); exact ⟨⟨n1, 1, rfl, rfl, .inr (.inl ⟨rfl, HQ.out⟩)⟩, rfl⟩)
        case measure => simp [intOf]
      · skip
        have HN := (Fam.out c).symm
        rw [c] at kb
        clear c Tam Fam Tfo Ffo Tno Fno
        have HQ := Lib.hid HN
        clear HN
        go_wp2_with fail
        go_round
        case rel => first | exact ⟨n, 1, rfl, rfl, .inr (.inl ⟨rfl, HQ.out⟩)⟩ | ((repeat apply Exists.intro); exact ⟨⟨n, 1, rfl, rfl, .inr (.inl ⟨rfl, HQ.out⟩)⟩, rfl⟩)
        case measure => simp [intOf]
    · have kb := (HS4.out).at 1 rfl 1 (v := .bool l.fo) rfl
      rcases Bool.eq_false_or_eq_true l.fo with c | c
      · skip
        have ho := Tfo.out c
        have HN : n2 = n2 := rfl
        rw [c] at kb
        clear c Tam Fam Tfo Ffo Tno Fno
        have HQ := Lib.hid HN
        clear HN
        go_wp2_with fail
        go_round
        case rel => first | exact ⟨n2, 2, rfl, rfl, .inr (.inr (.inl ⟨rfl, HQ.out⟩))⟩ | ((repeat apply Exists.intro); exact ⟨⟨n2, 2, rfl, rfl, .inr (.inr (.inl ⟨rfl, HQ.out⟩))⟩, rfl⟩)
        case measure => simp [intOf]
      · skip
        have HN := (Ffo.out c).symm
        rw [c] at kb
        clear c Tam Fam Tfo Ffo Tno Fno
        have HQ := Lib.hid HN
        clear HN
        go_wp2_with fail
        go_round
        case rel => first | exact ⟨n, 2, rfl, rfl, .inr (.inr (.inl ⟨rfl, HQ.out⟩))⟩ | ((repeat apply Exists.intro); exact ⟨⟨n, 2, rfl, rfl, .inr (.inr (.inl ⟨rfl, HQ.out⟩))⟩, rfl⟩)
        case measure => simp [intOf]
    · have kb := (HS4.out).at 1 rfl 2 (v := .bool l.no) rfl
      rcases Bool.eq_false_or_eq_true l.no with c | c
      · skip
        have ho := Tno.out c
        have HN : n3 = n3 := rfl
        rw [c] at kb
        clear c Tam Fam Tfo Ffo Tno Fno
        have HQ := Lib.hid HN
        clear HN
        go_wp2_with fail
        go_round
        case rel => first | exact ⟨n3, 3, rfl, rfl, .inr (.inr (.inr ⟨rfl, HQ.out⟩))⟩ | ((repeat apply Exists.intro); exact ⟨⟨n3, 3, rfl, rfl, .inr (.inr (.inr ⟨rfl, HQ.out⟩))⟩, rfl⟩)
        case measure => simp [intOf]
      · skip
        have HN := (Fno.out c).symm
        rw [c] at kb
        clear c Tam Fam Tfo Ffo Tno Fno
        have HQ := Lib.hid HN
        clear HN
        go_wp2_with fail
        go_round
        case rel => first | exact ⟨n, 3, rfl, rfl, .inr (.inr (.inr ⟨rfl, HQ.out⟩))⟩ | ((repeat apply Exists.intro); exact ⟨⟨n, 3, rfl, rfl, .inr (.inr (.inr ⟨rfl, HQ.out⟩))⟩, rfl⟩)
        case measure => simp [intOf]
    · have BH := Lib.hid HS4.out.below
      clear Tam Fam Tfo Ffo Tno Fno
      go_wp2_with fail
      exact bodyPost_ret (v := .tuple #[.int .i64 n, .int .i64 0]) (by simp [results, Tryd.results18, go_sem, *]) rfl ⟨rfl, BH.out⟩

theorem Bits_any (l : La) (w : World) : Calls Tryd.prog 18 #[lv l] w fun e w' => e = .returned (.tuple #[.int .i64 (bitsN l), .int .i64 (bitsE l)]) ∧ Below w.heap.size w w' := by
  by_cases h0 : l.u < 0
  · rw [bitsE_no (by unfold Room; omega), show bitsN l = 0 from if_neg (by unfold Room; omega)]
    exact Bits_no0 l w  (Lib.hid (decide_eq_true h0))
  by_cases h1 : 7 < l.u
  · rw [bitsE_no (by unfold Room; omega), show bitsN l = 0 from if_neg (by unfold Room; omega)]
    exact Bits_no1 l w (Lib.hid (decide_eq_false h0)) (Lib.hid (decide_eq_true h1))
  by_cases h2 : l.al < 0
  · rw [bitsE_no (by unfold Room; omega), show bitsN l = 0 from if_neg (by unfold Room; omega)]
    exact Bits_no2 l w (Lib.hid (decide_eq_false h0)) (Lib.hid (decide_eq_false h1)) (Lib.hid (decide_eq_true h2))
  by_cases h3 : 3 < l.al
  · rw [bitsE_no (by unfold Room; omega), show bitsN l = 0 from if_neg (by unfold Room; omega)]
    exact Bits_no3 l w (Lib.hid (decide_eq_false h0)) (Lib.hid (decide_eq_false h1)) (Lib.hid (decide_eq_false h2)) (Lib.hid (decide_eq_true h3))
  by_cases h4 : l.sp < 0
  · rw [bitsE_no (by unfold Room; omega), show bitsN l = 0 from if_neg (by unfold Room; omega)]
    exact Bits_no4 l w (Lib.hid (decide_eq_false h0)) (Lib.hid (decide_eq_false h1)) (Lib.hid (decide_eq_false h2)) (Lib.hid (decide_eq_false h3)) (Lib.hid (decide_eq_true h4))
  by_cases h5 : 3 < l.sp
  · rw [bitsE_no (by unfold Room; omega), show bitsN l = 0 from if_neg (by unfold Room; omega)]
    exact Bits_no5 l w (Lib.hid (decide_eq_false h0)) (Lib.hid (decide_eq_false h1)) (Lib.hid (decide_eq_false h2)) (Lib.hid (decide_eq_false h3)) (Lib.hid (decide_eq_false h4)) (Lib.hid (decide_eq_true h5))
  have h : Room l := by unfold Room; omega
  have e : bitsN l = l.u + 8 * l.al + 32 * l.sp + fl l.am 128 + fl l.fo 256 + fl l.no 512 := if_pos h
  rw [bitsE_ok h, e]
  obtain ⟨o1, o2⟩ := or_lo l.u l.al l.sp (by omega) (by omega) (by omega) (by omega) (by omega) (by omega)
  have c1 := fl_cases l.am 128
  have c2 := fl_cases l.fo 256
  exact Bits_ok l (l.al * 8) (l.u + 8 * l.al) (l.sp * 32) (l.u + 8 * l.al + 32 * l.sp) (l.u + 8 * l.al + 32 * l.sp + fl l.am 128) (l.u + 8 * l.al + 32 * l.sp + fl l.am 128 + fl l.fo 256) _ w (Lib.hid (decide_eq_false h0)) (Lib.hid (decide_eq_false h1)) (Lib.hid (decide_eq_false h2)) (Lib.hid (decide_eq_false h3)) (Lib.hid (decide_eq_false h4)) (Lib.hid (decide_eq_false h5))
    (Lib.hid (by unfold wrap64; omega)) (Lib.hid o1) (Lib.hid (by unfold wrap64; omega)) (Lib.hid o2)
    (Lib.hid fun c => by rw [c]; exact or_fl _ 7 (by omega) (by omega) (by decide)) (Lib.hid fun c => by rw [c]; exact Int.add_zero _)
    (Lib.hid fun c => by rw [c]; exact or_fl _ 8 (by omega) (by omega) (by decide)) (Lib.hid fun c => by rw [c]; exact Int.add_zero _)
    (Lib.hid fun c => by rw [c]; exact or_fl _ 9 (by omega) (by omega) (by decide)) (Lib.hid fun c => by rw [c]; exact Int.add_zero _)

end Ref33
end Go.Proofs.YtldbkompebefmaaDoor
