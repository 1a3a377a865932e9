/- LatchBits. -/
import Derived.Test.YtldbkompebefmaaDoorLtI
import Derived.Test.YtldbkompebefmaaDoorLtF
import Derived.Test.YtldbkompebefmaaDoorLtH
import Derived.Lib.MinMax
import Derived.Deep.RegionWith
import Derived.Deep.CutBlock
import Derived.Deep.CutRange
import Derived.BigRegion
namespace Go.Proofs.YtldbkompebefmaaDoor
open Go.RowKit Ld Lat Obs

namespace Law33
open Lat
theorem bitsE_01 (l : La) : bitsE l = 0 ∨ bitsE l = 1 := by unfold bitsE; split; exact .inl rfl; exact .inr rfl
theorem fromE_01 (n : Int) : fromE n = 0 ∨ fromE n = 1 := by unfold fromE; split; exact .inl rfl; exact .inr rfl
theorem room_of {l : La} (h : bitsE l = 0) : Room l := Decidable.byContradiction fun k => by rw [bitsE_no k] at h; exact absurd h (by decide)
theorem in_of {n : Int} (h : fromE n = 0) : 0 ≤ n ∧ n < 1024 := Decidable.byContradiction fun k => by rw [fromE_no k] at h; exact absurd h (by decide)
set_option maxHeartbeats 40000000 in
set_option maxRecDepth 100000 in
theorem Bits33_core (l x k : La) (n s ee g i t u : Int) (w : World)
    (BL : Hid (∀ w', Below w.heap.size w w' → Calls Tryd.prog 17 #[lv l] w' fun e w'' => e = .returned (.tuple #[.int .i64 s, .int .i64 ee]) ∧ Below w'.heap.size w' w''))
    (BR : Hid (∀ w', Below w.heap.size w w' → Calls Tryd.prog 18 #[lv l] w' fun e w'' => e = .returned (.tuple #[.int .i64 s, .int .i64 ee]) ∧ Below w'.heap.size w' w''))
    (FN : Hid (∀ w', Below w.heap.size w w' → Calls Tryd.prog 19 #[.int .i64 n] w' fun e w'' => e = .returned (.tuple #[.agg #[.int .i64 x.u, .bool x.am, .int .i64 x.al, .int .i64 x.sp, .bool x.fo, .bool x.no], .int .i64 g]) ∧ Below w'.heap.size w' w''))
    (FR : Hid (∀ w', Below w.heap.size w w' → Calls Tryd.prog 20 #[.int .i64 n] w' fun e w'' => e = .returned (.tuple #[.agg #[.int .i64 x.u, .bool x.am, .int .i64 x.al, .int .i64 x.sp, .bool x.fo, .bool x.no], .int .i64 g]) ∧ Below w'.heap.size w' w''))
    (FS : Hid (∀ w', Below w.heap.size w w' → Calls Tryd.prog 19 #[.int .i64 s] w' fun e w'' => e = .returned (.tuple #[.agg #[.int .i64 k.u, .bool k.am, .int .i64 k.al, .int .i64 k.sp, .bool k.fo, .bool k.no], .int .i64 i]) ∧ Below w'.heap.size w' w''))
    (BX : Hid (∀ w', Below w.heap.size w w' → Calls Tryd.prog 17 #[lv x] w' fun e w'' => e = .returned (.tuple #[.int .i64 t, .int .i64 u]) ∧ Below w'.heap.size w' w''))
    (AW : Hid (∀ w', Below w.heap.size w w' → Calls Tryd.prog 14 #[] w' fun e w'' => e = .returned (.bool true) ∧ Below w'.heap.size w' w''))
    (S0 : Hid (∀ w, (Op.equalIn 10000 23 (.agg #[.int .i64 x.u, .bool x.am, .int .i64 x.al, .int .i64 x.sp, .bool x.fo, .bool x.no]) (.agg #[.int .i64 x.u, .bool x.am, .int .i64 x.al, .int .i64 x.sp, .bool x.fo, .bool x.no])).run Tryd.prog w = .ok true w))
    (S1 : Hid (∀ w, (Op.equalIn 10000 23 (.agg #[.int .i64 l.u, .bool l.am, .int .i64 l.al, .int .i64 l.sp, .bool l.fo, .bool l.no]) (.agg #[.int .i64 l.u, .bool l.am, .int .i64 l.al, .int .i64 l.sp, .bool l.fo, .bool l.no])).run Tryd.prog w = .ok true w))
    (HE : Hid (ee = 0 ∨ ee = 1)) (HG : Hid (g = 0 ∨ g = 1)) (HK : Hid (ee = 0 → k = l ∧ i = 0)) (HT : Hid (g = 0 → t = n ∧ u = 0))
    : Calls Tryd.prog 5 #[lv l, .int .i64 n] w fun e w' => e = .returned (.bool true) ∧ Below w.heap.size w w' := by
  have hS1 := (Sp.none w).more [.int .i64 l.u, .bool l.am, .int .i64 l.al, .int .i64 l.sp, .bool l.fo, .bool l.no] 23
  have HS1 := Lib.hid hS1
  clear hS1
  go_enter Tryd.func5, Tryd.ntmps5
  go_upto_region 1 with fail
  obtain ⟨w1, hX, hS⟩ := (HS1.out).named
  rw [← hX]
  clear hX HS1
  have HS2 := Lib.hid hS
  clear hS
  have k0_0 := (HS2.out).at 0 rfl 0 (v := .int .i64 l.u) rfl
  have k0_1 := (HS2.out).at 0 rfl 1 (v := .bool l.am) rfl
  have k0_2 := (HS2.out).at 0 rfl 2 (v := .int .i64 l.al) rfl
  have k0_3 := (HS2.out).at 0 rfl 3 (v := .int .i64 l.sp) rfl
  have k0_4 := (HS2.out).at 0 rfl 4 (v := .bool l.fo) rfl
  have k0_5 := (HS2.out).at 0 rfl 5 (v := .bool l.no) rfl
  go_wp2_with fail
  refine (BL.out _ HS2.out.below).mono ?_; rintro e w2 ⟨rfl, hb2⟩
  have hS3 := (HS2.out).keep hb2
  have HS3 := Lib.hid hS3
  clear hS3 HS2
  clear hb2
  clear BL k0_0 k0_1 k0_2 k0_3 k0_4 k0_5
  have k0_0 := (HS3.out).at 0 rfl 0 (v := .int .i64 l.u) rfl
  have k0_1 := (HS3.out).at 0 rfl 1 (v := .bool l.am) rfl
  have k0_2 := (HS3.out).at 0 rfl 2 (v := .int .i64 l.al) rfl
  have k0_3 := (HS3.out).at 0 rfl 3 (v := .int .i64 l.sp) rfl
  have k0_4 := (HS3.out).at 0 rfl 4 (v := .bool l.fo) rfl
  have k0_5 := (HS3.out).at 0 rfl 5 (v := .bool l.no) rfl
  go_wp2_with fail
  refine (BR.out _ HS3.out.below).mono ?_; rintro e w3 ⟨rfl, hb3⟩
  have hS4 := (HS3.out).keep hb3
  have HS4 := Lib.hid hS4
  clear hS4 HS3
  clear hb3
  clear BR k0_0 k0_1 k0_2 k0_3 k0_4 k0_5
  go_wp2_with fail
  refine (FN.out _ HS4.out.below).mono ?_; rintro e w4 ⟨rfl, hb4⟩
  have hS5 := (HS4.out).keep hb4
  have HS5 := Lib.hid hS5
  clear hS5 HS4
  clear hb4
  clear FN
  go_upto_region 4 with fail
  have hS6 := (HS5.out).more [.int .i64 x.u, .bool x.am, .int .i64 x.al, .int .i64 x.sp, .bool x.fo, .bool x.no] 23
  have HS6 := Lib.hid hS6
  clear hS6 HS5
  obtain ⟨w5, hX, hS⟩ := (HS6.out).named
  rw [← hX]
  clear hX HS6
  have HS7 := Lib.hid hS
  clear hS
  go_wp2_with fail
  refine (FR.out _ HS7.out.below).mono ?_; rintro e w6 ⟨rfl, hb6⟩
  have hS8 := (HS7.out).keep hb6
  have HS8 := Lib.hid hS8
  clear hS8 HS7
  clear hb6
  clear FR
  go_upto_region 5 with fail
  have hS9 := (HS8.out).more [.int .i64 x.u, .bool x.am, .int .i64 x.al, .int .i64 x.sp, .bool x.fo, .bool x.no] 23
  have HS9 := Lib.hid hS9
  clear hS9 HS8
  obtain ⟨w7, hX, hS⟩ := (HS9.out).named
  rw [← hX]
  clear hX HS9
  have HS10 := Lib.hid hS
  clear hS
  have s0 := S0.out
  clear S0
  have k1_0 := (HS10.out).at 1 rfl 0 (v := .int .i64 x.u) rfl
  have k1_1 := (HS10.out).at 1 rfl 1 (v := .bool x.am) rfl
  have k1_2 := (HS10.out).at 1 rfl 2 (v := .int .i64 x.al) rfl
  have k1_3 := (HS10.out).at 1 rfl 3 (v := .int .i64 x.sp) rfl
  have k1_4 := (HS10.out).at 1 rfl 4 (v := .bool x.fo) rfl
  have k1_5 := (HS10.out).at 1 rfl 5 (v := .bool x.no) rfl
  have k2_0 := (HS10.out).at 2 rfl 0 (v := .int .i64 x.u) rfl
  have k2_1 := (HS10.out).at 2 rfl 1 (v := .bool x.am) rfl
  have k2_2 := (HS10.out).at 2 rfl 2 (v := .int .i64 x.al) rfl
  have k2_3 := (HS10.out).at 2 rfl 3 (v := .int .i64 x.sp) rfl
  have k2_4 := (HS10.out).at 2 rfl 4 (v := .bool x.fo) rfl
  have k2_5 := (HS10.out).at 2 rfl 5 (v := .bool x.no) rfl
  go_upto_region 7 with fail
  clear s0 k1_0 k1_1 k1_2 k1_3 k1_4 k1_5 k2_0 k2_1 k2_2 k2_3 k2_4 k2_5
  rcases HE.out with he | he
  · obtain ⟨hk, hi⟩ := HK.out he
    subst he hk hi
    clear HK HE
    go_wp2_with fail
    refine (FS.out _ HS10.out.below).mono ?_; rintro e w8 ⟨rfl, hb8⟩
    have hS11 := (HS10.out).keep hb8
    have HS11 := Lib.hid hS11
    clear hS11 HS10
    clear hb8
    clear FS
    go_upto_region 9 with fail
    have hS12 := (HS11.out).more [.int .i64 k.u, .bool k.am, .int .i64 k.al, .int .i64 k.sp, .bool k.fo, .bool k.no] 23
    have HS12 := Lib.hid hS12
    clear hS12 HS11
    obtain ⟨w9, hX, hS⟩ := (HS12.out).named
    rw [← hX]
    clear hX HS12
    have HS13 := Lib.hid hS
    clear hS
    have s1 := S1.out
    clear S1
    have k0_0 := (HS13.out).at 0 rfl 0 (v := .int .i64 k.u) rfl
    have k0_1 := (HS13.out).at 0 rfl 1 (v := .bool k.am) rfl
    have k0_2 := (HS13.out).at 0 rfl 2 (v := .int .i64 k.al) rfl
    have k0_3 := (HS13.out).at 0 rfl 3 (v := .int .i64 k.sp) rfl
    have k0_4 := (HS13.out).at 0 rfl 4 (v := .bool k.fo) rfl
    have k0_5 := (HS13.out).at 0 rfl 5 (v := .bool k.no) rfl
    have k3_0 := (HS13.out).at 3 rfl 0 (v := .int .i64 k.u) rfl
    have k3_1 := (HS13.out).at 3 rfl 1 (v := .bool k.am) rfl
    have k3_2 := (HS13.out).at 3 rfl 2 (v := .int .i64 k.al) rfl
    have k3_3 := (HS13.out).at 3 rfl 3 (v := .int .i64 k.sp) rfl
    have k3_4 := (HS13.out).at 3 rfl 4 (v := .bool k.fo) rfl
    have k3_5 := (HS13.out).at 3 rfl 5 (v := .bool k.no) rfl
    go_upto_region 11 with fail
    clear s1 k0_0 k0_1 k0_2 k0_3 k0_4 k0_5 k3_0 k3_1 k3_2 k3_3 k3_4 k3_5
    rcases HG.out with hg | hg
    · obtain ⟨ht, hu⟩ := HT.out hg
      subst hg ht hu
      clear HT HG
      have k1_0 := (HS13.out).at 1 rfl 0 (v := .int .i64 x.u) rfl
      have k1_1 := (HS13.out).at 1 rfl 1 (v := .bool x.am) rfl
      have k1_2 := (HS13.out).at 1 rfl 2 (v := .int .i64 x.al) rfl
      have k1_3 := (HS13.out).at 1 rfl 3 (v := .int .i64 x.sp) rfl
      have k1_4 := (HS13.out).at 1 rfl 4 (v := .bool x.fo) rfl
      have k1_5 := (HS13.out).at 1 rfl 5 (v := .bool x.no) rfl
      go_wp2_with fail
      refine (BX.out _ HS13.out.below).mono ?_; rintro e w10 ⟨rfl, hb10⟩
      have hS14 := (HS13.out).keep hb10
      have HS14 := Lib.hid hS14
      clear hS14 HS13
      clear hb10
      clear BX k1_0 k1_1 k1_2 k1_3 k1_4 k1_5
      go_wp2_with fail
      refine (AW.out _ HS14.out.below).mono ?_; rintro e w11 ⟨rfl, hb11⟩
      have hS15 := (HS14.out).keep hb11
      have HS15 := Lib.hid hS15
      clear hS15 HS14
      clear hb11
      clear AW
      have BH := Lib.hid HS15.out.below
      go_wp2_with fail
      exact bodyPost_ret (v := .bool true) (by simp [results, Tryd.results5, go_sem, *]) rfl ⟨rfl, BH.out⟩
    · subst hg
      clear HT HG BX
      go_wp2_with fail
      refine (AW.out _ HS13.out.below).mono ?_; rintro e w10 ⟨rfl, hb10⟩
      have hS14 := (HS13.out).keep hb10
      have HS14 := Lib.hid hS14
      clear hS14 HS13
      clear hb10
      clear AW
      have BH := Lib.hid HS14.out.below
      go_wp2_with fail
      exact bodyPost_ret (v := .bool true) (by simp [results, Tryd.results5, go_sem, *]) rfl ⟨rfl, BH.out⟩
  · subst he
    clear HK HE FS S1
    go_upto_region 11 with fail
    rcases HG.out with hg | hg
    · obtain ⟨ht, hu⟩ := HT.out hg
      subst hg ht hu
      clear HT HG
      have k1_0 := (HS10.out).at 1 rfl 0 (v := .int .i64 x.u) rfl
      have k1_1 := (HS10.out).at 1 rfl 1 (v := .bool x.am) rfl
      have k1_2 := (HS10.out).at 1 rfl 2 (v := .int .i64 x.al) rfl
      have k1_3 := (HS10.out).at 1 rfl 3 (v := .int .i64 x.sp) rfl
      have k1_4 := (HS10.out).at 1 rfl 4 (v := .bool x.fo) rfl
      have k1_5 := (HS10.out).at 1 rfl 5 (v := .bool x.no) rfl
      go_wp2_with fail
      refine (BX.out _ HS10.out.below).mono ?_; rintro e w8 ⟨rfl, hb8⟩
      have hS11 := (HS10.out).keep hb8
      have HS11 := Lib.hid hS11
      clear hS11 HS10
      clear hb8
      clear BX k1_0 k1_1 k1_2 k1_3 k1_4 k1_5
      go_wp2_with fail
      refine (AW.out _ HS11.out.below).mono ?_; rintro e w9 ⟨rfl, hb9⟩
      have hS12 := (HS11.out).keep hb9
      have HS12 := Lib.hid hS12
      clear hS12 HS11
      clear hb9
      clear AW
      have BH := Lib.hid HS12.out.below
      go_wp2_with fail
      exact bodyPost_ret (v := .bool true) (by simp [results, Tryd.results5, go_sem, *]) rfl ⟨rfl, BH.out⟩
    · subst hg
      clear HT HG BX
      go_wp2_with fail
      refine (AW.out _ HS10.out.below).mono ?_; rintro e w8 ⟨rfl, hb8⟩
      have hS11 := (HS10.out).keep hb8
      have HS11 := Lib.hid hS11
      clear hS11 HS10
      clear hb8
      clear AW
      have BH := Lib.hid HS11.out.below
      go_wp2_with fail
      exact bodyPost_ret (v := .bool true) (by simp [results, Tryd.results5, go_sem, *]) rfl ⟨rfl, BH.out⟩
theorem Bits33_all (l : La) (n : Int) (w : World) (N : PairsAt w) : Calls Tryd.prog 5 #[lv l, .int .i64 n] w fun e w' => e = .returned (.bool true) ∧ Below w.heap.size w w' :=
  Bits33_core l (fromL n) (fromL (bitsN l)) n (bitsN l) (bitsE l) (fromE n) (fromE (bitsN l)) (bitsN (fromL n)) (bitsE (fromL n)) w (Lib.hid fun w' _ => Bits_any l w') (Lib.hid fun w' _ => Ref33.Bits_any l w') (Lib.hid fun w' _ => From_any n w') (Lib.hid fun w' _ => Ref33.From_any n w')
    (Lib.hid fun w' _ => From_any _ w') (Lib.hid fun w' _ => Bits_any _ w') (Lib.hid fun w' B => awake_any w' (N.keep B)) (Lib.hid (la_same (fromL n))) (Lib.hid (la_same l)) (Lib.hid (bitsE_01 l)) (Lib.hid (fromE_01 n)) (Lib.hid fun h => from_bits (room_of h)) (Lib.hid fun h => bits_from (in_of h))

end Law33
end Go.Proofs.YtldbkompebefmaaDoor
