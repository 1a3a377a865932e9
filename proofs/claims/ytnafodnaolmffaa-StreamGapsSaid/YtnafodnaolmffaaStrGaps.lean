/- StreamGaps over Own15. -/
import Derived.Test.YtnafodnaolmffaaStrAwake
import Derived.Test.YtnafodnaolmffaaStrRefG
import Derived.ChangeKeysEq
import Derived.BigQuiet
namespace Go.Proofs.Ytnafodnaolmffaa
open Go.RowKit

theorem below_drewN {B : Nat} {a w : World} (h : Below B a w) (n : Nat) : Below B a (w.drewN n) := ⟨h.os, h.tape, h.output, h.size, h.block⟩
theorem infoIn : (Try.prog.info? 3).isSome = true := by kernel_rfl
theorem cellsIn : Try.prog.cellsOf 3 = 1 := by kernel_rfl
theorem pair_eq (a b : Int) (w : World) : (Op.equalIn 10000 44 (.agg #[.int .i64 a, .int .i64 b]) (.agg #[.int .i64 a, .int .i64 b])).run Try.prog w = .ok true w := by
  obtain ⟨i0, hi⟩ := Option.isSome_iff_exists.1 infoIn
  rw [show (10000 : Nat) = 9999 + 1 from rfl, run_equalIn_array w 9999 _ _ Try.underlying44 hi, cellsIn]
  simp [List.range, List.range.loop, Op.eqItems, go_sem]

set_option maxHeartbeats 8000000 in
set_option maxRecDepth 100000 in
theorem gaps_core (O : Own15) {w : World} {ba bb : Option Addr} {ca cb : Nat} {l : List Fr} {b : List UInt8} (A : CameFr w ba ca l) (D : Came w bb cb b)
    (hfit : ∀ j, j < l.length → -9223372036854775808 ≤ (l.getD j fr0).val ∧ (l.getD j fr0).val ≤ 9223372036854775807) (h1 : (l.length : Int) ≤ 60) (h2 : (b.length : Int) ≤ 1500) :
    Calls Try.prog 6 #[.slice ba l.length ca, .slice bb b.length cb] w fun e w' => e = .returned (.bool true) ∧ Below w.heap.size w w' := by
  have AW := Lib.hid (awake_any O)
  have MX := many_len l
  have OM := Lib.hid (O.many w ba ca l A (by omega) hfit)
  have RM := Lib.hid fun (w' : World) (h' : Below w.heap.size w w') => Ref15.Many_came (A.keep h') (by omega) hfit
  have OG := Lib.hid fun (w' : World) (h' : Below w.heap.size w w') => O.gaps w' bb cb b (D.keep h') (by omega)
  have RG := Lib.hid fun (w' : World) (h' : Below w.heap.size w w') => Ref15.Gaps_came (D.keep h') (by omega)
  have OS := Lib.hid fun (w' : World) (h' : Below w.heap.size w w') => O.split w' bb cb b (D.keep h') (by omega)
  have OX := Lib.hid fun (w' : World) (ua : Option Addr) (uc : Nat) (C : Came w' ua uc (manyF l).1) => O.gaps w' ua uc _ C (by omega)
  rw [show gapsF (manyF l).1 = [] from gaps_many [] 0 l] at OX
  have hok := gapsF_ok b
  have hsum := gapsF_sum b
  have hsz := split_size b.length b (Nat.le_refl _)
  have hsn := fun j h => sum_next (gapsF b) j h
  have hen := fun j => end_next (gapsF b) j
  have hsb := hok.1.sum
  generalize gapsF b = G at *
  generalize splitF b = S at *
  obtain ⟨F, n, k⟩ := S
  simp only at hsum hsz OS
  generalize manyF l = M at *
  obtain ⟨X, bad⟩ := M
  simp only at OM RM MX OX
  have HOK := Lib.hid hok
  have HSU := Lib.hid hsum
  have HSZ := Lib.hid hsz
  have HSN := Lib.hid hsn
  have HEN := Lib.hid hen
  have HSB := Lib.hid hsb
  have hX : (X.length : Int) ≤ 700 := by omega
  clear A D hfit hok hsum hsz hsn hen hsb MX
  go_enter Try.func6, Try.ntmps6
  go_wp2_with fail
  refine OM.out.mono ?_; rintro e w1 ⟨ua, uc, rfl, CX, hb1⟩
  have HB1 := Lib.hid hb1
  have HX1 := Lib.hid CX
  clear OM hb1 CX
  go_wp2_with fail
  refine (RM.out w1 HB1.out).mono ?_; rintro e w2 ⟨v, rfl, hy⟩
  have HB2 := Lib.hid (belowT HB1.out hy.below)
  have HX2 := Lib.hid (HX1.out.keep hy.below)
  obtain ⟨ya, yc, rfl, CY⟩ := hy.came
  have HY2 := Lib.hid CY
  clear RM hy CY HX1 HB1
  go_wp2_with fail
  refine (OG.out w2 HB2.out).mono ?_; rintro e w3 ⟨va, vc, rfl, CG, hb3⟩
  have HB3 := Lib.hid (belowT HB2.out hb3)
  have HX3 := Lib.hid (HX2.out.keep hb3)
  have HY3 := Lib.hid (HY2.out.keep hb3)
  have HG3 := Lib.hid CG
  clear OG hb3 CG HX2 HY2 HB2
  go_wp2_with fail
  refine (RG.out w3 HB3.out).mono ?_; rintro e w4 ⟨v, rfl, hh⟩
  obtain ⟨ha, hc, rfl, CH⟩ := hh.came
  have HB4 := Lib.hid (belowT HB3.out hh.below)
  have HX4 := Lib.hid (HX3.out.keep hh.below)
  have HG4 := Lib.hid (HG3.out.keep hh.below)
  have HH4 := Lib.hid CH
  have q1 := HX4.out.string
  have q2 := (HY3.out.keep hh.below).string
  clear RG hh CH HX3 HY3 HB3 HG3
  have g1 := HG4.out.le
  have g2 := HG4.out.max
  unfold maxLen at g2
  have hG : (G.length : Int) ≤ 9223372036854775807 := by omega
  go_wp2
  go_loopw [11, 12, 59] (fun s la i wr => ∃ j : Nat, j ≤ G.length ∧ i = .int .i64 j ∧ s = .int .i64 (sumG (G.take j)) ∧ la = .int .i64 (endOf G j) ∧ Below w4.heap.size w4 wr) (fun _ _ i _ => G.length - (intOf i).toNat)
  case atStart => exact ⟨0, Nat.zero_le _, rfl, rfl, rfl, Below.refl _ _⟩
  case round =>
    obtain ⟨j, hj, rfl, rfl, rfl, hb⟩ := hrel
    by_cases hlt : (j : Int) < G.length
    · obtain ⟨bg, og, rfl, L⟩ := (HG4.out.keep hb).lies (by omega)
      obtain ⟨k0, k1⟩ := L.at j (by omega)
      obtain ⟨bh, oh, rfl, L2⟩ := (HH4.out.keep hb).lies (by omega)
      obtain ⟨m0, m1⟩ := L2.at j (by omega)
      obtain ⟨o1, o2, o3⟩ := HOK.out.1 j (by omega)
      obtain ⟨s1, s2, s3⟩ := HSB.out j hj
      have sn := HSN.out j (by omega)
      have en := HEN.out j
      have hd : (j : Int) ≥ 0 := by omega
      clear L L2
      generalize G.getD j (0, 0) = p at *
      obtain ⟨x, y⟩ := p
      simp only at k0 k1 m0 m1 o1 o2 o3 sn en
      generalize sumG (G.take j) = s at *
      generalize endOf G j = la at *
      have SN := Lib.hid sn
      have EN := Lib.hid en
      have HB := Lib.hid hb
      have PE := pair_eq x y
      have t1 : decide ((x : Int) ≤ la) = false := decide_eq_false (by omega)
      have t2 : decide ((y : Int) ≤ x) = false := decide_eq_false (by omega)
      have t3 : decide ((b.length : Int) < y) = false := decide_eq_false (by omega)
      have c1 : s + (y : Int) ≤ 9223372036854775807 := by omega
      have c2 : s + (y : Int) ≥ 0 := by omega
      have c3 : s + (y : Int) - x ≥ 0 := by omega
      have c4 : s + (y : Int) - x ≤ 9223372036854775807 := by omega
      clear sn en hb
      go_upto_region 12 with fail
      go_quiet (fail)
      go_upto_region 14 with fail
      go_quiet (fail)
      go_wp2
      go_roundw
      case rel => exact ⟨j + 1, by omega, rfl, by rw [SN.out], by rw [EN.out], below_drewN HB.out _⟩
      case measure => simp [intOf]; omega
    · obtain rfl : j = G.length := by omega
      rw [List.take_length]
      obtain ⟨s1, s2, s3⟩ := HSB.out G.length (Nat.le_refl _)
      rw [List.take_length] at s1 s2
      obtain ⟨u1, u2⟩ := HSU.out
      obtain ⟨v1, v2⟩ := HSZ.out
      have v3 := HSZ.out.1
      have HB := Lib.hid (belowT HB4.out hb)
      have OSW := Lib.hid (OS.out wr HB.out)
      have HX := Lib.hid (HX4.out.keep hb)
      clear hb OS HOK HSN HEN HSB HSU HSZ HG4 HH4 q1 q2
      generalize sumG G = s at *
      generalize endOf G G.length = la at *
      have r1 : (s + 11 * (F.length : Int) == b.length) = true := by simp; omega
      have r2 : (s == (k : Int) + b.length - n) = true := by simp; omega
      have r3 : s + 11 * (F.length : Int) ≤ 9223372036854775807 := by omega
      have r4 : s + 11 * (F.length : Int) ≥ 0 := by omega
      have r5 : (k : Int) + b.length ≤ 9223372036854775807 := by omega
      have r6 : (k : Int) + b.length - n ≥ 0 := by omega
      have r7 : (k : Int) + b.length - n ≤ 9223372036854775807 := by omega
      have r8 : (11 : Int) * F.length ≤ 9223372036854775807 := by omega
      clear u1 u2 s1 s2 s3 v1 v2 v3
      go_wp2_with fail
      refine OSW.out.mono ?_; rintro e w7 ⟨va7, vc7, rfl, _, hb7⟩
      have HB7 := Lib.hid (belowT HB.out hb7)
      have GX := Lib.hid (OX.out w7 _ _ (HX.out.keep hb7))
      clear hb7 OSW HX HB OX
      go_wp2_with fail
      refine GX.out.mono ?_; rintro e w8 ⟨va8, vc8, rfl, _, hb8⟩
      have HB8 := Lib.hid (belowT HB7.out hb8)
      clear hb8 GX HB7
      go_wp2_with fail
      refine (AW.out w8).mono ?_; rintro e w9 ⟨rfl, hb9⟩
      have HB9 := Lib.hid (belowT HB8.out hb9)
      clear AW hb9 HB8
      go_wp2
      go_ret
      exact ⟨rfl, HB9.out⟩

theorem gaps_long1 (ba bb : Option Addr) (la ca lb cb : Nat) (w : World) (_h1 : (la : Int) ≤ 9223372036854775807) (_h2 : (lb : Int) ≤ 9223372036854775807) (hl : (60 : Int) < la)
    (AW : Hid (∀ w, Calls Try.prog 7 #[] w fun e w' => e = .returned (.bool true) ∧ Below w.heap.size w w')) :
    Calls Try.prog 6 #[.slice ba la ca, .slice bb lb cb] w fun e w' => e = .returned (.bool true) ∧ Below w.heap.size w w' := by
  go_enter Try.func6, Try.ntmps6
  go_wp2_with fail
  refine (AW.out _).mono ?_; rintro e w1 ⟨rfl, hb1⟩
  go_wp2_with fail
  go_ret
  exact ⟨rfl, hb1⟩

theorem gaps_long2 (ba bb : Option Addr) (la ca lb cb : Nat) (w : World) (_h1 : (la : Int) ≤ 9223372036854775807) (_h2 : (lb : Int) ≤ 9223372036854775807) (hn : ¬ (60 : Int) < la) (hl : (1500 : Int) < lb)
    (AW : Hid (∀ w, Calls Try.prog 7 #[] w fun e w' => e = .returned (.bool true) ∧ Below w.heap.size w w')) :
    Calls Try.prog 6 #[.slice ba la ca, .slice bb lb cb] w fun e w' => e = .returned (.bool true) ∧ Below w.heap.size w w' := by
  go_enter Try.func6, Try.ntmps6
  go_wp2_with fail
  refine (AW.out _).mono ?_; rintro e w1 ⟨rfl, hb1⟩
  go_wp2_with fail
  go_ret
  exact ⟨rfl, hb1⟩

theorem gaps_any (O : Own15) {w : World} {ba bb : Option Addr} {ca cb : Nat} {l : List Fr} {b : List UInt8} (A : CameFr w ba ca l) (D : Came w bb cb b)
    (hfit : ∀ j, j < l.length → -9223372036854775808 ≤ (l.getD j fr0).val ∧ (l.getD j fr0).val ≤ 9223372036854775807) :
    Calls Try.prog 6 #[.slice ba l.length ca, .slice bb b.length cb] w fun e w' => e = .returned (.bool true) ∧ Below w.heap.size w w' := by
  have a1 := A.le
  have a2 := A.max
  have d1 := D.le
  have d2 := D.max
  unfold maxLen at a2 d2
  by_cases h1 : (60 : Int) < l.length
  · exact gaps_long1 ba bb _ ca _ cb w (by omega) (by omega) h1 (Lib.hid (awake_any O))
  · by_cases h2 : (1500 : Int) < b.length
    · exact gaps_long2 ba bb _ ca _ cb w (by omega) (by omega) h1 h2 (Lib.hid (awake_any O))
    · exact gaps_core O A D hfit (by omega) (by omega)
end Go.Proofs.Ytnafodnaolmffaa
