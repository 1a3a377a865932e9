/- CrcParts: the walk, over contracts. -/
import Derived.Test.YtaipjhfgkidbfaaBufCame
import Derived.Test.YtaipjhfgkidbfaaCrcRefA
import Derived.Test.YtaipjhfgkidbfaaRebase
import Derived.Deep.CutBlock
import Derived.Deep.CutRange
namespace Go.Proofs.Ytaipjhfgkidbfaa
open Go.RowKit

/-- the sum's own two bytes -/
def hiB (x : BitVec 16) : UInt8 := ⟨Crc.hiOf x⟩
def loB (x : BitVec 16) : UInt8 := ⟨Crc.loOf x⟩
theorem behind_sum (l : List UInt8) : Crc.sum (bv (l ++ [hiB (Crc.sum (bv l)), loB (Crc.sum (bv l))])) = 0#16 := by
  rw [bv_append]
  exact Crc.sum_behind (bv l)
theorem behind_fits (l : List UInt8) : fitsB (l ++ [hiB (Crc.sum (bv l)), loB (Crc.sum (bv l))]) = true := by
  have hl : (l ++ [hiB (Crc.sum (bv l)), loB (Crc.sum (bv l))]).length = l.length + 2 := by rw [List.length_append]; rfl
  unfold fitsB
  rw [hl, decide_eq_true (by omega), Bool.true_and, Nat.add_sub_cancel, List.take_left, show l.length + 2 - 1 = l.length + 1 by omega]
  have e0 : (l ++ [hiB (Crc.sum (bv l)), loB (Crc.sum (bv l))]).getD l.length 0 = hiB (Crc.sum (bv l)) := by simp [List.getD]
  have e1 : (l ++ [hiB (Crc.sum (bv l)), loB (Crc.sum (bv l))]).getD (l.length + 1) 0 = loB (Crc.sum (bv l)) := by simp [List.getD]
  rw [e0, e1]
  show (Crc.hiOf _ == Crc.hiOf _ && Crc.loOf _ == Crc.loOf _) = true
  simp

set_option maxHeartbeats 4000000 in
set_option maxRecDepth 100000 in
theorem parts_long (ba bb : Option Addr) (la ca lb cb : Nat) (s : Int) (w : World) (_h1 : (la : Int) ≤ 9223372036854775807) (_h2 : (lb : Int) ≤ 9223372036854775807) (hl : (2000 : Int) < wrap64 ((la : Int) + lb))
    (AW : Hid (∀ w, Calls Try.prog 8 #[] w fun e w' => e = .returned (.bool true) ∧ Below w.heap.size w w')) :
    Calls Try.prog 4 #[.int .u16 s, .slice ba la ca, .slice bb lb cb] w fun e w' => e = .returned (.bool true) ∧ Below w.heap.size w w' := by
  go_enter Try.func4, Try.ntmps4
  go_wp2_with fail
  refine (AW.out _).mono ?_; rintro e w1 ⟨rfl, hb1⟩
  go_wp2_with fail
  go_ret
  exact ⟨rfl, hb1⟩

set_option maxHeartbeats 8000000 in
set_option maxRecDepth 100000 in
theorem parts_core (ba bb : Option Addr) (ca cb : Nat) (a b lo lw : List UInt8) (x s1 m1 m2 : BitVec 16) (w : World) (CA : Came w ba ca a) (CB : Came w bb cb b) (hl : (a.length : Int) + b.length ≤ 2000)
    (hlo : a ++ b = lo) (hlw : lo ++ [hiB s1, loB s1] = lw)
    (OF : Hid (∀ w' ba c, Came w' ba c lo → Calls Try.prog 15 #[.slice ba lo.length c] w' fun e w'' => e = .returned (.int .u16 (s1.toNat : Int)) ∧ Below w'.heap.size w' w''))
    (M1 : Hid (∀ w', Came w' ba ca a → Calls Try.prog 13 #[.int .u16 (x.toNat : Int), .slice ba a.length ca] w' fun e w'' => e = .returned (.int .u16 (m1.toNat : Int)) ∧ Below w'.heap.size w' w''))
    (M2 : Hid (∀ w', Came w' bb cb b → Calls Try.prog 13 #[.int .u16 (m1.toNat : Int), .slice bb b.length cb] w' fun e w'' => e = .returned (.int .u16 (m2.toNat : Int)) ∧ Below w'.heap.size w' w''))
    (M3 : Hid (∀ w' ba c, Came w' ba c lo → Calls Try.prog 13 #[.int .u16 (x.toNat : Int), .slice ba lo.length c] w' fun e w'' => e = .returned (.int .u16 (m2.toNat : Int)) ∧ Below w'.heap.size w' w''))
    (FI : Hid (∀ w' ba c, Came w' ba c lw → Calls Try.prog 17 #[.slice ba lw.length c] w' fun e w'' => e = .returned (.bool true) ∧ Below w'.heap.size w' w''))
    (OW : Hid (∀ w' ba c, Came w' ba c lw → Calls Try.prog 15 #[.slice ba lw.length c] w' fun e w'' => e = .returned (.int .u16 0) ∧ Below w'.heap.size w' w''))
    (AW : Hid (∀ w, Calls Try.prog 8 #[] w fun e w' => e = .returned (.bool true) ∧ Below w.heap.size w w')) :
    Calls Try.prog 4 #[.int .u16 (x.toNat : Int), .slice ba a.length ca, .slice bb b.length cb] w fun e w' => e = .returned (.bool true) ∧ Below w.heap.size w w' := by
  have hd : decide ((2000 : Int) < (a.length : Int) + b.length) = false := decide_eq_false (by omega)
  have e0 : (s1.toNat : Int) / 256 = ((hiB s1).toNat : Int) := hi_u16 s1
  have e1 : (s1.toNat : Int) % 256 = ((loB s1).toNat : Int) := lo_u16 s1
  have r0 : ((hiB s1).toNat : Int) ≤ 255 := by have := (hiB s1).toNat_lt; omega
  have hsr := u16_rng s1
  have hlen : lo.length = a.length + b.length := by rw [← hlo, List.length_append]
  have O := Lib.hid hlo; have OWh := Lib.hid hlw; have HLEN := Lib.hid hlen; have HC := Lib.hid (And.intro CA CB)
  have b0 := empty_bytes w _ rfl
  have CA0 := CA.keep b0.below; have CB0 := CB.keep b0.below
  clear hlo hlw hlen CA CB
  go_enter Try.func4, Try.ntmps4
  go_wp2_with (at_builtin; refine list_append_came (v := .slice (some ⟨w.heap.size, 0, none⟩) 0 0) rfl rfl rfl b0 rfl CA0 ?c1 ?_)
  case c1 => simp; omega
  intro v1 w1 hv1
  go_wp2_with (at_builtin; refine list_append_came (v := v1) rfl rfl rfl hv1 rfl (HC.out.2.keep hv1.below) ?c2 ?_)
  case c2 => first | omega | (simp; omega)
  intro v2 w2 hv2
  have hv2 : Bytes w.heap.size w w2 v2 lo := by rw [← O.out]; exact hv2
  obtain ⟨bl, cl, rfl, CL⟩ := hv2.came
  clear hv1 CA0 CB0 b0
  go_wp2_with fail
  refine (OF.out _ _ _ CL).mono ?_; rintro e w3 ⟨rfl, hb3⟩
  have hv3 := hv2.keep hb3
  have hSl : (s1.toNat : Int) ≤ 65535 := hsr
  have L3 : Lies (w3.alloc (.cells #[.int .u8 ((hiB s1).toNat : Int), .int .u8 ((loB s1).toNat : Int)] 5)) w3.heap.size 0 [hiB s1, loB s1] := lies_alloc w3 [hiB s1, loB s1] _
  go_wp2_with (at_builtin; refine list_append_bytes (v := .slice bl lo.length cl) (m := [hiB s1, loB s1]) rfl rfl rfl (hv3.alloc _) rfl L3 ?c3 ?_)
  case c3 => have := HLEN.out; simp; omega
  intro v4 w4 hv4
  have hv4 : Bytes w.heap.size w w4 v4 lw := by rw [← OWh.out]; exact hv4
  obtain ⟨bw, cw, rfl, CW⟩ := hv4.came
  clear L3 hv3 CL hv2
  have B4 := hv4.below
  go_wp2_with fail
  refine (M1.out _ (HC.out.1.keep B4)).mono ?_; rintro e w5 ⟨rfl, hb5⟩
  have B5 := belowT B4 hb5
  go_wp2_with fail
  refine (M2.out _ (HC.out.2.keep B5)).mono ?_; rintro e w6 ⟨rfl, hb6⟩
  have B6 := belowT B5 hb6
  have b6 := empty_bytes w6 _ rfl
  go_wp2_with (at_builtin; refine list_append_came (v := .slice (some ⟨w6.heap.size, 0, none⟩) 0 0) rfl rfl rfl b6 rfl (HC.out.1.keep (belowT B6 b6.below)) ?c5 ?_)
  case c5 => simp; omega
  intro v7 w7 hv7
  go_wp2_with (at_builtin; refine list_append_came (v := v7) rfl rfl rfl hv7 rfl (HC.out.2.keep (belowT B6 hv7.below)) ?c6 ?_)
  case c6 => first | omega | (simp; omega)
  intro v8 w8 hv8
  have hv8 : Bytes w6.heap.size w6 w8 v8 lo := by rw [← O.out]; exact hv8
  obtain ⟨b8, c8, rfl, C8⟩ := hv8.came
  have B8 := belowT B6 hv8.below
  have CW8 := CW.keep (belowT (belowT hb5 hb6) hv8.below)
  clear hv7 b6
  go_wp2_with fail
  refine (M3.out _ _ _ C8).mono ?_; rintro e w9 ⟨rfl, hb9⟩
  have B9 := belowT B8 hb9
  have CW9 := CW8.keep hb9
  go_wp2_with fail
  refine (FI.out _ _ _ CW9).mono ?_; rintro e w10 ⟨rfl, hb10⟩
  have B10 := belowT B9 hb10
  go_wp2_with fail
  refine (OW.out _ _ _ (CW9.keep hb10)).mono ?_; rintro e w11 ⟨rfl, hb11⟩
  have B11 := belowT B10 hb11
  go_wp2_with fail
  refine (AW.out _).mono ?_; rintro e w12 ⟨rfl, hb12⟩
  have B12 := belowT B11 hb12
  go_wp2_with fail
  go_ret
  exact ⟨rfl, B12⟩

end Go.Proofs.Ytaipjhfgkidbfaa
