/- CrcJoins: the walk, over contracts. -/
import Derived.Test.YtaipjhfgkidbfaaBufOwn
import Derived.Test.YtaipjhfgkidbfaaCrcJoin
import Derived.Test.YtaipjhfgkidbfaaRebase
import Derived.Deep.CutBlock
import Derived.Deep.CutRange
namespace Go.Proofs.Ytaipjhfgkidbfaa
open Go.RowKit

/-- the byte's bit that is turned, the highest first -/
def turnB (j : Nat) : UInt8 := UInt8.ofNat (2 ^ (7 - j % 8))
/-- a text of which bits are turned, from a place on, as a mask says: i of sixteen gone through -/
def cF (lo : List UInt8) (at_ : Nat) (mask : BitVec 16) : Nat → List UInt8
  | 0 => lo
  | i + 1 => if mask.getLsbD i then (cF lo at_ mask i).set ((at_ + i) / 8) ((cF lo at_ mask i).getD ((at_ + i) / 8) 0 ^^^ turnB (at_ + i)) else cF lo at_ mask i
theorem cF_length (lo : List UInt8) (at_ : Nat) (mask : BitVec 16) : ∀ i, (cF lo at_ mask i).length = lo.length
  | 0 => rfl
  | i + 1 => by
    rw [cF]
    split
    · rw [List.length_set, cF_length lo at_ mask i]
    · exact cF_length lo at_ mask i
theorem turn_walk (e : Nat) (h : e ≤ 7) : IntKind.u8.wrap ((2 : Int) ^ e) = ((UInt8.ofNat (2 ^ e)).toNat : Int) := by
  have k : ∀ e : Fin 8, IntKind.u8.wrap ((2 : Int) ^ e.val) = ((UInt8.ofNat (2 ^ e.val)).toNat : Int) := by decide
  exact k ⟨e, by omega⟩
set_option maxHeartbeats 4000000 in
set_option maxRecDepth 100000 in
theorem joins_long (ba bb : Option Addr) (la ca lb cb : Nat) (n0 n1 : Int) (w : World) (_h1 : (la : Int) ≤ 9223372036854775807) (_h2 : (lb : Int) ≤ 9223372036854775807) (hl : (600 : Int) < wrap64 ((la : Int) + lb))
    (AW : Hid (∀ w, Calls Try.prog 8 #[] w fun e w' => e = .returned (.bool true) ∧ Below w.heap.size w w')) :
    Calls Try.prog 7 #[.slice ba la ca, .slice bb lb cb, .agg #[.int .i64 n0, .int .i64 n1]] w fun e w' => e = .returned (.bool true) ∧ Below w.heap.size w w' := by
  go_enter Try.func7, Try.ntmps7
  go_wp2_with fail
  refine (AW.out _).mono ?_; rintro e w1 ⟨rfl, hb1⟩
  have B1 := belowT (below1 w _) hb1
  go_wp2_with fail
  go_ret
  exact ⟨rfl, B1⟩

set_option maxHeartbeats 8000000 in
set_option maxRecDepth 100000 in
theorem joins_core (ba bb : Option Addr) (ca cb : Nat) (a b lo : List UInt8) (n0 n1 : Int) (sa sb so sc mask : BitVec 16) (at_ : Nat) (d : Int) (w : World) (CA : Came w ba ca a) (CB : Came w bb cb b) (hl : (a.length : Int) + b.length ≤ 600)
    (hlo : a ++ b = lo)
    (OA : Hid (∀ w', Came w' ba ca a → Calls Try.prog 15 #[.slice ba a.length ca] w' fun e w'' => e = .returned (.int .u16 (sa.toNat : Int)) ∧ Below w'.heap.size w' w''))
    (OB : Hid (∀ w', Came w' bb cb b → Calls Try.prog 15 #[.slice bb b.length cb] w' fun e w'' => e = .returned (.int .u16 (sb.toNat : Int)) ∧ Below w'.heap.size w' w''))
    (JN : Hid (∀ w', Calls Try.prog 21 #[.int .u16 (sa.toNat : Int), .int .u16 (sb.toNat : Int), .int .i64 b.length] w' fun e w'' => e = .returned (.int .u16 (so.toNat : Int)) ∧ Below w'.heap.size w' w''))
    (OF : Hid (∀ w' ba c, Came w' ba c lo → Calls Try.prog 15 #[.slice ba lo.length c] w' fun e w'' => e = .returned (.int .u16 (so.toNat : Int)) ∧ Below w'.heap.size w' w''))
    (BU0 : Hid (∀ w' ba c, Came w' ba c lo → Calls Try.prog 23 #[.slice ba lo.length c, .slice ba lo.length c] w' fun e w'' => e = .returned (.int .i64 0) ∧ Below w'.heap.size w' w''))
    (BU1 : Hid (∀ w' ba c ba2 c2, Came w' ba c lo → Came w' ba2 c2 (cF lo at_ mask 16) → 3 ≤ lo.length → Calls Try.prog 23 #[.slice ba lo.length c, .slice ba2 lo.length c2] w' fun e w'' => e = .returned (.int .i64 d) ∧ Below w'.heap.size w' w''))
    (OC : Hid (∀ w' ba c, Came w' ba c (cF lo at_ mask 16) → Calls Try.prog 15 #[.slice ba lo.length c] w' fun e w'' => e = .returned (.int .u16 (sc.toNat : Int)) ∧ Below w'.heap.size w' w''))
    (AW : Hid (∀ w, Calls Try.prog 8 #[] w fun e w' => e = .returned (.bool true) ∧ Below w.heap.size w w'))
    (HK : Hid (3 ≤ lo.length → wrap64 ((IntKind.u64.wrap n0).tmod (8 * (lo.length : Int) - 15)) = (at_ : Int) ∧ bits .or .u16 (IntKind.u16.wrap (IntKind.u64.wrap n1)) 1 = (mask.toNat : Int) ∧ at_ + 15 < 8 * lo.length ∧ 1 ≤ d ∧ d ≤ 16 ∧ ((sc.toNat : Int) != (so.toNat : Int)) = true)) :
    Calls Try.prog 7 #[.slice ba a.length ca, .slice bb b.length cb, .agg #[.int .i64 n0, .int .i64 n1]] w fun e w' => e = .returned (.bool true) ∧ Below w.heap.size w w' := by
  have hd : decide ((600 : Int) < (a.length : Int) + b.length) = false := decide_eq_false (by omega)
  have hlen : lo.length = a.length + b.length := by rw [← hlo, List.length_append]
  have O := Lib.hid hlo; have HLEN := Lib.hid hlen; have HC := Lib.hid (And.intro CA CB)
  have hlo6 : (lo.length : Int) ≤ 600 := by omega
  have B1 := below1 w (.cells #[.int .i64 n0, .int .i64 n1] 39)
  have X1 := own2 w (.int .i64 n0) (.int .i64 n1) 39
  obtain ⟨W1, hW1⟩ : ∃ W1, W1 = w.alloc (.cells #[.int .i64 n0, .int .i64 n1] 39) := ⟨_, rfl⟩
  have b0 := empty_bytes W1 _ rfl
  rw [← hW1] at B1 X1
  have HW := Lib.hid hW1
  have CA0 := CA.keep (belowT B1 b0.below)
  clear hlo hlen CA CB hW1
  go_enter Try.func7, Try.ntmps7
  go_upto_region 3 with fail
  rw [← HW.out]
  clear HW
  go_wp2_with (at_builtin; refine list_append_came (v := .slice (some ⟨W1.heap.size, 0, none⟩) 0 0) rfl rfl rfl b0 rfl CA0 ?c1 ?_)
  case c1 => simp; omega
  intro v1 w1 hv1
  go_wp2_with (at_builtin; refine list_append_came (v := v1) rfl rfl rfl hv1 rfl (HC.out.2.keep (belowT B1 hv1.below)) ?c2 ?_)
  case c2 => first | omega | (simp; omega)
  intro v2 w2 hv2
  have hv2 : Bytes W1.heap.size W1 w2 v2 lo := by rw [← O.out]; exact hv2
  obtain ⟨bl, cl, rfl, CL⟩ := hv2.came
  have B2 := belowT B1 hv2.below
  have X2 := X1.keep hv2.below
  clear hv1 CA0 b0
  go_wp2_with fail
  refine (OA.out _ (HC.out.1.keep B2)).mono ?_; rintro e w3 ⟨rfl, hb3⟩
  have B3 := belowT B2 hb3
  go_wp2_with fail
  refine (OB.out _ (HC.out.2.keep B3)).mono ?_; rintro e w4 ⟨rfl, hb4⟩
  have B4 := belowT B3 hb4
  go_wp2_with fail
  refine (JN.out _).mono ?_; rintro e w5 ⟨rfl, hb5⟩
  have B5 := belowT B4 hb5
  have K5 := belowT (belowT hb3 hb4) hb5
  have CL5 := CL.keep K5
  go_wp2_with fail
  refine (OF.out _ _ _ CL5).mono ?_; rintro e w6 ⟨rfl, hb6⟩
  have B6 := belowT B5 hb6
  have CL6 := CL5.keep hb6
  go_wp2_with fail
  refine (BU0.out _ _ _ CL6).mono ?_; rintro e w7 ⟨rfl, hb7⟩
  have B7 := belowT B6 hb7
  have CL7 := CL6.keep hb7
  have X7 := X2.keep (belowT (belowT K5 hb6) hb7)
  clear CL CL5 CL6
  by_cases h3 : (lo.length : Int) < 3
  · go_wp2_with fail
    refine (AW.out _).mono ?_; rintro e w8 ⟨rfl, hb8⟩
    have B8 := belowT B7 hb8
    go_wp2_with fail
    go_ret
    exact ⟨rfl, B8⟩
  · have h31 : decide ((lo.length : Int) < 3) = false := decide_eq_false h3
    obtain ⟨hk, hm, hat, hd1, hd16, hne⟩ := HK.out (by omega)
    have X7a := X7.c0; have X7b := X7.c1
    have b8 := empty_bytes0 w7 _ rfl
    have CA8 := CL7.keep b8.below
    have hz : ((8 * (lo.length : Int) - 15) == 0) = false := by rw [beq_eq_false_iff_ne]; omega
    go_wp2_with (at_builtin; refine list_append_came0 (v := .slice (some ⟨w7.heap.size, 0, none⟩) 0 0) rfl rfl rfl b8 rfl CA8 ?c3 ?_)
    case c3 => simp; omega
    intro v8 w8 hv8
    have hv8 : Bytes0 w7.heap.size w7 w8 v8 lo := hv8
    obtain ⟨g, cg, rfl, MI⟩ := hv8.mine (by omega)
    have M8 := Lib.hid MI
    clear MI hv8 CA8 b8 X7a X7b X7 X2 X1
    go_wp2
    go_loopw [64] (fun iv wr => ∃ i : Nat, i ≤ 16 ∧ iv = .int .i64 i ∧ Mine w7.heap.size w7 wr g cg (cF lo at_ mask i)) (fun iv _ => 16 - (intOf iv).toNat)
    case atStart => exact ⟨0, by omega, rfl, M8.out⟩
    case round =>
      obtain ⟨i, hi, rfl, MI⟩ := hrel
      clear M8
      by_cases hc : (i : Int) < 16
      · have hbit := bit_u16 mask i
        have hmr := u16_rng mask
        cases hg : mask.getLsbD i
        · have hn : cF lo at_ mask (i + 1) = cF lo at_ mask i := by rw [cF, hg, if_neg (by decide)]
          rw [← hn] at MI
          rw [hg] at hbit
          have MH := Lib.hid MI
          clear MI hn hg hm hk
          generalize mask.toNat = mn at *
          go_wp2
          go_roundw
          case rel => exact ⟨i + 1, by omega, rfl, MH.out⟩
          case measure => simp [intOf]; omega
        · have hn : cF lo at_ mask (i + 1) = (cF lo at_ mask i).set ((at_ + i) / 8) ((cF lo at_ mask i).getD ((at_ + i) / 8) 0 ^^^ turnB (at_ + i)) := by rw [cF, hg, if_pos rfl]
          rw [hg] at hbit
          have hq8 : (at_ + i) / 8 < (cF lo at_ mask i).length := by rw [cF_length]; omega
          have hcell := MI.lies _ hq8
          rw [Nat.zero_add] at hcell
          have hfree := MI.free _ hq8
          have MI2 := MI.set ((at_ + i) / 8) ((cF lo at_ mask i).getD ((at_ + i) / 8) 0 ^^^ turnB (at_ + i))
          rw [← hn] at MI2
          have hxr := xor_u8 ((cF lo at_ mask i).getD ((at_ + i) / 8) 0) (turnB (at_ + i))
          have htw : IntKind.u8.wrap ((2 : Int) ^ (7 - (at_ + i) % 8)) = ((turnB (at_ + i)).toNat : Int) := turn_walk _ (by omega)
          have hq : ((at_ : Int) + (i : Int)).tdiv 8 = (((at_ + i) / 8 : Nat) : Int) := by rw [Int.tdiv_eq_ediv_of_nonneg (by omega)]; omega
          have hr : ((at_ : Int) + (i : Int)).tmod 8 = (((at_ + i) % 8 : Nat) : Int) := by rw [Int.tmod_eq_emod_of_nonneg (by omega)]; omega
          have he : 7 - (((at_ + i) % 8 : Nat) : Int) = ((7 - (at_ + i) % 8 : Nat) : Int) := by omega
          have hql : (((at_ + i) / 8 : Nat) : Int) < lo.length := by omega
          have hr7 : (((at_ + i) % 8 : Nat) : Int) ≤ 7 := by omega
          have he7 : ((7 - (at_ + i) % 8 : Nat) : Int) ≤ 7 := by omega
          have hx1 : (((cF lo at_ mask i).getD ((at_ + i) / 8) 0).toNat : Int) ≤ 255 := by have := ((cF lo at_ mask i).getD ((at_ + i) / 8) 0).toNat_lt; omega
          have M2 := Lib.hid MI2
          clear MI MI2 hn hg hm hk hq8
          generalize ((cF lo at_ mask i).getD ((at_ + i) / 8) 0 ^^^ turnB (at_ + i)).toNat = y at *
          generalize ((cF lo at_ mask i).getD ((at_ + i) / 8) 0).toNat = x at *
          generalize (turnB (at_ + i)).toNat = mm at *
          generalize (at_ + i) / 8 = q at *
          generalize (at_ + i) % 8 = r at *
          generalize 7 - r = e at *
          generalize mask.toNat = mn at *
          go_wp2
          go_roundw
          case rel => exact ⟨i + 1, by omega, rfl, M2.out⟩
          case measure => simp [intOf]; omega
      · obtain rfl : i = 16 := by omega
        have CA := CL7.keep MI.below
        have CC := MI.came
        have B9 := belowT B7 MI.below
        clear MI
        go_wp2_with fail
        refine (BU1.out _ _ _ _ _ CA CC (by omega)).mono ?_; rintro e w10 ⟨rfl, hb10⟩
        have B10 := belowT B9 hb10
        go_wp2_with fail
        refine (OC.out _ _ _ (CC.keep hb10)).mono ?_; rintro e w11 ⟨rfl, hb11⟩
        have B11 := belowT B10 hb11
        go_wp2_with fail
        refine (OF.out _ _ _ (CA.keep (belowT hb10 hb11))).mono ?_; rintro e w12 ⟨rfl, hb12⟩
        have B12 := belowT B11 hb12
        go_wp2_with fail
        refine (AW.out _).mono ?_; rintro e w13 ⟨rfl, hb13⟩
        have B13 := belowT B12 hb13
        go_wp2_with fail
        go_ret
        exact ⟨rfl, B13⟩

end Go.Proofs.Ytaipjhfgkidbfaa
