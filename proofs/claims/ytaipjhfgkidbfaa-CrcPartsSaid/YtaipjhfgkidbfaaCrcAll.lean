/- Layer 6's five laws at every input, over the contracts of crc's calls (namespace Own6). -/
import Derived.Test.YtaipjhfgkidbfaaCrcAwake
import Derived.Test.YtaipjhfgkidbfaaCrcMath
import Derived.Test.YtaipjhfgkidbfaaLawMixes
import Derived.Test.YtaipjhfgkidbfaaLawParts
import Derived.Test.YtaipjhfgkidbfaaLawSays6
namespace Go.Proofs.Ytaipjhfgkidbfaa
open Go.RowKit

theorem u16_of (s : Int) (h0 : 0 ≤ s) (h1 : s ≤ 65535) : ∃ x : BitVec 16, s = (x.toNat : Int) := ⟨BitVec.ofNat 16 s.toNat, by rw [BitVec.toNat_ofNat]; omega⟩
theorem u16r {a : Int} (h : (Lit.int .u16 a).wf = true) : 0 ≤ a ∧ a ≤ 65535 := by
  simp only [Lit.wf, Bool.and_eq_true, decide_eq_true_eq] at h
  rw [show IntKind.u16.min = 0 by decide, show IntKind.u16.max = 65535 by decide] at h
  exact h
theorem clip (n : Int) : max 0 (min n 4000) = ((max 0 (min n 4000)).toNat : Int) := by omega

theorem Says6_all (ba : Option Addr) (cap : Nat) (l : List UInt8) (s : Int) (w : World) (C : Came w ba cap l) (h0 : 0 ≤ s) (h1 : s ≤ 65535) :
    Calls Try.prog 3 #[.int .u16 s, .slice ba l.length cap] w fun e w' => e = .returned (.bool true) ∧ Below w.heap.size w w' := by
  by_cases h : (2000 : Int) < l.length
  · exact crcsays_long ba l.length cap s w h (Lib.hid Aw6.awake_any)
  · obtain ⟨x, rfl⟩ := u16_of s h0 h1
    have hl : l.length ≤ 4000 := by omega
    have hx : IntKind.u8.wrap (l.length : Int) = ((UInt8.ofNat l.length).toNat : Int) := by rw [IntKind.wrap_u8, UInt8.toNat_ofNat']; omega
    exact says6_core ba l.length cap _ _ _ _ _ _ (fitsB l) w (by omega) hx
      (Lib.hid fun w' _ => Own6.Step_any x w') (Lib.hid fun w' _ => (Ref6.Step_any x w').mono fun e w2 k => ⟨k.1, below_of k.2⟩)
      (Lib.hid fun w' _ => Own6.Byte_any x (UInt8.ofNat l.length) w') (Lib.hid fun w' _ => (Ref6.Byte_any x (UInt8.ofNat l.length) w').mono fun e w2 k => ⟨k.1, below_of k.2⟩)
      (Lib.hid fun w' hb => Own6.More_came (C.keep hb) hl x) (Lib.hid fun w' hb => (Ref6.More_came (C.keep hb) x).mono fun e w2 k => ⟨k.1, below_of k.2⟩)
      (Lib.hid fun w' hb => Own6.Of_came (C.keep hb) hl) (Lib.hid fun w' hb => (Ref6.Of_came (C.keep hb)).mono fun e w2 k => ⟨k.1, below_of k.2⟩)
      (Lib.hid fun w' hb => Own6.Fits_came (C.keep hb) hl) (Lib.hid fun w' hb => (Ref6.Fits_came (C.keep hb)).mono fun e w2 k => ⟨k.1, below_of k.2⟩)
      (Lib.hid Aw6.awake_any)

theorem More6_all (ba bb : Option Addr) (ca cb : Nat) (a b : List UInt8) (n : Int) (w : World) (CA : Came w ba ca a) (CB : Came w bb cb b) (ha : (a.length : Int) ≤ 140737488351232) (hb : (b.length : Int) ≤ 140737488351232) :
    Calls Try.prog 6 #[.slice ba a.length ca, .slice bb b.length cb, .int .i64 n] w fun e w' => e = .returned (.bool true) ∧ Below w.heap.size w w' := by
  by_cases h : (2000 : Int) < (a.length : Int) + b.length
  · exact crcmore_long ba bb a.length ca b.length cb n w (by omega) (by omega) (by unfold wrap64; omega) (Lib.hid Aw6.awake_any)
  · have hm := clip n
    exact more6_core ba bb a.length ca b.length cb n _ _ _ _ _ _ _ _ _ _ _ _ _ _ _ _ _ _ _ _ w (by omega)
      (Lib.hid fun w' hb => Own6.Of_came (CA.keep hb) (by omega)) (Lib.hid fun w' hb => Own6.Of_came (CB.keep hb) (by omega))
      (Lib.hid fun w' _ => Own6.Power_any n _ w' hm) (Lib.hid fun w' _ => Ref6.Power_any n _ w' hm (by omega))
      (Lib.hid fun w' _ => Own6.Join_any _ _ n _ w' hm) (Lib.hid fun w' _ => Ref6.Join_any _ _ n _ w' hm)
      (Lib.hid fun w' hb => Own6.Burst_came (CA.keep hb) (CB.keep hb) (by omega) (by omega)) (Lib.hid fun w' hb => Ref6.Burst_came (CA.keep hb) (CB.keep hb) (by omega) (by omega))
      (Lib.hid Aw6.awake_any)

theorem Parts_all (ba bb : Option Addr) (ca cb : Nat) (a b : List UInt8) (s : Int) (w : World) (CA : Came w ba ca a) (CB : Came w bb cb b) (h0 : 0 ≤ s) (h1 : s ≤ 65535) (ha : (a.length : Int) ≤ 140737488351232) (hb : (b.length : Int) ≤ 140737488351232) :
    Calls Try.prog 4 #[.int .u16 s, .slice ba a.length ca, .slice bb b.length cb] w fun e w' => e = .returned (.bool true) ∧ Below w.heap.size w w' := by
  by_cases h : (2000 : Int) < (a.length : Int) + b.length
  · exact parts_long ba bb a.length ca b.length cb s w (by omega) (by omega) (by unfold wrap64; omega) (Lib.hid Aw6.awake_any)
  · obtain ⟨x, rfl⟩ := u16_of s h0 h1
    have hlo : (a ++ b).length = a.length + b.length := List.length_append
    have hlw : ((a ++ b) ++ [hiB (Crc.sum (bv (a ++ b))), loB (Crc.sum (bv (a ++ b)))]).length = a.length + b.length + 2 := by rw [List.length_append, hlo]; rfl
    exact parts_core ba bb ca cb a b _ _ x (Crc.sum (bv (a ++ b))) (Crc.more x (bv a)) (Crc.more (Crc.more x (bv a)) (bv b)) w CA CB (by omega) rfl rfl
      (Lib.hid fun w' ba c C => Own6.Of_came C (by omega))
      (Lib.hid fun w' C => Own6.More_came C (by omega) x)
      (Lib.hid fun w' C => Own6.More_came C (by omega) _)
      (Lib.hid fun w' ba c C => by
        have r := Own6.More_came C (by omega) x
        rw [bv_append, Crc.more_append] at r
        exact r)
      (Lib.hid fun w' ba c C => by
        have r := Own6.Fits_came C (by omega)
        rw [behind_fits] at r
        exact r)
      (Lib.hid fun w' ba c C => by
        have r := Own6.Of_came C (by omega)
        rw [behind_sum] at r
        exact r)
      (Lib.hid Aw6.awake_any)

theorem mix_bv (a b : List UInt8) (n : Nat) (ha : n ≤ a.length) (hb : n ≤ b.length) : bv (mixF a b n) = Crc.mix (bv (a.take n)) (bv (b.take n)) := by
  apply List.ext_getElem
  · rw [bv_length, mixF_length]
    unfold Crc.mix
    rw [List.length_zipWith, bv_length, bv_length, List.length_take, List.length_take]
    omega
  · intro i h1 h2
    rw [bv_length, mixF_length] at h1
    have l1 : i < a.length := by omega
    have l2 : i < b.length := by omega
    simp [Crc.mix, bv, mixF, List.getD, l1, l2]

theorem Mixes_all (ba bb : Option Addr) (ca cb : Nat) (a b : List UInt8) (at_ : Int) (w : World) (CA : Came w ba ca a) (CB : Came w bb cb b) :
    Calls Try.prog 5 #[.slice ba a.length ca, .slice bb b.length cb, .int .i64 at_] w fun e w' => e = .returned (.bool true) ∧ Below w.heap.size w w' := by
  obtain ⟨n, hn⟩ : ∃ n : Nat, min (a.length : Int) b.length = (n : Int) := ⟨min a.length b.length, by omega⟩
  by_cases h : (1000 : Int) < n
  · exact mixes_long ba bb a.length ca b.length cb n at_ w hn h (Lib.hid Aw6.awake_any)
  · have hna : n ≤ a.length := by omega
    have hnb : n ≤ b.length := by omega
    have hta : (a.take n).length = n := by rw [List.length_take]; omega
    have htb : (b.take n).length = n := by rw [List.length_take]; omega
    have hw : IntKind.u64.wrap at_ = ((IntKind.u64.wrap at_).toNat : Int) := by rw [IntKind.wrap_u64]; omega
    obtain ⟨k, hk⟩ : ∃ k : Nat, k = (IntKind.u64.wrap at_).toNat % (8 * n) := ⟨_, rfl⟩
    have M := Crc.sum_mix (bv (a.take n)) (bv (b.take n)) (by rw [bv_length, bv_length, hta, htb])
    refine mixes_core ba bb ca cb a b (mixF a b n) (a.take n) ((a.take n).set (k / 8) ((a.take n).getD (k / 8) 0 ^^^ UInt8.ofNat (2 ^ (k % 8)))) n at_ (Crc.sum (bv (a.take n))) (Crc.sum (bv (b.take n)))
      (Crc.sum (bv ((a.take n).set (k / 8) ((a.take n).getD (k / 8) 0 ^^^ UInt8.ofNat (2 ^ (k % 8)))))) k (k / 8) (k % 8) (UInt8.ofNat (2 ^ (k % 8))).toNat ((a.take n).getD (k / 8) 0 ^^^ UInt8.ofNat (2 ^ (k % 8))) w CA CB hn (by omega) rfl rfl
      (Lib.hid fun w' hb => ?OA) (Lib.hid fun w' hb => ?OB) (Lib.hid fun w' ba c C => ?MO) (Lib.hid fun w' ba c C => ?OC) (Lib.hid Aw6.awake_any) (Lib.hid fun h0 => ?HK)
    case OA =>
      have r := Own6.Of_came ((CA.take n hna).keep hb) (by omega)
      rw [hta] at r
      exact r
    case OB =>
      have r := Own6.Of_came ((CB.take n hnb).keep hb) (by omega)
      rw [htb] at r
      exact r
    case MO =>
      have r := Own6.More_came C (by rw [mixF_length]; omega) 0#16
      rw [mix_bv a b n hna hnb, ← M] at r
      exact r
    case OC =>
      have r := Own6.Of_came C (by rw [List.length_set]; omega)
      rw [List.length_set, hta] at r
      exact r
    case HK =>
      have k8 : k < 8 * n := by rw [hk]; exact Nat.mod_lt _ (by omega)
      refine ⟨?_, ?_, ?_, by omega, by omega, by omega, turn_walk _ (by omega), xor_u8 _ _, rfl, ?_⟩
      · rw [hw, Int.tmod_eq_emod_of_nonneg (by omega)]
        have e : ((IntKind.u64.wrap at_).toNat : Int) % (8 * (n : Int)) = (k : Int) := by rw [hk, Int.natCast_emod]; rfl
        rw [e]
        unfold wrap64
        omega
      · rw [Int.tdiv_eq_ediv_of_nonneg (by omega)]; omega
      · rw [Int.tmod_eq_emod_of_nonneg (by omega)]; omega
      · have m0 : (UInt8.ofNat (2 ^ (k % 8))).toBitVec ≠ 0#8 := by
          have kk : ∀ e : Fin 8, (UInt8.ofNat (2 ^ e.val)).toBitVec ≠ 0#8 := by decide
          exact kk ⟨k % 8, by omega⟩
        have ne := set_told (a.take n) (k / 8) (UInt8.ofNat (2 ^ (k % 8))) (by omega) m0
        rw [bne_iff_ne]
        intro g
        exact ne (BitVec.eq_of_toNat_eq (by omega))

theorem Joins_all (ba bb : Option Addr) (ca cb : Nat) (a b : List UInt8) (n0 n1 : Int) (w : World) (CA : Came w ba ca a) (CB : Came w bb cb b) (ha : (a.length : Int) ≤ 140737488351232) (hb : (b.length : Int) ≤ 140737488351232) :
    Calls Try.prog 7 #[.slice ba a.length ca, .slice bb b.length cb, .agg #[.int .i64 n0, .int .i64 n1]] w fun e w' => e = .returned (.bool true) ∧ Below w.heap.size w w' := by
  by_cases h : (600 : Int) < (a.length : Int) + b.length
  · exact joins_long ba bb a.length ca b.length cb n0 n1 w (by omega) (by omega) (by unfold wrap64; omega) (Lib.hid Aw6.awake_any)
  · have hlo : (a ++ b).length = a.length + b.length := List.length_append
    have hw : IntKind.u64.wrap n0 = ((IntKind.u64.wrap n0).toNat : Int) := by rw [IntKind.wrap_u64]; omega
    obtain ⟨at_, hat⟩ : ∃ k : Nat, k = (IntKind.u64.wrap n0).toNat % (8 * (a ++ b).length - 15) := ⟨_, rfl⟩
    obtain ⟨mk, hmk⟩ : ∃ m : BitVec 16, IntKind.u16.wrap (IntKind.u64.wrap n1) = (m.toNat : Int) := ⟨BitVec.ofInt 16 (IntKind.u64.wrap n1), by rw [IntKind.wrap_u16, BitVec.toNat_ofInt]; omega⟩
    have hor : bits .or .u16 (mk.toNat : Int) 1 = ((mk ||| 1#16).toNat : Int) := by
      show IntKind.u16.wrap ((BitVec.ofInt 16 (mk.toNat : Int) ||| BitVec.ofInt 16 1).toNat : Int) = _
      rw [ofInt16, show BitVec.ofInt 16 1 = 1#16 by decide, wrap16 _ (mk ||| 1#16).isLt]
    have hm0 : (mk ||| 1#16).getLsbD 0 = true := by simp
    have bl : ∀ l : Nat, l = b.length → max 0 (min (b.length : Int) 4000) = (l : Int) := fun l e => by omega
    refine joins_core ba bb ca cb a b (a ++ b) n0 n1 (Crc.sum (bv a)) (Crc.sum (bv b)) (Crc.sum (bv (a ++ b))) (Crc.sum (bv (cF (a ++ b) at_ (mk ||| 1#16) 16))) (mk ||| 1#16) at_ (burst (a ++ b) (cF (a ++ b) at_ (mk ||| 1#16) 16)) w CA CB (by omega) rfl
      (Lib.hid fun w' C => Own6.Of_came C (by omega)) (Lib.hid fun w' C => Own6.Of_came C (by omega)) (Lib.hid fun w' => ?JN) (Lib.hid fun w' ba c C => Own6.Of_came C (by omega)) (Lib.hid fun w' ba c C => ?BU0)
      (Lib.hid fun w' ba c ba2 c2 C C2 h3 => ?BU1) (Lib.hid fun w' ba c C => ?OC) (Lib.hid Aw6.awake_any) (Lib.hid fun h3 => ?HK)
    case JN =>
      have r := Own6.Join_any (Crc.sum (bv a)) (Crc.sum (bv b)) b.length b.length w' (bl _ rfl)
      have j := Crc.sum_join (bv a) (bv b)
      rw [bv_length, ← bv_append] at j
      rw [← j] at r
      exact r
    case BU0 =>
      have r := Own6.Burst_came C C (by omega) (by omega)
      rw [burst_self] at r
      exact r
    case BU1 =>
      have r := Own6.Burst_came C C2 (by omega) (by rw [cF_length]; omega)
      rw [cF_length] at r
      exact r
    case OC =>
      have r := Own6.Of_came C (by rw [cF_length]; omega)
      rw [cF_length] at r
      exact r
    case HK =>
      have k8 : at_ < 8 * (a ++ b).length - 15 := by rw [hat]; exact Nat.mod_lt _ (by omega)
      have k15 : at_ + 15 < 8 * (a ++ b).length := by omega
      obtain ⟨d1, d16⟩ := burst_turned (a ++ b) at_ (mk ||| 1#16) k15 hm0
      refine ⟨?_, by rw [hmk, hor], k15, d1, d16, ?_⟩
      · rw [hw, Int.tmod_eq_emod_of_nonneg (by omega)]
        have e1 : 8 * ((a ++ b).length : Int) - 15 = ((8 * (a ++ b).length - 15 : Nat) : Int) := by omega
        have e : ((IntKind.u64.wrap n0).toNat : Int) % (8 * ((a ++ b).length : Int) - 15) = (at_ : Int) := by rw [e1, hat, Int.natCast_emod]
        rw [e]
        unfold wrap64
        omega
      · have ne := sums_unlike (a ++ b) at_ (mk ||| 1#16) k15 hm0
        rw [bne_iff_ne]
        intro g
        exact ne (BitVec.eq_of_toNat_eq (by omega))

end Go.Proofs.Ytaipjhfgkidbfaa
