/- OctetBack: every input. -/
import Derived.Test.YtcnnkgkejafeeaaFewAll
import Derived.Test.YtcnnkgkejafeeaaLawBack
namespace Go.Proofs.Ytcnnkgkejafeeaa
open Go.RowKit

/-- the width that the law takes -/
def wid (width : Int) : Nat := 1 + (IntKind.u64.wrap width).toNat % 8
theorem wid_rng (width : Int) : (1 : Int) ≤ wid width ∧ (wid width : Int) ≤ 8 := by unfold wid; omega
theorem wid_walk (width : Int) : wrap64 (1 + wrap64 ((IntKind.u64.wrap width).tmod 8)) = (wid width : Int) := by
  have h : IntKind.u64.wrap width = ((IntKind.u64.wrap width).toNat : Int) := by rw [IntKind.wrap_u64]; omega
  unfold wid
  generalize (IntKind.u64.wrap width).toNat = u at *
  rw [h, Int.tmod_eq_emod_of_nonneg (by omega)]
  unfold wrap64
  omega

theorem psW_no {n : Int} {k : Nat} (h1 : (1 : Int) ≤ k) (h2 : (k : Int) ≤ 8) (h : psW n k = false) : Oct.fits k n := by
  unfold psW at h
  unfold Oct.fits
  rcases eight h1 h2 with rfl | rfl | rfl | rfl | rfl | rfl | rfl | rfl <;> simp only [Nat.reduceMul, Nat.reduceSub, Int.reducePow, Nat.reducePow, Bool.and_eq_false_iff, bne_eq_false_iff_eq] at * <;> omega

theorem back_mod (n : Int) (k : Nat) (h1 : (1 : Int) ≤ k) (h2 : (k : Int) ≤ 8) : (IntKind.u64.wrap n).toNat % 256 ^ k = (n % ((256 ^ k : Nat) : Int)).toNat := by
  rw [IntKind.wrap_u64]
  rcases eight h1 h2 with rfl | rfl | rfl | rfl | rfl | rfl | rfl | rfl <;> simp only [Nat.reducePow] <;> omega

theorem mid_take (a b c : List UInt8) : sofar (a ++ b ++ c) a.length b.length = Oct.num 0 b := by
  unfold sofar
  rw [List.append_assoc, List.drop_left, List.take_left]

theorem psE_eq {n : Int} {k : Nat} (h1 : (1 : Int) ≤ k) (h2 : (k : Int) ≤ 8) (h : (psE n k == 0) = true) : Oct.fits k n ∧ psL n k = Oct.be k (IntKind.u64.wrap n).toNat := by
  have h0 : psE n k = 0 := by simpa using h
  refine ⟨psW_no h1 h2 ?_, by unfold psL; rw [if_pos h0, Int.toNat_natCast]⟩
  unfold psE at h0
  rw [if_neg (by omega), Int.toNat_natCast] at h0
  cases hp : psW n k
  · rfl
  · rw [hp] at h0; simp at h0

/-- what is put is got, among other bytes -/
theorem signed_back (a c : List UInt8) (n : Int) (k g cap : Nat) (w : World) (h1 : (1 : Int) ≤ k) (h2 : (k : Int) ≤ 8) (hf : Oct.fits k n) (hl : (a ++ Oct.be k (IntKind.u64.wrap n).toNat ++ c).length ≤ 1024) (L : Lies w g 0 (a ++ Oct.be k (IntKind.u64.wrap n).toNat ++ c)) :
    Calls Try.prog 12 #[.slice (some ⟨g, 0, none⟩) (a ++ Oct.be k (IntKind.u64.wrap n).toNat ++ c).length cap, .int .i64 (a.length : Int), .int .i64 k] w fun e w' => e = .returned (.tuple #[.int .i64 n, .int .i64 0]) ∧ w = w' := by
  have s := mid_take a (Oct.be k (IntKind.u64.wrap n).toNat) c
  rw [Oct.be_length, Oct.num_be, back_mod n k h1 h2] at s
  have hle : a.length + k ≤ (a ++ Oct.be k (IntKind.u64.wrap n).toNat ++ c).length := by rw [List.length_append, List.length_append, Oct.be_length]; omega
  have r := Own.Signed_at g a.length k _ _ w hl h1 h2 hle L cap s
  rw [Oct.sgn_back k n hf] at r
  exact r

theorem text_slice (s : ByteArray) (k : Nat) (w : World) (h : k ≤ s.size) : (Instr.sliceAt 9 (.string s) none (some (.int .i64 (k : Int))) none).run Try.prog w = .ok (.string ⟨(s.data.toList.take k).toArray⟩) w := by
  rw [run_sliceAt_string (h := Try.underlying9), run_slice_string_h (ht := Try.underlying9) (h0 := by omega) (h2 := by omega)]
  have e : s.extract 0 k = ⟨(s.data.toList.take k).toArray⟩ := by
    apply ByteArray.ext
    apply Array.ext'
    simp [Array.toList_extract]
  first
  | rw [Int.toNat_natCast, e]
  | (show Result.ok (.string (s.extract 0 (k : Int).toNat)) w = _; rw [Int.toNat_natCast, e])

theorem Back_all (n width : Int) (s0 s1 : ByteArray) (w : World) :
    Calls Try.prog 4 #[.int .i64 n, .agg #[.string s0, .string s1], .int .i64 width] w fun e w' => e = .returned (.bool true) ∧ Below w.heap.size w w' := by
  by_cases h0 : (255 : Int) < s0.size
  · exact back_long0 n width s0 s1 w h0 (Lib.hid Own.awake_any)
  by_cases h1 : (300 : Int) < s1.size
  · exact back_long1 n width s0 s1 w (by omega) h1 (Lib.hid Own.awake_any)
  obtain ⟨k1, k2⟩ := wid_rng width
  have hk := wid_walk width
  generalize wid width = k at *
  have z1 : s1.data.toList.length = s1.size := Array.length_toList
  have z0 : s0.data.toList.length = s0.size := Array.length_toList
  have hc1 : ∀ {g c : Nat} {w' : World}, s1.size ≤ c → c ≤ maxLen → Lies w' g 0 s1.data.toList → Came w' (some ⟨g, 0, none⟩) c s1.data.toList := fun a b L => ⟨by omega, b, fun h => (by cases h), fun _ => ⟨_, _, rfl, L⟩⟩
  have et : txE s0 = 0 := if_neg h0
  have el : txL s0 = UInt8.ofNat s0.size :: s0.data.toList := if_neg h0
  have ln : (txL s0).length = s0.size + 1 := by rw [el, List.length_cons, z0]
  refine back_core n width (psE n k) (getU s1.data.toList 0 k : Nat) (getE s1.data.toList 0 k) k s0 s1 (psL n k) (txL s0) (Oct.be k (getU s1.data.toList 0 k)) _ _ w (by omega) (by omega) k1 k2 hk (by rw [ln]; omega) rfl rfl
    (Lib.hid fun w => Own.PutSigned_came n k w) ?he (Lib.hid fun g c w' a b L e => ?SG) (Lib.hid fun w => by have := Own.Text_came s0 w; rw [et] at this; exact this) (by rw [el]; simp) (Lib.hid fun g c w' a b L => ?RT)
    (Lib.hid fun g c w' a b L => ?GT) (Lib.hid fun w => Own.Put_bytes _ k k w ?hu (by omega)) ?hg (Lib.hid Own.awake_any)
  case he =>
    by_cases e : psE n k = 0
    · refine Or.inr ⟨by simp [e], ?_⟩
      rw [(psE_eq k1 k2 (by simp [e])).2, Oct.be_length]
    · exact Or.inl (by simp [e])
  case SG =>
    obtain ⟨hf, hp⟩ := psE_eq k1 k2 e
    rw [hp] at L ⊢
    have r := signed_back s1.data.toList s0.data.toList n k g c w' k1 k2 hf (by simp only [List.length_append, Oct.be_length, z0, z1]; omega) L
    rw [z1] at r
    exact r.mono fun x w2 q => ⟨q.1, below_of q.2⟩
  case RT =>
    have hle : (s1.data.toList ++ txL s0 ++ [1, 2]).length = s1.size + (s0.size + 1) + 2 := by rw [List.length_append, List.length_append, ln, z1]; rfl
    have C : Came w' (some ⟨g, 0, none⟩) c (s1.data.toList ++ txL s0 ++ [1, 2]) := ⟨a, b, fun h => (by cases h), fun _ => ⟨_, _, rfl, L⟩⟩
    have r := Own.ReadText_came C s1.size
    have drop1 : (s1.data.toList ++ txL s0 ++ [1, 2]).drop s1.size = UInt8.ofNat s0.size :: (s0.data.toList ++ [1, 2]) := by rw [← z1, List.append_assoc, List.drop_left, el]; rfl
    have drop2 : (s1.data.toList ++ txL s0 ++ [1, 2]).drop (s1.size + 1) = s0.data.toList ++ [1, 2] := by rw [← List.drop_drop, drop1]; rfl
    have ge : getE (s1.data.toList ++ txL s0 ++ [1, 2]) s1.size 1 = 0 := by unfold getE; rw [hle, if_neg (by omega), if_neg (by omega)]
    have gu : getU (s1.data.toList ++ txL s0 ++ [1, 2]) s1.size 1 = s0.size := by
      unfold getU
      rw [if_pos ge]
      unfold sofar
      show Oct.num 0 (((s1.data.toList ++ txL s0 ++ [1, 2]).drop ((s1.size : Int).toNat)).take 1) = _
      rw [Int.toNat_natCast, drop1]
      show 0 * 256 + (UInt8.ofNat s0.size).toNat = _
      rw [Oct.byte_of _ (by omega)]; omega
    have te : txtE (s1.data.toList ++ txL s0 ++ [1, 2]) s1.size = 0 := by unfold txtE; rw [if_pos ge, gu, hle, if_neg (by omega)]
    have ts : txtS (s1.data.toList ++ txL s0 ++ [1, 2]) s1.size = s0 := by
      unfold txtS
      rw [if_pos te, gu, Int.toNat_natCast, drop2, ← z0, List.take_left]
    have tp : txtP (s1.data.toList ++ txL s0 ++ [1, 2]) s1.size = (s1.size : Int) + (txL s0).length := by unfold txtP; rw [if_pos te, gu, ln]; omega
    rw [te, ts, tp] at r
    exact r.mono fun x w2 q => ⟨q.1, below_of q.2⟩
  case GT =>
    have r := Own.Get_came (hc1 a b L) 0 k
    rw [z1] at r
    exact r.mono fun x w2 q => ⟨q.1, below_of q.2⟩
  case hu =>
    by_cases e : getE s1.data.toList 0 k = 0
    · have := getU_lt e
      have : (256 : Nat) ^ k ≤ 256 ^ 8 := Nat.pow_le_pow_right (by decide) (by omega)
      have e8 : (256 : Nat) ^ 8 = 18446744073709551616 := by decide
      rw [Int.toNat_natCast] at *
      omega
    · rw [getU_err e]; decide
  case hg =>
    by_cases e : getE s1.data.toList 0 k = 0
    · obtain ⟨a, m, ha, hm, m1, m2, hle, hu⟩ := getE_ok e
      obtain rfl : m = k := by omega
      obtain rfl : a = 0 := by omega
      refine Or.inr ⟨by simp [e], by simp [e], by omega, fun w' => ?_⟩
      have hk' : m ≤ s1.size := by omega
      rw [hu]
      unfold sofar
      rw [List.drop_zero, Oct.be_num m _ (by rw [List.length_take]; omega)]
      exact text_slice s1 m w' hk'
    · exact Or.inl ⟨by simp [e], by simp [e]⟩

end Go.Proofs.Ytcnnkgkejafeeaa
