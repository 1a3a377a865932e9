/- Latches, plain: usable gyros, what is joined, its number and back. No program is named here. -/
import Derived.Test.YtldbkompebefmaaDoorLdNum
import Derived.Test.YtldbkompebefmaaDoorSub
namespace Go.Proofs.YtldbkompebefmaaDoor
namespace Lat
open Ld

def us (e i s : Int) : Int := 6 - (Sub.cnt (Sub.low (bits .or .i64 (bits .or .i64 e i) s)) : Int)
theorem us_room (e i s : Int) : 0 ≤ us e i s ∧ us e i s ≤ 6 := by
  have := Sub.cnt_le (Sub.low (bits .or .i64 (bits .or .i64 e i) s))
  unfold us; omega
def new0 : La := ⟨6, false, 0, 0, false, false⟩
def zero : La := ⟨0, false, 0, 0, false, false⟩
def jn (a b : La) : La := ⟨min a.u b.u, a.am || b.am, max a.al b.al, max a.sp b.sp, a.fo || b.fo, a.no || b.no⟩
theorem la_ext {a b : La} (h1 : a.u = b.u) (h2 : a.am = b.am) (h3 : a.al = b.al) (h4 : a.sp = b.sp) (h5 : a.fo = b.fo) (h6 : a.no = b.no) : a = b := by
  cases a; cases b; simp only at h1 h2 h3 h4 h5 h6; subst h1 h2 h3 h4 h5 h6; rfl
theorem jn_comm (a b : La) : jn b a = jn a b :=
  la_ext (Int.min_comm ..) (Bool.or_comm ..) (Int.max_comm ..) (Int.max_comm ..) (Bool.or_comm ..) (Bool.or_comm ..)
theorem jn_assoc (a b c : La) : jn a (jn b c) = jn (jn a b) c :=
  la_ext (by show min _ (min _ _) = min (min _ _) _; omega) (Bool.or_assoc ..).symm (by show max _ (max _ _) = max (max _ _) _; omega) (by show max _ (max _ _) = max (max _ _) _; omega) (Bool.or_assoc ..).symm (Bool.or_assoc ..).symm
theorem or_again (a b : Bool) : ((a || b) || a) = (a || b) := by cases a <;> cases b <;> rfl
theorem jn_again (a b : La) : jn (jn a b) a = jn a b :=
  la_ext (by show min (min _ _) _ = min _ _; omega) (or_again ..) (by show max (max _ _) _ = max _ _; omega) (by show max (max _ _) _ = max _ _; omega) (or_again ..) (or_again ..)
theorem worse_of {a b : La} (h1 : a.u ≤ b.u) (h2 : b.al ≤ a.al) (h3 : b.sp ≤ a.sp) (h4 : (a.am || !b.am) = true) (h5 : (a.fo || !b.fo) = true) (h6 : (a.no || !b.no) = true) : worse a b = true := by
  unfold worse; rw [decide_eq_true h1, decide_eq_true h2, decide_eq_true h3, h4, h5, h6]; rfl
theorem or_left (a b : Bool) : ((a || b) || !a) = true := by cases a <;> cases b <;> rfl
theorem or_right (a b : Bool) : ((a || b) || !b) = true := by cases a <;> cases b <;> rfl
theorem jn_left (a b : La) : worse (jn a b) a = true :=
  worse_of (by show min _ _ ≤ _; omega) (by show _ ≤ max _ _; omega) (by show _ ≤ max _ _; omega) (or_left ..) (or_left ..) (or_left ..)
theorem jn_right (a b : La) : worse (jn a b) b = true :=
  worse_of (by show min _ _ ≤ _; omega) (by show _ ≤ max _ _; omega) (by show _ ≤ max _ _; omega) (or_right ..) (or_right ..) (or_right ..)
theorem or_both {a b c : Bool} (h : a = true → c = true) (k : b = true → c = true) : (c || !(a || b)) = true := by
  cases a <;> cases b <;> cases c <;> simp_all
theorem jn_best {a b c : La} (h : worse c a = true) (k : worse c b = true) : worse c (jn a b) = true := by
  obtain ⟨h1, h2, h3, h4, h5, h6⟩ := worse_parts h
  obtain ⟨k1, k2, k3, k4, k5, k6⟩ := worse_parts k
  exact worse_of (by show _ ≤ min _ _; omega) (by show max _ _ ≤ _; omega) (by show max _ _ ≤ _; omega) (or_both h4 k4) (or_both h5 k5) (or_both h6 k6)
theorem jn_mode (a b : La) : mode a ≤ mode (jn a b) ∧ mode b ≤ mode (jn a b) := ⟨worse_mode (jn_left a b), worse_mode (jn_right a b)⟩

/-- a part's bits have room for it -/
def Room (l : La) : Prop := 0 ≤ l.u ∧ l.u ≤ 7 ∧ 0 ≤ l.al ∧ l.al ≤ 3 ∧ 0 ≤ l.sp ∧ l.sp ≤ 3
instance (l : La) : Decidable (Room l) := by unfold Room; infer_instance
def fl (b : Bool) (k : Int) : Int := if b = true then k else 0
def bitsN (l : La) : Int := if Room l then l.u + 8 * l.al + 32 * l.sp + fl l.am 128 + fl l.fo 256 + fl l.no 512 else 0
def bitsE (l : La) : Int := if Room l then 0 else 1
def latN (n : Nat) : La := ⟨(n % 8 : Nat), n / 128 % 2 == 1, (n / 8 % 4 : Nat), (n / 32 % 4 : Nat), n / 256 % 2 == 1, n / 512 % 2 == 1⟩
def fromL (n : Int) : La := if 0 ≤ n ∧ n < 1024 then latN n.toNat else zero
def fromE (n : Int) : Int := if 0 ≤ n ∧ n < 1024 then 0 else 1
/-- what the bits have room for -/
def cut (l : La) : La := ⟨l.u % 8, l.am, l.al % 4, l.sp % 4, l.fo, l.no⟩
theorem cut_room (l : La) : Room l ↔ l = cut l := by
  constructor
  · rintro ⟨h1, h2, h3, h4, h5, h6⟩
    exact la_ext (by show _ = _ % 8; omega) rfl (by show _ = _ % 4; omega) (by show _ = _ % 4; omega) rfl rfl
  · intro h
    have h1 : l.u = l.u % 8 := congrArg La.u h
    have h2 : l.al = l.al % 4 := congrArg La.al h
    have h3 : l.sp = l.sp % 4 := congrArg La.sp h
    unfold Room; omega
theorem and7 (x : Int) : bits .and .i64 x 7 = x % 8 := by
  show IntKind.i64.wrap ((BitVec.ofInt 64 x &&& BitVec.ofInt 64 7).toNat : Int) = _
  rw [BitVec.toNat_and, BitVec.toNat_ofInt, show (BitVec.ofInt 64 7).toNat = 2 ^ 3 - 1 by decide, Nat.and_two_pow_sub_one_eq_mod, IntKind.wrap_i64]
  omega
theorem and3 (x : Int) : bits .and .i64 x 3 = x % 4 := by
  show IntKind.i64.wrap ((BitVec.ofInt 64 x &&& BitVec.ofInt 64 3).toNat : Int) = _
  rw [BitVec.toNat_and, BitVec.toNat_ofInt, show (BitVec.ofInt 64 3).toNat = 2 ^ 2 - 1 by decide, Nat.and_two_pow_sub_one_eq_mod, IntKind.wrap_i64]
  omega
theorem bitsE_ok {l : La} (h : Room l) : bitsE l = 0 := if_pos h
theorem bitsE_no {l : La} (h : ¬ Room l) : bitsE l = 1 := if_neg h
theorem fromE_ok {n : Int} (h : 0 ≤ n ∧ n < 1024) : fromE n = 0 := if_pos h
theorem fromE_no {n : Int} (h : ¬ (0 ≤ n ∧ n < 1024)) : fromE n = 1 := if_neg h
theorem latN_room (n : Nat) : Room (latN n) := by
  unfold Room latN; simp only; omega
theorem fl_b (n k : Nat) : fl (n / k % 2 == 1) k = (k * (n / k % 2) : Nat) := by
  unfold fl
  rcases (show n / k % 2 = 0 ∨ n / k % 2 = 1 by omega) with h | h <;> rw [h] <;> simp
theorem bits_from {n : Int} (h : 0 ≤ n ∧ n < 1024) : bitsN (fromL n) = n ∧ bitsE (fromL n) = 0 := by
  have e : fromL n = latN n.toNat := if_pos h
  rw [e]
  refine ⟨?_, if_pos (latN_room _)⟩
  have e2 : bitsN (latN n.toNat) = ((n.toNat % 8 : Nat) : Int) + 8 * (n.toNat / 8 % 4 : Nat) + 32 * (n.toNat / 32 % 4 : Nat) + fl (n.toNat / 128 % 2 == 1) (128 : Nat) + fl (n.toNat / 256 % 2 == 1) (256 : Nat) + fl (n.toNat / 512 % 2 == 1) (512 : Nat) := if_pos (latN_room _)
  rw [e2, fl_b, fl_b, fl_b]
  omega
theorem fl_cases (b : Bool) (k : Int) : (b = true ∧ fl b k = k) ∨ (b = false ∧ fl b k = 0) := by cases b; exact .inr ⟨rfl, rfl⟩; exact .inl ⟨rfl, rfl⟩
theorem bitsN_room (l : La) : 0 ≤ bitsN l ∧ bitsN l < 1024 := by
  unfold bitsN
  by_cases h : Room l
  · rw [if_pos h]
    obtain ⟨h1, h2, h3, h4, h5, h6⟩ := h
    rcases fl_cases l.am 128 with ⟨_, e⟩ | ⟨_, e⟩ <;> rcases fl_cases l.fo 256 with ⟨_, f⟩ | ⟨_, f⟩ <;> rcases fl_cases l.no 512 with ⟨_, g⟩ | ⟨_, g⟩ <;> rw [e, f, g] <;> omega
  · rw [if_neg h]; omega
theorem from_bits {l : La} (h : Room l) : fromL (bitsN l) = l ∧ fromE (bitsN l) = 0 := by
  have hr := bitsN_room l
  refine ⟨?_, if_pos hr⟩
  rw [show fromL (bitsN l) = latN (bitsN l).toNat from if_pos hr]
  have e : bitsN l = l.u + 8 * l.al + 32 * l.sp + fl l.am 128 + fl l.fo 256 + fl l.no 512 := if_pos h
  obtain ⟨h1, h2, h3, h4, h5, h6⟩ := h
  obtain ⟨m, hm⟩ : ∃ m, m = (bitsN l).toNat := ⟨_, rfl⟩
  have hm2 : (m : Int) = bitsN l := by omega
  rw [e] at hm2
  rw [← hm]
  rcases fl_cases l.am 128 with ⟨a, e1⟩ | ⟨a, e1⟩ <;> rcases fl_cases l.fo 256 with ⟨b, e2⟩ | ⟨b, e2⟩ <;> rcases fl_cases l.no 512 with ⟨c, e3⟩ | ⟨c, e3⟩ <;> rw [e1, e2, e3] at hm2 <;>
    exact la_ext (by show ((m % 8 : Nat) : Int) = _; omega) (by rw [a]; show (m / 128 % 2 == 1) = _; simp; omega) (by show ((m / 8 % 4 : Nat) : Int) = _; omega) (by show ((m / 32 % 4 : Nat) : Int) = _; omega) (by rw [b]; show (m / 256 % 2 == 1) = _; simp; omega) (by rw [c]; show (m / 512 % 2 == 1) = _; simp; omega)
end Lat
end Go.Proofs.YtldbkompebefmaaDoor
