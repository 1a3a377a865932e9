/- The ladder of modes, plain: what a latch gives (gyros, air, mode, name, worse, all of them, the best, the cause). No program is named here. -/
import Derived.Test.YtldbkompebefmaaDoorMem
namespace Go.Proofs.YtldbkompebefmaaDoor
theorem wrap_i64 (n : Int) : IntKind.i64.wrap n = (n + 9223372036854775808) % 18446744073709551616 - 9223372036854775808 := by
  simp [IntKind.wrap, IntKind.bits, IntKind.signed]
  split <;> omega
namespace Ld

structure La where
  u : Int
  am : Bool
  al : Int
  sp : Int
  fo : Bool
  no : Bool

def gyr (u : Int) : Int := if 6 ≤ u then 0 else if u = 5 then 1 else if u = 4 then 2 else if u = 3 then 4 else 5
theorem gyr_cases (u : Int) : (6 ≤ u ∧ gyr u = 0) ∨ (u = 5 ∧ gyr u = 1) ∨ (u = 4 ∧ gyr u = 2) ∨ (u = 3 ∧ gyr u = 4) ∨ (u ≤ 2 ∧ gyr u = 5) := by
  unfold gyr
  by_cases h0 : 6 ≤ u
  · exact .inl ⟨h0, if_pos h0⟩
  by_cases h1 : u = 5
  · subst h1; exact .inr (.inl ⟨rfl, by decide⟩)
  by_cases h2 : u = 4
  · subst h2; exact .inr (.inr (.inl ⟨rfl, by decide⟩))
  by_cases h3 : u = 3
  · subst h3; exact .inr (.inr (.inr (.inl ⟨rfl, by decide⟩)))
  · exact .inr (.inr (.inr (.inr ⟨by omega, by rw [if_neg h0, if_neg h1, if_neg h2, if_neg h3]⟩)))
/-- the mode of the worse (x) and the better (y) of both statuses -/
def airS (x y : Int) : Int := if x ≤ 0 then 0 else if x = 1 then 1 else if y < 2 then 2 else 4
theorem airS_cases (x y : Int) : (x ≤ 0 ∧ airS x y = 0) ∨ (x = 1 ∧ airS x y = 1) ∨ (2 ≤ x ∧ y < 2 ∧ airS x y = 2) ∨ (2 ≤ x ∧ 2 ≤ y ∧ airS x y = 4) := by
  unfold airS
  by_cases h0 : x ≤ 0
  · exact .inl ⟨h0, if_pos h0⟩
  by_cases h1 : x = 1
  · subst h1; exact .inr (.inl ⟨rfl, by rw [if_neg h0, if_pos rfl]⟩)
  by_cases h2 : y < 2
  · exact .inr (.inr (.inl ⟨by omega, h2, by rw [if_neg h0, if_neg h1, if_pos h2]⟩))
  · exact .inr (.inr (.inr ⟨by omega, by omega, by rw [if_neg h0, if_neg h1, if_neg h2]⟩))
def air (a s : Int) : Int := airS (max a s) (min a s)
def m0 (l : La) : Int := max (gyr l.u) (air l.al l.sp)
def m1 (l : La) : Int := if l.fo = true then max (m0 l) 2 else m0 l
def m2 (l : La) : Int := if l.am = true then max (m1 l) 3 else m1 l
def mode (l : La) : Int := if l.no = true then 5 else m2 l
theorem gyr_le (u : Int) : 0 ≤ gyr u ∧ gyr u ≤ 5 := by rcases gyr_cases u with ⟨_, e⟩ | ⟨_, e⟩ | ⟨_, e⟩ | ⟨_, e⟩ | ⟨_, e⟩ <;> rw [e] <;> decide
theorem airS_le (x y : Int) : 0 ≤ airS x y ∧ airS x y ≤ 4 := by rcases airS_cases x y with ⟨_, e⟩ | ⟨_, e⟩ | ⟨_, _, e⟩ | ⟨_, _, e⟩ <;> rw [e] <;> decide
theorem m0_le (l : La) : 0 ≤ m0 l ∧ m0 l ≤ 5 := by
  have h1 := gyr_le l.u; have h2 := airS_le (max l.al l.sp) (min l.al l.sp)
  unfold m0 air; omega
theorem m1_le (l : La) : 0 ≤ m1 l ∧ m1 l ≤ 5 := by have := m0_le l; unfold m1; split <;> omega
theorem m2_le (l : La) : 0 ≤ m2 l ∧ m2 l ≤ 5 := by have := m1_le l; unfold m2; split <;> omega
theorem mode_le (l : La) : 0 ≤ mode l ∧ mode l ≤ 5 := by have := m2_le l; unfold mode; split <;> omega

/-- a is nowhere better than b -/
def worse (a b : La) : Bool := decide (a.u ≤ b.u) && decide (b.al ≤ a.al) && decide (b.sp ≤ a.sp) && (a.am || !b.am) && (a.fo || !b.fo) && (a.no || !b.no)
theorem gyr_anti {u v : Int} (h : u ≤ v) : gyr v ≤ gyr u := by
  rcases gyr_cases u with ⟨_, e⟩ | ⟨_, e⟩ | ⟨_, e⟩ | ⟨_, e⟩ | ⟨_, e⟩ <;> rcases gyr_cases v with ⟨_, f⟩ | ⟨_, f⟩ | ⟨_, f⟩ | ⟨_, f⟩ | ⟨_, f⟩ <;> omega
theorem airS_mono {x y X Y : Int} (h : x ≤ X) (k : y ≤ Y) : airS x y ≤ airS X Y := by
  rcases airS_cases x y with ⟨_, e⟩ | ⟨_, e⟩ | ⟨_, _, e⟩ | ⟨_, _, e⟩ <;> rcases airS_cases X Y with ⟨_, f⟩ | ⟨_, f⟩ | ⟨_, _, f⟩ | ⟨_, _, f⟩ <;> omega
theorem worse_parts {a b : La} (h : worse a b = true) : a.u ≤ b.u ∧ b.al ≤ a.al ∧ b.sp ≤ a.sp ∧ (b.am = true → a.am = true) ∧ (b.fo = true → a.fo = true) ∧ (b.no = true → a.no = true) := by
  unfold worse at h
  simp only [Bool.and_eq_true, decide_eq_true_eq] at h
  obtain ⟨⟨⟨⟨⟨h1, h2⟩, h3⟩, h4⟩, h5⟩, h6⟩ := h
  refine ⟨h1, h2, h3, fun e => ?_, fun e => ?_, fun e => ?_⟩
  · rw [e] at h4; simpa using h4
  · rw [e] at h5; simpa using h5
  · rw [e] at h6; simpa using h6
theorem worse_mode {a b : La} (h : worse a b = true) : mode b ≤ mode a := by
  obtain ⟨h1, h2, h3, h4, h5, h6⟩ := worse_parts h
  have g := gyr_anti h1
  have i : air b.al b.sp ≤ air a.al a.sp := airS_mono (by omega) (by omega)
  have k0 : m0 b ≤ m0 a := by unfold m0; omega
  have k1 : m1 b ≤ m1 a := by
    unfold m1
    by_cases c : b.fo = true
    · rw [if_pos c, if_pos (h5 c)]; omega
    · rw [if_neg c]; split <;> omega
  have k2 : m2 b ≤ m2 a := by
    unfold m2
    by_cases c : b.am = true
    · rw [if_pos c, if_pos (h4 c)]; omega
    · rw [if_neg c]; split <;> omega
  have := m2_le b
  unfold mode
  by_cases c : b.no = true
  · rw [if_pos c, if_pos (h6 c)]; omega
  · rw [if_neg c]; split <;> omega
theorem worse_eq {a b : La} (h : worse a b = true) (k : worse b a = true) : a = b := by
  obtain ⟨h1, h2, h3, h4, h5, h6⟩ := worse_parts h
  obtain ⟨k1, k2, k3, k4, k5, k6⟩ := worse_parts k
  obtain ⟨au, am, aa, ax, af, an⟩ := a
  obtain ⟨bu, bm, ba, bx, bf, bn⟩ := b
  simp only at h1 h2 h3 h4 h5 h6 k1 k2 k3 k4 k5 k6
  obtain rfl : au = bu := by omega
  obtain rfl : aa = ba := by omega
  obtain rfl : ax = bx := by omega
  obtain rfl : am = bm := Bool.eq_iff_iff.2 ⟨k4, h4⟩
  obtain rfl : af = bf := Bool.eq_iff_iff.2 ⟨k5, h5⟩
  obtain rfl : an = bn := Bool.eq_iff_iff.2 ⟨k6, h6⟩
  rfl
theorem worse_self (a : La) : worse a a = true := by
  unfold worse
  simp only [Int.le_refl, decide_true, Bool.true_and]
  cases a.am <;> cases a.fo <;> cases a.no <;> rfl

/-- what the modes are called -/
def names : List (List UInt8) := [[70, 85, 76, 76], [70, 65, 73, 76, 45, 79, 80], [70, 65, 73, 76, 45, 83, 65, 70, 69], [65, 77, 66, 73, 71, 85, 79, 85, 83], [82, 65, 84, 69, 45, 79, 78, 76, 89], [78, 65, 86, 45, 76, 79, 83, 84]]
def nmN (i : Nat) : ByteArray := ⟨(names.getD i []).toArray⟩
def nm (m : Int) : ByteArray := if m < 0 then ⟨#[]⟩ else nmN m.toNat
theorem nm_cases (m : Int) : ((m < 0 ∨ 6 ≤ m) ∧ nm m = ⟨#[]⟩) ∨ m = 0 ∨ m = 1 ∨ m = 2 ∨ m = 3 ∨ m = 4 ∨ m = 5 := by
  by_cases h : m < 0
  · exact .inl ⟨.inl h, if_pos h⟩
  by_cases k : 6 ≤ m
  · refine .inl ⟨.inr k, ?_⟩
    unfold nm nmN
    rw [if_neg h, List.getD_eq_getElem?_getD, List.getElem?_eq_none (by show 6 ≤ _; omega)]
    rfl
  · omega

theorem nm_some {m : Int} (h0 : 0 ≤ m) (h5 : m ≤ 5) : (nm m).toList.isEmpty = false := by
  rcases (show m = 0 ∨ m = 1 ∨ m = 2 ∨ m = 3 ∨ m = 4 ∨ m = 5 by omega) with rfl | rfl | rfl | rfl | rfl | rfl <;> decide +kernel
theorem nm_other {m n : Int} (h0 : 0 ≤ m) (h5 : m ≤ 5) (k0 : 0 ≤ n) (k5 : n ≤ 5) (h : ¬ m = n) : ((nm m).toList == (nm n).toList) = false := by
  rcases (show m = 0 ∨ m = 1 ∨ m = 2 ∨ m = 3 ∨ m = 4 ∨ m = 5 by omega) with rfl | rfl | rfl | rfl | rfl | rfl <;> rcases (show n = 0 ∨ n = 1 ∨ n = 2 ∨ n = 3 ∨ n = 4 ∨ n = 5 by omega) with rfl | rfl | rfl | rfl | rfl | rfl <;>
    first | exact absurd rfl h | decide +kernel

/-- what the mode comes of -/
def cause (l : La) : ByteArray :=
  if mode l = 0 then ⟨#[]⟩ else if l.no = true then ⟨#[104, 121, 112, 111, 116, 104, 101, 115, 101, 115]⟩ else if gyr l.u = mode l then ⟨#[103, 121, 114, 111, 115]⟩
  else if air l.al l.sp = mode l then ⟨#[97, 105, 114]⟩ else if l.am = true ∧ mode l = 3 then ⟨#[97, 109, 98, 105, 103, 117, 105, 116, 121]⟩ else ⟨#[109, 101, 109, 111, 114, 121]⟩

theorem cause_none (l : La) : (cause l).toList.isEmpty = decide (mode l = 0) := by
  unfold cause
  by_cases h : mode l = 0
  · rw [if_pos h, decide_eq_true h]; decide +kernel
  · rw [if_neg h, decide_eq_false h]
    repeat' split
    all_goals decide +kernel

/-- all plain latches -/
def lat (n : Nat) : La := ⟨6 - (n / 9 : Nat), false, (n / 3 % 3 : Nat), (n % 3 : Nat), false, false⟩
def allN (n : Nat) : List La := (List.range n).map lat
theorem allN_next (n : Nat) : allN (n + 1) = allN n ++ [lat n] := by unfold allN; rw [List.range_succ, List.map_append]; rfl
theorem allN_len (n : Nat) : (allN n).length = n := by unfold allN; rw [List.length_map, List.length_range]
def la0 : La := ⟨0, false, 0, 0, false, false⟩
theorem allN_at {n j : Nat} (h : j < n) : (allN n).getD j la0 = lat j := by
  unfold allN
  rw [List.getD_eq_getElem?_getD, List.getElem?_map, List.getElem?_range h]
  rfl
theorem lat_at (i a s : Nat) (ha : a < 3) (hs : s < 3) : lat (9 * i + 3 * a + s) = ⟨6 - (i : Int), false, a, s, false, false⟩ := by
  unfold lat
  rw [show (9 * i + 3 * a + s) / 9 = i by omega, show (9 * i + 3 * a + s) / 3 % 3 = a by omega, show (9 * i + 3 * a + s) % 3 = s by omega]
/-- the first that has the mode, from the j-th on -/
def bst (m : Int) : Nat → Nat → La × Bool
  | 0, _ => (la0, false)
  | n + 1, j => if mode (lat j) = m then (lat j, true) else bst m n (j + 1)
def bestR (m : Int) (j : Nat) : La × Bool := bst m (63 - j) j
theorem best_end (m : Int) : bestR m 63 = (la0, false) := rfl
theorem best_hit {m : Int} {j : Nat} (h : j < 63) (e : mode (lat j) = m) : bestR m j = (lat j, true) := by
  unfold bestR
  rw [show 63 - j = (62 - j) + 1 by omega]
  exact if_pos e
theorem best_next {m : Int} {j : Nat} (h : j < 63) (e : ¬ mode (lat j) = m) : bestR m j = bestR m (j + 1) := by
  unfold bestR
  rw [show 63 - j = (62 - j) + 1 by omega, show 63 - (j + 1) = 62 - j by omega]
  exact if_neg e
theorem bst_mode (m : Int) : ∀ n j, (bst m n j).2 = true → mode (bst m n j).1 = m
  | 0, _, h => by cases h
  | n + 1, j, h => by
    unfold bst at h ⊢
    by_cases e : mode (lat j) = m
    · rw [if_pos e]; exact e
    · rw [if_neg e] at h ⊢
      exact bst_mode m n (j + 1) h
theorem bst_has (m : Int) : ∀ n j i, j ≤ i → i < j + n → mode (lat i) = m → (bst m n j).2 = true
  | 0, j, i, h, k, _ => by omega
  | n + 1, j, i, h, k, e => by
    unfold bst
    by_cases c : mode (lat j) = m
    · rw [if_pos c]
    · rw [if_neg c]
      refine bst_has m n (j + 1) i ?_ (by omega) e
      have : j ≠ i := fun q => c (q ▸ e)
      omega
theorem best_mode (m : Int) (h : (bestR m 0).2 = true) : mode (bestR m 0).1 = m := bst_mode m 63 0 h
theorem best_has (m : Int) (i : Nat) (h : i < 63) (e : mode (lat i) = m) : (bestR m 0).2 = true := bst_has m 63 0 i (Nat.zero_le _) (by omega) e

abbrev lc (l : La) : List Value := [.int .i64 l.u, .bool l.am, .int .i64 l.al, .int .i64 l.sp, .bool l.fo, .bool l.no]
abbrev lv (l : La) : Value := .agg #[.int .i64 l.u, .bool l.am, .int .i64 l.al, .int .i64 l.sp, .bool l.fo, .bool l.no]
end Ld
end Go.Proofs.YtldbkompebefmaaDoor
