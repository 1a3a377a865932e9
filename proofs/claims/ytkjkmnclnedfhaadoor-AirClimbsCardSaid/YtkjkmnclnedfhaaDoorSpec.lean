/- What the calls of package fixq are said to answer, as plain functions on whole numbers. No program is named here. -/
namespace Go.Proofs.YtkjkmnclnedfhaaDoor.Fix

/-- whether a number has room in 64 bits -/
def Room (x : Int) : Prop := -9223372036854775808 ≤ x ∧ x ≤ 9223372036854775807
instance (x : Int) : Decidable (Room x) := inferInstanceAs (Decidable (_ ∧ _))
/-- the number, or 0 where it has no room; and its error -/
def okV (x : Int) : Int := if Room x then x else 0
def okE (x : Int) : Int := if Room x then 0 else 8

theorem okV_in {x : Int} (h : -9223372036854775808 ≤ x ∧ x ≤ 9223372036854775807) : okV x = x := if_pos h
theorem okE_in {x : Int} (h : -9223372036854775808 ≤ x ∧ x ≤ 9223372036854775807) : okE x = 0 := if_pos h
theorem okV_out {x : Int} (h : ¬(-9223372036854775808 ≤ x ∧ x ≤ 9223372036854775807)) : okV x = 0 := if_neg h
theorem okE_out {x : Int} (h : ¬(-9223372036854775808 ≤ x ∧ x ≤ 9223372036854775807)) : okE x = 8 := if_neg h
theorem okV_room (x : Int) : Room (okV x) := by
  unfold okV; split
  · assumption
  · exact ⟨by decide, by decide⟩
theorem okE_cases (x : Int) : okE x = 0 ∧ okV x = x ∧ Room x ∨ okE x = 8 ∧ okV x = 0 ∧ ¬ Room x := by
  by_cases h : Room x
  · exact Or.inl ⟨if_pos h, if_pos h, h⟩
  · exact Or.inr ⟨if_neg h, if_neg h, h⟩

def sat (a b : Int) : Int := if 9223372036854775807 < a + b then 9223372036854775807 else if a + b < -9223372036854775808 then -9223372036854775808 else a + b
def neg (a : Int) : Int := if a = -9223372036854775808 then 9223372036854775807 else -a
def abs (a : Int) : Int := if a < 0 then neg a else a
/-- a / b rounded down, b not 0 -/
def flr (a b : Int) : Int := if 0 < b then a / b else (-a) / (-b)
def floorV (a b : Int) : Int := if b = 0 then 0 else okV (flr a b)
def floorE (a b : Int) : Int := if b = 0 then 1 else okE (flr a b)
def ceilV (a b : Int) : Int := if b = 0 then 0 else okV (-(flr (-a) b))
def ceilE (a b : Int) : Int := if b = 0 then 1 else okE (-(flr (-a) b))
def roundV (a b : Int) : Int := if b = 0 then 0 else if floorE a b = 0 then flr (2 * a + b) (2 * b) else 0
def roundE (a b : Int) : Int := floorE a b
def clamp (a low high : Int) : Int := max (min a high) low
def mulDivV (a b d : Int) : Int := if d < 1 then 0 else okV (a * b / d)
def mulDivE (a b d : Int) : Int := if d < 1 then 1 else okE (a * b / d)
def mean (a b : Int) : Int := (a + b) / 2
def slew (old now most : Int) : Int := if most < 0 then old else clamp now (sat old (neg most)) (sat old most)
def wrap (a turn : Int) : Int := if turn < 1 then 0 else if (turn - 1) / 2 < a % turn then a % turn - turn else a % turn
def shiftV (a n : Int) : Int := if n < -63 ∨ 62 < n then 0 else if n < 1 then a / 2 ^ (-n).toNat else okV (a * 2 ^ n.toNat)
def shiftE (a n : Int) : Int := if n < -63 ∨ 62 < n then 1 else if n < 1 then 0 else okE (a * 2 ^ n.toNat)

/-- floor by the sign of the divisor -/
theorem flr_pos {a b : Int} (h : 0 < b) : flr a b = a / b := if_pos h
theorem flr_neg {a b : Int} (h : b < 0) : flr a b = (-a) / (-b) := if_neg (by omega)

/-- between the floor and one more -/
theorem flr_le (a b : Int) (h : b ≠ 0) : (0 < b → flr a b * b ≤ a ∧ a < (flr a b + 1) * b) ∧ (b < 0 → a ≤ flr a b * b ∧ (flr a b + 1) * b < a) := by
  refine ⟨fun hb => ?_, fun hb => ?_⟩
  · rw [flr_pos hb]
    have h1 := Int.emod_add_mul_ediv a b
    have h2 := Int.emod_nonneg a h
    have h3 := Int.emod_lt_of_pos a hb
    rw [Int.add_mul, Int.one_mul, Int.mul_comm (a / b) b]
    omega
  · rw [flr_neg hb]
    have h1 := Int.emod_add_mul_ediv (-a) (-b)
    have h2 := Int.emod_nonneg (-a) (show -b ≠ 0 by omega)
    have h3 := Int.emod_lt_of_pos (-a) (show 0 < -b by omega)
    rw [Int.add_mul, Int.one_mul, Int.mul_comm (-a / -b) b]
    rw [Int.neg_mul] at h1
    omega

/-- what the floor is: the only number that lies so -/
theorem flr_eq_pos {a b q : Int} (hb : 0 < b) (h1 : q * b ≤ a) (h2 : a < (q + 1) * b) : flr a b = q := by
  rw [flr_pos hb]
  have e := Int.ediv_nonneg (a := a - q * b) (b := b) (by omega) (by omega)
  have e2 : (a - q * b) / b = 0 := Int.ediv_eq_zero_of_lt (by omega) (by rw [Int.add_mul, Int.one_mul] at h2; omega)
  have e3 : a / b = (a - q * b + q * b) / b := by rw [Int.sub_add_cancel]
  rw [e3, Int.add_mul_ediv_right _ _ (by omega), e2, Int.zero_add]

theorem flr_eq_neg {a b q : Int} (hb : b < 0) (h1 : a ≤ q * b) (h2 : (q + 1) * b < a) : flr a b = q := by
  rw [flr_neg hb, ← flr_pos (show 0 < -b by omega)]
  refine flr_eq_pos (by omega) ?_ ?_
  · rw [Int.mul_neg]; omega
  · rw [Int.mul_neg]; omega

/-- Go's own quotient and what is left, as the floor's: all cases by their signs -/
structure Quo (a b t m : Int) : Prop where
  whole : b * t + m = a
  left : m.natAbs < b.natAbs
  side : 0 ≤ a → 0 ≤ m
  side' : a ≤ 0 → m ≤ 0
  room : m ≠ 0 → -4611686018427387904 ≤ t ∧ t ≤ 4611686018427387904
  room' : ¬(a = -9223372036854775808 ∧ b = -1) → -9223372036854775808 ≤ t ∧ t ≤ 9223372036854775807

theorem quo (a b : Int) (ha : -9223372036854775808 ≤ a ∧ a ≤ 9223372036854775807) (hb : b ≠ 0) : Quo a b (a.tdiv b) (a.tmod b) := by
  have hw := Int.mul_tdiv_add_tmod a b
  have hm : (a.tmod b).natAbs < b.natAbs := by rw [Int.natAbs_tmod]; exact Nat.mod_lt _ (by omega)
  have hq : (a.tdiv b).natAbs = a.natAbs / b.natAbs := Int.natAbs_tdiv a b
  have h0 : 0 ≤ a → 0 ≤ a.tmod b := Int.tmod_nonneg b
  have h0' : a ≤ 0 → a.tmod b ≤ 0 := by
    intro h
    have := Int.tmod_nonneg b (show 0 ≤ -a by omega)
    rw [Int.neg_tmod] at this; omega
  refine ⟨hw, hm, h0, h0', fun hne => ?_, fun hne => ?_⟩
  · have h2 : 2 ≤ b.natAbs := by omega
    have := Nat.div_le_div_left (a := a.natAbs) h2 (by omega)
    rw [← hq] at this
    omega
  · by_cases h1 : b.natAbs = 1
    · rcases Int.natAbs_eq_iff.1 h1 with e | e
      · subst e; simp at *; omega
      · have e' : b = -1 := by omega
        subst e'
        have : (a.tdiv (-1)) = -a := by rw [Int.tdiv_neg, Int.tdiv_one]
        omega
    · have h2 : 2 ≤ b.natAbs := by omega
      have := Nat.div_le_div_left (a := a.natAbs) h2 (by omega)
      rw [← hq] at this
      omega

/-- where what is left is on the divisor's side, or nothing, Go's quotient is the floor -/
theorem Quo.same {a b t m : Int} (q : Quo a b t m) (h : m = 0 ∨ (m < 0 ↔ b < 0)) (hb : b ≠ 0) : flr a b = t ∧ a - flr a b * b = m := by
  have hw := q.whole; have hl := q.left
  have e : flr a b = t := by
    rcases Int.lt_or_gt_of_ne hb with n | n
    · refine flr_eq_neg n ?_ ?_ <;> (try rw [Int.add_mul, Int.one_mul]) <;> rw [Int.mul_comm t b] <;> omega
    · refine flr_eq_pos n ?_ ?_ <;> (try rw [Int.add_mul, Int.one_mul]) <;> rw [Int.mul_comm t b] <;> omega
  refine ⟨e, ?_⟩
  rw [e, Int.mul_comm]; omega

/-- elsewhere it is one above -/
theorem Quo.less {a b t m : Int} (q : Quo a b t m) (h : ¬(m = 0 ∨ (m < 0 ↔ b < 0))) (hb : b ≠ 0) : flr a b = t - 1 ∧ a - flr a b * b = m + b := by
  have hw := q.whole; have hl := q.left
  have e : flr a b = t - 1 := by
    rcases Int.lt_or_gt_of_ne hb with n | n
    · refine flr_eq_neg n ?_ ?_
      · rw [Int.sub_mul, Int.one_mul, Int.mul_comm t b]; omega
      · rw [Int.sub_add_cancel, Int.mul_comm t b]; omega
    · refine flr_eq_pos n ?_ ?_
      · rw [Int.sub_mul, Int.one_mul, Int.mul_comm t b]; omega
      · rw [Int.sub_add_cancel, Int.mul_comm t b]; omega
  refine ⟨e, ?_⟩
  rw [e, Int.sub_mul, Int.one_mul, Int.mul_comm t b]; omega

theorem flr_over : flr (-9223372036854775808) (-1) = 9223372036854775808 := by decide

theorem flr_room (a b : Int) (ha : Room a) (hb : b ≠ 0) (h1 : ¬(a = -9223372036854775808 ∧ b = -1)) :
    Room (flr a b) ∧ (a - flr a b * b ≠ 0 → -4611686018427387905 ≤ flr a b ∧ flr a b ≤ 4611686018427387904) := by
  have q := quo a b ha hb
  have r := q.room; have r' := q.room' h1
  by_cases h : a.tmod b = 0 ∨ (a.tmod b < 0 ↔ b < 0)
  · obtain ⟨e1, e2⟩ := q.same h hb
    rw [e2, e1]
    exact ⟨r', fun n => by have := r n; omega⟩
  · obtain ⟨e1, e2⟩ := q.less h hb
    have := r (fun n => h (Or.inl n))
    rw [e2, e1]
    exact ⟨⟨by omega, by omega⟩, fun _ => by omega⟩

/-- what the floor leaves lies between 0 and the divisor -/
theorem flr_left (a b : Int) (hb : b ≠ 0) : (0 < b → 0 ≤ a - flr a b * b ∧ a - flr a b * b < b) ∧ (b < 0 → a - flr a b * b ≤ 0 ∧ b < a - flr a b * b) := by
  have h := flr_le a b hb
  rw [Int.add_mul, Int.one_mul] at h
  generalize flr a b * b = X at *
  exact ⟨fun n => by have := h.1 n; omega, fun n => by have := h.2 n; omega⟩

theorem flr_eq {a b q : Int} (hb : b ≠ 0) (hp : 0 < b → 0 ≤ a - q * b ∧ a - q * b < b) (hn : b < 0 → a - q * b ≤ 0 ∧ b < a - q * b) : flr a b = q := by
  rcases Int.lt_or_gt_of_ne hb with n | n
  · have := hn n
    exact flr_eq_neg n (by omega) (by rw [Int.add_mul, Int.one_mul]; omega)
  · have := hp n
    exact flr_eq_pos n (by omega) (by rw [Int.add_mul, Int.one_mul]; omega)

theorem ceil_eq (a b : Int) (hb : b ≠ 0) : -(flr (-a) b) = if a - flr a b * b = 0 then flr a b else flr a b + 1 := by
  have h := flr_left a b hb
  generalize flr a b = q at *
  by_cases e : a - q * b = 0
  · rw [if_pos e]
    have : flr (-a) b = -q := flr_eq hb (fun n => by rw [Int.neg_mul]; have := h.1 n; omega) (fun n => by rw [Int.neg_mul]; have := h.2 n; omega)
    omega
  · rw [if_neg e]
    have : flr (-a) b = -(q + 1) := flr_eq hb
      (fun n => by rw [Int.neg_mul, Int.add_mul, Int.one_mul]; have := h.1 n; omega)
      (fun n => by rw [Int.neg_mul, Int.add_mul, Int.one_mul]; have := h.2 n; omega)
    omega

theorem round_eq (a b : Int) (hb : b ≠ 0) :
    flr (2 * a + b) (2 * b) = if (a - flr a b * b).natAbs < b.natAbs - (a - flr a b * b).natAbs then flr a b else flr a b + 1 := by
  have h := flr_left a b hb
  generalize flr a b = q at *
  have e : ∀ x : Int, x * (2 * b) = 2 * (x * b) := fun x => by rw [Int.mul_left_comm]
  by_cases c : (a - q * b).natAbs < b.natAbs - (a - q * b).natAbs
  · rw [if_pos c]
    refine flr_eq (by omega) (fun n => ?_) (fun n => ?_)
    · rw [e]; have := h.1 (by omega); omega
    · rw [e]; have := h.2 (by omega); omega
  · rw [if_neg c]
    refine flr_eq (by omega) (fun n => ?_) (fun n => ?_)
    · rw [e, Int.add_mul, Int.one_mul]; have := h.1 (by omega); omega
    · rw [e, Int.add_mul, Int.one_mul]; have := h.2 (by omega); omega

end Go.Proofs.YtkjkmnclnedfhaaDoor.Fix
