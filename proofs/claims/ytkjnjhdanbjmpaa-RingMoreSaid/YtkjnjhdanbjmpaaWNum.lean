/- Numbers of 128 bits as whole numbers: their two halves, and what becomes of them. No program is named here. -/
namespace Go.Proofs.Ytkjnjhdanbjmpaa.Wd

/-- the higher half, with its sign -/
def hi (x : Int) : Int := (x / 18446744073709551616 + 9223372036854775808) % 18446744073709551616 - 9223372036854775808
/-- the lower half -/
def lo (x : Int) : Int := x % 18446744073709551616
/-- there is room in 128 bits -/
def Rm (x : Int) : Prop := -170141183460469231731687303715884105728 ≤ x ∧ x ≤ 170141183460469231731687303715884105727
/-- there is room in 64 bits -/
def R6 (x : Int) : Prop := -9223372036854775808 ≤ x ∧ x ≤ 9223372036854775807

theorem hi_rm (x : Int) : -9223372036854775808 ≤ hi x ∧ hi x ≤ 9223372036854775807 := by unfold hi; omega
theorem lo_rm (x : Int) : 0 ≤ lo x ∧ lo x ≤ 18446744073709551615 := by unfold lo; omega

theorem of_halves (h l : Int) (h1 : -9223372036854775808 ≤ h) (h2 : h ≤ 9223372036854775807) (l1 : 0 ≤ l) (l2 : l ≤ 18446744073709551615) :
    hi (h * 18446744073709551616 + l) = h ∧ lo (h * 18446744073709551616 + l) = l ∧ Rm (h * 18446744073709551616 + l) := by
  unfold hi lo Rm; omega

theorem halves (x : Int) (r : Rm x) : x = hi x * 18446744073709551616 + lo x := by
  unfold Rm at r; unfold hi lo; omega

theorem same_iff {x y : Int} (rx : Rm x) (ry : Rm y) (h : hi x = hi y) (l : lo x = lo y) : x = y := by
  rw [halves x rx, halves y ry, h, l]

theorem rm_zero : Rm 0 := by unfold Rm; omega
theorem hi_zero : hi 0 = 0 := by decide
theorem lo_zero : lo 0 = 0 := by decide
theorem rm_of {a : Int} (r : R6 a) : Rm a := by unfold R6 at r; unfold Rm; omega
theorem hi_of {a : Int} (r : R6 a) : hi a = a / 9223372036854775808 := by unfold R6 at r; unfold hi; omega
theorem hi_pos {a : Int} (r : 0 ≤ a) (s : a ≤ 18446744073709551615) : hi a = 0 := by unfold hi; omega
theorem lo_pos {a : Int} (r : 0 ≤ a) (s : a ≤ 18446744073709551615) : lo a = a := by unfold lo; omega

/-- sums -/
theorem lo_add (x y : Int) : (lo x + lo y + 0) % 18446744073709551616 = lo (x + y) := by unfold lo; omega
theorem hi_add (x y : Int) : ((hi x % 18446744073709551616 + hi y % 18446744073709551616 + (lo x + lo y + 0) / 18446744073709551616) % 18446744073709551616 + 9223372036854775808) % 18446744073709551616 - 9223372036854775808 = hi (x + y) := by
  unfold hi lo; omega
theorem carry_le (x y : Int) : 0 ≤ (lo x + lo y + 0) / 18446744073709551616 ∧ (lo x + lo y + 0) / 18446744073709551616 ≤ 1 := by unfold lo; omega

/-- opposites -/
theorem lo_neg (x : Int) : (0 + 18446744073709551616 - lo x - 0) % 18446744073709551616 = lo (-x) := by unfold lo; omega
theorem hi_neg (x : Int) : ((0 + 18446744073709551616 - hi x % 18446744073709551616 - (if 0 < lo x + 0 then 1 else 0)) % 18446744073709551616 + 9223372036854775808) % 18446744073709551616 - 9223372036854775808 = hi (-x) := by
  unfold hi lo; split <;> omega

/-- where one is of the other -/
def sg (x : Int) : Int := if x = 0 then 0 else if x < 0 then -1 else 1
theorem sg_zero {x : Int} (h : x = 0) : sg x = 0 := if_pos h
theorem sg_neg {x : Int} (h : x < 0) : sg x = -1 := by unfold sg; rw [if_neg (by omega), if_pos h]
theorem sg_pos {x : Int} (h : 0 < x) : sg x = 1 := by unfold sg; rw [if_neg (by omega), if_neg (by omega)]
theorem lt_of_hi {x y : Int} (rx : Rm x) (ry : Rm y) (h : hi x < hi y) : x < y := by
  have := lo_rm x; have := lo_rm y; rw [halves x rx, halves y ry]; omega
theorem lt_of_lo {x y : Int} (rx : Rm x) (ry : Rm y) (h : hi x = hi y) (l : lo x < lo y) : x < y := by
  rw [halves x rx, halves y ry]; omega

/-- numbers without sign, of 128 bits -/
theorem hi_uns {x : Int} (h0 : 0 ≤ x) (h1 : x ≤ 340282366920938463463374607431768211455) : hi x % 18446744073709551616 = x / 18446744073709551616 := by unfold hi; omega
theorem hi_mk (h l : Int) (l0 : 0 ≤ l) (l1 : l ≤ 18446744073709551615) :
    hi (h * 18446744073709551616 + l) = (h + 9223372036854775808) % 18446744073709551616 - 9223372036854775808 ∧ lo (h * 18446744073709551616 + l) = l := by
  unfold hi lo; omega

end Go.Proofs.Ytkjnjhdanbjmpaa.Wd
