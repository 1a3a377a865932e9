/- Spans of whole numbers, as plain integers: what is held at the greatest and the least number of 64 bits, products, squares, quotients, middles. No program is named here. -/
namespace Go.Proofs.YtldbkompebefmaaDoor.Sp

def least : Int := -9223372036854775808
def greatest : Int := 9223372036854775807
/-- held at the greatest and the least number -/
def sat (x : Int) : Int := if x < -9223372036854775808 then -9223372036854775808 else if 9223372036854775807 < x then 9223372036854775807 else x
def R6 (x : Int) : Prop := -9223372036854775808 ≤ x ∧ x ≤ 9223372036854775807

theorem sat_r6 (x : Int) : R6 (sat x) := by unfold sat R6; split <;> (try split) <;> omega
theorem sat_in {x : Int} (h : R6 x) : sat x = x := by unfold R6 at h; unfold sat; rw [if_neg (by omega), if_neg (by omega)]
theorem sat_mono {x y : Int} (h : x ≤ y) : sat x ≤ sat y := by unfold sat; split <;> split <;> (try split) <;> (try split) <;> omega
theorem sat_le {x y : Int} (hy : R6 y) (h : x ≤ y) : sat x ≤ y := by unfold R6 at hy; unfold sat; split <;> (try split) <;> omega
theorem le_sat {x y : Int} (hy : R6 y) (h : y ≤ x) : y ≤ sat x := by unfold R6 at hy; unfold sat; split <;> (try split) <;> omega
theorem sat_neg {x : Int} : sat (sat x) = sat x := sat_in (sat_r6 x)

/-- a number x times y lies between the products of x with both ends that hold y -/
theorem mul_between {x c d y : Int} (h1 : c ≤ y) (h2 : y ≤ d) : min (x * c) (x * d) ≤ x * y ∧ x * y ≤ max (x * c) (x * d) := by
  by_cases h : 0 ≤ x
  · have a := Int.mul_le_mul_of_nonneg_left h1 h
    have b := Int.mul_le_mul_of_nonneg_left h2 h
    omega
  · have a := Int.mul_le_mul_of_nonpos_left (show x ≤ 0 by omega) h1
    have b := Int.mul_le_mul_of_nonpos_left (show x ≤ 0 by omega) h2
    omega

/-- products: from the least to the greatest of the ends' products -/
theorem mul_span {a b c d x y : Int} (x1 : a ≤ x) (x2 : x ≤ b) (y1 : c ≤ y) (y2 : y ≤ d) :
    min (min (a * c) (a * d)) (min (b * c) (b * d)) ≤ x * y ∧ x * y ≤ max (max (a * c) (a * d)) (max (b * c) (b * d)) := by
  have p := mul_between (x := x) y1 y2
  have q := mul_between (x := c) x1 x2
  have r := mul_between (x := d) x1 x2
  rw [Int.mul_comm c a, Int.mul_comm c b, Int.mul_comm c x] at q
  rw [Int.mul_comm d a, Int.mul_comm d b, Int.mul_comm d x] at r
  omega

/-- squares: the greater end's, and the lesser end's or 0 -/
theorem square_span {a b x : Int} (x1 : a ≤ x) (x2 : x ≤ b) :
    (if a ≤ 0 ∧ 0 ≤ b then 0 else min (a * a) (b * b)) ≤ x * x ∧ x * x ≤ max (a * a) (b * b) := by
  have e := mul_span x1 x2 x1 x2
  have s : 0 ≤ x * x := by
    by_cases h : 0 ≤ x
    · exact Int.mul_nonneg h h
    · exact Int.mul_nonneg_of_nonpos_of_nonpos (by omega) (by omega)
  have top : x * x ≤ max (a * a) (b * b) := by
    by_cases h : 0 ≤ x
    · have := Int.mul_le_mul x2 x2 h (by omega)
      omega
    · have := Int.mul_le_mul (show -x ≤ -a by omega) (show -x ≤ -a by omega) (by omega) (by omega)
      rw [Int.neg_mul_neg, Int.neg_mul_neg] at this
      omega
  refine ⟨?_, top⟩
  split
  · exact s
  · rename_i n
    by_cases h : 0 < a
    · have := Int.mul_le_mul x1 x1 (by omega) (by omega)
      omega
    · have := Int.mul_le_mul (show -b ≤ -x by omega) (show -b ≤ -x by omega) (by omega) (by omega)
      rw [Int.neg_mul_neg, Int.neg_mul_neg] at this
      omega

/-- the least whole number that times d is not below x -/
def up (x d : Int) : Int := -(-x / d)
theorem quot_span {lo hi d n : Int} (hd : 0 < d) : (lo ≤ n * d ∧ n * d ≤ hi) ↔ (up lo d ≤ n ∧ n ≤ hi / d) := by
  have a : n * d ≤ hi ↔ n ≤ hi / d := (Int.le_ediv_iff_mul_le hd).symm
  have b : lo ≤ n * d ↔ up lo d ≤ n := by
    unfold up
    have h : -n ≤ -lo / d ↔ -n * d ≤ -lo := Int.le_ediv_iff_mul_le hd
    rw [Int.neg_mul] at h
    omega
  rw [a, b]

/-- the middle, rounded down, and how far the farther end is from it -/
def mid (lo hi : Int) : Int := lo + (hi - lo) / 2
def half (lo hi : Int) : Int := (hi - lo + 1) / 2
theorem mid_in {lo hi : Int} (h : lo ≤ hi) : lo ≤ mid lo hi ∧ mid lo hi ≤ hi := by unfold mid; omega
theorem mid_far {lo hi x : Int} (h1 : lo ≤ x) (h2 : x ≤ hi) : x - mid lo hi ≤ half lo hi ∧ mid lo hi - x ≤ half lo hi := by unfold mid half; omega

/-- a span as it is answered: the empty one is that from 1 to 0 -/
def oL (l h : Int) : Int := if h < l then 1 else l
def oH (l h : Int) : Int := if h < l then 0 else h
def has (l h x : Int) : Bool := decide (l ≤ x ∧ x ≤ h)
theorem oL_out {l h : Int} (c : h < l) : oL l h = 1 := if_pos c
theorem oH_out {l h : Int} (c : h < l) : oH l h = 0 := if_pos c
theorem oL_in {l h : Int} (c : ¬ h < l) : oL l h = l := if_neg c
theorem oH_in {l h : Int} (c : ¬ h < l) : oH l h = h := if_neg c
theorem o_empty {l h : Int} : oH l h < oL l h ↔ h < l := by unfold oL oH; split <;> omega
theorem has_o {l h x : Int} : has (oL l h) (oH l h) x = has l h x := by unfold has oL oH; split <;> rw [decide_eq_decide] <;> omega

/-- the hull's ends -/
def hullL (a b c d : Int) : Int := if b < a then c else if d < c then a else oL (min a c) (max b d)
def hullH (a b c d : Int) : Int := if b < a then d else if d < c then b else oH (min a c) (max b d)

/-- x if either span is empty, else y -/
def sel (a b c d x y : Int) : Int := if b < a then x else if d < c then x else y
theorem sel_a {a b c d x y : Int} (h : b < a) : sel a b c d x y = x := if_pos h
theorem sel_b {a b c d x y : Int} (h : d < c) : sel a b c d x y = x := by unfold sel; rw [if_pos h]; split <;> rfl
theorem sel_in {a b c d x y : Int} (h : ¬ b < a) (g : ¬ d < c) : sel a b c d x y = y := by unfold sel; rw [if_neg h, if_neg g]

/-- the least and the greatest of the ends' products, held -/
def mulL (a b c d : Int) : Int := min (min (min (sat (a * c)) (sat (a * d))) (sat (b * c))) (sat (b * d))
def mulH (a b c d : Int) : Int := max (max (max (sat (a * c)) (sat (a * d))) (sat (b * c))) (sat (b * d))
/-- squares' ends -/
def sqL (a b : Int) : Int := if has a b 0 then 0 else min (sat (a * a)) (sat (b * b))
def sqH (a b : Int) : Int := max (sat (a * a)) (sat (b * b))
/-- widened either way -/
def widL (a b y : Int) : Int := if b < a ∨ y < 0 then a else oL (sat (a + -y)) (sat (b + y))
def widH (a b y : Int) : Int := if b < a ∨ y < 0 then b else oH (sat (a + -y)) (sat (b + y))

/-- both parts -/
def s1L (a b : Int) : Int := if b ≤ a then a else oL a ((a + b) / 2)
def s1H (a b : Int) : Int := if b ≤ a then b else oH a ((a + b) / 2)
def s2L (a b : Int) : Int := if b ≤ a then 1 else oL ((a + b) / 2 + 1) b
def s2H (a b : Int) : Int := if b ≤ a then 0 else oH ((a + b) / 2 + 1) b

/-- how far the nearer ends are apart -/
def gap (a b c d : Int) : Int := if b < a then 0 else if d < c then 0 else if max a c ≤ min b d then 0 else sat (max a c - min b d)

/-- both parts have what the span has, and share nothing -/
theorem split_has (a b x : Int) : has (s1L a b) (s1H a b) x = true ∧ has (s2L a b) (s2H a b) x = false ∧ has a b x = true ∨ has (s1L a b) (s1H a b) x = false ∧ has (s2L a b) (s2H a b) x = true ∧ has a b x = true ∨ has (s1L a b) (s1H a b) x = false ∧ has (s2L a b) (s2H a b) x = false ∧ has a b x = false := by
  unfold s1L s1H s2L s2H
  by_cases h : b ≤ a
  · simp only [if_pos h]
    unfold has
    by_cases k : a ≤ x ∧ x ≤ b
    · exact Or.inl ⟨decide_eq_true k, decide_eq_false (by omega), decide_eq_true k⟩
    · exact Or.inr (Or.inr ⟨decide_eq_false k, decide_eq_false (by omega), decide_eq_false k⟩)
  · simp only [if_neg h]
    rw [has_o, has_o]
    unfold has
    by_cases k : a ≤ x ∧ x ≤ b
    · by_cases m : x ≤ (a + b) / 2
      · exact Or.inl ⟨decide_eq_true (by omega), decide_eq_false (by omega), decide_eq_true k⟩
      · exact Or.inr (Or.inl ⟨decide_eq_false (by omega), decide_eq_true (by omega), decide_eq_true k⟩)
    · exact Or.inr (Or.inr ⟨decide_eq_false (by omega), decide_eq_false (by omega), decide_eq_false k⟩)

theorem gap_same (a b c d : Int) : gap c d a b = gap a b c d := by
  unfold gap
  rw [Int.max_comm c a, Int.min_comm d b]
  split <;> split <;> (first | rfl | skip) <;> split <;> rfl

theorem sat_pos {x : Int} (h : 0 < x) : 0 < sat x := by unfold sat; split <;> (try split) <;> omega

/-- a gap is there just where both have numbers and none in common -/
theorem gap_pos (a b c d : Int) : decide (b < a) = true ∧ decide (0 < gap a b c d) = false ∨ decide (b < a) = false ∧ decide (d < c) = true ∧ decide (0 < gap a b c d) = false
    ∨ decide (b < a) = false ∧ decide (d < c) = false ∧ decide (oH (max a c) (min b d) < oL (max a c) (min b d)) = true ∧ 0 < gap a b c d
    ∨ decide (b < a) = false ∧ decide (d < c) = false ∧ decide (oH (max a c) (min b d) < oL (max a c) (min b d)) = false ∧ decide (0 < gap a b c d) = false := by
  unfold gap
  by_cases h1 : b < a
  · rw [if_pos h1]; exact Or.inl ⟨decide_eq_true h1, by decide⟩
  rw [if_neg h1]
  by_cases h2 : d < c
  · rw [if_pos h2]; exact Or.inr (Or.inl ⟨decide_eq_false h1, decide_eq_true h2, by decide⟩)
  rw [if_neg h2]
  by_cases h3 : max a c ≤ min b d
  · rw [if_pos h3]; exact Or.inr (Or.inr (Or.inr ⟨decide_eq_false h1, decide_eq_false h2, decide_eq_false (fun e => absurd (o_empty.1 e) (by omega)), by decide⟩))
  · rw [if_neg h3]; exact Or.inr (Or.inr (Or.inl ⟨decide_eq_false h1, decide_eq_false h2, decide_eq_true (o_empty.2 (by omega)), sat_pos (by omega)⟩))

end Go.Proofs.YtldbkompebefmaaDoor.Sp
