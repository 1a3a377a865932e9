/- Layer 27 in plain functions: what a source reads, what is kept and what goes, how long it is stuck, its mean. -/
import Derived.Test.YtkjnjhdanbjmpaaRds
namespace Go.Proofs.Ytkjnjhdanbjmpaa

/-- there is such a source, and it reads -/
def readB (r : Rd) (i : Int) : Bool := decide (0 ≤ i) && (decide (i < 12) && r.there.getD i.toNat false)
/-- what it reads -/
def readV (r : Rd) (i : Int) : Int := if readB r i then r.val.getD i.toNat 0 else 0
theorem readV_rm (r : Rd) (i : Int) : -9223372036854775808 ≤ readV r i ∧ readV r i ≤ 9223372036854775807 := by
  unfold readV
  split
  · by_cases h : i.toNat < 12
    · rw [List.getD_eq_getElem?_getD, List.getElem?_eq_getElem (by rw [r.hv]; exact h)]
      exact r.hr _ (List.getElem_mem _)
    · rw [List.getD_eq_getElem?_getD, List.getElem?_eq_none (by rw [r.hv]; omega)]
      exact ⟨by decide, by decide⟩
  · omega
theorem read_no (r : Rd) (i : Int) (h : ¬ (0 ≤ i ∧ i < 12)) : readB r i = false := by
  unfold readB
  by_cases h0 : 0 ≤ i
  · rw [decide_eq_false (show ¬ i < 12 from fun k => h ⟨h0, k⟩), Bool.false_and, Bool.and_false]
  · rw [decide_eq_false h0, Bool.false_and]
theorem read_nat (r : Rd) (i : Nat) (h : i < 12) : readB r i = r.there.getD i false := by
  unfold readB
  rw [decide_eq_true (by omega), decide_eq_true (by omega), Int.toNat_natCast, Bool.true_and, Bool.true_and]
theorem value_nat (r : Rd) (i : Nat) (h : readB r i = true) : readV r i = r.val.getD i 0 := by
  unfold readV
  rw [if_pos h, Int.toNat_natCast]
theorem value_no (r : Rd) (i : Int) (h : readB r i = false) : readV r i = 0 := by
  unfold readV
  rw [h]; rfl
theorem read_zero (i : Int) : readB rd0 i = false := by
  unfold readB
  have : rd0.there.getD i.toNat false = false := by
    show (List.replicate 12 false).getD i.toNat false = false
    rw [List.getD_eq_getElem?_getD, List.getElem?_replicate]
    split <;> rfl
  rw [this, Bool.and_false, Bool.and_false]

/-- those that are kept of all that were pushed, and those that went -/
def keptR (l : List Rd) : List Rd := l.drop (l.length - 8)
def goneR (l : List Rd) : List Rd := l.take (l.length - 8)
theorem gone_kept (l : List Rd) : goneR l ++ keptR l = l := List.take_append_drop _ _
theorem kept_len (l : List Rd) : (keptR l).length = min l.length 8 := by unfold keptR; rw [List.length_drop]; omega
theorem gone_len (l : List Rd) : (goneR l).length = l.length - 8 := by unfold goneR; rw [List.length_take]; omega
theorem push_few (l : List Rd) (r : Rd) (h : l.length < 8) : keptR (l ++ [r]) = keptR l ++ [r] ∧ goneR (l ++ [r]) = goneR l ∧ (keptR l).length < 8 := by
  have e1 : keptR l = l := by unfold keptR; rw [show l.length - 8 = 0 by omega, List.drop_zero]
  have e2 : keptR (l ++ [r]) = l ++ [r] := by unfold keptR; rw [show (l ++ [r]).length - 8 = 0 by rw [List.length_append, List.length_singleton]; omega, List.drop_zero]
  have e3 : goneR l = [] := by unfold goneR; rw [show l.length - 8 = 0 by omega, List.take_zero]
  have e4 : goneR (l ++ [r]) = [] := by unfold goneR; rw [show (l ++ [r]).length - 8 = 0 by rw [List.length_append, List.length_singleton]; omega, List.take_zero]
  rw [e1, e2, e3, e4]
  exact ⟨rfl, rfl, h⟩
theorem push_many (l : List Rd) (r : Rd) (h : 8 ≤ l.length) : keptR (l ++ [r]) = (keptR l ++ [r]).drop 1 ∧ goneR (l ++ [r]) = goneR l ++ [(keptR l ++ [r]).getD 0 rd0] ∧ (keptR l).length = 8 := by
  have hk : (keptR l).length = 8 := by rw [kept_len]; omega
  have hn : (l ++ [r]).length - 8 = (l.length - 8) + 1 := by rw [List.length_append, List.length_singleton]; omega
  have hd : (l ++ [r]).drop (l.length - 8) = keptR l ++ [r] := by unfold keptR; rw [List.drop_append_of_le_length (by omega)]
  refine ⟨?_, ?_, hk⟩
  · show (l ++ [r]).drop ((l ++ [r]).length - 8) = _
    rw [hn, ← List.drop_drop, hd]
  · show (l ++ [r]).take ((l ++ [r]).length - 8) = _
    rw [hn, List.take_add_one, ← hd, List.getD_eq_getElem?_getD, List.getElem?_drop, Nat.add_zero]
    have hlt : l.length - 8 < (l ++ [r]).length := by rw [List.length_append, List.length_singleton]; omega
    rw [List.getElem?_eq_getElem hlt]
    unfold goneR
    rw [List.take_append_of_le_length (by omega)]
    rfl
theorem kept_next (l : List Rd) (j : Nat) (h : j < l.length) : l.take (j + 1) = l.take j ++ [l.getD j rd0] := by
  rw [List.take_add_one, List.getElem?_eq_getElem h]
  simp [List.getD, h]

/-- the readings of a source, one behind the other -/
def vals27 (i : Int) (l : List Rd) : List Int := (l.filter fun r => readB r i).map fun r => readV r i
theorem vals_next (i : Int) (l : List Rd) (j : Nat) (h : j < l.length) : vals27 i (l.take (j + 1)) = if readB (l.getD j rd0) i then vals27 i (l.take j) ++ [readV (l.getD j rd0) i] else vals27 i (l.take j) := by
  unfold vals27
  rw [kept_next l j h, List.filter_append]
  by_cases k : readB (l.getD j rd0) i = true
  · rw [if_pos k, List.filter_cons, if_pos k, List.map_append]; rfl
  · rw [if_neg k, List.filter_cons, if_neg k]; simp
theorem vals_len (i : Int) (l : List Rd) : (vals27 i l).length ≤ l.length := by unfold vals27; rw [List.length_map]; exact List.length_filter_le _ _
def sumV : List Int → Int
  | [] => 0
  | v :: vs => v + sumV vs
theorem sumV_app (vs : List Int) (v : Int) : sumV (vs ++ [v]) = sumV vs + v := by
  induction vs with
  | nil => show v + 0 = 0 + v; omega
  | cons x vs ih => show x + sumV (vs ++ [v]) = x + sumV vs + v; rw [ih]; omega
theorem vals_rm (i : Int) (l : List Rd) : ∀ v ∈ vals27 i l, -9223372036854775808 ≤ v ∧ v ≤ 9223372036854775807 := fun v hv => by
  obtain ⟨r, _, rfl⟩ := List.mem_map.1 hv
  exact readV_rm r i
/-- sums of numbers between two bounds -/
theorem sum_between (lo hi : Int) : ∀ vs : List Int, (∀ v ∈ vs, lo ≤ v ∧ v ≤ hi) → lo * vs.length ≤ sumV vs ∧ sumV vs ≤ hi * vs.length := by
  intro vs
  induction vs with
  | nil => intro _; exact ⟨by simp [sumV], by simp [sumV]⟩
  | cons v vs ih =>
    intro h
    obtain ⟨a, b⟩ := ih fun x hx => h x (List.mem_cons_of_mem _ hx)
    obtain ⟨c, d⟩ := h v (List.mem_cons_self ..)
    rw [List.length_cons]
    push_cast
    rw [Int.mul_add, Int.mul_add, Int.mul_one, Int.mul_one]
    show lo * vs.length + lo ≤ v + sumV vs ∧ v + sumV vs ≤ hi * vs.length + hi
    omega
/-- the mean of all, rounded down -/
def meanV (vs : List Int) : Int := sumV vs / (vs.length : Int)
theorem mean_between (lo hi : Int) (vs : List Int) (h0 : 0 < vs.length) (h : ∀ v ∈ vs, lo ≤ v ∧ v ≤ hi) : lo ≤ meanV vs ∧ meanV vs ≤ hi := by
  obtain ⟨a, b⟩ := sum_between lo hi vs h
  unfold meanV
  constructor
  · exact Int.le_ediv_of_mul_le (by omega) a
  · exact Int.ediv_le_of_le_mul (by omega) b

/-- the last readings of the source that are there and alike: as many as this -/
def Stk (l : List Rd) (i : Int) (v : Int) (n : Nat) : Prop := n ≤ l.length ∧ (∀ j, j < n → readB (l.getD (l.length - 1 - j) rd0) i = true ∧ readV (l.getD (l.length - 1 - j) rd0) i = v) ∧
  (n < l.length → ¬ (readB (l.getD (l.length - 1 - n) rd0) i = true ∧ readV (l.getD (l.length - 1 - n) rd0) i = v))
theorem Stk.one {l : List Rd} {i v : Int} {n m : Nat} (h : Stk l i v n) (k : Stk l i v m) : n = m := by
  obtain ⟨h1, h2, h3⟩ := h
  obtain ⟨k1, k2, k3⟩ := k
  by_cases a : n < m
  · exact absurd (k2 n a) (h3 (by omega))
  · by_cases b : m < n
    · exact absurd (h2 m b) (k3 (by omega))
    · omega
/-- what the last reading tells of the source -/
def lastV (l : List Rd) (i : Int) : Int := readV (l.getD (l.length - 1) rd0) i
open Classical in
noncomputable def stuckN (l : List Rd) (i : Int) : Nat := if h : ∃ n, Stk l i (lastV l i) n then Classical.choose h else 0
theorem stuck_is {l : List Rd} {i : Int} {n : Nat} (h : Stk l i (lastV l i) n) : stuckN l i = n := by
  have hex : ∃ n, Stk l i (lastV l i) n := ⟨n, h⟩
  unfold stuckN
  rw [dif_pos hex]
  exact (Classical.choose_spec hex).one h
end Go.Proofs.Ytkjnjhdanbjmpaa
