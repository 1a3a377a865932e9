
/- Hypotheses: which are alive, who is excluded, least ones: plain. -/
import Derived.Test.YtldbkompebefmaaDoorLtOwn
namespace Go.Proofs.YtldbkompebefmaaDoor.Hyp
open Go.RowKit

/-- the n-th hypothesis, as a set -/
def setN (n : Nat) : Nat := (hypoNums.getD n 0).toNat
theorem num_set (n : Nat) (h : n < 22) : hypoNums.getD n 0 = (setN n : Int) := by
  have g : ∀ n : Fin 22, hypoNums.getD n.val 0 = (setN n.val : Int) := by decide +kernel
  exact g ⟨n, h⟩
theorem setN_lt (n : Nat) : setN n < 64 := by
  by_cases h : n < 22
  · have g : ∀ n : Fin 22, setN n.val < 64 := by decide +kernel
    exact g ⟨n, h⟩
  · unfold setN
    rw [List.getD_eq_getElem?_getD, List.getElem?_eq_none (by have : hypoNums.length = 22 := by decide +kernel
                                                              omega)]
    decide
theorem setN_inj {n m : Nat} (hn : n < 22) (hm : m < 22) (h : setN n = setN m) : n = m := by
  have g : ∀ n m : Fin 22, setN n.val = setN m.val → n = m := by decide +kernel
  exact congrArg Fin.val (g ⟨n, hn⟩ ⟨m, hm⟩ h)
theorem low_set (n : Nat) : Sub.low (setN n : Int) = setN n := Sub.low_of _ (setN_lt n)
theorem low_num (n : Nat) (h : n < 22) : Sub.low (hypoNums.getD n 0) = setN n := by rw [num_set n h, low_set]

/-- those alive among the first k, as sets -/
def livN (al : List Bool) (k : Nat) : List Nat := ((List.range k).filter fun n => al.getD n false).map setN
def livI (al : List Bool) (k : Nat) : List Int := (livN al k).map Int.ofNat
theorem livN_one {al : List Bool} {k : Nat} (h : al.getD k false = true) : livN al (k + 1) = livN al k ++ [setN k] := by
  unfold livN
  rw [List.range_succ, List.filter_append, List.map_append, List.filter_cons_of_pos (by exact h)]; rfl
theorem livN_same {al : List Bool} {k : Nat} (h : al.getD k false = false) : livN al (k + 1) = livN al k := by
  unfold livN
  rw [List.range_succ, List.filter_append, List.map_append, List.filter_cons_of_neg (by exact Bool.eq_false_iff.1 h)]
  exact List.append_nil _
theorem livN_len (al : List Bool) (k : Nat) : (livN al k).length ≤ k := by
  unfold livN
  rw [List.length_map]
  have := List.length_filter_le (fun n => al.getD n false) (List.range k)
  rw [List.length_range] at this
  exact this
theorem livI_len (al : List Bool) (k : Nat) : (livI al k).length = (livN al k).length := List.length_map _
theorem livI_one {al : List Bool} {k : Nat} (hk : k < 22) (h : al.getD k false = true) : livI al (k + 1) = livI al k ++ [hypoNums.getD k 0] := by
  unfold livI
  rw [livN_one h, List.map_append, num_set k hk]; rfl
theorem livI_same {al : List Bool} {k : Nat} (h : al.getD k false = false) : livI al (k + 1) = livI al k := by
  unfold livI
  rw [livN_same h]
theorem livI_at {al : List Bool} {k j : Nat} : (livI al k).getD j 0 = (((livN al k).getD j 0 : Nat) : Int) := by
  unfold livI
  rw [List.getD_eq_getElem?_getD, List.getElem?_map, List.getD_eq_getElem?_getD]
  cases (livN al k)[j]? <;> rfl
theorem mem_liv {al : List Bool} {k h : Nat} : h ∈ livN al k ↔ ∃ n, n < k ∧ al.getD n false = true ∧ h = setN n := by
  unfold livN
  constructor
  · intro hm
    obtain ⟨n, hn, rfl⟩ := List.mem_map.1 hm
    obtain ⟨h1, h2⟩ := List.mem_filter.1 hn
    exact ⟨n, List.mem_range.1 h1, h2, rfl⟩
  · rintro ⟨n, h1, h2, rfl⟩
    exact List.mem_map.2 ⟨n, List.mem_filter.2 ⟨List.mem_range.2 h1, h2⟩, rfl⟩
theorem liv_lt {al : List Bool} {k h : Nat} (m : h ∈ livN al k) : h < 64 := by
  obtain ⟨n, _, _, rfl⟩ := mem_liv.1 m
  exact setN_lt n

/-- is one alive -/
def any (al : List Bool) : Bool := decide (0 < (livN al 22).length)
theorem any_iff (al : List Bool) : any al = true ↔ ∃ n, n < 22 ∧ al.getD n false = true := by
  unfold any
  rw [decide_eq_true_iff, List.length_pos_iff_exists_mem]
  constructor
  · rintro ⟨h, hm⟩
    obtain ⟨n, h1, h2, _⟩ := mem_liv.1 hm
    exact ⟨n, h1, h2⟩
  · rintro ⟨n, h1, h2⟩
    exact ⟨_, mem_liv.2 ⟨n, h1, h2, rfl⟩⟩

theorem and_nat (a b : Nat) (ha : a < 64) (hb : b < 64) : bits .and .i64 (a : Int) (b : Int) = ((a &&& b : Nat) : Int) := by
  show IntKind.i64.wrap ((BitVec.ofInt 64 (a : Int) &&& BitVec.ofInt 64 (b : Int)).toNat : Int) = _
  have h1 : (BitVec.ofInt 64 (a : Int)).toNat = a := by rw [BitVec.toNat_ofInt]; omega
  have h2 : (BitVec.ofInt 64 (b : Int)).toNat = b := by rw [BitVec.toNat_ofInt]; omega
  rw [BitVec.toNat_and, h1, h2, IntKind.wrap_i64]
  have := Nat.and_le_left (n := a) (m := b)
  omega
/-- what all have in common -/
def com (l : List Nat) (s : Nat) : Nat := l.foldl (fun s h => s &&& h) s
theorem com_lt (l : List Nat) : ∀ s, s < 64 → com l s < 64 := by
  induction l with
  | nil => intro s h; exact h
  | cons a t ih => intro s h; exact ih (s &&& a) (Nat.lt_of_le_of_lt Nat.and_le_left h)
theorem com_app (l : List Nat) (h s : Nat) : com (l ++ [h]) s = com l s &&& h := by unfold com; rw [List.foldl_append]; rfl
theorem com_head (h : Nat) (t : List Nat) (hh : h < 64) : com (h :: t) h = com (h :: t) 63 := by
  show com t (h &&& h) = com t (63 &&& h)
  have e : 63 &&& h = h := by
    rw [Nat.and_comm]
    exact (Nat.and_two_pow_sub_one_eq_mod h 6).trans (Nat.mod_eq_of_lt hh)
  rw [Nat.and_self, e]
/-- who is excluded -/
def exc (al : List Bool) : Nat := if any al then com (livN al 22) 63 else 0
theorem exc_lt (al : List Bool) : exc al < 64 := by
  unfold exc
  split
  · exact com_lt _ _ (by decide)
  · decide
/-- in how many of those alive -/
def blm (l : List Nat) (i : Int) : Nat := (l.filter fun h : Nat => hasI (h : Int) i).length
theorem blm_one {l : List Nat} {h : Nat} {i : Int} (g : hasI (h : Int) i = true) : blm (l ++ [h]) i = blm l i + 1 := by
  unfold blm; rw [List.filter_append, List.length_append]; simp [g]
theorem blm_same {l : List Nat} {h : Nat} {i : Int} (g : hasI (h : Int) i = false) : blm (l ++ [h]) i = blm l i := by
  unfold blm; rw [List.filter_append, List.length_append]; simp [g]
theorem blm_le (l : List Nat) (i : Int) : blm l i ≤ l.length := List.length_filter_le _ _
/-- is another one within it -/
def less (l : List Nat) (h : Nat) : Bool := l.any fun o => decide (o ≠ h) && Sub.within o h
/-- least ones -/
def partsOf (l : List Nat) (m : List Nat) : List Nat := m.filter fun h => !less l h
def parts (al : List Bool) : List Nat := partsOf (livN al 22) (livN al 22)
theorem partsOf_one {l m : List Nat} {h : Nat} (g : less l h = false) : partsOf l (m ++ [h]) = partsOf l m ++ [h] := by
  unfold partsOf; rw [List.filter_append]; simp [g]
theorem partsOf_same {l m : List Nat} {h : Nat} (g : less l h = true) : partsOf l (m ++ [h]) = partsOf l m := by
  unfold partsOf; rw [List.filter_append]; simp [g]
theorem partsOf_len (l m : List Nat) : (partsOf l m).length ≤ m.length := List.length_filter_le _ _
def ints (l : List Nat) : List Int := l.map Int.ofNat
theorem ints_app (l : List Nat) (h : Nat) : ints (l ++ [h]) = ints l ++ [(h : Int)] := by unfold ints; rw [List.map_append]; rfl
theorem ints_len (l : List Nat) : (ints l).length = l.length := List.length_map _
theorem ints_at {l : List Nat} {j : Nat} : (ints l).getD j 0 = ((l.getD j 0 : Nat) : Int) := by
  unfold ints
  rw [List.getD_eq_getElem?_getD, List.getElem?_map, List.getD_eq_getElem?_getD]
  cases l[j]? <;> rfl
theorem take_one {l : List Nat} {j : Nat} (h : j < l.length) : l.take (j + 1) = l.take j ++ [l.getD j 0] := by
  rw [List.take_add_one, List.getElem?_eq_getElem h, List.getD_eq_getElem?_getD, List.getElem?_eq_getElem h]; rfl
/-- pairs that tell two sets apart -/
def tellB (a b : Int) (p : Nat) : Bool := Sub.within (Sub.low a) (setN (7 + p)) != Sub.within (Sub.low b) (setN (7 + p))
def tell (a b : Int) (k : Nat) : List Nat := (List.range k).filter (tellB a b)
theorem tell_one {a b : Int} {k : Nat} (h : tellB a b k = true) : tell a b (k + 1) = tell a b k ++ [k] := by
  unfold tell; rw [List.range_succ, List.filter_append]; simp [h]
theorem tell_same {a b : Int} {k : Nat} (h : tellB a b k = false) : tell a b (k + 1) = tell a b k := by
  unfold tell; rw [List.range_succ, List.filter_append]; simp [h]
theorem tell_len (a b : Int) (k : Nat) : (tell a b k).length ≤ k := by
  have := List.length_filter_le (tellB a b) (List.range k)
  rw [List.length_range] at this
  exact this
/-- is the n-th alive, by the first q tests -/
def aliveB (rf : List Bool) (x : Int) (q n : Nat) : Bool := Sub.within (Sub.low x) (setN n) && (List.range q).all fun p => !(rf.getD p false && Sub.within (setN n) (setN (7 + p)))
def aliveL (rf : List Bool) (x : Int) : List Bool := (List.range 22).map (aliveB rf x 15)
theorem aliveL_len (rf : List Bool) (x : Int) : (aliveL rf x).length = 22 := by unfold aliveL; rw [List.length_map, List.length_range]
theorem aliveL_at (rf : List Bool) (x : Int) (n : Nat) (h : n < 22) : (aliveL rf x).getD n false = aliveB rf x 15 n := by
  unfold aliveL
  rw [List.getD_eq_getElem?_getD, List.getElem?_map, List.getElem?_range h]; rfl
theorem aliveB_zero (rf : List Bool) (x : Int) (n : Nat) : aliveB rf x 0 n = Sub.within (Sub.low x) (setN n) := by unfold aliveB; simp
theorem aliveB_succ (rf : List Bool) (x : Int) (q n : Nat) : aliveB rf x (q + 1) n = (aliveB rf x q n && !(rf.getD q false && Sub.within (setN n) (setN (7 + q)))) := by
  unfold aliveB
  rw [List.range_succ, List.all_append]
  simp [Bool.and_assoc]
/-- place of who is excluded -/
theorem com_hypo {al : List Bool} (h : any al = true) : ∃ n, n < 22 ∧ com (livN al 22) 63 = setN n := by
  have base : ∀ a b : Fin 22, ∃ n : Fin 22, setN a.val &&& setN b.val = setN n.val := by decide +kernel
  have first : ∀ a : Fin 22, 63 &&& setN a.val = setN a.val := by decide +kernel
  have run : ∀ l : List Nat, (∀ x ∈ l, ∃ n, n < 22 ∧ x = setN n) → ∀ s, (∃ n, n < 22 ∧ s = setN n) → ∃ n, n < 22 ∧ com l s = setN n := by
    intro l
    induction l with
    | nil => intro _ s hs; exact hs
    | cons a t ih =>
      intro hl s hs
      refine ih (fun x hx => hl x (List.mem_cons_of_mem _ hx)) (s &&& a) ?_
      obtain ⟨n, hn, rfl⟩ := hs
      obtain ⟨m, hm, rfl⟩ := hl a (List.mem_cons_self ..)
      obtain ⟨k, hk⟩ := base ⟨n, hn⟩ ⟨m, hm⟩
      exact ⟨k, k.isLt, hk⟩
  have hall : ∀ x ∈ livN al 22, ∃ n, n < 22 ∧ x = setN n := fun x hx => by
    obtain ⟨n, h1, _, h3⟩ := mem_liv.1 hx
    exact ⟨n, h1, h3⟩
  unfold any at h
  cases e : livN al 22 with
  | nil => rw [e] at h; simp at h
  | cons a t =>
    rw [e] at hall
    obtain ⟨m, hm, rfl⟩ := hall a (List.mem_cons_self ..)
    refine run t (fun x hx => hall x (List.mem_cons_of_mem _ hx)) (63 &&& setN m) ⟨m, hm, first ⟨m, hm⟩⟩
theorem place_set (n : Nat) (h : n < 22) : placeI (setN n : Int) hypoNums 0 = (n : Int) := by
  have g : ∀ n : Fin 22, placeI (setN n.val : Int) hypoNums 0 = (n.val : Int) := by decide +kernel
  exact g ⟨n, h⟩
/-- where who is excluded has its place -/
def plc (al : List Bool) : Nat := (placeI (exc al : Int) hypoNums 0).toNat
theorem plc_ok {al : List Bool} (h : any al = true) : plc al < 22 ∧ placeI (exc al : Int) hypoNums 0 = (plc al : Int) ∧ setN (plc al) = exc al := by
  obtain ⟨n, hn, e⟩ := com_hypo h
  have e' : exc al = setN n := by unfold exc; rw [if_pos h, e]
  unfold plc
  rw [e', place_set n hn]
  exact ⟨hn, rfl, rfl⟩
def amb (al : List Bool) : Bool := any al && !al.getD (plc al) false
end Go.Proofs.YtldbkompebefmaaDoor.Hyp
