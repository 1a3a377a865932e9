/- A bank's row, by its places; bits of sets: plain. -/
import Derived.Test.YtaooigldchojcaaDoorHypBlame
import Derived.Test.YtaooigldchojcaaDoorHsRefD
namespace Go.Proofs.YtaooigldchojcaaDoor
open Go.RowKit

def rowC (cs : List Value) (f : Nat → Bool) : List (Option Value) := cs.map some ++ (List.range 15).map fun p => some (.bool (f p))
theorem rowC_len {cs : List Value} (h : cs.length = 15) (f : Nat → Bool) : (rowC cs f).length = 30 := by unfold rowC; simp [h]
theorem rowC_get {cs : List Value} (hc : cs.length = 15) (f : Nat → Bool) (p : Nat) (h : p < 15) : (rowC cs f)[15 + p]? = some (some (.bool (f p))) := by
  unfold rowC
  rw [List.getElem?_append_right (by simp [hc]), show 15 + p - (cs.map some).length = p by simp [hc], List.getElem?_map, List.getElem?_range h]; rfl
theorem rowC_cong {cs : List Value} {f g : Nat → Bool} (h : ∀ p, p < 15 → f p = g p) : rowC cs f = rowC cs g := by
  unfold rowC
  congr 1
  exact List.map_congr_left fun p hp => by rw [h p (List.mem_range.1 hp)]
theorem rowC_set {cs : List Value} (hc : cs.length = 15) (f : Nat → Bool) (k : Nat) (b : Bool) : (rowC cs f).set (15 + k) (some (.bool b)) = rowC cs (fun p => if p = k then b else f p) := by
  unfold rowC
  rw [List.set_append_right (s := cs.map some) (15 + k) _ (by simp [hc])]
  congr 1
  rw [show 15 + k - (cs.map some).length = k by simp [hc]]
  apply List.ext_getElem?
  intro j
  by_cases hj : j < 15
  · by_cases e : j = k
    · subst e
      rw [List.getElem?_set_self (by simp; exact hj), List.getElem?_map, List.getElem?_range hj]; simp
    · rw [List.getElem?_set_ne (Ne.symm e), List.getElem?_map, List.getElem?_map, List.getElem?_range hj]; simp [e]
  · rw [List.getElem?_eq_none (by simp; omega), List.getElem?_eq_none (by simp; omega)]
theorem rowC_bk (cs : List Value) (f : Nat → Bool) : rowC cs f = (bk cs (listB f)).toList.map some := by
  unfold rowC bk listB
  rw [List.map_append, List.map_map, List.map_map]; rfl
theorem rowC_rf {cs : List Value} {rf : List Bool} (K : Bk cs rf) : (bk cs rf).toList.map some = rowC cs (fun p => rf.getD p false) := by
  have e : rf = listB (fun p => rf.getD p false) := by
    unfold listB
    apply List.ext_getElem?
    intro j
    by_cases hj : j < 15
    · rw [List.getElem?_map, List.getElem?_range hj, List.getElem?_eq_getElem (by rw [K.r]; exact hj)]
      simp [List.getD, List.getElem?_eq_getElem (show j < rf.length by rw [K.r]; exact hj)]
    · rw [List.getElem?_eq_none (by rw [K.r]; omega), List.getElem?_eq_none (by simp; omega)]
  rw [rowC_bk, ← e]
theorem bk_listB {cs : List Value} {rf : List Bool} (K : Bk cs rf) (f : Nat → Bool) : Bk cs (listB f) := ⟨K.c, listB_len f, K.one⟩
theorem listB_at (f : Nat → Bool) (p : Nat) (h : p < 15) : (listB f).getD p false = f p := by
  unfold listB
  rw [List.getD_eq_getElem?_getD, List.getElem?_map, List.getElem?_range h]; rfl

/-- a number modulo another one, as the laws make it -/
theorem umodn (a k : Int) (h : 0 < k) (hk : k < 1000) : ∃ n : Nat, (n : Int) < k ∧ (IntKind.u64.wrap a).tmod k = n ∧ wrap64 ((IntKind.u64.wrap a).tmod k) = n := by
  have hw : 0 ≤ IntKind.u64.wrap a := by rw [IntKind.wrap_u64]; omega
  have h1 := Int.tmod_lt_of_pos (IntKind.u64.wrap a) h
  have h2 : 0 ≤ (IntKind.u64.wrap a).tmod k := Int.tmod_nonneg k hw
  refine ⟨((IntKind.u64.wrap a).tmod k).toNat, by omega, by omega, ?_⟩
  generalize (IntKind.u64.wrap a).tmod k = z at *
  unfold wrap64
  omega

namespace Hyp
/-- b is in c -/
theorem within_test {a b : Nat} : Sub.within a b = true ↔ ∀ i, i < 6 → a.testBit i = true → b.testBit i = true := by
  unfold Sub.within
  rw [List.all_eq_true]
  constructor
  · intro h i hi hb
    have := h i (List.mem_range.2 hi)
    rw [Sub.has_bit, Sub.has_bit, hb] at this
    simpa using this
  · intro h i hi
    rw [Sub.has_bit, Sub.has_bit]
    cases e : a.testBit i
    · rfl
    · rw [h i (List.mem_range.1 hi) e]; rfl
theorem com_sub (l : List Nat) : ∀ (s i : Nat), (com l s).testBit i = true ↔ s.testBit i = true ∧ ∀ h ∈ l, h.testBit i = true := by
  induction l with
  | nil => intro s i; exact ⟨fun h => ⟨h, fun _ m => by cases m⟩, fun h => h.1⟩
  | cons a t ih =>
    intro s i
    show (com t (s &&& a)).testBit i = true ↔ _
    rw [ih, Nat.testBit_and, Bool.and_eq_true]
    constructor
    · rintro ⟨⟨h1, h2⟩, h3⟩
      exact ⟨h1, fun h m => (List.mem_cons.1 m).elim (fun e => e ▸ h2) (h3 h)⟩
    · rintro ⟨h1, h2⟩
      exact ⟨⟨h1, h2 a (List.mem_cons_self ..)⟩, fun h m => h2 h (List.mem_cons_of_mem _ m)⟩
/-- whoever is excluded is in each that is alive -/
theorem exc_bit {al : List Bool} (h : any al = true) (i : Nat) (hi : i < 6) : (exc al).testBit i = true ↔ ∀ n, n < 22 → al.getD n false = true → (setN n).testBit i = true := by
  unfold exc
  rw [if_pos h, com_sub]
  have h63 : (63 : Nat).testBit i = true := by
    rcases (show i = 0 ∨ i = 1 ∨ i = 2 ∨ i = 3 ∨ i = 4 ∨ i = 5 by omega) with rfl | rfl | rfl | rfl | rfl | rfl <;> decide
  constructor
  · rintro ⟨_, h2⟩ n hn ha
    exact h2 _ (mem_liv.2 ⟨n, hn, ha, rfl⟩)
  · intro h2
    refine ⟨h63, fun s m => ?_⟩
    obtain ⟨n, hn, ha, rfl⟩ := mem_liv.1 m
    exact h2 n hn ha
theorem exc_within {al : List Bool} {n : Nat} (hn : n < 22) (ha : al.getD n false = true) : Sub.within (exc al) (setN n) = true := by
  have h : any al = true := (any_iff al).2 ⟨n, hn, ha⟩
  rw [within_test]
  intro i hi hb
  exact (exc_bit h i hi).1 hb n hn ha
end Hyp
end Go.Proofs.YtaooigldchojcaaDoor
