/- Maps from a hypothesis to its place; blocks kept while another one is written. No program's calls. -/
import Derived.Test.YtaooigldchojcaaDoorHyp
import Derived.Test.YtaooigldchojcaaDoorBls
import Derived.Maps.OwnSet
import Derived.Maps.RangeWalk
namespace Go.Proofs.YtaooigldchojcaaDoor
open Go.RowKit Go.Maps

theorem Below.grows {w w' : World} (h : Below w.heap.size w w') : w.grownBy w' Option.none := ⟨h.os, h.tape, h.output, h.size, fun k hk _ => h.block k hk⟩
theorem grown_setCell (w : World) (b o : Nat) (v : Value) : w.grownBy (w.setCell ⟨b, o, none⟩ v) (some b) :=
  ⟨rfl, rfl, rfl, by simp [World.setCell], fun k _ hk => Below.heap_setCell _ _ _ _ (fun e => hk (by rw [e]))⟩
theorem Cells.grown {w w' : World} {row : Option Nat} {b : Nat} {l : List (Option Value)} (h : Cells w b l) (hg : w.grownBy w' row) (hb : b < w.heap.size) (hne : some b ≠ row) : Cells w' b l := fun j x hj => by
  obtain ⟨⟨z, hz, hv⟩, hf⟩ := h j x hj
  exact ⟨⟨z, hg.cell hz hne, hv⟩, by rw [World.frozen?_of_block (a := ⟨b, j, none⟩) (hg.block b hb hne)]; exact hf⟩
theorem Sp.grown {W w w' : World} {bs : List (Nat × List (Option Value))} {row : Option Nat} (h : Sp W bs w) (hg : w.grownBy w' row) (hr : ∀ k, row = some k → W.heap.size ≤ k) (hn : ∀ p ∈ bs, some p.1 ≠ row) : Sp W bs w' :=
  ⟨⟨h.below.grown hg h.size hr, fun p hp => (h.1.2 p hp).grown hg (h.2.2 p hp).2 (hn p hp)⟩, h.2.1, fun p hp => ⟨(h.2.2 p hp).1, Nat.lt_of_lt_of_le (h.2.2 p hp).2 hg.size⟩⟩

theorem law3 : Keyed Tryd.prog 3 := int_keyed Tryd.underlying3
theorem wf_nat (z : Int) (h : 0 ≤ z ∧ z < 64) : (Lit.int .i64 z).wf = true := WalkArith.wf_i64 (by omega)

abbrev key (n : Nat) : Lit := .int .i64 (hypoNums.getD n 0)
theorem key_ne {n m : Nat} (hn : n < 22) (hm : m < 22) (h : n ≠ m) : key n ≠ key m := fun e => by
  injection e with _ e
  rw [Hyp.num_set n hn, Hyp.num_set m hm] at e
  exact h (Hyp.setN_inj hn hm (by omega))
/-- a map holds just those hypotheses, each with its place -/
structure Rep (D : DataW Unit) (S : Nat → Bool) : Prop where
  fst : ∀ x : Int, Maps.has D (.int .i64 x) = true → ∃ n, n < 22 ∧ x = hypoNums.getD n 0 ∧ S n = true
  snd : ∀ n, n < 22 → S n = true → Maps.has D (key n) = true
  trd : ∀ n, n < 22 → S n = true → ∀ z, D.atKey (key n) z = .lit (.int .i64 n)
theorem Rep.cast {D : DataW Unit} {S T : Nat → Bool} (h : Rep D S) (e : ∀ n, n < 22 → S n = T n) : Rep D T :=
  ⟨fun x hx => by obtain ⟨n, h1, h2, h3⟩ := h.fst x hx; exact ⟨n, h1, h2, by rw [← e n h1]; exact h3⟩,
   fun n hn hs => h.snd n hn (by rw [e n hn]; exact hs), fun n hn hs => h.trd n hn (by rw [e n hn]; exact hs)⟩
theorem Rep.empty : Rep (.map []) (fun _ => false) := ⟨fun x hx => (by cases hx), fun n _ h => (by cases h), fun n _ h => (by cases h)⟩
theorem Rep.put {D : DataW Unit} {S : Nat → Bool} (h : Rep D S) (hD : IsMap D) (k : Nat) (hk : k < 22) : Rep (D.put (key k) (.lit (.int .i64 k))) (fun n => S n || n == k) := by
  refine ⟨fun x hx => ?_, fun n hn hs => ?_, fun n hn hs z => ?_⟩
  · by_cases e : x = hypoNums.getD k 0
    · exact ⟨k, hk, e, by simp⟩
    · rw [has_put_other (fun g => e (by injection g))] at hx
      obtain ⟨n, h1, h2, h3⟩ := h.fst x hx
      exact ⟨n, h1, h2, by rw [h3]; rfl⟩
  · by_cases e : n = k
    · subst e
      exact has_put_same (k := key n) hD trivial _
    · rw [has_put_other (key_ne hn hk e)]
      exact h.snd n hn (by simpa [e] using hs)
  · by_cases e : n = k
    · subst e
      exact atKey_put_same (k := key n) hD trivial _ _
    · rw [atKey_put_other (key_ne hn hk e)]
      exact h.trd n hn (by simpa [e] using hs) z
theorem Rep.del {D : DataW Unit} {S : Nat → Bool} (h : Rep D S) (x : Int) : Rep (D.del (.int .i64 x)) (fun n => S n && decide (hypoNums.getD n 0 ≠ x)) := by
  have ne : ∀ y : Int, y ≠ x → (Lit.int .i64 y) ≠ .int .i64 x := fun y e g => e (by injection g)
  refine ⟨fun y hy => ?_, fun n hn hs => ?_, fun n hn hs z => ?_⟩
  · by_cases e : y = x
    · subst e
      rw [has_del_same] at hy; cases hy
    · rw [has_del_other (ne y e)] at hy
      obtain ⟨n, h1, h2, h3⟩ := h.fst y hy
      exact ⟨n, h1, h2, by rw [h3, ← h2]; simpa using e⟩
  · simp only [Bool.and_eq_true, decide_eq_true_eq] at hs
    rw [has_del_other (ne _ hs.2)]
    exact h.snd n hn hs.1
  · simp only [Bool.and_eq_true, decide_eq_true_eq] at hs
    rw [atKey_del_other (ne _ hs.2)]
    exact h.trd n hn hs.1 z

/-- a row of 22 bools, by their places -/
def rowF (f : Nat → Bool) : List (Option Value) := (List.range 22).map fun n => some (.bool (f n))
theorem rowF_get (f : Nat → Bool) (n : Nat) (h : n < 22) : (rowF f)[n]? = some (some (.bool (f n))) := by
  unfold rowF; rw [List.getElem?_map, List.getElem?_range h]; rfl
theorem rowF_len (f : Nat → Bool) : (rowF f).length = 22 := by unfold rowF; rw [List.length_map, List.length_range]
theorem rowF_cong {f g : Nat → Bool} (h : ∀ n, n < 22 → f n = g n) : rowF f = rowF g := by
  unfold rowF
  refine List.map_congr_left fun n hn => ?_
  rw [h n (List.mem_range.1 hn)]
theorem rowF_set (f : Nat → Bool) (k : Nat) (b : Bool) : (rowF f).set k (some (.bool b)) = rowF (fun n => if n = k then b else f n) := by
  apply List.ext_getElem?
  intro j
  by_cases hj : j < 22
  · rw [rowF_get _ j hj]
    by_cases e : j = k
    · subst e
      rw [List.getElem?_set_self (by rw [rowF_len]; exact hj), if_pos rfl]
    · rw [List.getElem?_set_ne (Ne.symm e), rowF_get _ j hj, if_neg e]
  · rw [List.getElem?_eq_none (by rw [List.length_set, rowF_len]; omega), List.getElem?_eq_none (by rw [rowF_len]; omega)]
theorem rowF_zero : rowF (fun _ => false) = ([.bool false, .bool false, .bool false, .bool false, .bool false, .bool false, .bool false, .bool false, .bool false, .bool false, .bool false, .bool false, .bool false, .bool false, .bool false, .bool false, .bool false, .bool false, .bool false, .bool false, .bool false, .bool false] : List Value).map some := rfl
theorem rowF_alive (rf : List Bool) (x : Int) : rowF (Hyp.aliveB rf x 15) = (bl (Hyp.aliveL rf x)).toList.map some := by
  unfold rowF
  rw [bl_list]
  unfold Hyp.aliveL
  rw [List.map_map, List.map_map]; rfl

/-- ints of a call's own, and where they lie -/
theorem Ints.lies2 {B : Nat} {W0 w : World} {v : Value} {l : List Int} (h : Ints B W0 w v l) : ∃ ba cap, v = .slice ba l.length cap ∧ (0 < l.length → ∃ g, ba = some ⟨g, 0, none⟩ ∧ B ≤ g ∧ ∀ j, j < l.length → w.cell? ⟨g, j, none⟩ = some (.int .i64 (l.getD j 0))) := by
  obtain ⟨ba, cap, e, L, _, _⟩ := h.lies
  refine ⟨ba, cap, e, fun hp => ?_⟩
  obtain ⟨g, e2, c⟩ := L hp
  refine ⟨g, e2, ?_, c⟩
  obtain ⟨_, h0 | ⟨g', cap', cur, fz, hv, hB, _⟩⟩ := h.1
  · have := h0.2; omega
  · rw [e, e2] at hv
    injection hv with hv _ _
    injection hv with hv
    injection hv with hv _ _
    rw [hv]; exact hB
/-- whoever is among all parts of a pair -/
theorem part_mem (n p : Nat) (hn : n < 22) (_hp : p < 15) : (partI (hypoNums.getD (7 + p) 0)).contains (hypoNums.getD n 0) = Sub.within (Hyp.setN n) (Hyp.setN (7 + p)) := by
  rw [Hyp.num_set n hn]
  unfold partI below64
  rw [Hyp.low_num (7 + p) (by omega)]
  have hs := Hyp.setN_lt n
  generalize Hyp.setN n = s at *
  generalize Hyp.setN (7 + p) = t at *
  cases e : Sub.within s t
  · rw [List.contains_eq_any_beq, List.any_eq_false]
    intro y hy
    obtain ⟨m, hm, rfl⟩ := List.mem_map.1 hy
    have h2 := (List.mem_filter.1 hm).2
    intro g
    have : s = m := by
      have h3 : (s : Int) = (m : Int) := by simpa using g
      omega
    subst this
    rw [e] at h2; cases h2
  · rw [List.contains_eq_any_beq, List.any_eq_true]
    exact ⟨_, List.mem_map.2 ⟨s, List.mem_filter.2 ⟨List.mem_range.2 hs, e⟩, rfl⟩, by simp⟩
theorem part_rng (x : Int) : ∀ z ∈ partI x, 0 ≤ z ∧ z < 64 := by
  intro z hz
  unfold partI below64 at hz
  obtain ⟨m, hm, rfl⟩ := List.mem_map.1 hz
  have := List.mem_range.1 (List.mem_filter.1 hm).1
  constructor
  · exact Int.natCast_nonneg m
  · show (m : Int) < 64
    omega
end Go.Proofs.YtaooigldchojcaaDoor
