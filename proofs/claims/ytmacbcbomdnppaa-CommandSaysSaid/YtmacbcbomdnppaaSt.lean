/- What stays in a walk over arrays: blocks by their numbers, each cell known or (where it is written) only there. No program's calls. -/
import Derived.Test.YtmacbcbomdnppaaMem
import Derived.LoopN
namespace Go.Proofs.Ytmacbcbomdnppaa
open Go.RowKit

/-- cells that may be written; 'some v': it holds v -/
def Cells (w : World) (b : Nat) (l : List (Option Value)) : Prop := ∀ j x, l[j]? = some x → (∃ z, w.cell? ⟨b, j, none⟩ = some z ∧ ∀ v, x = some v → z = v) ∧ w.frozen? ⟨b, j, none⟩ = false
theorem Cells.keep {W w1 : World} {b : Nat} {l : List (Option Value)} (h : Cells W b l) (hb : Below W.heap.size W w1) : Cells w1 b l := fun j x hj => by
  obtain ⟨⟨z, hz, hv⟩, hf⟩ := h j x hj
  exact ⟨⟨z, keepc hb hz, hv⟩, keepf hb hz hf⟩
theorem Cells.other {w : World} {b c : Nat} {l : List (Option Value)} (h : Cells w b l) (hn : c ≠ b) (o : Nat) (y : Value) : Cells (w.setCell ⟨c, o, none⟩ y) b l := fun j x hj => by
  obtain ⟨⟨z, hz, hv⟩, hf⟩ := h j x hj
  exact ⟨⟨z, keeps hn hz, hv⟩, by rw [World.frozen?_setCell]; exact hf⟩
theorem Cells.set {w : World} {b : Nat} {l : List (Option Value)} (h : Cells w b l) (i : Nat) (y : Value) : Cells (w.setCell ⟨b, i, none⟩ y) b (l.set i (some y)) := fun j x hj => by
  have hl : j < l.length := by
    have := (List.getElem?_eq_some_iff.1 hj).1
    rwa [List.length_set] at this
  obtain ⟨⟨z, hz, hv⟩, hf⟩ := h j l[j] (List.getElem?_eq_getElem hl)
  refine ⟨?_, by rw [World.frozen?_setCell]; exact hf⟩
  by_cases e : j = i
  · subst e
    rw [List.getElem?_set_self hl] at hj
    exact ⟨y, World.cell?_setCell_same _ _ _ hz, fun v hv => by injection hj with hj; subst hj; injection hv⟩
  · rw [List.getElem?_set_ne (Ne.symm e), List.getElem?_eq_getElem hl] at hj
    refine ⟨z, ?_, fun v hx => hv v (by injection hj with hj; rw [hj]; exact hx)⟩
    rw [World.cell?_setCell_other _ _ _ _ (by intro g; injection g with _ g; exact e g.symm), hz]
theorem Cells.hit {w : World} {b : Nat} {l : List (Option Value)} (h : Cells w b l) (i : Nat) (y : Value) (hi : l[i]? = some none) : Cells (w.setCell ⟨b, i, none⟩ y) b l := fun j x hj => by
  obtain ⟨⟨z, hz, hv⟩, hf⟩ := h j x hj
  refine ⟨?_, by rw [World.frozen?_setCell]; exact hf⟩
  by_cases e : j = i
  · subst e
    refine ⟨y, World.cell?_setCell_same _ _ _ hz, fun v hx => ?_⟩
    rw [hi] at hj; injection hj with hj; rw [← hj] at hx; cases hx
  · refine ⟨z, ?_, hv⟩
    rw [World.cell?_setCell_other _ _ _ _ (by intro g; injection g with _ g; exact e g.symm), hz]
theorem Cells.le {w : World} {b : Nat} {l m : List (Option Value)} (h : Cells w b l) (hm : ∀ (j : Nat) (x : Option Value), m[j]? = some x → ∃ y : Option Value, l[j]? = some y ∧ ∀ v, x = some v → y = some v) : Cells w b m := fun j x hj => by
  obtain ⟨y, hy, hv⟩ := hm j x hj
  obtain ⟨⟨z, hz, hw⟩, hf⟩ := h j y hy
  exact ⟨⟨z, hz, fun v hx => hw v (hv v hx)⟩, hf⟩
theorem cells_alloc (w : World) (l : List Value) (t : TypeId) : Cells (w.alloc (.cells l.toArray t)) w.heap.size (l.map some) := fun j x hj => by
  rw [List.getElem?_map] at hj
  cases hv : l[j]? with
  | none => rw [hv] at hj; cases hj
  | some v =>
    rw [hv] at hj
    injection hj with hj
    exact ⟨⟨v, by simp [hv], fun u hu => by rw [← hj] at hu; injection hu⟩, by simp⟩
theorem Cells.drew {w : World} {b : Nat} {l : List (Option Value)} (h : Cells w b l) : Cells w.drew b l := h
/-- a block that may be forgotten, cell by cell -/
theorem Cells.blank {w : World} {b : Nat} {l : List (Option Value)} (h : Cells w b l) : Cells w b (l.map fun _ => none) := h.le fun j x hj => by
  rw [List.getElem?_map] at hj
  cases hv : l[j]? with
  | none => rw [hv] at hj; cases hj
  | some y => rw [hv] at hj; injection hj with hj; exact ⟨y, rfl, fun v hx => by rw [← hj] at hx; cases hx⟩

/-- below W all is as it was; and these blocks -/
def St (W : World) (bs : List (Nat × List (Option Value))) (w' : World) : Prop := Below W.heap.size W w' ∧ ∀ p ∈ bs, Cells w' p.1 p.2
theorem St.below {W w : World} {bs : List (Nat × List (Option Value))} (h : St W bs w) : Below W.heap.size W w := h.1
theorem St.keep {W w1 w2 : World} {bs : List (Nat × List (Option Value))} (h : St W bs w1) (hb : Below w1.heap.size w1 w2) : St W bs w2 := ⟨belowT h.1 hb, fun p hp => (h.2 p hp).keep hb⟩
theorem St.drew {W w : World} {bs : List (Nat × List (Option Value))} (h : St W bs w) : St W bs w.drew := h.keep (Below.refl _ _).drew
theorem St.cells {W w : World} {bs : List (Nat × List (Option Value))} (h : St W bs w) (i : Nat) {b : Nat} {l : List (Option Value)} (hi : bs[i]? = some (b, l)) : Cells w b l := h.2 _ (List.mem_of_getElem? hi)
theorem St.at {W w : World} {bs : List (Nat × List (Option Value))} (h : St W bs w) (i : Nat) {b : Nat} {l : List (Option Value)} (hi : bs[i]? = some (b, l)) (j : Nat) {v : Value} (hj : l[j]? = some (some v)) : w.cell? ⟨b, j, none⟩ = some v := by
  obtain ⟨⟨z, hz, hv⟩, _⟩ := h.cells i hi j _ hj
  rw [hz, hv v rfl]
/-- a cell that is there, whatever it holds -/
theorem St.there {W w : World} {bs : List (Nat × List (Option Value))} (h : St W bs w) (i : Nat) {b : Nat} {l : List (Option Value)} (hi : bs[i]? = some (b, l)) (j : Nat) {x : Option Value} (hj : l[j]? = some x) : ∃ z, w.cell? ⟨b, j, none⟩ = some z ∧ w.frozen? ⟨b, j, none⟩ = false := by
  obtain ⟨⟨z, hz, _⟩, hf⟩ := h.cells i hi j _ hj
  exact ⟨z, hz, hf⟩
/-- no two of them are one -/
def Apart (bs : List (Nat × List (Option Value))) : Prop := bs.Pairwise fun p q => p.1 ≠ q.1
theorem Apart.ne {bs : List (Nat × List (Option Value))} (h : Apart bs) {i k : Nat} {p q : Nat × List (Option Value)} (hi : bs[i]? = some p) (hk : bs[k]? = some q) (hn : k ≠ i) : p.1 ≠ q.1 := by
  obtain ⟨h1, rfl⟩ := List.getElem?_eq_some_iff.1 hi
  obtain ⟨h2, rfl⟩ := List.getElem?_eq_some_iff.1 hk
  have g := List.pairwise_iff_getElem.1 h
  rcases Nat.lt_or_gt_of_ne hn with e | e
  · exact fun x => g k i h2 h1 e x.symm
  · exact g i k h1 h2 e
theorem apart_map (bs : List (Nat × List (Option Value))) : Apart bs ↔ (bs.map Prod.fst).Pairwise (fun p q => p ≠ q) := List.pairwise_map.symm
theorem Apart.put {bs : List (Nat × List (Option Value))} (h : Apart bs) {i : Nat} {b : Nat} {l : List (Option Value)} (hi : bs[i]? = some (b, l)) (m : List (Option Value)) : Apart (bs.set i (b, m)) := by
  rw [apart_map] at h ⊢
  rw [List.map_set]
  have e : (bs.map Prod.fst).set i b = bs.map Prod.fst := by
    apply List.ext_getElem?
    intro k
    by_cases g : k = i
    · subst g
      have hk : k < (bs.map Prod.fst).length := by rw [List.length_map]; exact (List.getElem?_eq_some_iff.1 hi).1
      rw [List.getElem?_set_self hk, List.getElem?_map, hi]; rfl
    · rw [List.getElem?_set_ne (Ne.symm g)]
  rw [e]; exact h
theorem St.put {W w : World} {bs : List (Nat × List (Option Value))} (h : St W bs w) (ha : Apart bs) (i : Nat) {b : Nat} {l : List (Option Value)} (hi : bs[i]? = some (b, l)) (hW : W.heap.size ≤ b) (j : Nat) (z : Value) : St W (bs.set i (b, l.set j (some z))) (w.setCell ⟨b, j, none⟩ z) := by
  refine ⟨h.1.setCell (p := ⟨b, j, none⟩) hW z, fun p hp => ?_⟩
  obtain ⟨k, hk⟩ := List.getElem?_of_mem hp
  by_cases e : k = i
  · subst e
    rw [List.getElem?_set_self (List.getElem?_eq_some_iff.1 hi).1] at hk
    injection hk with hk
    subst hk
    exact (h.cells k hi).set j z
  · rw [List.getElem?_set_ne (Ne.symm e)] at hk
    exact (h.cells k hk).other (ha.ne hi hk e) j z
theorem St.hit {W w : World} {bs : List (Nat × List (Option Value))} (h : St W bs w) (ha : Apart bs) (i : Nat) {b : Nat} {l : List (Option Value)} (hi : bs[i]? = some (b, l)) (hW : W.heap.size ≤ b) (j : Nat) (hj : l[j]? = some none) (z : Value) : St W bs (w.setCell ⟨b, j, none⟩ z) := by
  refine ⟨h.1.setCell (p := ⟨b, j, none⟩) hW z, fun p hp => ?_⟩
  obtain ⟨k, hk⟩ := List.getElem?_of_mem hp
  by_cases e : k = i
  · subst e
    rw [hi] at hk
    injection hk with hk
    subst hk
    exact (h.cells k hi).hit j z hj
  · exact (h.cells k hk).other (ha.ne hi hk e) j z
/-- one more, at the heap's end -/
theorem St.more {W w : World} {bs : List (Nat × List (Option Value))} (h : St W bs w) (l : List Value) (t : TypeId) : St W (bs ++ [(w.heap.size, l.map some)]) (w.alloc (.cells l.toArray t)) := by
  have k := h.keep (below1 w (.cells l.toArray t))
  refine ⟨k.1, fun p hp => ?_⟩
  rw [List.mem_append] at hp
  rcases hp with hp | hp
  · exact k.2 p hp
  · rw [List.mem_singleton] at hp; subst hp; exact cells_alloc w l t
/-- less is known -/
theorem St.le {W w : World} {bs cs : List (Nat × List (Option Value))} (h : St W bs w) (hc : ∀ p ∈ cs, ∃ l : List (Option Value), (p.1, l) ∈ bs ∧ ∀ (j : Nat) (x : Option Value), p.2[j]? = some x → ∃ y : Option Value, l[j]? = some y ∧ ∀ v, x = some v → y = some v) : St W cs w := ⟨h.1, fun p hp => by
  obtain ⟨l, hl, hm⟩ := hc p hp
  exact (h.2 _ hl).le hm⟩
theorem St.none (W : World) : St W [] W := ⟨Below.refl _ _, fun p hp => by cases hp⟩

end Go.Proofs.Ytmacbcbomdnppaa
