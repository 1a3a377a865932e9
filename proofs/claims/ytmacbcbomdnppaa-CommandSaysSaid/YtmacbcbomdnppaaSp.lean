/- What stays in a walk over arrays, with no side conditions: below W all is as it was; blocks, no two of them one, all made since. No program's calls. -/
import Derived.Test.YtmacbcbomdnppaaSt
namespace Go.Proofs.Ytmacbcbomdnppaa
open Go.RowKit

def Sp (W : World) (bs : List (Nat × List (Option Value))) (w' : World) : Prop := St W bs w' ∧ Apart bs ∧ ∀ p ∈ bs, W.heap.size ≤ p.1 ∧ p.1 < w'.heap.size
theorem Sp.none (W : World) : Sp W [] W := ⟨St.none W, List.Pairwise.nil, fun p hp => by cases hp⟩
theorem Sp.below {W w : World} {bs : List (Nat × List (Option Value))} (h : Sp W bs w) : Below W.heap.size W w := h.1.below
theorem Sp.keep {W w1 w2 : World} {bs : List (Nat × List (Option Value))} (h : Sp W bs w1) (hb : Below w1.heap.size w1 w2) : Sp W bs w2 :=
  ⟨h.1.keep hb, h.2.1, fun p hp => ⟨(h.2.2 p hp).1, Nat.lt_of_lt_of_le (h.2.2 p hp).2 hb.size⟩⟩
theorem Sp.drew {W w : World} {bs : List (Nat × List (Option Value))} (h : Sp W bs w) : Sp W bs w.drew := h.keep (Below.refl _ _).drew
theorem Sp.at {W w : World} {bs : List (Nat × List (Option Value))} (h : Sp W bs w) (i : Nat) {b : Nat} {l : List (Option Value)} (hi : bs[i]? = some (b, l)) (j : Nat) {v : Value} (hj : l[j]? = some (some v)) : w.cell? ⟨b, j, .none⟩ = some v := h.1.at i hi j hj
theorem Sp.there {W w : World} {bs : List (Nat × List (Option Value))} (h : Sp W bs w) (i : Nat) {b : Nat} {l : List (Option Value)} (hi : bs[i]? = some (b, l)) (j : Nat) {x : Option Value} (hj : l[j]? = some x) : ∃ z, w.cell? ⟨b, j, .none⟩ = some z ∧ w.frozen? ⟨b, j, .none⟩ = false := h.1.there i hi j hj
theorem Sp.free {W w : World} {bs : List (Nat × List (Option Value))} (h : Sp W bs w) (i : Nat) {b : Nat} {l : List (Option Value)} (hi : bs[i]? = some (b, l)) (j : Nat) {x : Option Value} (hj : l[j]? = some x) : w.frozen? ⟨b, j, .none⟩ = false := by
  obtain ⟨_, _, hf⟩ := h.there i hi j hj
  exact hf
theorem Sp.size {W w : World} {bs : List (Nat × List (Option Value))} (h : Sp W bs w) : W.heap.size ≤ w.heap.size := h.below.size
theorem Sp.more {W w : World} {bs : List (Nat × List (Option Value))} (h : Sp W bs w) (l : List Value) (t : TypeId) : Sp W (bs ++ [(w.heap.size, l.map some)]) (w.alloc (.cells l.toArray t)) := by
  refine ⟨h.1.more l t, ?_, fun p hp => ?_⟩
  · unfold Apart
    rw [List.pairwise_append]
    refine ⟨h.2.1, List.pairwise_singleton _ _, fun p hp q hq => ?_⟩
    rw [List.mem_singleton] at hq
    subst hq
    exact Nat.ne_of_lt (h.2.2 p hp).2
  · rw [heap1]
    rw [List.mem_append] at hp
    rcases hp with hp | hp
    · exact ⟨(h.2.2 p hp).1, Nat.lt_succ_of_lt (h.2.2 p hp).2⟩
    · rw [List.mem_singleton] at hp
      subst hp
      exact ⟨h.size, Nat.lt_succ_self _⟩
theorem Sp.put {W w : World} {bs : List (Nat × List (Option Value))} (h : Sp W bs w) (i : Nat) {b : Nat} {l : List (Option Value)} (hi : bs[i]? = some (b, l)) (j : Nat) (z : Value) : Sp W (bs.set i (b, l.set j (some z))) (w.setCell ⟨b, j, .none⟩ z) := by
  have hm := h.2.2 _ (List.mem_of_getElem? hi)
  refine ⟨h.1.put h.2.1 i hi hm.1 j z, h.2.1.put hi _, fun p hp => ?_⟩
  rw [World.size_setCell]
  obtain ⟨k, hk⟩ := List.getElem?_of_mem hp
  by_cases e : k = i
  · subst e
    rw [List.getElem?_set_self (List.getElem?_eq_some_iff.1 hi).1] at hk
    injection hk with hk
    subst hk
    exact hm
  · rw [List.getElem?_set_ne (Ne.symm e)] at hk
    exact h.2.2 _ (List.mem_of_getElem? hk)
theorem Sp.hit {W w : World} {bs : List (Nat × List (Option Value))} (h : Sp W bs w) (i : Nat) {b : Nat} {l : List (Option Value)} (hi : bs[i]? = some (b, l)) (j : Nat) (hj : l[j]? = some .none) (z : Value) : Sp W bs (w.setCell ⟨b, j, .none⟩ z) := by
  have hm := h.2.2 _ (List.mem_of_getElem? hi)
  exact ⟨h.1.hit h.2.1 i hi hm.1 j hj z, h.2.1, fun p hp => by rw [World.size_setCell]; exact h.2.2 p hp⟩
/-- fewer cells are known, of the same blocks -/
theorem Sp.blank {W w : World} {bs : List (Nat × List (Option Value))} (h : Sp W bs w) (i : Nat) {b : Nat} {l : List (Option Value)} (hi : bs[i]? = some (b, l)) (m : List (Option Value)) (hm : ∀ (j : Nat) (x : Option Value), m[j]? = some x → ∃ y : Option Value, l[j]? = some y ∧ ∀ v, x = some v → y = some v) : Sp W (bs.set i (b, m)) w := by
  refine ⟨h.1.le fun p hp => ?_, h.2.1.put hi m, fun p hp => ?_⟩
  · obtain ⟨k, hk⟩ := List.getElem?_of_mem hp
    by_cases e : k = i
    · subst e
      rw [List.getElem?_set_self (List.getElem?_eq_some_iff.1 hi).1] at hk
      injection hk with hk
      subst hk
      exact ⟨l, List.mem_of_getElem? hi, hm⟩
    · rw [List.getElem?_set_ne (Ne.symm e)] at hk
      exact ⟨p.2, List.mem_of_getElem? hk, fun _ x hx => ⟨x, hx, fun _ hv => hv⟩⟩
  · obtain ⟨k, hk⟩ := List.getElem?_of_mem hp
    by_cases e : k = i
    · subst e
      rw [List.getElem?_set_self (List.getElem?_eq_some_iff.1 hi).1] at hk
      injection hk with hk
      subst hk
      have hm' := h.2.2 _ (List.mem_of_getElem? hi)
      exact hm'
    · rw [List.getElem?_set_ne (Ne.symm e)] at hk
      exact h.2.2 _ (List.mem_of_getElem? hk)
/-- the last blocks are forgotten -/
theorem Sp.take {W w : World} {bs : List (Nat × List (Option Value))} (h : Sp W bs w) (n : Nat) : Sp W (bs.take n) w :=
  ⟨h.1.le fun p hp => ⟨p.2, List.mem_of_mem_take hp, fun _ x hx => ⟨x, hx, fun _ hv => hv⟩⟩, h.2.1.sublist (List.take_sublist n bs), fun p hp => h.2.2 p (List.mem_of_mem_take hp)⟩
theorem Sp.cast {W w : World} {bs cs : List (Nat × List (Option Value))} (h : Sp W bs w) (e : cs = bs) : Sp W cs w := e ▸ h
/-- the world at hand, by a name -/
theorem Sp.named {W w : World} {bs : List (Nat × List (Option Value))} (h : Sp W bs w) : ∃ X, X = w ∧ Sp W bs X := ⟨w, rfl, h⟩
/-- one cell is no more known -/
theorem Sp.forget {W w : World} {bs : List (Nat × List (Option Value))} (h : Sp W bs w) (i : Nat) {b : Nat} {l : List (Option Value)} (hi : bs[i]? = some (b, l)) (j : Nat) : Sp W (bs.set i (b, l.set j .none)) w := by
  refine h.blank i hi _ fun k x hk => ?_
  by_cases e : k = j
  · subst e
    have hl := (List.getElem?_eq_some_iff.1 hk).1
    rw [List.length_set] at hl
    rw [List.getElem?_set_self hl] at hk
    injection hk with hk
    exact ⟨l[k], List.getElem?_eq_getElem hl, fun v hv => by rw [← hk] at hv; cases hv⟩
  · rw [List.getElem?_set_ne (Ne.symm e)] at hk
    exact ⟨x, hk, fun _ hv => hv⟩


end Go.Proofs.Ytmacbcbomdnppaa
