/- Pairs of ints in memory ([][2]int): gathered by the call itself, the last one changed in place; read back. No program's calls. -/
import Derived.Test.YtnafodnaolmffaaMem
import Derived.WalkKit
import Derived.WalkSpells
import Derived.WalkLawsBesides
import Derived.Lib.Hide
import Derived.OwnWalk
import Derived.Lib.BufSteps
import Derived.Laws.AppendOwnNone
import Derived.Laws.OwnMore
import Derived.LoopN
import Derived.OpenShut
import Derived.WideShapes
import Derived.Deep.WholeRow
import Derived.Deep.CutBlock
import Derived.Deep.CutRange
namespace Go.Proofs.Ytnafodnaolmffaa
open Go.RowKit

/-- a pair's cells -/
def pc (p : Nat × Nat) : List Value := [.int .i64 (p.1 : Int), .int .i64 (p.2 : Int)]
def pcs : List (Nat × Nat) → List Value
  | [] => []
  | p :: l => pc p ++ pcs l
theorem pcs_app (l m : List (Nat × Nat)) : pcs (l ++ m) = pcs l ++ pcs m := by
  induction l with
  | nil => rfl
  | cons f l ih => show pc f ++ pcs (l ++ m) = pc f ++ pcs l ++ pcs m; rw [ih, List.append_assoc]
theorem pcs_length (l : List (Nat × Nat)) : (pcs l).length = l.length * 2 := by
  induction l with
  | nil => rfl
  | cons f l ih => show (pc f ++ pcs l).length = _; rw [List.length_append, ih, List.length_cons]; show 2 + _ = _; omega
theorem pcs_get : ∀ (l : List (Nat × Nat)) (j k : Nat), j < l.length → k < 2 → (pcs l)[j * 2 + k]? = (pc (l.getD j (0, 0)))[k]?
  | [], j, k, h, _ => absurd h (Nat.not_lt_zero j)
  | f :: l, 0, k, _, hk => by
    show (pc f ++ pcs l)[0 * 2 + k]? = (pc f)[k]?
    rw [Nat.zero_mul, Nat.zero_add, List.getElem?_append_left hk]
  | f :: l, j + 1, k, h, hk => by
    show (pc f ++ pcs l)[(j + 1) * 2 + k]? = _
    rw [List.getElem?_append_right (by show 2 ≤ _; omega)]
    have e : (j + 1) * 2 + k - (pc f).length = j * 2 + k := by show (j + 1) * 2 + k - 2 = _; omega
    rw [e, pcs_get l j k (by simpa using h) hk]
    rfl
theorem pcs_last (o : List (Nat × Nat)) (a b c : Nat) : (pcs (o ++ [(a, b)])).set (o.length * 2 + 1) (.int .i64 (c : Int)) = pcs (o ++ [(a, c)]) := by
  rw [pcs_app, pcs_app, List.set_append_right _ _ (by rw [pcs_length]; omega), pcs_length]
  have e : o.length * 2 + 1 - o.length * 2 = 1 := by omega
  rw [e]
  rfl

/-- pairs that lie in memory -/
def LiesP (w : World) (b o : Nat) (l : List (Nat × Nat)) : Prop := ∀ j, j < l.length → w.rangeAt b (o + j * 2) (pc (l.getD j (0, 0)))
theorem LiesP.keep {w w' : World} {b o : Nat} {l : List (Nat × Nat)} (L : LiesP w b o l) (hb : Below w.heap.size w w') : LiesP w' b o l := fun j hj k v hv => keepc hb (L j hj k v hv)
theorem LiesP.at {w : World} {b o : Nat} {l : List (Nat × Nat)} (L : LiesP w b o l) (j : Nat) (hj : j < l.length) :
    w.cell? ⟨b, o + j * 2, none⟩ = some (.int .i64 ((l.getD j (0, 0)).1 : Int)) ∧ w.cell? ⟨b, o + j * 2 + 1, none⟩ = some (.int .i64 ((l.getD j (0, 0)).2 : Int)) :=
  ⟨L j hj 0 _ rfl, L j hj 1 _ rfl⟩
/-- pairs that a call gave -/
structure CameP (w : World) (ba : Option Addr) (cap : Nat) (l : List (Nat × Nat)) : Prop where
  le : l.length ≤ cap
  max : cap ≤ maxLen
  lies : 0 < l.length → ∃ b o, ba = some ⟨b, o, none⟩ ∧ LiesP w b o l
theorem CameP.keep {w w' : World} {ba : Option Addr} {cap : Nat} {l : List (Nat × Nat)} (C : CameP w ba cap l) (hb : Below w.heap.size w w') : CameP w' ba cap l :=
  ⟨C.le, C.max, fun h => by obtain ⟨b, o, e, L⟩ := C.lies h; exact ⟨b, o, e, L.keep hb⟩⟩

/-- a slice of the call's own (from block B on; below it the world is as W0) holds these pairs, and may be written -/
def Prs (B : Nat) (W0 w : World) (v : Value) (l : List (Nat × Nat)) : Prop := w.ownsRow B 44 2 v l.length (pcs l) ∧ Below B W0 w ∧ B ≤ w.heap.size
theorem Prs.below {B : Nat} {W0 w : World} {v : Value} {l : List (Nat × Nat)} (h : Prs B W0 w v l) : Below B W0 w := h.2.1
theorem infoP : (Try.prog.info? 44).map (fun i => (i.zero, i.size, i.bytes)) = some (some (.agg #[.int .i64 0, .int .i64 0]), 2, 16) := by kernel_rfl
theorem infoP_parts : ∃ i, Try.prog.info? 44 = some i ∧ i.zero = some (.agg #[.int .i64 0, .int .i64 0]) ∧ i.size = 2 ∧ i.bytes = 16 := by
  have h := infoP
  cases hi : Try.prog.info? 44 with
  | none => rw [hi] at h; cases h
  | some i =>
    rw [hi] at h
    injection h with h
    injection h with h1 h2
    injection h2 with h2 h3
    exact ⟨i, rfl, h1, h2, h3⟩
theorem Prs.nil (w : World) : Prs w.heap.size w w (.slice none 0 0) [] := ⟨World.ownsRow_nil _ _ _ _, Below.refl _ _, Nat.le_refl _⟩
theorem Prs.alloc {B : Nat} {W0 w : World} {v : Value} {l : List (Nat × Nat)} (h : Prs B W0 w v l) (o : Obj) : Prs B W0 (w.alloc o) v l :=
  ⟨h.1.alloc o, h.2.1.alloc h.2.2 o, Nat.le_trans h.2.2 ((Below.refl 0 w).alloc (Nat.zero_le _) o).size⟩
theorem Prs.came {B : Nat} {W0 w : World} {v : Value} {l : List (Nat × Nat)} (h : Prs B W0 w v l) : ∃ ba cap, v = .slice ba l.length cap ∧ CameP w ba cap l := by
  have h1 := h.1
  obtain ⟨_, h0 | ⟨g, cap, cur, hv, _, _, hle, hm, _, _⟩⟩ := h.1
  · have hl : l = [] := List.length_eq_zero_iff.1 h0.2
    subst hl
    exact ⟨none, 0, h0.1, Nat.le_refl _, Nat.zero_le _, fun k => absurd k (by decide)⟩
  · subst hv
    refine ⟨_, _, rfl, hle, hm, fun _ => ⟨g, 0, rfl, fun j hj k v hv => ?_⟩⟩
    have hk : k < 2 := (List.getElem?_eq_some_iff.1 hv).1
    have hc := World.ownsRow.cells h1 (g := g) rfl (j * 2 + k) v (by rw [pcs_get l j k hj hk]; exact hv)
    have e : (⟨g, 0, none⟩ : Addr).add (j * 2 + k) = ⟨g, 0 + j * 2 + k, none⟩ := by unfold Addr.add; split <;> simp_all
    rw [e] at hc
    exact hc
theorem Prs.keep {B : Nat} {W0 w w' : World} {v : Value} {l : List (Nat × Nat)} (h : Prs B W0 w v l) (hb : Below w.heap.size w w') : Prs B W0 w' v l := by
  refine ⟨⟨h.1.1, ?_⟩, h.2.1.trans (hb.mono h.2.2), Nat.le_trans h.2.2 hb.size⟩
  rcases h.1.2 with hn | ⟨g, cap, cur, rfl, h1, hg, rest⟩
  · exact .inl hn
  · exact .inr ⟨g, cap, cur, rfl, h1, by rw [hb.block g (Array.getElem?_eq_some_iff.1 hg).1]; exact hg, rest⟩
theorem Prs.drew {B : Nat} {W0 w : World} {v : Value} {l : List (Nat × Nat)} (h : Prs B W0 w v l) : Prs B W0 w.drew v l := ⟨h.1, h.2.1.drew, h.2.2⟩
/-- the last one, where it lies, and that it may be written -/
theorem Prs.last {B : Nat} {W0 w : World} {v : Value} {o : List (Nat × Nat)} {a b : Nat} (h : Prs B W0 w v (o ++ [(a, b)])) :
    ∃ g cap, v = .slice (some ⟨g, 0, none⟩) (o.length + 1) cap ∧ w.cell? ⟨g, o.length * 2 + 1, none⟩ = some (.int .i64 (b : Int)) ∧ w.frozen? ⟨g, o.length * 2 + 1, none⟩ = false ∧ o.length + 1 ≤ cap ∧ cap ≤ maxLen ∧
      ∀ c : Nat, Prs B W0 (w.setCell ⟨g, o.length * 2 + 1, none⟩ (.int .i64 (c : Int))) (.slice (some ⟨g, 0, none⟩) (o.length + 1) cap) (o ++ [(a, c)]) := by
  have h1 := h.1
  obtain ⟨_, h0 | ⟨g, cap, cur, rfl, hB, _, hle, hm, _, _⟩⟩ := h.1
  · have := h0.2
    simp at this
  · rw [List.length_append, List.length_singleton] at h1 hle
    have hc := World.ownsRow.cells h1 (g := g) rfl (o.length * 2 + 1) (.int .i64 (b : Int)) (by rw [pcs_get _ o.length 1 (by simp) (by decide)]; simp [List.getD, pc])
    rw [Go.WideShapes.add_plain, Nat.zero_add] at hc
    refine ⟨g, cap, by rw [List.length_append, List.length_singleton], hc, World.ownsRow.frozenAt h1 _, hle, hm, fun c => ?_⟩
    obtain ⟨s1, _⟩ := World.ownsRow.stored h1 (o.length * 2 + 1) (.int .i64 (c : Int))
    rw [pcs_last] at s1
    refine ⟨by rw [List.length_append, List.length_singleton]; exact s1, h.2.1.setCell (p := ⟨g, o.length * 2 + 1, none⟩) hB _, ?_⟩
    have e : (w.setCell ⟨g, o.length * 2 + 1, none⟩ (.int .i64 (c : Int))).heap.size = w.heap.size := by simp [World.setCell]
    rw [e]
    exact h.2.2

/-- one more, at a list's head -/
theorem list_append_pr {ops : Array Oper} {rest : List Oper} {o : Oper} {a : Act} {Q : Exit → Act → World → Prop} (hgd : o.guard = none) (s x : Operand)
    (ho : o.op = .call { callee := .builtin .append, args := #[s, x], argTypes := #[42, 42] })
    {B : Nat} {W0 w0 : World} {v : Value} {l : List (Nat × Nat)} (hs : a.eval s = v) (p : Nat × Nat) (hb : Prs B W0 w0 v l)
    (hx : a.eval x = .slice (some ⟨w0.heap.size, 0, none⟩) 1 1) (hlen : l.length + 1 ≤ 1000000000000)
    (h : ∀ v' w', Prs B W0 w' v' (l ++ [p]) → wpList Try.prog ops Q rest (a.put o.dst v') w') : wpList Try.prog ops Q (o :: rest) a (w0.alloc (.cells (pc p).toArray 44)) := by
  obtain ⟨i, hi, hz, hsize, hby⟩ := infoP_parts
  have hb' := hb.alloc (.cells (pc p).toArray 44)
  refine wpList_append_own (P := Try.prog) _ hgd s x 42 ho B 44 i (.agg #[.int .i64 0, .int .i64 0]) 2 16 Try.underlying42 hi hz hsize hby rfl (by decide) v l.length (pcs l) hs hb'.1 ⟨w0.heap.size, 0, none⟩ 1 1 (pc p) hx rfl ?_ ?_ (by unfold maxLen; omega) (by omega) hb'.2.2 ?_
  · intro j u hj
    rw [Go.WideShapes.add_plain, cell_of_row _ _ _ _ _ (0, 0) (heap_alloc_last w0 _)]
    simpa using hj
  · intro u hu
    simp only [pc, List.mem_cons, List.not_mem_nil, or_false] at hu
    rcases hu with rfl | rfl <;> rfl
  · intro v' w' ho' hg _
    refine h v' w' ⟨?_, hb'.2.1.grown hg hb'.2.2 (fun k hk => (hb'.1.lt k hk).1), Nat.le_trans hb'.2.2 hg.size⟩
    rw [pcs_app, List.length_append]
    exact ho'
end Go.Proofs.Ytnafodnaolmffaa
