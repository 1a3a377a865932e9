/- Latches in memory ([]api.Latch): gathered by the call itself one by one; read back. As XLas; no program's calls. -/
import Derived.Test.YtmenicgoabmcmaaDoorLdNum
import Derived.Test.YtmenicgoabmcmaaDoorYld
import Derived.Test.YtmenicgoabmcmaaDoorSp
import Derived.WalkKit
import Derived.WalkSpells
import Derived.WalkLawsBesides
import Derived.Lib.Hide
import Derived.OwnWalk
import Derived.Lib.BufSteps
import Derived.Laws.AppendOwnNone
import Derived.Laws.OwnMore
import Derived.LoopN
import Derived.OpenShut
import Derived.WideShapes
import Derived.Deep.WholeRow
import Derived.Deep.CutBlock
import Derived.Deep.CutRange
import Derived.Deep.MidRow
namespace Go.Proofs.YtmenicgoabmcmaaDoor
open Go.RowKit Ld

def lcs : List La → List Value
  | [] => []
  | p :: l => lc p ++ lcs l
theorem lcs_app (l m : List La) : lcs (l ++ m) = lcs l ++ lcs m := by
  induction l with
  | nil => rfl
  | cons f l ih => show lc f ++ lcs (l ++ m) = lc f ++ lcs l ++ lcs m; rw [ih, List.append_assoc]
theorem lcs_length (l : List La) : (lcs l).length = l.length * 6 := by
  induction l with
  | nil => rfl
  | cons f l ih => show (lc f ++ lcs l).length = (l.length + 1) * 6; rw [List.length_append, ih]; show 6 + _ = _; omega
theorem lcs_get : ∀ (l : List La) (j k : Nat), j < l.length → k < 6 → (lcs l)[j * 6 + k]? = (lc (l.getD j la0))[k]?
  | [], j, k, h, _ => absurd h (Nat.not_lt_zero j)
  | f :: l, 0, k, _, hk => by
    show (lc f ++ lcs l)[0 * 6 + k]? = (lc f)[k]?
    rw [Nat.zero_mul, Nat.zero_add, List.getElem?_append_left hk]
  | f :: l, j + 1, k, h, hk => by
    show (lc f ++ lcs l)[(j + 1) * 6 + k]? = _
    rw [List.getElem?_append_right (by show 6 ≤ _; omega)]
    have e : (j + 1) * 6 + k - (lc f).length = j * 6 + k := by show (j + 1) * 6 + k - 6 = _; omega
    rw [e, lcs_get l j k (by simpa using h) hk]
    rfl

/-- latches that lie in memory -/
def LiesLa (w : World) (b o : Nat) (l : List La) : Prop := ∀ j, j < l.length → w.rangeAt b (o + j * 6) (lc (l.getD j la0))
theorem LiesLa.keep {w w' : World} {b o : Nat} {l : List La} (L : LiesLa w b o l) (hb : Below w.heap.size w w') : LiesLa w' b o l := fun j hj k v hv => keepc hb (L j hj k v hv)
/-- latches that a call gave -/
structure CameLa (w : World) (ba : Option Addr) (cap : Nat) (l : List La) : Prop where
  le : l.length ≤ cap
  max : cap ≤ maxLen
  lies : 0 < l.length → ∃ b o, ba = some ⟨b, o, none⟩ ∧ LiesLa w b o l
theorem CameLa.keep {w w' : World} {ba : Option Addr} {cap : Nat} {l : List La} (C : CameLa w ba cap l) (hb : Below w.heap.size w w') : CameLa w' ba cap l :=
  ⟨C.le, C.max, fun h => by obtain ⟨b, o, e, L⟩ := C.lies h; exact ⟨b, o, e, L.keep hb⟩⟩

/-- a slice of the call's own (no block of it below B) holds these latches, and may be written -/
def Las (B : Nat) (w : World) (v : Value) (l : List La) : Prop := w.ownsRow B 23 6 v l.length (lcs l) ∧ B ≤ w.heap.size
theorem infoLa : (Tryd.prog.info? 23).map (fun i => (i.zero, i.size, i.bytes)) = some (some (.agg #[.int .i64 0, .bool false, .int .i64 0, .int .i64 0, .bool false, .bool false]), 6, 40) := by kernel_rfl
theorem infoLa_parts : ∃ i, Tryd.prog.info? 23 = some i ∧ i.zero = some (.agg #[.int .i64 0, .bool false, .int .i64 0, .int .i64 0, .bool false, .bool false]) ∧ i.size = 6 ∧ i.bytes = 40 := by
  have h := infoLa
  cases hi : Tryd.prog.info? 23 with
  | none => rw [hi] at h; cases h
  | some i =>
    rw [hi] at h
    injection h with h
    injection h with h1 h2
    injection h2 with h2 h3
    exact ⟨i, rfl, h1, h2, h3⟩
theorem Las.nil (w : World) : Las w.heap.size w (.slice none 0 0) [] := ⟨World.ownsRow_nil _ _ _ _, Nat.le_refl _⟩
theorem Las.came {B : Nat} {w : World} {v : Value} {l : List La} (h : Las B w v l) : ∃ ba cap, v = .slice ba l.length cap ∧ CameLa w ba cap l := by
  have h1 := h.1
  obtain ⟨_, h0 | ⟨g, cap, cur, hv, _, _, hle, hm, _, _⟩⟩ := h.1
  · have hl : l = [] := List.length_eq_zero_iff.1 h0.2
    subst hl
    exact ⟨none, 0, h0.1, Nat.le_refl _, Nat.zero_le _, fun k => absurd k (by decide)⟩
  · subst hv
    refine ⟨_, _, rfl, hle, hm, fun _ => ⟨g, 0, rfl, fun j hj k v hv => ?_⟩⟩
    have hk : k < 6 := (List.getElem?_eq_some_iff.1 hv).1
    have hc := World.ownsRow.cells h1 (g := g) rfl (j * 6 + k) v (by rw [lcs_get l j k hj hk]; exact hv)
    have e : (⟨g, 0, none⟩ : Addr).add (j * 6 + k) = ⟨g, 0 + j * 6 + k, none⟩ := by unfold Addr.add; split <;> simp_all
    rw [e] at hc
    exact hc
theorem Las.keep {B : Nat} {w w' : World} {v : Value} {l : List La} (h : Las B w v l) (hb : Below w.heap.size w w') : Las B w' v l := by
  refine ⟨⟨h.1.1, ?_⟩, Nat.le_trans h.2 hb.size⟩
  rcases h.1.2 with hn | ⟨g, cap, cur, rfl, h1, hg, rest⟩
  · exact .inl hn
  · exact .inr ⟨g, cap, cur, rfl, h1, by rw [hb.block g (Array.getElem?_eq_some_iff.1 hg).1]; exact hg, rest⟩
/-- what lies from B on has stayed -/
theorem Las.stay {B : Nat} {w w' : World} {v : Value} {l : List La} (h : Las B w v l) (hs : w.heap.size ≤ w'.heap.size) (hg : ∀ g, B ≤ g → g < w.heap.size → w'.heap[g]? = w.heap[g]?) : Las B w' v l := by
  refine ⟨⟨h.1.1, ?_⟩, Nat.le_trans h.2 hs⟩
  rcases h.1.2 with hn | ⟨g, cap, cur, rfl, h1, h2, rest⟩
  · exact .inl hn
  · exact .inr ⟨g, cap, cur, rfl, h1, by rw [hg g h1 (Array.getElem?_eq_some_iff.1 h2).1]; exact h2, rest⟩
theorem heap_setCell {w : World} {b o g : Nat} {v : Value} (h : g ≠ b) : (w.setCell ⟨b, o, none⟩ v).heap[g]? = w.heap[g]? := Below.heap_setCell w ⟨b, o, none⟩ v g h
theorem heap_setCells {b g : Nat} (h : g ≠ b) : ∀ (vs : List Value) (o : Nat) (w : World), (w.setCells b o vs).heap[g]? = w.heap[g]? ∧ (w.setCells b o vs).heap.size = w.heap.size
  | [], _, w => ⟨rfl, rfl⟩
  | v :: vs, o, w => by
    have := heap_setCells h vs (o + 1) (w.setCell ⟨b, o, none⟩ v)
    refine ⟨this.1.trans (heap_setCell h), this.2.trans (World.size_setCell ..)⟩
theorem Las.put {B : Nat} {w : World} {v : Value} {l : List La} (h : Las B w v l) (b : Nat) (hb : b < B) (vs : List Value) : Las B (w.setCells b 0 vs) v l :=
  h.stay (Nat.le_of_eq (heap_setCells (show w.heap.size ≠ b by have := h.2; omega) vs 0 w).2.symm) fun g hg _ => (heap_setCells (by omega) vs 0 w).1

/-- one more behind those of the call's own; the blocks that lie below B stay -/
theorem append_la {B : Nat} {w : World} {v : Value} {l : List La} (ty : TypeId) (hb : Las B w v l) {g : Nat} {f : La} (R : w.rangeAt g 0 (lc f)) (hlen : l.length + 1 ≤ 1000000000000) :
    ∃ v' w', (Builtin.append_ #[32, 32] ty #[v, .slice (some ⟨g, 0, none⟩) 1 1]).run Tryd.prog w = .ok v' w' ∧ Las B w' v' (l ++ [f]) ∧ ∀ {W : World} {bs : List (Nat × List (Option Value))}, W.heap.size ≤ B → (∀ p ∈ bs, p.1 < B) → Sp W bs w → Sp W bs w' := by
  obtain ⟨i, hi, hz, hsize, hby⟩ := infoLa_parts
  obtain ⟨v', w', hr, h2, h3, _⟩ := run_append_own (P := Tryd.prog) w B 32 ty 23 i (.agg #[.int .i64 0, .bool false, .int .i64 0, .int .i64 0, .bool false, .bool false]) 6 40 Tryd.underlying32 hi hz hsize hby rfl (by decide) v l.length (lcs l) hb.1 ⟨g, 0, none⟩ 1 1 (lc f) rfl
    (fun j u hj => by rw [Addr.add_lit]; exact R j u hj) (fun u hu => by simp only [lc, List.mem_cons, List.not_mem_nil, or_false] at hu; rcases hu with rfl | rfl | rfl | rfl | rfl | rfl <;> rfl) (by unfold maxLen; omega) (by omega) hb.2
  have hk : ∀ k, v.ownBlock = some k → B ≤ k := fun k hk => (hb.1.lt k hk).1
  refine ⟨v', w', hr, ⟨?_, Nat.le_trans hb.2 h3.size⟩, fun hW hn h => ⟨⟨h.below.grown h3 h.size fun k e => Nat.le_trans hW (hk k e), fun p hp => ?_⟩, h.2.1, fun p hp => ⟨(h.2.2 p hp).1, Nat.lt_of_lt_of_le (h.2.2 p hp).2 h3.size⟩⟩⟩
  · rw [lcs_app, List.length_append]
    exact h2
  · intro j x hj
    obtain ⟨⟨z, hz, hv⟩, hf⟩ := h.1.2 p hp j x hj
    have hne : some p.1 ≠ v.ownBlock := fun e => by have := hk _ e.symm; have := hn p hp; omega
    exact ⟨⟨z, h3.cell hz hne, hv⟩, by rw [World.frozen?_of_block (a := ⟨p.1, j, none⟩) (h3.block p.1 (h.2.2 p hp).2 hne)]; exact hf⟩
theorem oper_append_la {o : Oper} {a : Act} {w : World} {K : Act → World → Prop} {Q : Exit → Act → World → Prop} {s x : Operand} {B : Nat} {v : Value} {l : List La} {g : Nat} {f : La} (ho : o.op = .call { callee := .builtin .append, args := #[s, x], argTypes := #[32, 32] })
    (hs : a.eval s = v) (hb : Las B w v l) (hx : a.eval x = .slice (some ⟨g, 0, none⟩) 1 1) (R : w.rangeAt g 0 (lc f)) (hlen : l.length + 1 ≤ 1000000000000)
    (h : ∀ v' w', Las B w' v' (l ++ [f]) → (∀ {W : World} {bs : List (Nat × List (Option Value))}, W.heap.size ≤ B → (∀ p ∈ bs, p.1 < B) → Sp W bs w → Sp W bs w') → K (a.put o.dst v') w') : Oper.wp Tryd.prog o a w K Q := by
  obtain ⟨v', w', hr, h1, h2⟩ := append_la o.type hb R hlen
  unfold Oper.wp execOp
  simp only [ho, resolve, invoke, builtin, Sem.run_bind, Sem.run_pure, Result.andThen_ok, List.map_toArray, List.map_cons, List.map_nil, hs, hx, hr]
  exact h v' w' h1 h2
theorem list_append_la {ops : Array Oper} {rest : List Oper} {o : Oper} {a : Act} {w : World} {Q : Exit → Act → World → Prop} {s x : Operand} {B : Nat} {v : Value} {l : List La} {g : Nat} {f : La} (hgd : o.guard = none) (ho : o.op = .call { callee := .builtin .append, args := #[s, x], argTypes := #[32, 32] })
    (hs : a.eval s = v) (hb : Las B w v l) (hx : a.eval x = .slice (some ⟨g, 0, none⟩) 1 1) (R : w.rangeAt g 0 (lc f)) (hlen : l.length + 1 ≤ 1000000000000)
    (h : ∀ v' w', Las B w' v' (l ++ [f]) → (∀ {W : World} {bs : List (Nat × List (Option Value))}, W.heap.size ≤ B → (∀ p ∈ bs, p.1 < B) → Sp W bs w → Sp W bs w') → wpList Tryd.prog ops Q rest (a.put o.dst v') w') : wpList Tryd.prog ops Q (o :: rest) a w :=
  wpList_plain hgd fun _ hK => oper_append_la ho hs hb hx R hlen fun v' w' k k2 => hK _ _ (h v' w' k k2)
theorem Las.slice {B : Nat} {w : World} {v : Value} {l : List La} (h : Las B w v l) (hl : 0 < l.length) : ∃ g cap, v = .slice (some ⟨g, 0, none⟩) l.length cap ∧ LiesLa w g 0 l ∧ l.length ≤ cap ∧ cap ≤ maxLen := by
  obtain ⟨ba, cap, hv, C⟩ := h.came
  obtain ⟨b, o, e, L⟩ := C.lies hl
  have h2 := h.1.2
  subst e
  rcases h2 with hn | ⟨g, cap', cur, hv', _⟩
  · rw [hn.1] at hv; cases hv
  · rw [hv'] at hv
    injection hv with e1 e2 e3
    injection e1 with e1
    injection e1 with e1 e4
    subst e4 e1 e3
    exact ⟨g, cap', hv', L, C.le, C.max⟩
end Go.Proofs.YtmenicgoabmcmaaDoor
