/- Frames in memory: gathered by the call itself one by one, or come in; read back. No program's calls. -/
import Derived.Test.YtnafodnaolmffaaFrmB
import Derived.WalkKit
import Derived.WalkSpells
import Derived.WalkLawsBesides
import Derived.Lib.Hide
import Derived.OwnWalk
import Derived.Lib.BufSteps
import Derived.Laws.AppendOwnNone
import Derived.LoopN
import Derived.OpenShut
import Derived.Deep.WholeRow
import Derived.Deep.CutBlock
import Derived.Deep.CutRange
import Derived.Test.YtnafodnaolmffaaMem
namespace Go.Proofs.Ytnafodnaolmffaa
open Go.RowKit

def fr0 : Fr := ⟨0, 0, false, 0⟩
/-- a frame's cells -/
def fc (f : Fr) : List Value := [.int .i64 f.src, .int .i64 f.cnt, .bool f.well, .int .i64 f.val]
theorem fv_fc (f : Fr) : fv f = .agg (fc f).toArray := rfl
def fcs : List Fr → List Value
  | [] => []
  | f :: l => fc f ++ fcs l
theorem fcs_app (l m : List Fr) : fcs (l ++ m) = fcs l ++ fcs m := by
  induction l with
  | nil => rfl
  | cons f l ih => show fc f ++ fcs (l ++ m) = fc f ++ fcs l ++ fcs m; rw [ih, List.append_assoc]
theorem fcs_one (f : Fr) : fcs [f] = fc f := rfl
theorem fcs_length (l : List Fr) : (fcs l).length = l.length * 4 := by
  induction l with
  | nil => rfl
  | cons f l ih => show (fc f ++ fcs l).length = _; rw [List.length_append, ih, List.length_cons]; show 4 + _ = _; omega
theorem fcs_get : ∀ (l : List Fr) (j k : Nat), j < l.length → k < 4 → (fcs l)[j * 4 + k]? = (fc (l.getD j fr0))[k]?
  | [], j, k, h, _ => absurd h (Nat.not_lt_zero j)
  | f :: l, 0, k, _, hk => by
    show (fc f ++ fcs l)[0 * 4 + k]? = (fc f)[k]?
    rw [Nat.zero_mul, Nat.zero_add, List.getElem?_append_left hk]
  | f :: l, j + 1, k, h, hk => by
    show (fc f ++ fcs l)[(j + 1) * 4 + k]? = _
    rw [List.getElem?_append_right (by show 4 ≤ _; omega)]
    have e : (j + 1) * 4 + k - (fc f).length = j * 4 + k := by show (j + 1) * 4 + k - 4 = _; omega
    rw [e, fcs_get l j k (by simpa using h) hk]
    rfl
/-- frames that lie in memory -/
def LiesFr (w : World) (b o : Nat) (l : List Fr) : Prop := ∀ j, j < l.length → w.rangeAt b (o + j * 4) (fc (l.getD j fr0))
theorem LiesFr.keep {w w' : World} {b o : Nat} {l : List Fr} (L : LiesFr w b o l) (hb : Below w.heap.size w w') : LiesFr w' b o l := fun j hj k v hv => keepc hb (L j hj k v hv)
theorem LiesFr.at {w : World} {b o : Nat} {l : List Fr} (L : LiesFr w b o l) (j : Nat) (hj : j < l.length) :
    w.cell? ⟨b, o + j * 4, none⟩ = some (.int .i64 (l.getD j fr0).src) ∧ w.cell? ⟨b, o + j * 4 + 1, none⟩ = some (.int .i64 (l.getD j fr0).cnt) ∧
    w.cell? ⟨b, o + j * 4 + 2, none⟩ = some (.bool (l.getD j fr0).well) ∧ w.cell? ⟨b, o + j * 4 + 3, none⟩ = some (.int .i64 (l.getD j fr0).val) :=
  ⟨L j hj 0 _ rfl, L j hj 1 _ rfl, L j hj 2 _ rfl, L j hj 3 _ rfl⟩
/-- frames that came in, or that a call gave -/
structure CameFr (w : World) (ba : Option Addr) (cap : Nat) (l : List Fr) : Prop where
  le : l.length ≤ cap
  max : cap ≤ maxLen
  lies : 0 < l.length → ∃ b o, ba = some ⟨b, o, none⟩ ∧ LiesFr w b o l
theorem CameFr.keep {w w' : World} {ba : Option Addr} {cap : Nat} {l : List Fr} (C : CameFr w ba cap l) (hb : Below w.heap.size w w') : CameFr w' ba cap l :=
  ⟨C.le, C.max, fun h => by obtain ⟨b, o, e, L⟩ := C.lies h; exact ⟨b, o, e, L.keep hb⟩⟩

/-- a slice of the call's own (from block B on; below it the world is as W0) holds these frames -/
def Frs (B : Nat) (W0 w : World) (v : Value) (l : List Fr) : Prop := w.ownsRowF B 35 4 v l.length (fcs l) ∧ Below B W0 w ∧ B ≤ w.heap.size
theorem Frs.below {B : Nat} {W0 w : World} {v : Value} {l : List Fr} (h : Frs B W0 w v l) : Below B W0 w := h.2.1
theorem infoFr : (Try.prog.info? 35).map (fun i => (i.zero, i.size, i.bytes)) = some (some (fv fr0), 4, 32) := by kernel_rfl
theorem infoFr_parts : ∃ i, Try.prog.info? 35 = some i ∧ i.zero = some (fv fr0) ∧ i.size = 4 ∧ i.bytes = 32 := by
  have h := infoFr
  cases hi : Try.prog.info? 35 with
  | none => rw [hi] at h; cases h
  | some i =>
    rw [hi] at h
    injection h with h
    injection h with h1 h2
    injection h2 with h2 h3
    exact ⟨i, rfl, h1, h2, h3⟩
theorem Frs.nil (w : World) : Frs w.heap.size w w (.slice none 0 0) [] := ⟨World.ownsRowF_nil _ _ _ _, Below.refl _ _, Nat.le_refl _⟩
theorem Frs.alloc {B : Nat} {W0 w : World} {v : Value} {l : List Fr} (h : Frs B W0 w v l) (o : Obj) : Frs B W0 (w.alloc o) v l :=
  ⟨h.1.alloc o, h.2.1.alloc h.2.2 o, Nat.le_trans h.2.2 ((Below.refl 0 w).alloc (Nat.zero_le _) o).size⟩
theorem Frs.came {B : Nat} {W0 w : World} {v : Value} {l : List Fr} (h : Frs B W0 w v l) : ∃ ba cap, v = .slice ba l.length cap ∧ CameFr w ba cap l := by
  have h1 := h.1
  obtain ⟨_, h0 | ⟨g, cap, cur, fz, hv, _, _, _, hle, hm, _, _⟩⟩ := h.1
  · have hl : l = [] := List.length_eq_zero_iff.1 h0.2
    subst hl
    exact ⟨none, 0, h0.1, Nat.le_refl _, Nat.zero_le _, fun k => absurd k (by decide)⟩
  · subst hv
    refine ⟨_, _, rfl, hle, hm, fun _ => ⟨g, 0, rfl, fun j hj k v hv => ?_⟩⟩
    have hk : k < 4 := (List.getElem?_eq_some_iff.1 hv).1
    have hc := World.ownsRowF.cells h1 (g := g) rfl (j * 4 + k) v (by rw [fcs_get l j k hj hk]; exact hv)
    have e : (⟨g, 0, none⟩ : Addr).add (j * 4 + k) = ⟨g, 0 + j * 4 + k, none⟩ := by unfold Addr.add; split <;> simp_all
    rw [e] at hc
    exact hc
theorem Frs.keep {B : Nat} {W0 w w' : World} {v : Value} {l : List Fr} (h : Frs B W0 w v l) (hb : Below w.heap.size w w') : Frs B W0 w' v l := by
  refine ⟨⟨h.1.1, ?_⟩, h.2.1.trans (hb.mono h.2.2), Nat.le_trans h.2.2 hb.size⟩
  rcases h.1.2 with hn | ⟨g, cap, cur, fz, rfl, h1, hg, rest⟩
  · exact .inl hn
  · exact .inr ⟨g, cap, cur, fz, rfl, h1, by rw [hb.block g (Array.getElem?_eq_some_iff.1 hg).1]; exact hg, rest⟩

/-- one more, at a list's head -/
theorem list_append_fr {ops : Array Oper} {rest : List Oper} {o : Oper} {a : Act} {Q : Exit → Act → World → Prop} (hgd : o.guard = none) (s x : Operand)
    (ho : o.op = .call { callee := .builtin .append, args := #[s, x], argTypes := #[24, 24] })
    {B : Nat} {W0 w0 : World} {v : Value} {l : List Fr} (hs : a.eval s = v) (f : Fr) (hb : Frs B W0 w0 v l)
    (hx : a.eval x = .slice (some ⟨w0.heap.size, 0, none⟩) 1 1) (hlen : l.length + 1 ≤ 1000000000000)
    (h : ∀ v' w', Frs B W0 w' v' (l ++ [f]) → wpList Try.prog ops Q rest (a.put o.dst v') w') : wpList Try.prog ops Q (o :: rest) a (w0.alloc (.cells (fc f).toArray 35)) := by
  obtain ⟨i, hi, hz, hsize, hby⟩ := infoFr_parts
  have hb' := hb.alloc (.cells (fc f).toArray 35)
  refine wpList_append_ownF (P := Try.prog) _ hgd s x 24 ho B 35 i (fv fr0) 4 32 Try.underlying24 hi hz hsize hby rfl (by decide) v l.length (fcs l) hs hb'.1 ⟨w0.heap.size, 0, none⟩ 1 1 (fc f) hx rfl ?_ ?_ (by unfold maxLen; omega) (by omega) hb'.2.2 ?_
  · intro j u hj
    have e : (⟨w0.heap.size, 0, none⟩ : Addr).add j = ⟨w0.heap.size, j, none⟩ := by unfold Addr.add; split <;> simp_all
    rw [e, cell_of_row _ _ j _ _ (0, 0) (heap_alloc_last w0 _)]
    simpa using hj
  · intro u hu
    simp only [fc, List.mem_cons, List.not_mem_nil, or_false] at hu
    rcases hu with rfl | rfl | rfl | rfl <;> rfl
  · intro v' w' ho' hg _
    refine h v' w' ⟨?_, hb'.2.1.grown hg hb'.2.2 (fun k hk => (hb'.1.lt k hk).1), Nat.le_trans hb'.2.2 hg.size⟩
    rw [fcs_app, List.length_append]
    exact ho'

end Go.Proofs.Ytnafodnaolmffaa
