/- Whole numbers in memory ([]int): gathered by the call itself one by one; read back; beside frames. No program's calls. -/
import Derived.Test.YtnafodnaolmffaaFrs
namespace Go.Proofs.Ytnafodnaolmffaa
open Go.RowKit

def ics (l : List Nat) : List Value := l.map fun n : Nat => Value.int .i64 (n : Int)
theorem ics_app (l m : List Nat) : ics (l ++ m) = ics l ++ ics m := List.map_append
theorem ics_length (l : List Nat) : (ics l).length = l.length := List.length_map _
theorem ics_get (l : List Nat) (j : Nat) (h : j < l.length) : (ics l)[j]? = some (.int .i64 (l.getD j 0 : Nat)) := by
  unfold ics
  rw [List.getElem?_map, List.getElem?_eq_getElem h]
  simp [List.getD, List.getElem?_eq_getElem h]
/-- numbers that lie in memory -/
structure CameN (w : World) (ba : Option Addr) (cap : Nat) (l : List Nat) : Prop where
  le : l.length ≤ cap
  max : cap ≤ maxLen
  lies : 0 < l.length → ∃ b o, ba = some ⟨b, o, none⟩ ∧ ∀ j, j < l.length → w.cell? ⟨b, o + j, none⟩ = some (.int .i64 (l.getD j 0 : Nat))
theorem CameN.keep {w w' : World} {ba : Option Addr} {cap : Nat} {l : List Nat} (C : CameN w ba cap l) (hb : Below w.heap.size w w') : CameN w' ba cap l :=
  ⟨C.le, C.max, fun h => by obtain ⟨b, o, e, L⟩ := C.lies h; exact ⟨b, o, e, fun j hj => keepc hb (L j hj)⟩⟩

/-- a slice of the call's own (from block B on; below it the world is as W0) holds these numbers -/
def Ins (B : Nat) (W0 w : World) (v : Value) (l : List Nat) : Prop := w.ownsRowF B 3 1 v l.length (ics l) ∧ Below B W0 w ∧ B ≤ w.heap.size
theorem Ins.below {B : Nat} {W0 w : World} {v : Value} {l : List Nat} (h : Ins B W0 w v l) : Below B W0 w := h.2.1
theorem infoI : (Try.prog.info? 3).map (fun i => (i.zero, i.size, i.bytes)) = some (some (.int .i64 0), 1, 8) := by kernel_rfl
theorem infoI_parts : ∃ i, Try.prog.info? 3 = some i ∧ i.zero = some (.int .i64 0) ∧ i.size = 1 ∧ i.bytes = 8 := by
  have h := infoI
  cases hi : Try.prog.info? 3 with
  | none => rw [hi] at h; cases h
  | some i =>
    rw [hi] at h
    injection h with h
    injection h with h1 h2
    injection h2 with h2 h3
    exact ⟨i, rfl, h1, h2, h3⟩
theorem Ins.nil (w : World) : Ins w.heap.size w w (.slice none 0 0) [] := ⟨World.ownsRowF_nil _ _ _ _, Below.refl _ _, Nat.le_refl _⟩
theorem Ins.alloc {B : Nat} {W0 w : World} {v : Value} {l : List Nat} (h : Ins B W0 w v l) (o : Obj) : Ins B W0 (w.alloc o) v l :=
  ⟨h.1.alloc o, h.2.1.alloc h.2.2 o, Nat.le_trans h.2.2 ((Below.refl 0 w).alloc (Nat.zero_le _) o).size⟩
theorem Ins.came {B : Nat} {W0 w : World} {v : Value} {l : List Nat} (h : Ins B W0 w v l) : ∃ ba cap, v = .slice ba l.length cap ∧ CameN w ba cap l := by
  have h1 := h.1
  obtain ⟨_, h0 | ⟨g, cap, cur, fz, hv, _, _, _, hle, hm, _, _⟩⟩ := h.1
  · have hl : l = [] := List.length_eq_zero_iff.1 h0.2
    subst hl
    exact ⟨none, 0, h0.1, Nat.le_refl _, Nat.zero_le _, fun k => absurd k (by decide)⟩
  · subst hv
    refine ⟨_, _, rfl, hle, hm, fun _ => ⟨g, 0, rfl, fun j hj => ?_⟩⟩
    have hc := World.ownsRowF.cells h1 (g := g) rfl j _ (ics_get l j hj)
    have e : (⟨g, 0, none⟩ : Addr).add j = ⟨g, 0 + j, none⟩ := by unfold Addr.add; split <;> simp_all
    rw [e] at hc
    exact hc
theorem Ins.keep {B : Nat} {W0 w w' : World} {v : Value} {l : List Nat} (h : Ins B W0 w v l) (hb : Below w.heap.size w w') : Ins B W0 w' v l := by
  refine ⟨⟨h.1.1, ?_⟩, h.2.1.trans (hb.mono h.2.2), Nat.le_trans h.2.2 hb.size⟩
  rcases h.1.2 with hn | ⟨g, cap, cur, fz, rfl, h1, hg, rest⟩
  · exact .inl hn
  · exact .inr ⟨g, cap, cur, fz, rfl, h1, by rw [hb.block g (Array.getElem?_eq_some_iff.1 hg).1]; exact hg, rest⟩

theorem rows_apart {w : World} {B B' s s' : Nat} {t t' : TypeId} (ht : t ≠ t') {u v : Value} {n m : Nat} {xs ys : List Value} (h : w.ownsRowF B t s u n xs) (k : w.ownsRowF B' t' s' v m ys) : u.ownBlock = none ∨ u.ownBlock ≠ v.ownBlock := by
  rcases h.2 with ⟨rfl, _⟩ | ⟨g1, _, cur, fz, rfl, _, hh, _⟩
  · exact .inl rfl
  · refine .inr fun e => ?_
    rcases k.2 with ⟨rfl, _⟩ | ⟨g2, _, cur2, fz2, rfl, _, hh2, _⟩
    · simp [Value.ownBlock] at e
    · simp [Value.ownBlock] at e
      subst e
      rw [hh] at hh2
      injection hh2 with e
      injection e with _ e
      exact ht e

/-- one more number, at a list's head; frames beside stay -/
theorem list_append_in {ops : Array Oper} {rest : List Oper} {o : Oper} {a : Act} {Q : Exit → Act → World → Prop} (hgd : o.guard = none) (s x : Operand)
    (ho : o.op = .call { callee := .builtin .append, args := #[s, x], argTypes := #[46, 46] })
    {B : Nat} {W0 w0 : World} {v u : Value} {l : List Nat} {fs : List Fr} (hs : a.eval s = v) (k : Nat) (hb : Ins B W0 w0 v l) (hu : Frs B W0 w0 u fs)
    (hx : a.eval x = .slice (some ⟨w0.heap.size, 0, none⟩) 1 1) (hlen : l.length + 1 ≤ 1000000000000)
    (h : ∀ v' w', Ins B W0 w' v' (l ++ [k]) → Frs B W0 w' u fs → wpList Try.prog ops Q rest (a.put o.dst v') w') : wpList Try.prog ops Q (o :: rest) a (w0.alloc (.cells #[.int .i64 (k : Int)] 3)) := by
  obtain ⟨i, hi, hz, hsize, hby⟩ := infoI_parts
  have hb' := hb.alloc (.cells #[.int .i64 (k : Int)] 3)
  have hu' := hu.alloc (.cells #[.int .i64 (k : Int)] 3)
  refine wpList_append_ownF (P := Try.prog) _ hgd s x 46 ho B 3 i (.int .i64 0) 1 8 Try.underlying46 hi hz hsize hby rfl (by decide) v l.length (ics l) hs hb'.1 ⟨w0.heap.size, 0, none⟩ 1 1 (ics [k]) hx rfl ?_ ?_ (by unfold maxLen; omega) (by omega) hb'.2.2 ?_
  · intro j u hj
    have e : (⟨w0.heap.size, 0, none⟩ : Addr).add j = ⟨w0.heap.size, j, none⟩ := by unfold Addr.add; split <;> simp_all
    rw [e, cell_of_row _ _ j _ _ (0, 0) (heap_alloc_last w0 _)]
    simpa [ics] using hj
  · intro u hu
    simp only [ics, List.map_cons, List.map_nil, List.mem_cons, List.not_mem_nil, or_false] at hu
    subst hu
    rfl
  · intro v' w' ho' hg _
    have b1 := hb'.2.1.grown hg hb'.2.2 (fun k hk => (hb'.1.lt k hk).1)
    have b2 := Nat.le_trans hb'.2.2 hg.size
    refine h v' w' ⟨?_, b1, b2⟩ ⟨hu'.1.kept hg (rows_apart (by decide) hu'.1 hb'.1), b1, b2⟩
    rw [ics_app, List.length_append]
    exact ho'

/-- one more frame, at a list's head; numbers beside stay -/
theorem list_append_fr3 {ops : Array Oper} {rest : List Oper} {o : Oper} {a : Act} {Q : Exit → Act → World → Prop} (hgd : o.guard = none) (s x : Operand)
    (ho : o.op = .call { callee := .builtin .append, args := #[s, x], argTypes := #[24, 24] })
    {B : Nat} {W0 w0 : World} {v u : Value} {l : List Fr} {ns : List Nat} (hs : a.eval s = v) (f : Fr) (hb : Frs B W0 w0 v l) (hu : Ins B W0 w0 u ns)
    (hx : a.eval x = .slice (some ⟨w0.heap.size, 0, none⟩) 1 1) (hlen : l.length + 1 ≤ 1000000000000)
    (h : ∀ v' w', Frs B W0 w' v' (l ++ [f]) → Ins B W0 w' u ns → wpList Try.prog ops Q rest (a.put o.dst v') w') : wpList Try.prog ops Q (o :: rest) a (w0.alloc (.cells (fc f).toArray 35)) := by
  obtain ⟨i, hi, hz, hsize, hby⟩ := infoFr_parts
  have hb' := hb.alloc (.cells (fc f).toArray 35)
  have hu' := hu.alloc (.cells (fc f).toArray 35)
  refine wpList_append_ownF (P := Try.prog) _ hgd s x 24 ho B 35 i (fv fr0) 4 32 Try.underlying24 hi hz hsize hby rfl (by decide) v l.length (fcs l) hs hb'.1 ⟨w0.heap.size, 0, none⟩ 1 1 (fc f) hx rfl ?_ ?_ (by unfold maxLen; omega) (by omega) hb'.2.2 ?_
  · intro j u hj
    have e : (⟨w0.heap.size, 0, none⟩ : Addr).add j = ⟨w0.heap.size, j, none⟩ := by unfold Addr.add; split <;> simp_all
    rw [e, cell_of_row _ _ j _ _ (0, 0) (heap_alloc_last w0 _)]
    simpa using hj
  · intro u hu
    simp only [fc, List.mem_cons, List.not_mem_nil, or_false] at hu
    rcases hu with rfl | rfl | rfl | rfl <;> rfl
  · intro v' w' ho' hg _
    have b1 := hb'.2.1.grown hg hb'.2.2 (fun k hk => (hb'.1.lt k hk).1)
    have b2 := Nat.le_trans hb'.2.2 hg.size
    refine h v' w' ⟨?_, b1, b2⟩ ⟨hu'.1.kept hg (rows_apart (by decide) hu'.1 hb'.1), b1, b2⟩
    rw [fcs_app, List.length_append]
    exact ho'
end Go.Proofs.Ytnafodnaolmffaa
