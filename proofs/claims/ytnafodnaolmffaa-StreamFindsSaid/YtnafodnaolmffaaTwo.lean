/- Two rows of the call's own at once: bytes and frames; an append to one leaves the other. No program's calls. -/
import Derived.Test.YtnafodnaolmffaaFrs
import Derived.Test.YtnafodnaolmffaaBufCame
namespace Go.Proofs.Ytnafodnaolmffaa
open Go.RowKit

theorem own_apart {w : World} {B B' : Nat} {u v : Value} {n m : Nat} {xs ys : List Value} (h : w.ownsRowF B 35 4 u n xs) (k : w.ownsRowF B' 5 1 v m ys) : ∀ g, u.ownBlock = some g → v.ownBlock ≠ some g := by
  intro g hg hv
  rcases h.2 with ⟨rfl, _⟩ | ⟨g1, _, cur, fz, rfl, _, hh, _⟩
  · simp [Value.ownBlock] at hg
  · rcases k.2 with ⟨rfl, _⟩ | ⟨g2, _, cur2, fz2, rfl, _, hh2, _⟩
    · simp [Value.ownBlock] at hv
    · simp [Value.ownBlock] at hg hv
      subst hg; subst hv
      rw [hh] at hh2
      injection hh2 with e
      injection e with _ e
      exact absurd e (by decide)

theorem apart_or {u v : Value} (h : ∀ g, u.ownBlock = some g → v.ownBlock ≠ some g) : u.ownBlock = none ∨ u.ownBlock ≠ v.ownBlock := by
  cases e : u.ownBlock with
  | none => exact .inl rfl
  | some g => exact .inr fun k => h g e k.symm

theorem list_append_came2 {ops : Array Oper} {rest : List Oper} {o : Oper} {a : Act} {w : World} {Q : Exit → Act → World → Prop} {B : Nat} {W0 : World} {v : Value} {l : List UInt8}
    {s x : Operand} {m : List UInt8} {ba : Option Addr} {c : Nat} {u : Value} {fs : List Fr} (hgd : o.guard = none) (ho : o.op = .call { callee := .builtin .append, args := #[s, x], argTypes := #[22, 22] })
    (hs : a.eval s = v) (hb : Bytes B W0 w v l) (hu : Frs B W0 w u fs) (hx : a.eval x = .slice ba m.length c) (C : Came w ba c m) (hm : 0 < m.length) (hlen : l.length + m.length ≤ 140737488355328)
    (h : ∀ v' w', Bytes B W0 w' v' (l ++ m) → Frs B W0 w' u fs → w.grownBy w' v.ownBlock → wpList Try.prog ops Q rest (a.put o.dst v') w') : wpList Try.prog ops Q (o :: rest) a w :=
  wpList_plain hgd fun K hK => by
    obtain ⟨g, o', rfl, L⟩ := C.lies hm
    obtain ⟨i0, hi, hz0, hz1, hz2⟩ := info_parts info8
    obtain ⟨v', w', hr, h2, h3, _⟩ := run_append_ownF (P := Try.prog) w B 22 o.type 5 i0 (.int .u8 0) 1 1 Try.underlying22 hi hz0 hz1 hz2 rfl (by decide) v l.length (vals l) hb.1 ⟨g, o', none⟩ m.length c (vals m) (by simp [vals]) L.cellsA (vals_oneA m) (by unfold maxLen; omega) (by omega) hb.2.2
    have k := Lib.OwnBuf.grown hb h2 h3
    have q : Bytes B W0 w' v' (l ++ m) := by
      unfold Bytes
      rw [vals_app, List.length_append]
      exact k
    unfold Oper.wp execOp
    simp only [ho, resolve, invoke, builtin, Sem.run_bind, Sem.run_pure, Result.andThen_ok, List.map_toArray, List.map_cons, List.map_nil, hs, hx, hr]
    exact hK _ _ (h v' w' q ⟨hu.1.kept h3 (apart_or (own_apart hu.1 hb.1)), k.2.1, k.2.2⟩ h3)

theorem list_append_fr2 {ops : Array Oper} {rest : List Oper} {o : Oper} {a : Act} {Q : Exit → Act → World → Prop} (hgd : o.guard = none) (s x : Operand)
    (ho : o.op = .call { callee := .builtin .append, args := #[s, x], argTypes := #[24, 24] })
    {B : Nat} {W0 w0 : World} {v u : Value} {l : List Fr} {bs : List UInt8} (hs : a.eval s = v) (f : Fr) (hb : Frs B W0 w0 v l) (hu : Bytes B W0 w0 u bs)
    (hx : a.eval x = .slice (some ⟨w0.heap.size, 0, none⟩) 1 1) (hlen : l.length + 1 ≤ 1000000000000)
    (h : ∀ v' w', Frs B W0 w' v' (l ++ [f]) → Bytes B W0 w' u bs → wpList Try.prog ops Q rest (a.put o.dst v') w') : wpList Try.prog ops Q (o :: rest) a (w0.alloc (.cells (fc f).toArray 35)) := by
  obtain ⟨i, hi, hz, hsize, hby⟩ := infoFr_parts
  have hb' := hb.alloc (.cells (fc f).toArray 35)
  have hu' := hu.alloc (.cells (fc f).toArray 35)
  refine wpList_append_ownF (P := Try.prog) _ hgd s x 24 ho B 35 i (fv fr0) 4 32 Try.underlying24 hi hz hsize hby rfl (by decide) v l.length (fcs l) hs hb'.1 ⟨w0.heap.size, 0, none⟩ 1 1 (fc f) hx rfl ?_ ?_ (by unfold maxLen; omega) (by omega) hb'.2.2 ?_
  · intro j u hj
    have e : (⟨w0.heap.size, 0, none⟩ : Addr).add j = ⟨w0.heap.size, j, none⟩ := by unfold Addr.add; split <;> simp_all
    rw [e, cell_of_row _ _ j _ _ (0, 0) (heap_alloc_last w0 _)]
    simpa using hj
  · intro u hu
    simp only [fc, List.mem_cons, List.not_mem_nil, or_false] at hu
    rcases hu with rfl | rfl | rfl | rfl <;> rfl
  · intro v' w' ho' hg _
    have b1 := hb'.2.1.grown hg hb'.2.2 (fun k hk => (hb'.1.lt k hk).1)
    have b2 := Nat.le_trans hb'.2.2 hg.size
    refine h v' w' ⟨?_, b1, b2⟩ ⟨hu'.1.kept hg (apart_or fun g hg' hv => own_apart hb'.1 hu'.1 g hv hg'), b1, b2⟩
    rw [fcs_app, List.length_append]
    exact ho'
end Go.Proofs.Ytnafodnaolmffaa
