/- A variable's block of cells over appends (its type is not the row's). No program's calls. -/
import Derived.Test.YtdalajfjikbcaaaBufOwn
namespace Go.Proofs.Ytdalajfjikbcaaa
open Go.RowKit

/-- block g holds just these cells, none of them frozen -/
def Vr (w : World) (g : Nat) (c : Array Value) (T : TypeId) : Prop := w.heap[g]? = some (.cells c T (0, 0))
theorem Vr.new (w : World) (c : Array Value) (T : TypeId) : Vr (w.alloc (.cells c T)) w.heap.size c T := by
  show (w.heap.push _)[w.heap.size]? = _
  simp
theorem Vr.lt {w : World} {g : Nat} {c : Array Value} {T : TypeId} (h : Vr w g c T) : g < w.heap.size := (Array.getElem?_eq_some_iff.1 h).1
theorem Vr.keep {w w' : World} {g : Nat} {c : Array Value} {T : TypeId} (h : Vr w g c T) (hb : Below w.heap.size w w') : Vr w' g c T := (hb.block g h.lt).trans h
theorem Vr.drew {w : World} {g : Nat} {c : Array Value} {T : TypeId} (h : Vr w g c T) : Vr w.drew g c T := h
theorem Vr.grown {w w' : World} {g : Nat} {c : Array Value} {T : TypeId} (h : Vr w g c T) {B : Nat} {W0 : World} {v : Value} {l : List UInt8} (hb : Bytes B W0 w v l) (hg : w.grownBy w' v.ownBlock) (hT : T ≠ 5) : Vr w' g c T := by
  refine (hg.block g h.lt fun e => ?_).trans h
  rcases hb.1.2 with ⟨rfl, _⟩ | ⟨g2, _, cur2, fz2, rfl, _, hh2, _⟩
  · simp [Value.ownBlock] at e
  · simp [Value.ownBlock] at e
    subst e
    rw [h] at hh2
    injection hh2 with e
    injection e with _ e
    exact hT e
theorem Vr.at {w : World} {g : Nat} {c : Array Value} {T : TypeId} (h : Vr w g c T) (j : Nat) {v : Value} (hj : c[j]? = some v) : w.cell? ⟨g, j, none⟩ = some v := by
  rw [cell_of_row _ _ j _ _ _ h]; exact hj
theorem Vr.free {w : World} {g : Nat} {c : Array Value} {T : TypeId} (h : Vr w g c T) (j : Nat) : w.frozen? ⟨g, j, none⟩ = false := frozen_of_row w g j c T h
theorem Vr.set {w : World} {g : Nat} {c : Array Value} {T : TypeId} (h : Vr w g c T) (j : Nat) (v : Value) : Vr (w.setCell ⟨g, j, none⟩ v) g (c.setIfInBounds j v) T := heap_setCell_same w g j c T v h

section
variable {o : Oper} {a : Act} {w : World} {K : Act → World → Prop} {Q : Exit → Act → World → Prop} {B : Nat} {W0 : World} {v : Value} {l : List UInt8}
theorem oper_append_cameV {s x : Operand} {m : List UInt8} {ba : Option Addr} {c : Nat} (ho : o.op = .call { callee := .builtin .append, args := #[s, x], argTypes := #[22, 22] })
    (hs : a.eval s = v) (hb : Bytes0 B W0 w v l) (hx : a.eval x = .slice ba m.length c) (C : Came w ba c m) (hlen : l.length + m.length ≤ 140737488355328)
    (h : ∀ v' w', Bytes0 B W0 w' v' (l ++ m) → (∀ {g : Nat} {c : Array Value} {T : TypeId}, Vr w g c T → T ≠ 5 → Vr w' g c T) → K (a.put o.dst v') w') : Oper.wp Try.prog o a w K Q := by
  obtain ⟨i0, hi, hz0, hz1, hz2⟩ := info_parts info8
  have fin : ∀ (ad : Addr), (∀ j u, (vals m)[j]? = some u → w.cell? (ad.add j) = some u) → ∃ v' w', (Builtin.append_ #[22, 22] o.type #[v, .slice (some ad) m.length c]).run Try.prog w = .ok v' w' ∧ Bytes0 B W0 w' v' (l ++ m) ∧ w.grownBy w' v.ownBlock := fun ad ha => by
    obtain ⟨v', w', hr, h2, h3, _⟩ := run_append_own (P := Try.prog) w B 22 o.type 5 i0 (.int .u8 0) 1 1 Try.underlying22 hi hz0 hz1 hz2 rfl (by decide) v l.length (vals l) hb.1 ad m.length c (vals m) (by simp [vals]) ha (vals_oneA m) (by unfold maxLen; omega) (by omega) hb.2.2
    have k := Lib.OwnBuf.grown hb.bytes (World.ownsRowF_of h2) h3
    refine ⟨v', w', hr, ⟨?_, k.2⟩, h3⟩
    rw [vals_app, List.length_append]
    exact h2
  have both : ∃ v' w', (Builtin.append_ #[22, 22] o.type #[v, .slice ba m.length c]).run Try.prog w = .ok v' w' ∧ Bytes0 B W0 w' v' (l ++ m) ∧ w.grownBy w' v.ownBlock := by
    by_cases h0 : 0 < m.length
    · obtain ⟨g, o', rfl, L⟩ := C.lies h0
      exact fin _ L.cellsA
    · obtain rfl : m = [] := List.length_eq_zero_iff.1 (by omega)
      match ba, C, fin with
      | none, C, _ =>
        obtain ⟨_, rfl⟩ := C.nil rfl
        rw [List.append_nil]
        exact ⟨v, w, run_append_owned_none (P := Try.prog) w B 22 o.type 5 i0 1 Try.underlying22 hi v l.length (vals l) hb.1, hb, World.grownBy.refl _ _⟩
      | some a, _, fin => exact fin a (fun j u h => by simp [vals] at h)
  obtain ⟨v', w', hr, h2, h3⟩ := both
  unfold Oper.wp execOp
  simp only [ho, resolve, invoke, builtin, Sem.run_bind, Sem.run_pure, Result.andThen_ok, List.map_toArray, List.map_cons, List.map_nil, hs, hx, hr]
  exact h v' w' h2 fun hv hT => hv.grown hb.bytes h3 hT
end
theorem Bytes0.low {w u x : World} {v : Value} {l : List UInt8} (h : Bytes0 u.heap.size u x v l) (hb : Below w.heap.size w u) : Bytes0 w.heap.size w x v l := by
  refine ⟨⟨h.1.1, ?_⟩, belowT hb h.2.1, Nat.le_trans hb.size h.2.2⟩
  rcases h.1.2 with hn | ⟨g, cap, cur, rfl, h1, hg, rest⟩
  · exact .inl hn
  · exact .inr ⟨g, cap, cur, rfl, Nat.le_trans hb.size h1, hg, rest⟩
theorem Bytes0.keep {B : Nat} {W0 w w' : World} {v : Value} {l : List UInt8} (h : Bytes0 B W0 w v l) (hb : Below w.heap.size w w') : Bytes0 B W0 w' v l := by
  refine ⟨⟨h.1.1, ?_⟩, h.2.1.trans (hb.mono h.2.2), Nat.le_trans h.2.2 hb.size⟩
  rcases h.1.2 with hn | ⟨g, cap, cur, rfl, h1, hg, rest⟩
  · exact .inl hn
  · exact .inr ⟨g, cap, cur, rfl, h1, by rw [hb.block g (Array.getElem?_eq_some_iff.1 hg).1]; exact hg, rest⟩
end Go.Proofs.Ytdalajfjikbcaaa
