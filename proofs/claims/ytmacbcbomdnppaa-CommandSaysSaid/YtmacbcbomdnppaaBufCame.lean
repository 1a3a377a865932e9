/- Bytes that came in, appended; bytes of the call's own in every later world. -/
import Derived.Test.YtmacbcbomdnppaaBuf
namespace Go.Proofs.Ytmacbcbomdnppaa
open Go.RowKit

theorem append_noneF {P : Program} {w : World} (base : Nat) (t ty e : TypeId) (i : TypeInfo) (size : Nat) (ht : P.underlying t = some (.slice e)) (hi : P.info? e = some i)
    (v : Value) (n : Nat) (xs : List Value) (hown : w.ownsRowF base e size v n xs) : (Builtin.append_ #[t, t] ty #[v, .slice none 0 0]).run P w = .ok v w := by
  rcases hown.2 with ⟨rfl, rfl⟩ | ⟨g, cap, cur, fz, rfl, _, _, _, hnc, _⟩
  · simp [Builtin.append_, run_underlying ht, sizeOf, typeInfo, hi, Builtin.lenOf, Builtin.firstCells]
  · simp [Builtin.append_, run_underlying ht, sizeOf, typeInfo, hi, Builtin.lenOf, Builtin.firstCells, hnc, storeCells]

theorem append_came {B : Nat} {W0 w : World} {v : Value} {l m : List UInt8} {ba : Option Addr} {c : Nat} (ty : TypeId) (hb : Bytes B W0 w v l) (C : Came w ba c m) (hlen : l.length + m.length ≤ 140737488355328) :
    ∃ v' w', (Builtin.append_ #[24, 24] ty #[v, .slice ba m.length c]).run Try.prog w = .ok v' w' ∧ Bytes B W0 w' v' (l ++ m) := by
  by_cases h0 : 0 < m.length
  · obtain ⟨g, o, rfl, L⟩ := C.lies h0
    exact append_bytes ty hb L hlen
  · obtain rfl : m = [] := List.length_eq_zero_iff.1 (by omega)
    obtain ⟨i0, hi, hz0, hz1, hz2⟩ := info_parts info8
    rw [List.append_nil]
    match ba, C with
    | none, C =>
      obtain ⟨_, rfl⟩ := C.nil rfl
      exact ⟨v, w, append_noneF (P := Try.prog) B 24 ty 5 i0 1 Try.underlying24 hi v l.length (vals l) hb.1, hb⟩
    | some a, C =>
      obtain ⟨v', w', hr, h2, h3, _⟩ := run_append_ownF (P := Try.prog) w B 24 ty 5 i0 (.int .u8 0) 1 1 Try.underlying24 hi hz0 hz1 hz2 rfl (by decide) v l.length (vals l) hb.1 a 0 c [] rfl (fun j u h => by simp at h) (fun u h => by simp at h) (by unfold maxLen; simp at hlen; omega) (by simp at hlen; omega) hb.2.2
      have k := Lib.OwnBuf.grown hb h2 h3
      rw [List.append_nil, Nat.add_zero] at k
      exact ⟨v', w', hr, k⟩

section
variable {o : Oper} {a : Act} {w : World} {K : Act → World → Prop} {Q : Exit → Act → World → Prop} {B : Nat} {W0 : World} {v : Value} {l : List UInt8}
theorem oper_append_came {s x : Operand} {m : List UInt8} {ba : Option Addr} {c : Nat} (ho : o.op = .call { callee := .builtin .append, args := #[s, x], argTypes := #[24, 24] })
    (hs : a.eval s = v) (hb : Bytes B W0 w v l) (hx : a.eval x = .slice ba m.length c) (C : Came w ba c m) (hlen : l.length + m.length ≤ 140737488355328)
    (h : ∀ v' w', Bytes B W0 w' v' (l ++ m) → K (a.put o.dst v') w') : Oper.wp Try.prog o a w K Q := by
  obtain ⟨v', w', hr, h2⟩ := append_came o.type (c := c) hb C hlen
  unfold Oper.wp execOp
  simp only [ho, resolve, invoke, builtin, Sem.run_bind, Sem.run_pure, Result.andThen_ok, List.map_toArray, List.map_cons, List.map_nil, hs, hx, hr]
  exact h v' w' h2
end
section
variable {ops : Array Oper} {rest : List Oper} {o : Oper} {a : Act} {w : World} {Q : Exit → Act → World → Prop} {B : Nat} {W0 : World} {v : Value} {l : List UInt8}
theorem list_append_came {s x : Operand} {m : List UInt8} {ba : Option Addr} {c : Nat} (hgd : o.guard = none) (ho : o.op = .call { callee := .builtin .append, args := #[s, x], argTypes := #[24, 24] })
    (hs : a.eval s = v) (hb : Bytes B W0 w v l) (hx : a.eval x = .slice ba m.length c) (C : Came w ba c m) (hlen : l.length + m.length ≤ 140737488355328)
    (h : ∀ v' w', Bytes B W0 w' v' (l ++ m) → wpList Try.prog ops Q rest (a.put o.dst v') w') : wpList Try.prog ops Q (o :: rest) a w :=
  wpList_plain hgd fun _ hK => oper_append_came ho hs hb hx C hlen fun v' w' k => hK _ _ (h v' w' k)
end

theorem Bytes.keep {B : Nat} {W0 w w' : World} {v : Value} {l : List UInt8} (h : Bytes B W0 w v l) (hb : Below w.heap.size w w') : Bytes B W0 w' v l := by
  obtain ⟨⟨h1, h2⟩, h3, h4⟩ := h
  refine ⟨⟨h1, ?_⟩, h3.trans (hb.mono h4), Nat.le_trans h4 hb.size⟩
  rcases h2 with h2 | ⟨g, cap, cur, fz, hv, hg, hh, rest⟩
  · exact Or.inl h2
  · refine Or.inr ⟨g, cap, cur, fz, hv, hg, ?_, rest⟩
    have : g < w.heap.size := by
      by_cases k : g < w.heap.size
      · exact k
      · rw [Array.getElem?_eq_none (by omega)] at hh; cases hh
    rw [hb.block g this, hh]

end Go.Proofs.Ytmacbcbomdnppaa
