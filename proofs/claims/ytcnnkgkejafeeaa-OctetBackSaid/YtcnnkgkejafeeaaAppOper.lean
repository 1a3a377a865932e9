/- One append of the call's own bytes: at one operation (in a drawn region), and at the head of a list. -/
import Derived.Test.YtcnnkgkejafeeaaBytesStr
import Derived.Test.YtcnnkgkejafeeaaOctVar
namespace Go.Proofs.Ytcnnkgkejafeeaa
open Go.RowKit

theorem Lies.cellsA {w : World} {b o : Nat} {l : List UInt8} (L : Lies w b o l) : ∀ j u, (vals l)[j]? = some u → w.cell? ((⟨b, o, none⟩ : Addr).add j) = some u := by
  intro j u hj
  have hl : j < l.length := by
    have := (List.getElem?_eq_some_iff.1 hj).1
    simpa [vals] using this
  have e : (⟨b, o, none⟩ : Addr).add j = ⟨b, o + j, none⟩ := by unfold Addr.add; split <;> simp_all
  rw [e, L j hl]
  simpa [vals, List.getD, List.getElem?_eq_getElem hl] using hj
theorem vals_oneA (l : List UInt8) : ∀ u ∈ vals l, u.oneCell' = true := by
  intro u hu
  simp only [vals, List.mem_map] at hu
  obtain ⟨c, _, rfl⟩ := hu
  rfl

theorem append_bytes {B : Nat} {W0 w : World} {v : Value} {l m : List UInt8} {g o c : Nat} (ty : TypeId) (hb : Bytes B W0 w v l) (L : Lies w g o m) (hlen : l.length + m.length ≤ 140737488355328) :
    ∃ v' w', (Builtin.append_ #[22, 22] ty #[v, .slice (some ⟨g, o, none⟩) m.length c]).run Try.prog w = .ok v' w' ∧ Bytes B W0 w' v' (l ++ m) := by
  obtain ⟨i0, hi, hz0, hz1, hz2⟩ := info_parts info8
  obtain ⟨v', w', hr, h2, h3, _⟩ := run_append_ownF (P := Try.prog) w B 22 ty 5 i0 (.int .u8 0) 1 1 Try.underlying22 hi hz0 hz1 hz2 rfl (by decide) v l.length (vals l) hb.1 ⟨g, o, none⟩ m.length c (vals m) (by simp [vals]) L.cellsA (vals_oneA m) (by unfold maxLen; omega) (by omega) hb.2.2
  refine ⟨v', w', hr, ?_⟩
  have k := Lib.OwnBuf.grown hb h2 h3
  unfold Bytes
  rw [vals_app, List.length_append]
  exact k

theorem append_text {B : Nat} {W0 w : World} {v : Value} {l : List UInt8} (ty : TypeId) (hb : Bytes B W0 w v l) (s : ByteArray) (hlen : l.length + s.size ≤ 140737488355328) :
    ∃ v' w', (Builtin.append_ #[22, 9] ty #[v, .string s]).run Try.prog w = .ok v' w' ∧ Bytes B W0 w' v' (l ++ s.data.toList) := by
  obtain ⟨i0, hi, hz0, hz1, hz2⟩ := info_parts info8
  obtain ⟨v', w', hr, h2, h3, _⟩ := Lib.run_append_own_stringF (P := Try.prog) w B 22 9 ty 5 i0 Try.underlying22 Try.underlying9 hi hz0 hz1 hz2 v l.length (vals l) hb.1 s (by unfold maxLen; omega) hlen hb.2.2
  refine ⟨v', w', hr, ?_⟩
  have k := Lib.OwnBuf.grown hb h2 h3
  unfold Bytes
  rw [vals_app, List.length_append, ← strCells_vals, show s.data.toList.length = s.size from Array.length_toList]
  exact k

section
variable {o : Oper} {a : Act} {w : World} {K : Act → World → Prop} {Q : Exit → Act → World → Prop} {B : Nat} {W0 : World} {v : Value} {l : List UInt8}

theorem oper_append_bytes {s x : Operand} {m : List UInt8} {g c : Nat} (ho : o.op = .call { callee := .builtin .append, args := #[s, x], argTypes := #[22, 22] })
    (hs : a.eval s = v) (hb : Bytes B W0 w v l) (hx : a.eval x = .slice (some ⟨g, 0, none⟩) m.length c) (L : Lies w g 0 m) (hlen : l.length + m.length ≤ 140737488355328)
    (h : ∀ v' w', Bytes B W0 w' v' (l ++ m) → K (a.put o.dst v') w') : Oper.wp Try.prog o a w K Q := by
  obtain ⟨v', w', hr, h2⟩ := append_bytes o.type (c := c) hb L hlen
  unfold Oper.wp execOp
  simp only [ho, resolve, invoke, builtin, Sem.run_bind, Sem.run_pure, Result.andThen_ok, List.map_toArray, List.map_cons, List.map_nil, hs, hx, hr]
  exact h v' w' h2

theorem oper_append_text {s x : Operand} {t : ByteArray} (ho : o.op = .call { callee := .builtin .append, args := #[s, x], argTypes := #[22, 9] })
    (hs : a.eval s = v) (hb : Bytes B W0 w v l) (hx : a.eval x = .string t) (hlen : l.length + t.size ≤ 140737488355328)
    (h : ∀ v' w', Bytes B W0 w' v' (l ++ t.data.toList) → K (a.put o.dst v') w') : Oper.wp Try.prog o a w K Q := by
  obtain ⟨v', w', hr, h2⟩ := append_text o.type hb t hlen
  unfold Oper.wp execOp
  simp only [ho, resolve, invoke, builtin, Sem.run_bind, Sem.run_pure, Result.andThen_ok, List.map_toArray, List.map_cons, List.map_nil, hs, hx, hr]
  exact h v' w' h2
end

section
variable {ops : Array Oper} {rest : List Oper} {o : Oper} {a : Act} {w : World} {Q : Exit → Act → World → Prop} {B : Nat} {W0 : World} {v : Value} {l : List UInt8}

theorem list_append_bytes {s x : Operand} {m : List UInt8} {g c : Nat} (hgd : o.guard = none) (ho : o.op = .call { callee := .builtin .append, args := #[s, x], argTypes := #[22, 22] })
    (hs : a.eval s = v) (hb : Bytes B W0 w v l) (hx : a.eval x = .slice (some ⟨g, 0, none⟩) m.length c) (L : Lies w g 0 m) (hlen : l.length + m.length ≤ 140737488355328)
    (h : ∀ v' w', Bytes B W0 w' v' (l ++ m) → wpList Try.prog ops Q rest (a.put o.dst v') w') : wpList Try.prog ops Q (o :: rest) a w :=
  wpList_plain hgd fun _ hK => oper_append_bytes ho hs hb hx L hlen fun v' w' k => hK _ _ (h v' w' k)
theorem list_append_text {s x : Operand} {t : ByteArray} (hgd : o.guard = none) (ho : o.op = .call { callee := .builtin .append, args := #[s, x], argTypes := #[22, 9] })
    (hs : a.eval s = v) (hb : Bytes B W0 w v l) (hx : a.eval x = .string t) (hlen : l.length + t.size ≤ 140737488355328)
    (h : ∀ v' w', Bytes B W0 w' v' (l ++ t.data.toList) → wpList Try.prog ops Q rest (a.put o.dst v') w') : wpList Try.prog ops Q (o :: rest) a w :=
  wpList_plain hgd fun _ hK => oper_append_text ho hs hb hx hlen fun v' w' k => hK _ _ (h v' w' k)
end

/-- a fresh empty slice -/
theorem empty_bytes (w : World) (t : TypeId) (ht : t = 5) : Bytes w.heap.size w (w.alloc (.cells #[] t)) (.slice (some ⟨w.heap.size, 0, none⟩) 0 0) [] := by
  subst ht
  exact ⟨⟨rfl, Or.inr ⟨w.heap.size, 0, #[], (0, 0), rfl, Nat.le_refl _, by show (w.heap.push _)[w.heap.size]? = _; simp, Nat.le_refl _, Nat.le_refl _, by decide, rfl, rfl⟩⟩, below1 w _, by simp⟩
theorem empty_bytes_drew (w : World) (t : TypeId) (ht : t = 5) : Bytes w.heap.size w (w.drew.alloc (.cells #[] t)) (.slice (some ⟨w.heap.size, 0, none⟩) 0 0) [] := by
  subst ht
  exact ⟨⟨rfl, Or.inr ⟨w.heap.size, 0, #[], (0, 0), rfl, Nat.le_refl _, by show (w.heap.push _)[w.heap.size]? = _; simp, Nat.le_refl _, Nat.le_refl _, by decide, rfl, rfl⟩⟩, (Below.refl _ _).drew.alloc (Nat.le_refl _) _, by show _ ≤ (w.heap.push _).size; simp⟩

theorem Bytes.alloc {B : Nat} {W0 w : World} {v : Value} {l : List UInt8} (h : Bytes B W0 w v l) (o : Obj) : Bytes B W0 (w.alloc o) v l := Lib.OwnBuf.alloc h o

/-- a text's bytes, in memory of the call's own -/
theorem bytes_of (w : World) (s : ByteArray) (hs : s.size ≤ 1024) : ∃ g c w', (convert 9 22 (.string s)).run Try.prog w = .ok (.slice (some ⟨g, 0, none⟩) s.size c) w' ∧ Below w.heap.size w w' ∧ Lies w' g 0 s.data.toList ∧ s.size ≤ c ∧ c ≤ maxLen := by
  refine ⟨_, _, _, run_bytes_of_string w 9 22 5 s Try.underlying9 Try.underlying22 Try.underlying5, (Below.refl _ _).drew.alloc (Nat.le_refl _) _, ?_, grownCap_ge w s.size 0 _, grownCap_le_maxLen w s.size 0 _ (by unfold maxLen; omega)⟩
  intro j hj
  have hj' : j < s.data.size := by simpa using hj
  have e : w.heap.size = w.drew.heap.size := rfl
  rw [e, World.cell?_alloc_mark]
  have hj2 : j < s.size := hj'
  simp [bytesRow, List.getD, hj2, Array.getElem?_append]

end Go.Proofs.Ytcnnkgkejafeeaa
