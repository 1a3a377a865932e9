/- Strings in memory that a call has gathered itself: appended to one by one, read back. No program's calls. -/
import Derived.Test.YtaooigldchojcaaDoorInts
namespace Go.Proofs.YtaooigldchojcaaDoor
open Go.RowKit

/-- strings as cells -/
def strs (l : List ByteArray) : List Value := l.map fun s => Value.string s
theorem strs_app (l m : List ByteArray) : strs (l ++ m) = strs l ++ strs m := List.map_append
/-- a slice of the call's own (from block B on; below it the world is as W0) holds these strings -/
def Strs (B : Nat) (W0 w : World) (v : Value) (l : List ByteArray) : Prop := Lib.OwnBuf B 9 v l.length (strs l) W0 w
theorem Strs.below {B : Nat} {W0 w : World} {v : Value} {l : List ByteArray} (h : Strs B W0 w v l) : Below B W0 w := h.2.1
theorem infoS : (Tryd.prog.info? 9).map (fun i => (i.zero, i.size, i.bytes)) = some (some (.string ⟨#[]⟩), 1, 16) := by kernel_rfl
theorem infoS_parts : ∃ i, Tryd.prog.info? 9 = some i ∧ i.zero = some (.string ⟨#[]⟩) ∧ i.size = 1 ∧ i.bytes = 16 := by
  have h := infoS
  cases hi : Tryd.prog.info? 9 with
  | none => rw [hi] at h; cases h
  | some i =>
    rw [hi] at h
    injection h with h
    injection h with h1 h2
    injection h2 with h2 h3
    exact ⟨i, rfl, h1, h2, h3⟩
theorem Strs.nil (w : World) : Strs w.heap.size w w (.slice none 0 0) [] := ⟨World.ownsRowF_nil _ _ _ _, Below.refl _ _, Nat.le_refl _⟩
theorem Strs.alloc {B : Nat} {W0 w : World} {v : Value} {l : List ByteArray} (h : Strs B W0 w v l) (o : Obj) : Strs B W0 (w.alloc o) v l := Lib.OwnBuf.alloc h o
theorem Strs.lies {B : Nat} {W0 w : World} {v : Value} {l : List ByteArray} (h : Strs B W0 w v l) :
    ∃ ba cap, v = .slice ba l.length cap ∧ (0 < l.length → ∃ g, ba = some ⟨g, 0, none⟩ ∧ g < w.heap.size ∧ ∀ (j : Nat) x, l[j]? = some x → w.cell? ⟨g, 0 + j, none⟩ = some (.string x)) ∧ l.length ≤ cap ∧ cap ≤ maxLen := by
  have h1 := h.1
  obtain ⟨_, h0 | ⟨g, cap, cur, fz, hv, _, hg, _, hle, hm, _, _⟩⟩ := h.1
  · have hl : l = [] := List.length_eq_zero_iff.1 h0.2
    subst hl
    exact ⟨none, 0, h0.1, fun k => absurd k (by decide), Nat.le_refl _, Nat.zero_le _⟩
  · subst hv
    refine ⟨_, _, rfl, fun _ => ⟨g, rfl, (Array.getElem?_eq_some_iff.1 hg).1, fun j x hj => ?_⟩, hle, hm⟩
    have hc := World.ownsRowF.cells h1 (g := g) rfl j (.string x) (by simp [strs, hj])
    have e : (⟨g, 0, none⟩ : Addr).add j = ⟨g, j, none⟩ := by unfold Addr.add; split <;> simp_all
    rw [e] at hc
    rw [Nat.zero_add]
    exact hc
theorem Strs.keep {B : Nat} {W0 w w' : World} {v : Value} {l : List ByteArray} (h : Strs B W0 w v l) (hb : Below w.heap.size w w') : Strs B W0 w' v l := by
  refine ⟨⟨h.1.1, ?_⟩, h.2.1.trans (hb.mono h.2.2), Nat.le_trans h.2.2 hb.size⟩
  rcases h.1.2 with hn | ⟨g, cap, cur, fz, rfl, h1, hg, rest⟩
  · exact .inl hn
  · exact .inr ⟨g, cap, cur, fz, rfl, h1, by rw [hb.block g (Array.getElem?_eq_some_iff.1 hg).1]; exact hg, rest⟩

/-- one more, at a list's head -/
theorem list_append_str {ops : Array Oper} {rest : List Oper} {o : Oper} {a : Act} {Q : Exit → Act → World → Prop} (hgd : o.guard = none) (s x : Operand)
    (ho : o.op = .call { callee := .builtin .append, args := #[s, x], argTypes := #[58, 58] })
    {B : Nat} {W0 w0 : World} {v : Value} {l : List ByteArray} (hs : a.eval s = v) (c : ByteArray) (hb : Strs B W0 w0 v l)
    (hx : a.eval x = .slice (some ⟨w0.heap.size, 0, none⟩) 1 1) (hlen : l.length + 1 ≤ 1000000000000)
    (h : ∀ v' w', Strs B W0 w' v' (l ++ [c]) → wpList Tryd.prog ops Q rest (a.put o.dst v') w') : wpList Tryd.prog ops Q (o :: rest) a (w0.alloc (.cells #[.string c] 9)) := by
  obtain ⟨i, hi, hz, hsize, hby⟩ := infoS_parts
  have hb' := Lib.OwnBuf.alloc hb (.cells #[.string c] 9)
  refine wpList_append_ownF (P := Tryd.prog) _ hgd s x 58 ho B 9 i (.string ⟨#[]⟩) 1 16 Tryd.underlying58 hi hz hsize hby rfl (by decide) v l.length (strs l) hs hb'.1 ⟨w0.heap.size, 0, none⟩ 1 1 [.string c] hx rfl ?_ ?_ (by unfold maxLen; omega) (by omega) hb'.2.2 ?_
  · intro j u hj
    match j, hj with
    | 0, hj => simp at hj; subst hj; simp [Addr.add]
    | (j + 1), hj => simp at hj
  · intro u hu; simp at hu; subst hu; rfl
  · intro v' w' ho' hg _
    refine h v' w' ?_
    have k := Lib.OwnBuf.grown hb' ho' hg
    unfold Strs
    rw [strs_app, List.length_append]
    exact k

end Go.Proofs.YtaooigldchojcaaDoor
