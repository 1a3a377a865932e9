/- Ints in memory that a call has gathered itself: appended to one by one, read back. No program's calls. -/
import Derived.Test.YtldbkompebefmaaDoorMem
import Derived.WalkKit
import Derived.WalkSpells
import Derived.WalkLawsBesides
import Derived.Lib.Hide
import Derived.OwnWalk
import Derived.Lib.BufSteps
import Derived.Laws.AppendOwnNone
import Derived.LoopN
import Derived.OpenShut
namespace Go.Proofs.YtldbkompebefmaaDoor
open Go.RowKit

/-- ints as cells -/
def ints (l : List Int) : List Value := l.map fun n => Value.int .i64 n
theorem ints_app (l m : List Int) : ints (l ++ m) = ints l ++ ints m := List.map_append
/-- ints that lie in memory, from a block's begin on -/
def LiesI (w : World) (ba : Option Addr) (l : List Int) : Prop := 0 < l.length → ∃ g, ba = some ⟨g, 0, none⟩ ∧ ∀ j, j < l.length → w.cell? ⟨g, j, none⟩ = some (.int .i64 (l.getD j 0))
theorem LiesI.keep {w w' : World} {ba : Option Addr} {l : List Int} (L : LiesI w ba l) (hb : Below w.heap.size w w') : LiesI w' ba l := fun h => by
  obtain ⟨g, e, c⟩ := L h
  exact ⟨g, e, fun j hj => keepc hb (c j hj)⟩
/-- a slice of the call's own (from block B on; below it the world is as W0) holds these ints -/
def Ints (B : Nat) (W0 w : World) (v : Value) (l : List Int) : Prop := Lib.OwnBuf B 3 v l.length (ints l) W0 w
theorem Ints.below {B : Nat} {W0 w : World} {v : Value} {l : List Int} (h : Ints B W0 w v l) : Below B W0 w := h.2.1
theorem infoI : (Tryd.prog.info? 3).map (fun i => (i.zero, i.size, i.bytes)) = some (some (.int .i64 0), 1, 8) := by kernel_rfl
theorem infoI_parts : ∃ i, Tryd.prog.info? 3 = some i ∧ i.zero = some (.int .i64 0) ∧ i.size = 1 ∧ i.bytes = 8 := by
  have h := infoI
  cases hi : Tryd.prog.info? 3 with
  | none => rw [hi] at h; cases h
  | some i =>
    rw [hi] at h
    injection h with h
    injection h with h1 h2
    injection h2 with h2 h3
    exact ⟨i, rfl, h1, h2, h3⟩
theorem Ints.nil (w : World) : Ints w.heap.size w w (.slice none 0 0) [] := ⟨World.ownsRowF_nil _ _ _ _, Below.refl _ _, Nat.le_refl _⟩
theorem Ints.alloc {B : Nat} {W0 w : World} {v : Value} {l : List Int} (h : Ints B W0 w v l) (o : Obj) : Ints B W0 (w.alloc o) v l := Lib.OwnBuf.alloc h o
theorem Ints.lies {B : Nat} {W0 w : World} {v : Value} {l : List Int} (h : Ints B W0 w v l) : ∃ ba cap, v = .slice ba l.length cap ∧ LiesI w ba l ∧ l.length ≤ cap ∧ cap ≤ maxLen := by
  have h1 := h.1
  obtain ⟨_, h0 | ⟨g, cap, cur, fz, hv, _, _, _, hle, hm, _, _⟩⟩ := h.1
  · have hl : l = [] := List.length_eq_zero_iff.1 h0.2
    subst hl
    exact ⟨none, 0, h0.1, fun k => absurd k (by decide), Nat.le_refl _, Nat.zero_le _⟩
  · subst hv
    refine ⟨_, _, rfl, fun _ => ⟨g, rfl, fun j hj => ?_⟩, hle, hm⟩
    have hc := World.ownsRowF.cells h1 (g := g) rfl j (.int .i64 (l.getD j 0)) (by simp [ints, List.getD, List.getElem?_eq_getElem hj])
    have e : (⟨g, 0, none⟩ : Addr).add j = ⟨g, j, none⟩ := by unfold Addr.add; split <;> simp_all
    rw [e] at hc
    exact hc

theorem Ints.keep {B : Nat} {W0 w w' : World} {v : Value} {l : List Int} (h : Ints B W0 w v l) (hb : Below w.heap.size w w') : Ints B W0 w' v l := by
  refine ⟨⟨h.1.1, ?_⟩, h.2.1.trans (hb.mono h.2.2), Nat.le_trans h.2.2 hb.size⟩
  rcases h.1.2 with hn | ⟨g, cap, cur, fz, rfl, h1, hg, rest⟩
  · exact .inl hn
  · exact .inr ⟨g, cap, cur, fz, rfl, h1, by rw [hb.block g (Array.getElem?_eq_some_iff.1 hg).1]; exact hg, rest⟩

/-- one more, at a list's head -/
theorem list_append_int {ops : Array Oper} {rest : List Oper} {o : Oper} {a : Act} {Q : Exit → Act → World → Prop} (hgd : o.guard = none) (s x : Operand)
    (ho : o.op = .call { callee := .builtin .append, args := #[s, x], argTypes := #[58, 58] })
    {B : Nat} {W0 w0 : World} {v : Value} {l : List Int} (hs : a.eval s = v) (c : Int) (hb : Ints B W0 w0 v l)
    (hx : a.eval x = .slice (some ⟨w0.heap.size, 0, none⟩) 1 1) (hlen : l.length + 1 ≤ 10000000000000)
    (h : ∀ v' w', Ints B W0 w' v' (l ++ [c]) → wpList Tryd.prog ops Q rest (a.put o.dst v') w') : wpList Tryd.prog ops Q (o :: rest) a (w0.alloc (.cells #[.int .i64 c] 3)) := by
  obtain ⟨i, hi, hz, hsize, hby⟩ := infoI_parts
  have hb' := Lib.OwnBuf.alloc hb (.cells #[.int .i64 c] 3)
  refine wpList_append_ownF (P := Tryd.prog) _ hgd s x 58 ho B 3 i (.int .i64 0) 1 8 Tryd.underlying58 hi hz hsize hby rfl (by decide) v l.length (ints l) hs hb'.1 ⟨w0.heap.size, 0, none⟩ 1 1 [.int .i64 c] hx rfl ?_ ?_ (by unfold maxLen; omega) (by omega) hb'.2.2 ?_
  · intro j u hj
    match j, hj with
    | 0, hj => simp at hj; subst hj; simp [Addr.add]
    | (j + 1), hj => simp at hj
  · intro u hu; simp at hu; subst hu; rfl
  · intro v' w' ho' hg _
    refine h v' w' ?_
    have k := Lib.OwnBuf.grown hb' ho' hg
    unfold Ints
    rw [ints_app, List.length_append]
    exact k

end Go.Proofs.YtldbkompebefmaaDoor
