/- Whole numbers of 64 bits in memory ([]int64): those that came in; those that a call has gathered itself. No program's calls. -/
import Derived.Test.YtkjkmnclnedfhaaDoorMem
import Derived.Test.YtkjkmnclnedfhaaDoorSpec
import Derived.Test.YtkjkmnclnedfhaaDoorPost
import Derived.WalkKit
import Derived.WalkSpells
import Derived.WalkLawsBesides
import Derived.Lib.Hide
import Derived.OwnWalk
import Derived.Lib.BufSteps
import Derived.Laws.BytesArg
import Derived.Laws.AppendOwnNone
import Derived.LoopN
import Derived.OpenShut
import Derived.ChangeSlices
import Derived.WideShapes
namespace Go.Proofs.YtkjkmnclnedfhaaDoor
open Go.ChangeShapes Go.WideShapes Go.RowKit

/-- numbers as cells -/
def c64 (l : List Int) : List Value := l.map fun n => Value.int .i64 n
theorem c64_app (l m : List Int) : c64 (l ++ m) = c64 l ++ c64 m := List.map_append
theorem c64_get (l : List Int) (j : Nat) (h : j < l.length) : (c64 l)[j]? = some (.int .i64 (l.getD j 0)) := by
  unfold c64
  rw [List.getElem?_map, List.getElem?_eq_getElem h]
  simp [List.getD, List.getElem?_eq_getElem h]
/-- each has room in 64 bits -/
def Rooms (l : List Int) : Prop := ∀ x ∈ l, Fix.Room x
theorem Rooms.at {l : List Int} (h : Rooms l) (j : Nat) (hj : j < l.length) : Fix.Room (l.getD j 0) := by
  rw [show l.getD j 0 = l[j] by simp [List.getD, List.getElem?_eq_getElem hj]]
  exact h _ (List.getElem_mem hj)
theorem Rooms.nil : Rooms [] := fun _ h => absurd h List.not_mem_nil
theorem Rooms.app {l m : List Int} (h : Rooms l) (k : Rooms m) : Rooms (l ++ m) := fun x hx => (List.mem_append.1 hx).elim (h x) (k x)
theorem Rooms.one {x : Int} (h : Fix.Room x) : Rooms [x] := fun y hy => by rw [List.mem_singleton.1 hy]; exact h

/-- numbers that lie in memory -/
structure Came6 (w : World) (ba : Option Addr) (cap : Nat) (l : List Int) : Prop where
  le : l.length ≤ cap
  max : cap ≤ maxLen
  room : Rooms l
  lies : 0 < l.length → ∃ b o, ba = some ⟨b, o, none⟩ ∧ ∀ j, j < l.length → w.cell? ⟨b, o + j, none⟩ = some (.int .i64 (l.getD j 0))
theorem Came6.keep {w w' : World} {ba : Option Addr} {cap : Nat} {l : List Int} (C : Came6 w ba cap l) (hb : Below w.heap.size w w') : Came6 w' ba cap l :=
  ⟨C.le, C.max, C.room, fun h => by obtain ⟨b, o, e, L⟩ := C.lies h; exact ⟨b, o, e, fun j hj => keepc hb (L j hj)⟩⟩
/-- a slice literal -/
theorem came6_lit (w : World) (l : List Int) (t : TypeId) (hr : Rooms l) (hl : l.length ≤ 1024) : Came6 (w.alloc (.cells (c64 l).toArray t)) (some ⟨w.heap.size, 0, none⟩) l.length l :=
  ⟨Nat.le_refl _, by unfold maxLen; omega, hr, fun _ => ⟨_, _, rfl, fun j hj => by
    simp [c64, List.getD, hj]⟩⟩

/-- a slice of the call's own (from block B on; below it the world is as W0) holds these numbers -/
def Own6s (B : Nat) (W0 w : World) (v : Value) (l : List Int) : Prop := Lib.OwnBuf B 2 v l.length (c64 l) W0 w
theorem Own6s.below {B : Nat} {W0 w : World} {v : Value} {l : List Int} (h : Own6s B W0 w v l) : Below B W0 w := h.2.1
theorem info64 : (Tryd.prog.info? 2).map (fun i => (i.zero, i.size, i.bytes)) = some (some (.int .i64 0), 1, 8) := by kernel_rfl
theorem info64_parts : ∃ i, Tryd.prog.info? 2 = some i ∧ i.zero = some (.int .i64 0) ∧ i.size = 1 ∧ i.bytes = 8 := by
  have h := info64
  cases hi : Tryd.prog.info? 2 with
  | none => rw [hi] at h; cases h
  | some i =>
    rw [hi] at h
    injection h with h
    injection h with h1 h2
    injection h2 with h2 h3
    exact ⟨i, rfl, h1, h2, h3⟩
theorem Own6s.nil (w : World) : Own6s w.heap.size w w (.slice none 0 0) [] := ⟨World.ownsRowF_nil _ _ _ _, Below.refl _ _, Nat.le_refl _⟩
theorem Own6s.came {B : Nat} {W0 w : World} {v : Value} {l : List Int} (h : Own6s B W0 w v l) (hr : Rooms l) : ∃ ba cap, v = .slice ba l.length cap ∧ Came6 w ba cap l := by
  have h1 := h.1
  obtain ⟨_, h0 | ⟨g, cap, cur, fz, hv, _, _, _, hle, hm, _, _⟩⟩ := h.1
  · have hl : l = [] := List.length_eq_zero_iff.1 h0.2
    subst hl
    exact ⟨none, 0, h0.1, Nat.le_refl _, Nat.zero_le _, hr, fun k => absurd k (by decide)⟩
  · subst hv
    refine ⟨_, _, rfl, hle, hm, hr, fun _ => ⟨g, 0, rfl, fun j hj => ?_⟩⟩
    have hc := World.ownsRowF.cells h1 (g := g) rfl j _ (c64_get l j hj)
    have e : (⟨g, 0, none⟩ : Addr).add j = ⟨g, 0 + j, none⟩ := by unfold Addr.add; split <;> simp_all
    rw [e] at hc
    exact hc
theorem Own6s.keep {B : Nat} {W0 w w' : World} {v : Value} {l : List Int} (h : Own6s B W0 w v l) (hb : Below w.heap.size w w') : Own6s B W0 w' v l := by
  refine ⟨⟨h.1.1, ?_⟩, h.2.1.trans (hb.mono h.2.2), Nat.le_trans h.2.2 hb.size⟩
  rcases h.1.2 with hn | ⟨g, cap, cur, fz, rfl, h1, hg, rest⟩
  · exact .inl hn
  · exact .inr ⟨g, cap, cur, fz, rfl, h1, by rw [hb.block g (Array.getElem?_eq_some_iff.1 hg).1]; exact hg, rest⟩

/-- one more, at a list's head -/
theorem list_append_64 {ops : Array Oper} {rest : List Oper} {o : Oper} {a : Act} {Q : Exit → Act → World → Prop} (hgd : o.guard = none) (s x : Operand)
    (ho : o.op = .call { callee := .builtin .append, args := #[s, x], argTypes := #[50, 50] })
    {B : Nat} {W0 w0 : World} {v : Value} {l : List Int} (hs : a.eval s = v) (c : Int) (hb : Own6s B W0 w0 v l)
    (hx : a.eval x = .slice (some ⟨w0.heap.size, 0, none⟩) 1 1) (hlen : l.length + 1 ≤ 10000000000000)
    (h : ∀ v' w', Own6s B W0 w' v' (l ++ [c]) → wpList Tryd.prog ops Q rest (a.put o.dst v') w') : wpList Tryd.prog ops Q (o :: rest) a (w0.alloc (.cells #[.int .i64 c] 2)) := by
  obtain ⟨i, hi, hz, hsize, hby⟩ := info64_parts
  have hb' := Lib.OwnBuf.alloc hb (.cells #[.int .i64 c] 2)
  refine wpList_append_ownF (P := Tryd.prog) _ hgd s x 50 ho B 2 i (.int .i64 0) 1 8 Tryd.underlying50 hi hz hsize hby rfl (by decide) v l.length (c64 l) hs hb'.1 ⟨w0.heap.size, 0, none⟩ 1 1 [.int .i64 c] hx rfl ?_ ?_ (by unfold maxLen; omega) (by omega) hb'.2.2 ?_
  · intro j u hj
    match j, hj with
    | 0, hj => simp at hj; subst hj; simp [Addr.add]
    | (j + 1), hj => simp at hj
  · intro u hu; simp at hu; subst hu; rfl
  · intro v' w' ho' hg _
    refine h v' w' ?_
    have k := Lib.OwnBuf.grown hb' ho' hg
    unfold Own6s
    rw [c64_app, List.length_append]
    exact k

theorem cells64 : Tryd.prog.cellsOf 2 = 1 := by kernel_rfl
section
variable {H : Type} {enc : TypeId × Value → H} {w : World} {base : Nat} {held : Bool}
set_option maxRecDepth 100000 in
theorem i64s_came {r : Reach} {b0 : Nat} {v : Value} {d : DataW H} {p : List MemPlace} (hv : Value.okWide Tryd.prog w r b0 50 v) (h : DataW.Trod enc Tryd.prog w base (fun _ => true) held 50 v d p) :
    ∃ (ba : Option Addr) (cap : Nat) (l : List Int), v = .slice ba l.length cap ∧ Came6 w ba cap l := by
  obtain ⟨a0, len, cap, rfl⟩ := okWide_slice Tryd.underlying50 hv
  obtain ⟨fuel, hf⟩ := h
  rcases open_ints Tryd.underlying50 Tryd.underlying2 cells64 hf with ⟨hcs, hx⟩ | ⟨a, len', cap', zs, hcs, _, hl, hm, hz, hx, hcell, hwz⟩
  · simp [Value.cells] at hcs
    obtain ⟨rfl, rfl, rfl⟩ := hcs
    exact ⟨none, 0, [], rfl, Nat.le_refl _, Nat.zero_le _, Rooms.nil, fun h => absurd h (by decide)⟩
  · simp [Value.cells] at hcs
    obtain ⟨rfl, rfl, rfl⟩ := hcs
    simp only [if_true] at hz
    have hlen : (zs.take len).length = len := by rw [List.length_take]; omega
    refine ⟨some a, cap, zs.take len, by rw [hlen], by rw [hlen]; exact hl, hm, fun x hx => rng_i64 (hwz x (List.mem_of_mem_take hx)), fun h0 => ?_⟩
    rw [hlen] at h0
    obtain ⟨b, o, rfl, hc⟩ := ints_at hcell (by omega)
    refine ⟨b, o, rfl, fun j hj => ?_⟩
    rw [hlen] at hj
    have hz' : j < zs.length := by omega
    have g : (zs.take len).getD j 0 = zs[j] := by simp [List.getD, hj, hz']
    have e : zs.getD j 0 = zs[j] := by simp [List.getD, List.getElem?_eq_getElem hz']
    rw [hc j hz', g, e]
end
end Go.Proofs.YtkjkmnclnedfhaaDoor
