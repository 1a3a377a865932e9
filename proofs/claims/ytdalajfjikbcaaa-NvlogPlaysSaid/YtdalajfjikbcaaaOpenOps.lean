/- The plays' operations as an argument, []Op: opened; read in every later world. No program's calls. -/
import Derived.Test.YtdalajfjikbcaaaSlt
import Derived.Test.YtdalajfjikbcaaaPost
import Derived.Test.YtdalajfjikbcaaaVr
import Derived.OpenShut
import Derived.Deep.Slices
import Derived.Lib.SmallJoins
namespace Go.Proofs.Ytdalajfjikbcaaa
open Go.Joins Go.ChangeShapes Go.WideShapes Go.RowKit

structure Nop where
  sp : Bool
  note : Nt
  most : Int
def op0 : Nop := ⟨false, nt0, 0⟩
def oc (o : Nop) : List Value := [.bool o.sp, .int .i64 o.note.ex, .int .i64 o.note.inh, .int .i64 o.note.mode, .int .i64 o.most]
structure CameOps (w : World) (ba : Option Addr) (cap : Nat) (l : List Nop) : Prop where
  le : l.length ≤ cap
  max : cap ≤ maxLen
  lies : 0 < l.length → ∃ b o, ba = some ⟨b, o, none⟩ ∧ ∀ j, j < l.length → w.rangeAt b (o + j * 5) (oc (l.getD j op0))
theorem CameOps.keep {w w' : World} {ba : Option Addr} {cap : Nat} {l : List Nop} (C : CameOps w ba cap l) (hb : Below w.heap.size w w') : CameOps w' ba cap l :=
  ⟨C.le, C.max, fun h => by obtain ⟨b, o, e, L⟩ := C.lies h; exact ⟨b, o, e, fun j hj k v hv => keepc hb (L j hj k v hv)⟩⟩

section
variable {H : Type} {enc : TypeId × Value → H} {w : World} {base : Nat} {spare : Nat → Bool} {held : Bool}
theorem cells_op : Try.prog.cellsOf 28 = 5 := by kernel_rfl
theorem cells_note9 : Try.prog.cellsOf 26 = 3 := by kernel_rfl
theorem cells_int9 : Try.prog.cellsOf 3 = 1 := by kernel_rfl
theorem cells_bool9 : Try.prog.cellsOf 4 = 1 := by kernel_rfl

set_option maxRecDepth 100000 in
theorem note_cells_open {n : Nat} {cs : List Value} {x : DataW H × List MemPlace} (hl : cs.length = 3) (h : DataW.trod enc Try.prog w base spare held n 26 cs = some x) :
    ∃ f : Nt, cs = [.int .i64 f.ex, .int .i64 f.inh, .int .i64 f.mode] := by
  match cs, hl with
  | [c0, c1, c2], _ =>
    obtain ⟨xs, n', _, _, _, hx, hg⟩ := DataW.trod_struct Try.underlying26 h
    match xs, hx with
    | [y0, y1, y2], _ =>
      have g0 : DataW.trod enc Try.prog w base spare held n' 3 [c0] = some y0 := by simpa [cells_int9] using hg 0 _ rfl
      have g1 : DataW.trod enc Try.prog w base spare held n' 3 [c1] = some y1 := by simpa [cells_int9] using hg 1 _ rfl
      have g2 : DataW.trod enc Try.prog w base spare held n' 3 [c2] = some y2 := by simpa [cells_int9] using hg 2 _ rfl
      obtain ⟨x0, e0, _, _⟩ := DataW.trod_int Try.underlying3 g0
      obtain ⟨x1, e1, _, _⟩ := DataW.trod_int Try.underlying3 g1
      obtain ⟨x2, e2, _, _⟩ := DataW.trod_int Try.underlying3 g2
      simp at e0 e1 e2
      subst e0 e1 e2
      exact ⟨⟨x0, x1, x2⟩, rfl⟩

set_option maxRecDepth 100000 in
theorem op_open {n : Nat} {cs : List Value} {x : DataW H × List MemPlace} (hl : cs.length = 5) (h : DataW.trod enc Try.prog w base spare held n 28 cs = some x) :
    ∃ f : Nop, cs = oc f := by
  match cs, hl with
  | [c0, c1, c2, c3, c4], _ =>
    obtain ⟨xs, n', _, _, _, hx, hg⟩ := DataW.trod_struct Try.underlying28 h
    match xs, hx with
    | [y0, y1, y2], _ =>
      have g0 : DataW.trod enc Try.prog w base spare held n' 4 [c0] = some y0 := by simpa [cells_bool9] using hg 0 _ rfl
      have g1 : DataW.trod enc Try.prog w base spare held n' 26 [c1, c2, c3] = some y1 := by simpa [cells_bool9, cells_note9] using hg 1 _ rfl
      have g2 : DataW.trod enc Try.prog w base spare held n' 3 [c4] = some y2 := by simpa [cells_bool9, cells_note9, cells_int9] using hg 2 _ rfl
      obtain ⟨x0, e0, _⟩ := DataW.trod_bool Try.underlying4 g0
      obtain ⟨f, e1⟩ := note_cells_open rfl g1
      obtain ⟨x2, e2, _, _⟩ := DataW.trod_int Try.underlying3 g2
      simp at e0 e1 e2
      obtain ⟨e10, e11, e12⟩ := e1
      subst e0 e10 e11 e12 e2
      exact ⟨⟨x0, f, x2⟩, rfl⟩

set_option maxRecDepth 100000 in
theorem ops_came {r : Reach} {b0 : Nat} {v : Value} {d : DataW H} {p : List MemPlace} (hv : Value.okWide Try.prog w r b0 23 v) (h : DataW.Trod enc Try.prog w base spare held 23 v d p) :
    ∃ (ba : Option Addr) (cap : Nat) (l : List Nop), v = .slice ba l.length cap ∧ CameOps w ba cap l := by
  obtain ⟨a0, len, cap, rfl⟩ := okWide_slice Try.underlying23 hv
  obtain ⟨fuel, hf⟩ := h
  rcases Go.Deep.open_slice Try.underlying23 hf with ⟨hcs, hx⟩ | ⟨a, len', cap', m, n, D, Pl, hcs, _, hl, hm, hmm, hx, hi⟩
  · simp [Value.cells] at hcs
    obtain ⟨rfl, rfl, rfl⟩ := hcs
    exact ⟨none, 0, [], rfl, ⟨Nat.le_refl _, Nat.zero_le _, fun k => absurd k (by decide)⟩⟩
  · simp [Value.cells] at hcs
    obtain ⟨rfl, rfl, rfl⟩ := hcs
    have hlm : len ≤ m := by rw [hmm]; split <;> omega
    have H1 : ∀ i, i < len → ∃ f : Nop, ∀ k u, (oc f)[k]? = some u → w.cell? (a.add (i * 5 + k)) = some u := fun i hlt => by
      obtain ⟨cs', hc, ht'⟩ := hi i (by omega)
      rw [cells_op] at hc
      obtain ⟨_, hcl, hat⟩ := World.cells?_some hc
      obtain ⟨f, rfl⟩ := op_open hcl ht'
      refine ⟨f, fun k u hu => ?_⟩
      have hk : k < 5 := (List.getElem?_eq_some_iff.1 hu).1
      rw [← Go.Deep.add_add, hat k hk]
      exact hu
    obtain ⟨g, hg⟩ : ∃ g : Nat → Nop, ∀ i, i < len → ∀ k u, (oc (g i))[k]? = some u → w.cell? (a.add (i * 5 + k)) = some u :=
      ⟨fun i => if h : i < len then Classical.choose (H1 i h) else op0, fun i h => by
        simp only [dif_pos h]
        exact Classical.choose_spec (H1 i h)⟩
    have hlen : ((List.range len).map g).length = len := by simp
    have hget : ∀ j, j < len → ((List.range len).map g).getD j op0 = g j := fun j hj => by simp [List.getD, hj]
    refine ⟨some a, cap, (List.range len).map g, by rw [hlen], ⟨by rw [hlen]; exact hl, hm, fun h0 => ?_⟩⟩
    rw [hlen] at h0
    obtain ⟨b, off, spot⟩ := a
    have hspot : spot = none := by simpa [Addr.add] using World.cell?_spot (hg 0 h0 0 _ rfl)
    subst hspot
    refine ⟨b, off, rfl, fun j hj k u hu => ?_⟩
    rw [hlen] at hj
    rw [hget j hj] at hu
    have := hg j hj k u hu
    rw [Go.WideShapes.add_plain] at this
    rw [Nat.add_assoc]
    exact this
end
end Go.Proofs.Ytdalajfjikbcaaa
