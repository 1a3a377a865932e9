/- Arrays of bytes in a block: copied to, loaded whole; a second block beside stays. No program's calls. -/
import Derived.Test.YtdalajfjikbcaaaBufOwn
import Derived.Test.YtdalajfjikbcaaaV64
import Derived.Test.YtdalajfjikbcaaaWhole
import Derived.Laws.CopyOwn
import Derived.Lib.MinMax
namespace Go.Proofs.Ytdalajfjikbcaaa
open Go.RowKit

theorem size8c : (Try.prog.info? 5).map (·.size) = some 1 := by kernel_rfl
theorem vals_length (l : List UInt8) : (vals l).length = l.length := by simp [vals]
theorem vals_get {l : List UInt8} {j : Nat} (h : j < l.length) : (vals l)[j]? = some (.int .u8 ((l.getD j 0).toNat : Int)) := by
  simp [vals, List.getD, h]
/-- m laid over l from place k on -/
def putL (l : List UInt8) (k : Nat) (m : List UInt8) : List UInt8 := l.take k ++ (m ++ l.drop (k + m.length))
theorem putL_length {l m : List UInt8} {k : Nat} (h : k + m.length ≤ l.length) : (putL l k m).length = l.length := by simp [putL]; omega
theorem putL_in {l m : List UInt8} {k j : Nat} (h : k + m.length ≤ l.length) (hj : j < m.length) : (putL l k m).getD (k + j) 0 = m.getD j 0 := by
  have e : (l.take k).length = k := by rw [List.length_take]; omega
  unfold putL
  simp only [List.getD]
  rw [List.getElem?_append_right (by omega), e, Nat.add_sub_cancel_left, List.getElem?_append_left hj]
theorem putL_out {l m : List UInt8} {k j : Nat} (h : k + m.length ≤ l.length) (hj : j < k ∨ k + m.length ≤ j) : (putL l k m).getD j 0 = l.getD j 0 := by
  have e : (l.take k).length = k := by rw [List.length_take]; omega
  unfold putL
  simp only [List.getD]
  rcases hj with hj | hj
  · rw [List.getElem?_append_left (by omega), List.getElem?_take, if_pos hj]
  · rw [List.getElem?_append_right (by omega), e, List.getElem?_append_right (by omega), List.getElem?_drop]
    congr 2
    omega

theorem below_cells {B b : Nat} {W : World} (hb : B ≤ b) : ∀ (vs : List Value) (o : Nat) (w : World), Below B W w → Below B W (w.setCells b o vs)
  | [], _, _, h => h
  | v :: r, o, w, h => by
    rw [World.setCells]
    exact below_cells hb r (o + 1) _ (h.setCell (p := ⟨b, o, none⟩) hb v)

/-- bytes that lie in a block and may be written -/
def OwnB (w : World) (g : Nat) (l : List UInt8) : Prop := Lies w g 0 l ∧ ∀ j, j < l.length → w.frozen? ⟨g, j, none⟩ = false
theorem OwnB.at {w : World} {g : Nat} {l : List UInt8} (h : OwnB w g l) {j : Nat} (hj : j < l.length) : w.cell? ⟨g, j, none⟩ = some (.int .u8 ((l.getD j 0).toNat : Int)) := by
  have := h.1 j hj
  rwa [Nat.zero_add] at this
theorem OwnB.keep {w w' : World} {g : Nat} {l : List UInt8} (h : OwnB w g l) (hb : Below w.heap.size w w') : OwnB w' g l := ⟨h.1.keep hb, fun j hj => keepf hb (h.at hj) (h.2 j hj)⟩
theorem OwnB.drew {w : World} {g : Nat} {l : List UInt8} (h : OwnB w g l) : OwnB w.drew g l := h
theorem OwnB.of {w : World} {g : Nat} {l : List UInt8} (h : OwnL w g (vals l)) : OwnB w g l :=
  ⟨fun j hj => by rw [Nat.zero_add]; exact h.1.at j (vals_get hj), fun j hj => h.2 j (by rw [vals_length]; exact hj)⟩
theorem OwnB.came {w : World} {g cap : Nat} {l : List UInt8} (h : OwnB w g l) (n : Nat) (hn : n ≤ l.length) (hc : n ≤ cap) (hm : cap ≤ maxLen) : Came w (some ⟨g, 0, none⟩) cap (l.take n) := by
  have k := h.1.part 0 n (by omega)
  rw [List.drop_zero, Nat.add_zero] at k
  exact ⟨by rw [List.length_take]; omega, hm, fun e => (by cases e), fun _ => ⟨g, 0, rfl, k⟩⟩
theorem OwnB.range {w : World} {g : Nat} {l : List UInt8} (h : OwnB w g l) : w.rangeAt g 0 (vals l).toArray.toList := fun j v hv => by
  have hj : j < l.length := by
    have := (List.getElem?_eq_some_iff.1 hv).1
    simpa [vals] using this
  have e : (vals l).toArray.toList = vals l := rfl
  rw [e, vals_get hj] at hv
  injection hv with hv
  rw [← hv]
  exact h.1 j hj
theorem OwnB.set {w : World} {g : Nat} {l m : List UInt8} {k : Nat} (h : OwnB w g l) (hk : k + m.length ≤ l.length) : OwnB (w.setCells g k (vals m)) g (putL l k m) := by
  have e := putL_length hk
  refine ⟨fun j hj => ?_, fun j hj => ?_⟩
  · rw [e] at hj
    rw [Nat.zero_add]
    by_cases hin : k ≤ j ∧ j < k + m.length
    · obtain ⟨i, rfl⟩ : ∃ i, j = k + i := ⟨j - k, by omega⟩
      have hi : i < (vals m).length := by rw [vals_length]; omega
      rw [World.cell?_setCells_in g (vals m) k w (fun i hi => by rw [h.at (by rw [vals_length] at hi; omega)]; rfl) i hi, putL_in hk (by omega), ← vals_get (by omega), List.getElem?_eq_getElem hi]
    · rw [World.cell?_setCells_out g (vals m) k w _ (fun _ _ => by rw [vals_length]; show j < k ∨ _ ≤ j; omega), putL_out hk (by omega)]
      exact h.at hj
  · rw [e] at hj
    rw [World.frozen?_setCells]
    exact h.2 j hj
theorem there_of {w : World} {p : Nat} {z : List Value} (h : OwnL w p z) : w.there p 0 z.length := fun j hj => by
  rw [Nat.zero_add]
  exact ⟨by rw [h.1 j hj]; rfl, h.2 j hj⟩

/-- two blocks: bytes of an array, and another variable's cells -/
def Pair (w : World) (g : Nat) (l : List UInt8) (p : Nat) (z : List Value) : Prop := OwnB w g l ∧ OwnL w p z ∧ p ≠ g
theorem Pair.keep {w w' : World} {g p : Nat} {l : List UInt8} {z : List Value} (h : Pair w g l p z) (hb : Below w.heap.size w w') : Pair w' g l p z := ⟨h.1.keep hb, h.2.1.keep hb, h.2.2⟩
theorem Pair.set {w : World} {g p k : Nat} {l m : List UInt8} {z : List Value} (h : Pair w g l p z) (hk : k + m.length ≤ l.length) : Pair (w.setCells g k (vals m)) g (putL l k m) p z := by
  refine ⟨h.1.set hk, ⟨fun j hj => ?_, fun j hj => ?_⟩, h.2.2⟩
  · rw [World.cell?_setCells_out g (vals m) k w _ (fun e _ => absurd e h.2.2)]
    exact h.2.1.1 j hj
  · rw [World.frozen?_setCells]
    exact h.2.1.2 j hj

/-- bytes copied into the array -/
theorem run_copy_pair {w : World} {B : Nat} {W0 : World} {g p : Nat} {l m : List UInt8} {z : List Value} {ba : Option Addr} {c dl dc k : Nat} (ty : TypeId)
    (hp : Pair w g l p z) (hb : Below B W0 w) (hB : B ≤ g) (C : Came w ba c m) (h0 : 0 < m.length) (hdl : m.length ≤ dl) (hk : k + m.length ≤ l.length) :
    ∃ w', (Builtin.copy_ #[22, 22] ty #[.slice (some ⟨g, k, none⟩) dl dc, .slice ba m.length c]).run Try.prog w = .ok (goInt m.length) w' ∧ Pair w' g (putL l k m) p z ∧ Below B W0 w' := by
  obtain ⟨g2, o2, rfl, L⟩ := C.lies h0
  have hrun := run_copy_cells (P := Try.prog) w 22 22 ty 5 g k dl dc ⟨g2, o2, none⟩ m.length c (vals m) Try.underlying22 size8c (by rw [vals_length]; exact (Nat.min_eq_left hdl).symm) L.cellsA
    (fun j hj => by rw [vals_length] at hj; rw [hp.1.at (by omega)]; rfl) (fun j hj => by rw [vals_length] at hj; exact hp.1.2 _ (by omega)) (vals_oneA m)
  rw [vals_length] at hrun
  exact ⟨_, hrun, hp.set hk, below_cells hB _ _ _ hb⟩
theorem oper_copy_pair {o : Oper} {a : Act} {w : World} {K : Act → World → Prop} {Q : Exit → Act → World → Prop} {B : Nat} {W0 : World} {g p : Nat} {l m : List UInt8} {z : List Value} {d s : Operand} {ba : Option Addr} {c dl dc k : Nat}
    (ho : o.op = .call { callee := .builtin .copy, args := #[d, s], argTypes := #[22, 22] }) (hp : Pair w g l p z) (hb : Below B W0 w) (hB : B ≤ g)
    (hd : a.eval d = .slice (some ⟨g, k, none⟩) dl dc) (hs : a.eval s = .slice ba m.length c) (C : Came w ba c m) (h0 : 0 < m.length) (hdl : m.length ≤ dl) (hk : k + m.length ≤ l.length)
    (h : ∀ w', Pair w' g (putL l k m) p z → Below B W0 w' → K (a.put o.dst (goInt m.length)) w') : Oper.wp Try.prog o a w K Q := by
  obtain ⟨w', hrun, h1, h2⟩ := run_copy_pair (dc := dc) o.type hp hb hB C h0 hdl hk
  unfold Oper.wp execOp
  simp only [ho, resolve, invoke, builtin, Sem.run_bind, Sem.run_pure, Result.andThen_ok, List.map_toArray, List.map_cons, List.map_nil, hd, hs, hrun]
  exact h w' h1 h2

theorem lies_came {w : World} {g : Nat} {l : List UInt8} {c : Nat} (L : Lies w g 0 l) (h : l.length ≤ c) (hm : c ≤ maxLen) : Came w (some ⟨g, 0, none⟩) c l := ⟨h, hm, fun e => (by cases e), fun _ => ⟨_, _, rfl, L⟩⟩
end Go.Proofs.Ytdalajfjikbcaaa
