/- Arrays of bools: by value, and in a block; a whole array loaded in a region's list, guarded or not, and in a drawn region. No program's calls. -/
import Derived.Test.YtaooigldchojcaaDoorHsLanC
import Derived.Test.YtaooigldchojcaaDoorWhole
import Derived.Test.YtaooigldchojcaaDoorSp
import Derived.Deep.MidRow
namespace Go.Proofs.YtaooigldchojcaaDoor
open Go.RowKit

def bl (al : List Bool) : Array Value := (al.map fun b => Value.bool b).toArray
theorem bl_size (al : List Bool) : (bl al).size = al.length := by simp [bl]
theorem bl_one (al : List Bool) : (bl al).all (·.oneCell') = true := by
  unfold bl
  exact all_oneCell_toArray fun v hv => by
    obtain ⟨z, _, rfl⟩ := List.mem_map.1 hv
    rfl
theorem bl_list (al : List Bool) : (bl al).toList = al.map fun b => Value.bool b := rfl
/-- they lie in a block, from its begin on -/
def ArrB (w : World) (b : Nat) (al : List Bool) : Prop := w.rangeAt b 0 (bl al).toList
theorem ArrB.keep {w w' : World} {b : Nat} {al : List Bool} (h : ArrB w b al) (hb : Below w.heap.size w w') : ArrB w' b al := range_keep h hb
theorem ArrB.new (w : World) (al : List Bool) (t : TypeId) : ArrB (w.alloc (.cells (bl al) t)) w.heap.size al := range_new w (bl al) t
theorem ArrB.at {w : World} {b : Nat} {al : List Bool} (h : ArrB w b al) (n : Nat) (hn : n < al.length) : w.cell? ⟨b, n, none⟩ = some (.bool (al.getD n false)) := by
  have := h n (.bool (al.getD n false)) (by rw [bl_list, List.getElem?_map, List.getD_eq_getElem?_getD, List.getElem?_eq_getElem hn]; rfl)
  rwa [Nat.zero_add] at this
theorem ArrB.lt {w : World} {b : Nat} {al : List Bool} (h : ArrB w b al) (hn : 0 < al.length) : b < w.heap.size := World.block_lt_of_cell? w _ (h.at 0 hn)

section
variable {ops : Array Oper} {rest : List Oper} {op : Oper} {a : Act} {w : World} {Q : Exit → Act → World → Prop}
/-- load of a whole array at a list's head, guarded or not -/
theorem list_load_any (hw : Region.wanted op (yielded ops a.tmps) = true) (ty : TypeId) (x : Operand) (ho : op.op = .load ty x)
    (b o : Nat) (hx : a.eval x = .pointer (some ⟨b, o, none⟩)) (c : Array Value) (d : TypeDesc) (hc : w.rangeAt b o c.toList)
    (hu : Tryd.prog.underlying ty = some d) (hd : d.isRow = true) (hi : (Tryd.prog.info? ty).map (·.size) = some c.size)
    (h : wpList Tryd.prog ops Q rest (a.put op.dst (.agg c)) w) : wpList Tryd.prog ops Q (op :: rest) a w :=
  wpList_step fun K hK => by
    rw [if_pos hw]
    exact wp_load_mid ty x ho b o hx c.toList d hc hu hd (by rw [hi]; simp) (hK _ _ (by simpa using h))
/-- .. in a drawn region: it may be taken first -/
theorem yields_load {S : World → Prop} (hw : Region.wanted op (yielded ops a.tmps) = true) (ty : TypeId) (x : Operand) (ho : op.op = .load ty x)
    (b o : Nat) (hx : a.eval x = .pointer (some ⟨b, o, none⟩)) (c : Array Value) (d : TypeDesc) (hS : ∀ w, S w → w.rangeAt b o c.toList)
    (hu : Tryd.prog.underlying ty = some d) (hd : d.isRow = true) (hi : (Tryd.prog.info? ty).map (·.size) = some c.size) : YieldsIf Tryd.prog ops S op (.agg c) a := by
  have h := yieldsIf_load_mid (P := Tryd.prog) hw ty x ho b o hx c.toList d hS hu hd (by rw [hi]; simp)
  simpa using h
end

theorem size22 : (Tryd.prog.info? 26).map (·.size) = some 22 := by kernel_rfl
theorem size15 : (Tryd.prog.info? 23).map (·.size) = some 15 := by kernel_rfl
theorem size30 : (Tryd.prog.info? 25).map (·.size) = some 30 := by kernel_rfl
theorem info22 {al : List Bool} (h : al.length = 22) : (Tryd.prog.info? 26).map (·.size) = some (bl al).size := by rw [bl_size, h]; exact size22
theorem info15 {al : List Bool} (h : al.length = 15) : (Tryd.prog.info? 23).map (·.size) = some (bl al).size := by rw [bl_size, h]; exact size15

/-- a place of such an array by value -/
theorem index22q (a0 a1 a2 a3 a4 a5 a6 a7 a8 a9 a10 a11 a12 a13 a14 a15 a16 a17 a18 a19 a20 a21 : Bool) : ∀ j : Nat, j < 22 → ∀ w, (Instr.index 26 (.agg (bl [a0, a1, a2, a3, a4, a5, a6, a7, a8, a9, a10, a11, a12, a13, a14, a15, a16, a17, a18, a19, a20, a21])) (.int .i64 (j : Int))).run Tryd.prog w = .ok (.bool ([a0, a1, a2, a3, a4, a5, a6, a7, a8, a9, a10, a11, a12, a13, a14, a15, a16, a17, a18, a19, a20, a21].getD j false)) w
  | 0, _, _ => by kernel_rfl
  | 1, _, _ => by kernel_rfl
  | 2, _, _ => by kernel_rfl
  | 3, _, _ => by kernel_rfl
  | 4, _, _ => by kernel_rfl
  | 5, _, _ => by kernel_rfl
  | 6, _, _ => by kernel_rfl
  | 7, _, _ => by kernel_rfl
  | 8, _, _ => by kernel_rfl
  | 9, _, _ => by kernel_rfl
  | 10, _, _ => by kernel_rfl
  | 11, _, _ => by kernel_rfl
  | 12, _, _ => by kernel_rfl
  | 13, _, _ => by kernel_rfl
  | 14, _, _ => by kernel_rfl
  | 15, _, _ => by kernel_rfl
  | 16, _, _ => by kernel_rfl
  | 17, _, _ => by kernel_rfl
  | 18, _, _ => by kernel_rfl
  | 19, _, _ => by kernel_rfl
  | 20, _, _ => by kernel_rfl
  | 21, _, _ => by kernel_rfl
  | n + 22, h, _ => absurd h (by omega)
theorem index22 (al : List Bool) (h : al.length = 22) (j : Nat) (hj : j < 22) (w : World) : (Instr.index 26 (.agg (bl al)) (.int .i64 (j : Int))).run Tryd.prog w = .ok (.bool (al.getD j false)) w :=
  match al, h with
  | [a0, a1, a2, a3, a4, a5, a6, a7, a8, a9, a10, a11, a12, a13, a14, a15, a16, a17, a18, a19, a20, a21], _ => index22q a0 a1 a2 a3 a4 a5 a6 a7 a8 a9 a10 a11 a12 a13 a14 a15 a16 a17 a18 a19 a20 a21 j hj w
theorem index15q (a0 a1 a2 a3 a4 a5 a6 a7 a8 a9 a10 a11 a12 a13 a14 : Bool) : ∀ j : Nat, j < 15 → ∀ w, (Instr.index 23 (.agg (bl [a0, a1, a2, a3, a4, a5, a6, a7, a8, a9, a10, a11, a12, a13, a14])) (.int .i64 (j : Int))).run Tryd.prog w = .ok (.bool ([a0, a1, a2, a3, a4, a5, a6, a7, a8, a9, a10, a11, a12, a13, a14].getD j false)) w
  | 0, _, _ => by kernel_rfl
  | 1, _, _ => by kernel_rfl
  | 2, _, _ => by kernel_rfl
  | 3, _, _ => by kernel_rfl
  | 4, _, _ => by kernel_rfl
  | 5, _, _ => by kernel_rfl
  | 6, _, _ => by kernel_rfl
  | 7, _, _ => by kernel_rfl
  | 8, _, _ => by kernel_rfl
  | 9, _, _ => by kernel_rfl
  | 10, _, _ => by kernel_rfl
  | 11, _, _ => by kernel_rfl
  | 12, _, _ => by kernel_rfl
  | 13, _, _ => by kernel_rfl
  | 14, _, _ => by kernel_rfl
  | n + 15, h, _ => absurd h (by omega)
theorem index15 (al : List Bool) (h : al.length = 15) (j : Nat) (hj : j < 15) (w : World) : (Instr.index 23 (.agg (bl al)) (.int .i64 (j : Int))).run Tryd.prog w = .ok (.bool (al.getD j false)) w :=
  match al, h with
  | [a0, a1, a2, a3, a4, a5, a6, a7, a8, a9, a10, a11, a12, a13, a14], _ => index15q a0 a1 a2 a3 a4 a5 a6 a7 a8 a9 a10 a11 a12 a13 a14 j hj w

/-- a bank: its counts (whatever they are), and what has refuted -/
def bk (cs : List Value) (rf : List Bool) : Array Value := (cs ++ rf.map fun b => Value.bool b).toArray
structure Bk (cs : List Value) (rf : List Bool) : Prop where
  c : cs.length = 15
  r : rf.length = 15
  one : cs.all (·.oneCell') = true
theorem bk_size {cs : List Value} {rf : List Bool} (h : Bk cs rf) : (bk cs rf).size = 30 := by simp [bk, h.c, h.r]
theorem bk_one {cs : List Value} {rf : List Bool} (h : Bk cs rf) : (bk cs rf).all (·.oneCell') = true := by
  unfold bk
  refine all_oneCell_toArray fun v hv => ?_
  rcases List.mem_append.1 hv with hv | hv
  · exact List.all_eq_true.1 h.one v hv
  · obtain ⟨z, _, rfl⟩ := List.mem_map.1 hv
    rfl
theorem info30 {cs : List Value} {rf : List Bool} (h : Bk cs rf) : (Tryd.prog.info? 25).map (·.size) = some (bk cs rf).size := by rw [bk_size h]; exact size30
def BankAt (w : World) (b : Nat) (cs : List Value) (rf : List Bool) : Prop := w.rangeAt b 0 (bk cs rf).toList
theorem BankAt.keep {w w' : World} {b : Nat} {cs : List Value} {rf : List Bool} (h : BankAt w b cs rf) (hb : Below w.heap.size w w') : BankAt w' b cs rf := range_keep h hb
theorem BankAt.new (w : World) (cs : List Value) (rf : List Bool) (t : TypeId) : BankAt (w.alloc (.cells (bk cs rf) t)) w.heap.size cs rf := range_new w (bk cs rf) t
theorem BankAt.at {w : World} {b : Nat} {cs : List Value} {rf : List Bool} (h : BankAt w b cs rf) (k : Bk cs rf) (p : Nat) (hp : p < 15) : w.cell? ⟨b, 15 + p, none⟩ = some (.bool (rf.getD p false)) := by
  have := h (15 + p) (.bool (rf.getD p false)) (by
    show (cs ++ rf.map fun b => Value.bool b)[15 + p]? = _
    rw [List.getElem?_append_right (by rw [k.c]; omega), k.c, Nat.add_sub_cancel_left, List.getElem?_map, List.getD_eq_getElem?_getD, List.getElem?_eq_getElem (by rw [k.r]; exact hp)]
    rfl)
  rwa [Nat.zero_add] at this
theorem BankAt.refuted {w : World} {b : Nat} {cs : List Value} {rf : List Bool} (h : BankAt w b cs rf) (k : Bk cs rf) : w.rangeAt b 15 (bl rf).toList := fun j v hv => by
  have hj : j < 15 := by
    have := (List.getElem?_eq_some_iff.1 hv).1
    rw [bl_list, List.length_map, k.r] at this
    exact this
  rw [bl_list, List.getElem?_map, List.getElem?_eq_getElem (by rw [k.r]; exact hj)] at hv
  injection hv with hv
  rw [h.at k j hj, ← hv, List.getD_eq_getElem?_getD, List.getElem?_eq_getElem (by rw [k.r]; exact hj)]
  rfl

/-- less is said of where it lies -/
theorem Ints.low {B B' : Nat} {W W0 w : World} {v : Value} {l : List Int} (h : Ints B W0 w v l) (hB : B' ≤ B) (hb : Below B' W W0) : Ints B' W w v l := by
  refine ⟨⟨h.1.1, ?_⟩, hb.trans (h.2.1.mono hB), Nat.le_trans hB h.2.2⟩
  rcases h.1.2 with hn | ⟨g, cap, cur, fz, rfl, h1, rest⟩
  · exact .inl hn
  · exact .inr ⟨g, cap, cur, fz, rfl, Nat.le_trans hB h1, rest⟩
end Go.Proofs.YtaooigldchojcaaDoor
