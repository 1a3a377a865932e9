/- A whole array loaded: at a list's head, guarded or not; in a drawn region. No program's calls. -/
import Derived.Test.YtldbkompebefmaaDoorWhole
import Derived.Deep.MidRow
namespace Go.Proofs.YtldbkompebefmaaDoor
open Go.RowKit

section
variable {ops : Array Oper} {rest : List Oper} {op : Oper} {a : Act} {w : World} {Q : Exit → Act → World → Prop}
/-- load of a whole array at a list's head, guarded or not -/
theorem list_load_any (hw : Region.wanted op (yielded ops a.tmps) = true) (ty : TypeId) (x : Operand) (ho : op.op = .load ty x)
    (b o : Nat) (hx : a.eval x = .pointer (some ⟨b, o, none⟩)) (c : Array Value) (d : TypeDesc) (hc : w.rangeAt b o c.toList)
    (hu : Tryd.prog.underlying ty = some d) (hd : d.isRow = true) (hi : (Tryd.prog.info? ty).map (·.size) = some c.size)
    (h : wpList Tryd.prog ops Q rest (a.put op.dst (.agg c)) w) : wpList Tryd.prog ops Q (op :: rest) a w :=
  wpList_step fun K hK => by
    rw [if_pos hw]
    exact wp_load_mid ty x ho b o hx c.toList d hc hu hd (by rw [hi]; simp) (hK _ _ (by simpa using h))
/-- .. in a drawn region: it may be taken first -/
theorem yields_load {S : World → Prop} (hw : Region.wanted op (yielded ops a.tmps) = true) (ty : TypeId) (x : Operand) (ho : op.op = .load ty x)
    (b o : Nat) (hx : a.eval x = .pointer (some ⟨b, o, none⟩)) (c : Array Value) (d : TypeDesc) (hS : ∀ w, S w → w.rangeAt b o c.toList)
    (hu : Tryd.prog.underlying ty = some d) (hd : d.isRow = true) (hi : (Tryd.prog.info? ty).map (·.size) = some c.size) : YieldsIf Tryd.prog ops S op (.agg c) a := by
  have h := yieldsIf_load_mid (P := Tryd.prog) hw ty x ho b o hx c.toList d hS hu hd (by rw [hi]; simp)
  simpa using h
end

end Go.Proofs.YtldbkompebefmaaDoor
