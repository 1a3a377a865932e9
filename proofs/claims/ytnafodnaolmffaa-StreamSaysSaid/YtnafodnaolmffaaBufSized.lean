/- Bytes that came in, and how many they may be: the row's own reach. -/
import Derived.Test.YtnafodnaolmffaaBufOwn
import Derived.SizedLaws
import Derived.Deep.DeepHandedRow
import Derived.JoinedCond
namespace Go.Proofs.Ytnafodnaolmffaa
open Go.ChangeShapes Go.WideShapes Go.RowKit

/-- a datum that reads as these bytes -/
def Reads {H : Type} (d : DataW H) (l : List UInt8) : Prop := l = [] ∨ ∃ es sp, d = .slice es sp ∧ es.length = l.length
section
variable {H : Type} {enc : TypeId × Value → H} {w : World} {base : Nat} {held : Bool}
set_option maxRecDepth 100000 in
theorem bytes_came_sized {r : Reach} {b0 : Nat} {v : Value} {d : DataW H} {p : List MemPlace} (hv : Value.okWide Try.prog w r b0 22 v) (h : DataW.Trod enc Try.prog w base (fun _ => true) held 22 v d p) :
    ∃ (ba : Option Addr) (cap : Nat) (l : List UInt8), v = .slice ba l.length cap ∧ Came w ba cap l ∧ Reads d l := by
  obtain ⟨ba, cap, l, rfl, C⟩ := bytes_came hv h
  refine ⟨ba, cap, l, rfl, C, ?_⟩
  obtain ⟨fuel, hf⟩ := h
  rcases open_ints Try.underlying22 Try.underlying5 cells8 hf with ⟨hcs, _⟩ | ⟨a, len', cap', zs, hcs, _, hl, hm, hz, hx, _, _⟩
  · simp [Value.cells] at hcs
    exact Or.inl hcs.2.1
  · simp [Value.cells] at hcs
    obtain ⟨rfl, rfl, rfl⟩ := hcs
    simp only [Prod.mk.injEq] at hx
    simp only [if_true] at hz
    refine Or.inr ⟨_, _, hx.1, ?_⟩
    simp [lits]
    omega
end

theorem bytesOf8 : Try.prog.bytesOf 5 = 1 := by kernel_rfl
theorem bytes_bound {H : Type} {ts : List TypeId} {ds : List (DataW H)} (h : (DataW.weightsEach Try.prog ts ds).all (· ≤ reachBytes) = true) (j : Nat) {d : DataW H} {l : List UInt8} (ht : ts[j]? = some 22) (hd : ds[j]? = some d) (hr : Reads d l) :
    (l.length : Int) ≤ 140737488351232 := by
  rcases hr with rfl | ⟨es, sp, rfl, e⟩
  · simp
  · have k := sized_slice h ht hd Try.underlying22
    rw [bytesOf8] at k
    have : reachBytes = 140737488351232 := by decide
    omega

end Go.Proofs.Ytnafodnaolmffaa
