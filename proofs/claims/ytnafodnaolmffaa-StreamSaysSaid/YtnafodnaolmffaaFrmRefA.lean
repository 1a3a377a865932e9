/- Right, Begins, Bytes of the document's own answers for layer 14. -/
import Derived.Test.YtnafodnaolmffaaFrm
import Derived.Test.YtnafodnaolmffaaRefPut
import Derived.Test.YtnafodnaolmffaaRebase
import Derived.Test.YtnafodnaolmffaaBufCame
import Derived.Deep.CutBlock
import Derived.Deep.CutRange
import Derived.LoopTactic
namespace Go.Proofs.Ytnafodnaolmffaa
open Go.RowKit

theorem Bytes.low {w u x : World} {v : Value} {l : List UInt8} (h : Bytes u.heap.size u x v l) (hb : Below w.heap.size w u) : Bytes w.heap.size w x v l := by
  refine ⟨⟨h.1.1, ?_⟩, belowT hb h.2.1, Nat.le_trans hb.size h.2.2⟩
  rcases h.1.2 with hn | ⟨g, cap, cur, fz, rfl, h1, hg, rest⟩
  · exact .inl hn
  · exact .inr ⟨g, cap, cur, fz, rfl, Nat.le_trans hb.size h1, hg, rest⟩

theorem right_cases (s c v : Int) (b : Bool) :
    (s ≥ 0 ∧ s < 12 ∧ c ≥ 0 ∧ c < 256 ∧ v ≥ -2147483648 ∧ v < 2147483648 ∧ rightF ⟨s, c, b, v⟩ = true) ∨
    (¬ s ≥ 0 ∧ rightF ⟨s, c, b, v⟩ = false) ∨
    (s ≥ 0 ∧ ¬ s < 12 ∧ rightF ⟨s, c, b, v⟩ = false) ∨
    (s ≥ 0 ∧ s < 12 ∧ ¬ c ≥ 0 ∧ rightF ⟨s, c, b, v⟩ = false) ∨
    (s ≥ 0 ∧ s < 12 ∧ c ≥ 0 ∧ ¬ c < 256 ∧ rightF ⟨s, c, b, v⟩ = false) ∨
    (s ≥ 0 ∧ s < 12 ∧ c ≥ 0 ∧ c < 256 ∧ ¬ v ≥ -2147483648 ∧ rightF ⟨s, c, b, v⟩ = false) ∨
    (s ≥ 0 ∧ s < 12 ∧ c ≥ 0 ∧ c < 256 ∧ v ≥ -2147483648 ∧ ¬ v < 2147483648 ∧ rightF ⟨s, c, b, v⟩ = false) := by
  have k := right_iff ⟨s, c, b, v⟩
  simp only at k
  cases g : rightF ⟨s, c, b, v⟩
  · rw [g] at k
    have k' : ¬ (0 ≤ s ∧ s < 12 ∧ 0 ≤ c ∧ c < 256 ∧ -2147483648 ≤ v ∧ v < 2147483648) := fun h => by cases k.2 h
    simp only [and_true, and_false, false_or, reduceCtorEq]
    omega
  · have := k.1 g
    simp only [and_true, and_false, or_false, reduceCtorEq]
    omega

namespace Ref14
set_option maxRecDepth 100000 in
theorem Right_any (f : Fr) (w : World) :
    Calls Try.prog 36 #[fv f] w fun e w' => e = .returned (.bool (rightF f)) ∧ Below w.heap.size w w' := by
  obtain ⟨s, c, b, v⟩ := f
  have B1 := below1 w (.cells #[.int .i64 s, .int .i64 c, .bool b, .int .i64 v] 35)
  simp only [fv]
  rcases right_cases s c v b with ⟨h1, h2, h3, h4, h5, h6, e⟩ | ⟨h1, e⟩ | ⟨h1, h2, e⟩ | ⟨h1, h2, h3, e⟩ | ⟨h1, h2, h3, h4, e⟩ | ⟨h1, h2, h3, h4, h5, e⟩ | ⟨h1, h2, h3, h4, h5, h6, e⟩
  all_goals
    rw [e]
    clear e
    go_enter Try.func36, Try.ntmps36
    go_wp2
    go_ret
    exact ⟨rfl, B1⟩

theorem byte_is (c : UInt8) (n : Nat) (hn : n < 256) : ((c.toNat : Int) == (n : Int)) = (c == UInt8.ofNat n) := by
  cases g : (c == UInt8.ofNat n)
  · rw [beq_eq_false_iff_ne] at g ⊢
    intro h
    have h' : c.toNat = n := by omega
    exact g (by rw [← h', UInt8.ofNat_toNat])
  · have := beq_iff_eq.1 g
    subst this
    rw [beq_iff_eq, byte_of' n hn]

set_option maxRecDepth 100000 in
theorem Begins_came {w : World} {ba : Option Addr} {cap : Nat} {l : List UInt8} (C : Came w ba cap l) :
    Calls Try.prog 33 #[.slice ba l.length cap] w fun e w' => e = .returned (.bool (beginsF l)) ∧ Below w.heap.size w w' := by
  by_cases h2 : (l.length : Int) ≥ 2
  · obtain ⟨b, o, rfl, L⟩ := C.lies (by omega)
    have k0 := L 0 (by omega)
    have k1 := L 1 (by omega)
    rw [Nat.add_zero] at k0
    have e0 := byte_is (l.getD 0 0) 165 (by decide)
    have e1 := byte_is (l.getD 1 0) 90 (by decide)
    have eb : beginsF l = ((l.getD 0 0 == 165) && (l.getD 1 0 == 90)) := by
      unfold beginsF
      rw [decide_eq_true (by omega), Bool.true_and]
    have d1 : (1 : Int) < l.length := by omega
    have d0 : (0 : Int) < l.length := by omega
    rw [eb]
    have m0 := (l.getD 0 0).toNat_lt
    have m1 := (l.getD 1 0).toNat_lt
    have E0 : (l.getD 0 0 == UInt8.ofNat 165) = (l.getD 0 0 == 165) := rfl
    have E1 : (l.getD 1 0 == UInt8.ofNat 90) = (l.getD 1 0 == 90) := rfl
    rw [E0] at e0
    rw [E1] at e1
    generalize (l.getD 0 0 == 165) = p at *
    generalize (l.getD 1 0 == 90) = q at *
    generalize (l.getD 0 0).toNat = x at *
    generalize (l.getD 1 0).toNat = y at *
    have e0' : ((x : Int) == 165) = p := e0
    have e1' : ((y : Int) == 90) = q := e1
    clear e0 e1 eb E0 E1 L C
    cases p
    · go_enter Try.func33, Try.ntmps33
      go_wp2
      go_ret
      exact ⟨rfl, Below.refl _ _⟩
    · go_enter Try.func33, Try.ntmps33
      go_wp2
      go_ret
      exact ⟨rfl, Below.refl _ _⟩
  · have e : beginsF l = false := by
      unfold beginsF
      rw [decide_eq_false (by omega)]; rfl
    rw [e]
    clear e
    go_enter Try.func33, Try.ntmps33
    go_wp2
    go_ret
    exact ⟨rfl, Below.refl _ _⟩
end Ref14
end Go.Proofs.Ytnafodnaolmffaa
