/- may, Split of the document's own answers for layer 15. -/
import Derived.Test.YtnafodnaolmffaaStrNum
import Derived.Test.YtnafodnaolmffaaFrs
import Derived.Test.YtnafodnaolmffaaFrmRefB
import Derived.Test.YtnafodnaolmffaaFrmRefC
import Derived.Test.YtnafodnaolmffaaBufOwn
namespace Go.Proofs.Ytnafodnaolmffaa
open Go.RowKit

namespace Ref15
set_option maxRecDepth 100000 in
theorem may_came {w : World} {ba : Option Addr} {cap : Nat} {l : List UInt8} (C : Came w ba cap l) :
    Calls Try.prog 22 #[.slice ba l.length cap] w fun e w' => e = .returned (.bool (mayF l)) ∧ Below w.heap.size w w' := by
  have BG := Lib.hid (Ref14.Begins_came C)
  have hm := C.max
  unfold maxLen at hm
  have hl : (l.length : Int) ≤ 9223372036854775807 := by have := C.le; omega
  unfold mayF
  by_cases h1 : l.length = 1
  · rw [if_pos h1]
    obtain ⟨b, o, rfl, L⟩ := C.lies (by omega)
    have k0 := L 0 (by omega)
    rw [Nat.add_zero] at k0
    have e0 : (((l.getD 0 0).toNat : Int) == 165) = (l.getD 0 0 == 165) := Ref14.byte_is (l.getD 0 0) 165 (by decide)
    have q : ((l.length : Int) == 1) = true := by simp; omega
    have d : (0 : Int) < l.length := by omega
    generalize (l.getD 0 0 == 165) = g at *
    generalize (l.getD 0 0).toNat = x0 at *
    clear BG C L h1
    go_enter Try.func22, Try.ntmps22
    go_wp2
    go_ret
    exact ⟨rfl, Below.refl _ _⟩
  · rw [if_neg h1]
    have q : ((l.length : Int) == 1) = false := by simp; omega
    clear h1 C
    go_enter Try.func22, Try.ntmps22
    go_wp2_with fail
    refine BG.out.mono ?_; rintro e w1 ⟨rfl, hb1⟩
    clear BG
    go_wp2
    go_ret
    exact ⟨rfl, hb1⟩
end Ref15
end Go.Proofs.Ytnafodnaolmffaa
