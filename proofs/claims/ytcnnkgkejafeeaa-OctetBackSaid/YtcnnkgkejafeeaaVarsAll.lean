/- OctetVars, OctetSays: every input. -/
import Derived.Test.YtcnnkgkejafeeaaCame
import Derived.Test.YtcnnkgkejafeeaaLawVars
namespace Go.Proofs.Ytcnnkgkejafeeaa
open Go.RowKit

theorem below_of {w w' : World} (h : w = w') : Below w.heap.size w w' := by subst h; exact Below.refl _ _

theorem Vars_all (ba : Option Addr) (cap : Nat) (l : List UInt8) (n at_ : Int) (w : World) (C : Came w ba cap l) (r0 : -9223372036854775808 ≤ n) (r1 : n ≤ 9223372036854775807) :
    Calls Try.prog 5 #[.int .i64 n, .slice ba l.length cap, .int .i64 at_] w fun e w' => e = .returned (.bool true) ∧ Below w.heap.size w w' := by
  by_cases h : (600 : Int) < l.length
  · exact vars_long ba l.length cap n at_ w h (Lib.hid Own.awake_any)
  · have hl : l.length ≤ 600 := by omega
    have hw : IntKind.u64.wrap n = ((IntKind.u64.wrap n).toNat : Int) := by rw [IntKind.wrap_u64]; omega
    have hwl : ((IntKind.u64.wrap n).toNat : Int) ≤ 18446744073709551615 := by rw [IntKind.wrap_u64]; omega
    obtain ⟨y, tp, er, e⟩ := rvAns_is l at_
    exact vars_core ba l.length cap n at_ _ y tp er _ _ _ w (by omega) hw _
      (Lib.hid fun w' hb => (Own.ReadVar_came (C.keep hb) hl at_).mono fun x w2 k => ⟨by rw [k.1, e], below_of k.2⟩)
      (Lib.hid fun w' hb => (Ref.ReadVar_came (C.keep hb) hl at_).mono fun x w2 k => ⟨by rw [k.1, e], below_of k.2⟩)
      (Lib.hid fun w => (Own.Zig_any n w r0 r1).mono fun x w2 k => ⟨k.1, below_of k.2⟩)
      (Lib.hid fun w => (Ref.Zig_any n w r0 r1).mono fun x w2 k => ⟨k.1, below_of k.2⟩)
      (Lib.hid fun w => (Own.Zag_any _ w hwl).mono fun x w2 k => ⟨k.1, below_of k.2⟩)
      (Lib.hid fun w => (Ref.Zag_any _ w hwl).mono fun x w2 k => ⟨k.1, below_of k.2⟩)
      (Lib.hid fun w => Own.Var_any _ w hwl)
      (Lib.hid fun w => Ref.Var_any _ w hwl)
      (Lib.hid fun w' hb => (Own.Bits_came (C.keep hb) hl).mono fun x w2 k => ⟨k.1, below_of k.2⟩)
      (Lib.hid fun w' hb => (Ref.Bits_came (C.keep hb) hl).mono fun x w2 k => ⟨k.1, below_of k.2⟩)
      (Lib.hid Own.awake_any)

end Go.Proofs.Ytcnnkgkejafeeaa
