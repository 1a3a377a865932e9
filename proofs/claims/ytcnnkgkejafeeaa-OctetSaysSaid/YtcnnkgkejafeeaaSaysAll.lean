/- OctetSays: every input. -/
import Derived.Test.YtcnnkgkejafeeaaVarsAll
import Derived.Test.YtcnnkgkejafeeaaLawSays5
namespace Go.Proofs.Ytcnnkgkejafeeaa
open Go.RowKit

set_option maxHeartbeats 2000000 in
set_option maxRecDepth 100000 in
theorem says_long (ba : Option Addr) (len cap : Nat) (n at_ width : Int) (w : World) (hl : (600 : Int) < len)
    (AW : Hid (∀ w, Calls Try.prog 7 #[] w fun e w' => e = .returned (.bool true) ∧ Below w.heap.size w w')) :
    Calls Try.prog 3 #[.int .i64 n, .slice ba len cap, .agg #[.int .i64 at_, .int .i64 width]] w fun e w' => e = .returned (.bool true) ∧ Below w.heap.size w w' := by
  go_enter Try.func3, Try.ntmps3
  go_wp2_with fail
  refine (AW.out _).mono ?_; rintro e w1 ⟨rfl, hb1⟩
  have B1 := belowT (below1 w _) hb1
  go_wp2_with fail
  go_ret
  exact ⟨rfl, B1⟩

theorem Says_all (ba : Option Addr) (cap : Nat) (l : List UInt8) (n at_ width : Int) (w : World) (C : Came w ba cap l) :
    Calls Try.prog 3 #[.int .i64 n, .slice ba l.length cap, .agg #[.int .i64 at_, .int .i64 width]] w fun e w' => e = .returned (.bool true) ∧ Below w.heap.size w w' := by
  by_cases h : (600 : Int) < l.length
  · exact says_long ba l.length cap n at_ width w h (Lib.hid Own.awake_any)
  · have hl : l.length ≤ 600 := by omega
    have hw : IntKind.u64.wrap n = ((IntKind.u64.wrap n).toNat : Int) := by rw [IntKind.wrap_u64]; omega
    have hwl : ((IntKind.u64.wrap n).toNat : Int) ≤ 18446744073709551615 := by rw [IntKind.wrap_u64]; omega
    exact says_core ba l.length cap n at_ width (psE n width) (getU l at_ width : Nat) (getE l at_ width) (sgnI l at_ width) (getE l at_ width) (txE ⟨l.toArray⟩) (txtP l at_) (txtE l at_) _ ⟨l.toArray⟩ (txtS l at_) (psL n width) (txL ⟨l.toArray⟩) (Oct.be (min (max width 0) 8).toNat (IntKind.u64.wrap n).toNat) w (by omega) hw
      (fun w' hb => (C.keep hb).string)
      (Lib.hid fun w => Own.PutSigned_came n width w)
      (Lib.hid fun w' hb => (Own.Get_came (C.keep hb) at_ width).mono fun x w2 k => ⟨k.1, below_of k.2⟩)
      (Lib.hid fun w' hb => (Own.Signed_came (C.keep hb) at_ width).mono fun x w2 k => ⟨k.1, below_of k.2⟩)
      (Lib.hid fun w => Own.Text_came _ w)
      (Lib.hid fun w' hb => (Own.ReadText_came (C.keep hb) at_).mono fun x w2 k => ⟨k.1, below_of k.2⟩)
      (Lib.hid fun w => Own.Put_bytes _ _ width w hwl (by omega))
      (Lib.hid fun w => Ref.PutSigned_came n width w)
      (Lib.hid fun w' hb => (Ref.Get_came (C.keep hb) at_ width).mono fun x w2 k => ⟨k.1, below_of k.2⟩)
      (Lib.hid fun w' hb => (Ref.Signed_came (C.keep hb) at_ width).mono fun x w2 k => ⟨k.1, below_of k.2⟩)
      (Lib.hid fun w => Ref.Text_came _ w)
      (Lib.hid fun w' hb => (Ref.ReadText_came (C.keep hb) at_).mono fun x w2 k => ⟨k.1, below_of k.2⟩)
      (Lib.hid fun w => Ref.Put_bytes _ _ width w hwl (by omega))
      (Lib.hid Own.awake_any)

end Go.Proofs.Ytcnnkgkejafeeaa
