/- Bytes that a call has gathered itself; Text of the document's own answers for layer 5. -/
import Derived.Test.YtcnnkgkejafeeaaOctText
import Derived.Lib.AppendStr
import Derived.OwnWalk
import Derived.Lib.BufSteps
import Derived.Test.YtcnnkgkejafeeaaMem
namespace Go.Proofs.Ytcnnkgkejafeeaa
open Go.RowKit

/-- a slice of the call's own (from block B on; below it the world is as W0) holds these bytes -/
def Bytes (B : Nat) (W0 w : World) (v : Value) (l : List UInt8) : Prop := Lib.OwnBuf B 5 v l.length (vals l) W0 w
theorem Bytes.below {B : Nat} {W0 w : World} {v : Value} {l : List UInt8} (h : Bytes B W0 w v l) : Below B W0 w := h.2.1

theorem info8 : (Try.prog.info? 5).map (fun i => (i.zero, i.size, i.bytes)) = some (some (.int .u8 0), 1, 1) := by kernel_rfl

theorem strCells_vals (s : ByteArray) : Lib.strCells s = vals s.data.toList := rfl

theorem one_own (w : World) (c : UInt8) (t : TypeId) (ht : t = 5) : (w.alloc (.cells #[.int .u8 (c.toNat : Int)] t)).ownsRow w.heap.size 5 1 (.slice (some ⟨w.heap.size, 0, none⟩) 1 1) 1 (vals [c]) := by
  subst ht
  refine ⟨rfl, Or.inr ⟨w.heap.size, 1, #[.int .u8 (c.toNat : Int)], rfl, Nat.le_refl _, by show (w.heap.push _)[w.heap.size]? = _; simp, Nat.le_refl _, by decide, rfl, rfl⟩⟩

namespace Ref
theorem Text_ok (s : ByteArray) (w : World) (h : (s.size : Int) ≤ 255) :
    Calls Try.prog 15 #[.string s] w fun e w' => ∃ v, e = .returned (.tuple #[v, .int .i64 0]) ∧ Bytes w.heap.size w w' v (UInt8.ofNat s.size :: s.data.toList) := by
  obtain ⟨i0, hi, hz0, hz1, hz2⟩ := info_parts info8
  have hown := one_own w (UInt8.ofNat s.size) _ rfl
  rw [Oct.byte_of _ (by omega)] at hown
  have hd : decide ((255 : Int) < s.size) = false := decide_eq_false (by omega)
  go_enter Try.func15, Try.ntmps15
  go_wp2_with (at_builtin; refine Lib.wpList_append_own_string _ rfl _ _ 22 9 rfl w.heap.size 5 i0 Try.underlying22 Try.underlying9 hi hz0 hz1 hz2 _ _ _ rfl hown s rfl ?c3 ?c4 ?c5 ?_)
  case c3 => unfold maxLen; omega
  case c4 => omega
  case c5 => simp
  intro v w' ho hg _
  go_wp2
  have hb : Below w.heap.size w w' := (below1 w _).grown hg (by simp) (fun k hk => by simp [Value.ownBlock] at hk; omega)
  have hn : (UInt8.ofNat s.size :: s.data.toList).length = 1 + s.size := by rw [List.length_cons, Nat.add_comm]; rfl
  go_ret2
  exact ⟨v, rfl, by unfold Bytes; rw [hn]; exact ⟨World.ownsRowF_of ho, hb, hb.size⟩⟩

end Ref
end Go.Proofs.Ytcnnkgkejafeeaa
