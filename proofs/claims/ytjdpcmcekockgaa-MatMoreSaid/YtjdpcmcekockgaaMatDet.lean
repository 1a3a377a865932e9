/- The document's own answers for layer 8: Det, Trace, Unit, Adj. -/
import Derived.Test.YtjdpcmcekockgaaMatTurn
namespace Go.Proofs.Ytjdpcmcekockgaa
open Go.RowKit

def M3.det (m : M3) : BitVec 64 := m.a.dot (m.b.cross m.c)
def M3.trace (m : M3) : BitVec 64 := m.a.x + m.b.y + m.c.z
def M3.unit (k : BitVec 64) : M3 := ⟨⟨k, 0, 0⟩, ⟨0, k, 0⟩, ⟨0, 0, k⟩⟩
def M3.adj (m : M3) : M3 := M3.turn ⟨m.b.cross m.c, m.c.cross m.a, m.a.cross m.b⟩

namespace Ref8

set_option maxHeartbeats 4000000 in
theorem Det_any (m : M3) (w : World) :
    Calls Try.prog 34 #[mv m] w fun e w' => e = .returned (.int .i64 m.det.toInt) ∧ Below w.heap.size w w' := by
  have DE := Lib.hid (Ref7.Det_any m.a m.b m.c)
  have D1 := below1 w (.cells (ml m).toArray 25)
  unfold M3.det
  generalize (m.a.dot (m.b.cross m.c)).toInt = r at *
  go_enter Try.func34, Try.ntmps34
  go_wp2_with (go_at_call 48; refine (DE.out _).mono ?_; rintro e w' ⟨rfl, hb⟩)
  go_ret
  exact ⟨rfl, belowT D1 hb⟩

set_option maxHeartbeats 4000000 in
theorem Trace_any (m : M3) (w : World) :
    Calls Try.prog 36 #[mv m] w fun e w' => e = .returned (.int .i64 m.trace.toInt) ∧ Below w.heap.size w w' := by
  have p0 := v_add m.a.x m.b.y; have p1 := v_add (m.a.x + m.b.y) m.c.z
  unfold M3.trace mv ml
  generalize (m.a.x + m.b.y + m.c.z).toInt = q1 at *; generalize (m.a.x + m.b.y).toInt = q0 at *
  generalize m.a.x.toInt = a0 at *; generalize m.b.y.toInt = a1 at *; generalize m.c.z.toInt = a2 at *
  go_enter Try.func36, Try.ntmps36
  go_wp2
  go_ret
  exact ⟨by show Ending.returned (.int .i64 (wrap64 (q0 + a2))) = _; rw [p1], below1 w _⟩

set_option maxHeartbeats 4000000 in
theorem Unit_any (k : BitVec 64) (w : World) :
    Calls Try.prog 37 #[.int .i64 k.toInt] w fun e w' => e = .returned (mv (M3.unit k)) ∧ Below w.heap.size w w' := by
  have z : (0#64).toInt = 0 := by decide
  have e : mv (M3.unit k) = .agg #[.int .i64 k.toInt, .int .i64 0, .int .i64 0, .int .i64 0, .int .i64 k.toInt, .int .i64 0, .int .i64 0, .int .i64 0, .int .i64 k.toInt] := by
    simp [mv, ml, M3.unit]
  rw [e]
  generalize k.toInt = kk at *
  clear e
  go_enter Try.func37, Try.ntmps37
  go_wp2
  exact bodyPost_ret (v := .agg #[.int .i64 kk, .int .i64 0, .int .i64 0, .int .i64 0, .int .i64 kk, .int .i64 0, .int .i64 0, .int .i64 0, .int .i64 kk]) (by simp [results, Try.results37, go_sem]) rfl ⟨rfl, by first | exact below1 w _ | exact (below1 w _).setCell (by simp) _⟩


end Ref8
end Go.Proofs.Ytjdpcmcekockgaa
