/- Add of the document's own answers for layer 7: a drawn region in a loop's round. -/
import Derived.Test.YtjdpcmcekockgaaVecRef
import Derived.LoopTactic
namespace Go.Proofs.Ytjdpcmcekockgaa
open Go.RowKit
namespace Ref7
set_option maxHeartbeats 8000000 in
set_option maxRecDepth 100000 in
theorem Add_any (a b : V3) (w : World) :
    Calls Try.prog 45 #[vv a, vv b] w fun e w' => e = .returned (vv (a.add b)) ∧ Below w.heap.size w w' := by
  have p0 := v_add a.x b.x; have p1 := v_add a.y b.y; have p2 := v_add a.z b.z
  unfold V3.add vv
  simp only
  generalize (a.x + b.x).toInt = q0 at *; generalize (a.y + b.y).toInt = q1 at *; generalize (a.z + b.z).toInt = q2 at *
  generalize a.x.toInt = a0 at *; generalize a.y.toInt = a1 at *; generalize a.z.toInt = a2 at *
  generalize b.x.toInt = b0 at *; generalize b.y.toInt = b1 at *; generalize b.z.toInt = b2 at *
  go_enter Try.func45, Try.ntmps45
  go_wp2
  go_loopw [6] (fun iv wr => ∃ j : Nat, j ≤ 3 ∧ iv = .int .i64 j ∧ OwnL wr w.heap.size [.int .i64 (if 0 < j then q0 else a0), .int .i64 (if 1 < j then q1 else a1), .int .i64 (if 2 < j then q2 else a2)] ∧ HasL wr (w.heap.size + 1) [.int .i64 b0, .int .i64 b1, .int .i64 b2] ∧ OwnL wr (w.heap.size + 1 + 1) [.int .i64 0, .int .i64 0, .int .i64 0] ∧ Below w.heap.size w wr) (fun iv _ => 3 - (intOf iv).toNat)
  case atStart =>
    refine ⟨0, by omega, rfl, ((ownl w [.int .i64 a0, .int .i64 a1, .int .i64 a2] _).keep (below1 _ _)).keep (below1 _ _), ?_, ?_, below3 w _ _ _⟩
    · rw [← heap1 w (.cells #[.int .i64 a0, .int .i64 a1, .int .i64 a2] _)]
      exact (hasl _ [.int .i64 b0, .int .i64 b1, .int .i64 b2] _).keep (below1 _ _)
    · rw [← heap1 w (.cells #[.int .i64 a0, .int .i64 a1, .int .i64 a2] _), ← heap1 (w.alloc _) (.cells #[.int .i64 b0, .int .i64 b1, .int .i64 b2] _)]
      exact ownl _ [.int .i64 0, .int .i64 0, .int .i64 0] _
  case round =>
    obtain ⟨j, hj, rfl, OA, HB, OR, B⟩ := hrel
    rcases (show j = 0 ∨ j = 1 ∨ j = 2 ∨ j = 3 by omega) with rfl | rfl | rfl | rfl
    · have k0 := OA.1.at 0 rfl; have f0 := OA.2 0 (by simp); have l0 := HB.at 0 rfl
      rw [if_neg (by omega)] at k0
      have OA' := OA.set 0 (.int .i64 q0)
      have HE := Lib.hid (And.intro OA'.drew (And.intro (HB.set (show w.heap.size ≠ w.heap.size + 1 by omega) 0 (.int .i64 q0)).drew (And.intro (OR.other (show w.heap.size ≠ w.heap.size + 1 + 1 by omega) 0 (.int .i64 q0)).drew (B.setCell (p := ⟨w.heap.size, 0, none⟩) (Nat.le_refl w.heap.size) (.int .i64 q0)).drew)))
      clear OA HB OR B OA'
      go_upto_region 4 with fail
      go_region
      go_wp2_with fail
      go_roundw
      case rel => exact ⟨1, by omega, rfl, HE.out.1, HE.out.2.1, HE.out.2.2.1, HE.out.2.2.2⟩
      case measure => simp [intOf]
    · have k0 := OA.1.at 1 rfl; have f0 := OA.2 1 (by simp); have l0 := HB.at 1 rfl
      rw [if_neg (by omega)] at k0
      have OA' := OA.set 1 (.int .i64 q1)
      have HE := Lib.hid (And.intro OA'.drew (And.intro (HB.set (show w.heap.size ≠ w.heap.size + 1 by omega) 1 (.int .i64 q1)).drew (And.intro (OR.other (show w.heap.size ≠ w.heap.size + 1 + 1 by omega) 1 (.int .i64 q1)).drew (B.setCell (p := ⟨w.heap.size, 1, none⟩) (Nat.le_refl w.heap.size) (.int .i64 q1)).drew)))
      clear OA HB OR B OA'
      go_upto_region 4 with fail
      go_region
      go_wp2_with fail
      go_roundw
      case rel => exact ⟨2, by omega, rfl, HE.out.1, HE.out.2.1, HE.out.2.2.1, HE.out.2.2.2⟩
      case measure => simp [intOf]
    · have k0 := OA.1.at 2 rfl; have f0 := OA.2 2 (by simp); have l0 := HB.at 2 rfl
      rw [if_neg (by omega)] at k0
      have OA' := OA.set 2 (.int .i64 q2)
      have HE := Lib.hid (And.intro OA'.drew (And.intro (HB.set (show w.heap.size ≠ w.heap.size + 1 by omega) 2 (.int .i64 q2)).drew (And.intro (OR.other (show w.heap.size ≠ w.heap.size + 1 + 1 by omega) 2 (.int .i64 q2)).drew (B.setCell (p := ⟨w.heap.size, 2, none⟩) (Nat.le_refl w.heap.size) (.int .i64 q2)).drew)))
      clear OA HB OR B OA'
      go_upto_region 4 with fail
      go_region
      go_wp2_with fail
      go_roundw
      case rel => exact ⟨3, by omega, rfl, HE.out.1, HE.out.2.1, HE.out.2.2.1, HE.out.2.2.2⟩
      case measure => simp [intOf]
    · rw [if_pos (by omega), if_pos (by omega), if_pos (by omega)] at OA
      have k0 := OA.1.at 0 rfl; have k1 := OA.1.at 1 rfl; have k2 := OA.1.at 2 rfl
      have z0 := OR.1.at 0 rfl; have z1 := OR.1.at 1 rfl; have z2 := OR.1.at 2 rfl
      have f0 := OR.2 0 (by simp); have f1 := OR.2 1 (by simp); have f2 := OR.2 2 (by simp)
      have BH := Lib.hid B
      clear OA HB OR B
      go_wp2
      refine bodyPost_ret (v := .agg #[.int .i64 q0, .int .i64 q1, .int .i64 q2]) (by simp [results, Try.results45, go_sem, *]) rfl ⟨rfl, ?_⟩
      iterate 3 refine Below.setCell (p := ⟨w.heap.size + 1 + 1, _, none⟩) ?_ (show w.heap.size ≤ w.heap.size + 1 + 1 by omega) _
      exact BH.out
end Ref7
end Go.Proofs.Ytjdpcmcekockgaa
