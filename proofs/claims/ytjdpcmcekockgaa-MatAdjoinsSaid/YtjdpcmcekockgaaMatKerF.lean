/- Kernel of the document's own answers for layer 8, where the determinant is not 0. -/
import Derived.Test.YtjdpcmcekockgaaMatKer
namespace Go.Proofs.Ytjdpcmcekockgaa
open Go.RowKit
namespace Ref8
set_option maxHeartbeats 4000000 in
theorem Kernel_firm (m : M3) (w : World) (hd : m.det ≠ 0) :
    Calls Try.prog 23 #[mv m] w fun e w' => e = .returned (.tuple #[vv V3.zero, .bool false]) ∧ Below w.heap.size w w' := by
  have DE := Lib.hid (Det_any m)
  have d0 : (m.det.toInt == 0) = false := by rw [det_zero, decide_eq_false hd]
  clear hd
  generalize m.det.toInt = d at *
  have S0 := Lib.hid (((St.none w).more (ml m) 25).more [.int .i64 0, .int .i64 0, .int .i64 0] 23)
  have hv : vv V3.zero = .agg #[.int .i64 0, .int .i64 0, .int .i64 0] := by simp [V3.zero]
  rw [hv]
  clear hv
  go_enter Try.func23, Try.ntmps23
  go_wp2_with fail
  refine (DE.out _).mono ?_; rintro e w1 ⟨rfl, hb1⟩
  have S1 := S0.out.keep hb1
  rw [heap1] at S1
  obtain ⟨y0, k0, f0⟩ := S1.there 1 rfl 0 rfl; obtain ⟨y1, k1, f1⟩ := S1.there 1 rfl 1 rfl; obtain ⟨y2, k2, f2⟩ := S1.there 1 rfl 2 rfl
  have BH := Lib.hid S1.below
  clear S1 hb1 S0
  go_wp2_with fail
  refine bodyPost_ret (v := .tuple #[.agg #[.int .i64 0, .int .i64 0, .int .i64 0], .bool false]) (by simp [results, Try.results23, go_sem, *]) rfl ⟨rfl, ?_⟩
  iterate 3 refine Below.setCell (p := ⟨w.heap.size + 1, _, none⟩) ?_ (show w.heap.size ≤ w.heap.size + 1 by omega) _
  exact BH.out
end Ref8
end Go.Proofs.Ytjdpcmcekockgaa
