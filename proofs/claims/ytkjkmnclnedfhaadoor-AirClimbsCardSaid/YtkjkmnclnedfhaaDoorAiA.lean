/- The landed air's Climb. -/
import Derived.Test.YtkjkmnclnedfhaaDoorAiNum
import Derived.Test.YtkjkmnclnedfhaaDoorObLanA
import Derived.Test.YtkjkmnclnedfhaaDoorSps
import Derived.Lib.MinMax
import Derived.BigRegion
namespace Go.Proofs.YtkjkmnclnedfhaaDoor
open Go.RowKit Obs

set_option maxHeartbeats 8000000 in
set_option maxRecDepth 100000 in
theorem Climb_core (o1 o2 n1 n2 m x l h L H : Int) (w : World)
    (hx : Hid (max m 0 = x)) (hn : Hid (IntKind.i64.wrap (-x) = -x))
    (SU : Hid (∀ w', Below w.heap.size w w' → Calls Tryd.prog 27 #[sv n1 n2, sv o1 o2] w' fun e w'' => e = .returned (sv l h) ∧ Below w'.heap.size w' w''))
    (ME : Hid (∀ w', Below w.heap.size w w' → Calls Tryd.prog 26 #[sv l h, sv (-x) x] w' fun e w'' => e = .returned (sv L H) ∧ Below w'.heap.size w' w''))
    : Calls Tryd.prog 12 #[sv o1 o2, sv n1 n2, .int .i64 m] w fun e w' => e = .returned (sv L H) ∧ Below w.heap.size w w' := by
  have hS1 := (((Sp.none w).more [.int .i64 o1, .int .i64 o2] 32).more [.int .i64 n1, .int .i64 n2] 32).more [.int .i64 0, .int .i64 0] 32
  simp only [heap1] at hS1
  have HS1 := Lib.hid hS1
  clear hS1
  go_enter Tryd.func12, Tryd.ntmps12
  go_upto_region 1 with fail
  obtain ⟨w1, hX, hS⟩ := (HS1.out).named
  rw [← hX]
  clear hX HS1
  have HS2 := Lib.hid hS
  clear hS
  have hx := hx.out
  have hn := hn.out
  have k0_0 := (HS2.out).at 0 rfl 0 (v := .int .i64 o1) rfl
  have k0_1 := (HS2.out).at 0 rfl 1 (v := .int .i64 o2) rfl
  have k1_0 := (HS2.out).at 1 rfl 0 (v := .int .i64 n1) rfl
  have k1_1 := (HS2.out).at 1 rfl 1 (v := .int .i64 n2) rfl
  go_wp2_with fail
  refine (SU.out _ HS2.out.below).mono ?_; rintro e w2 ⟨rfl, hb2⟩
  have hS3 := (HS2.out).keep hb2
  have HS3 := Lib.hid hS3
  clear hS3 HS2
  clear hb2
  clear SU k0_0 k0_1 k1_0 k1_1
  go_wp2_with fail
  refine (ME.out _ HS3.out.below).mono ?_; rintro e w3 ⟨rfl, hb3⟩
  have hS4 := (HS3.out).keep hb3
  have HS4 := Lib.hid hS4
  clear hS4 HS3
  clear hb3
  clear ME
  have r2_0 := (HS4.out).at 2 rfl 0 (v := .int .i64 0) rfl
  have r2_1 := (HS4.out).at 2 rfl 1 (v := .int .i64 0) rfl
  have rf2_0 := (HS4.out).free 2 rfl 0 rfl
  have rf2_1 := (HS4.out).free 2 rfl 1 rfl
  have BH := Lib.hid HS4.out.below
  go_wp2_with fail
  refine bodyPost_ret (v := sv L H) (by simp [results, Tryd.results12, go_sem, *]) rfl ⟨rfl, ?_⟩
  iterate 2 refine Below.setCell (p := ⟨w.heap.size + 1 + 1, _, none⟩) ?_ (show w.heap.size ≤ w.heap.size + 1 + 1 by omega) _
  exact BH.out

theorem Climb_any (m : Int) (o n : Int × Int) (w : World) (z : NoneAt w) (h0 : 0 ≤ m) (h1 : m ≤ 9223372036854775807) (ro : SR o) (rn : SR n) :
    Calls Tryd.prog 12 #[sv o.1 o.2, sv n.1 n.2, .int .i64 m] w fun e w' => e = .returned (sv (climbS m o n).1 (climbS m o n).2) ∧ Below w.heap.size w w' :=
  Climb_core o.1 o.2 n.1 n.2 m m _ _ _ _ w (Lib.hid (by omega)) (Lib.hid (wrap_neg m h0 h1)) (Lib.hid fun w' B => Sub_ob _ _ _ _ w' (z.keep B) rn.1 rn.2 ro.1 ro.2) (Lib.hid fun w' B => Meet_ob _ _ _ _ w' (z.keep B))
end Go.Proofs.YtkjkmnclnedfhaaDoor
