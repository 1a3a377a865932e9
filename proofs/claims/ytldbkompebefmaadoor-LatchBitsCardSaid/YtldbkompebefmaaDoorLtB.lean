/- The document's own New, Usable, Join. -/
import Derived.Test.YtldbkompebefmaaDoorLtNum
import Derived.Test.YtldbkompebefmaaDoorLtOwn
import Derived.Test.YtldbkompebefmaaDoorSp
import Derived.Lib.MinMax
import Derived.Deep.RegionWith
import Derived.Deep.CutBlock
import Derived.Deep.CutRange
import Derived.BigRegion
namespace Go.Proofs.YtldbkompebefmaaDoor
open Go.RowKit Ld Lat

namespace Ref33
set_option maxHeartbeats 8000000 in
set_option maxRecDepth 100000 in
theorem New_any  (w : World)
    : Calls Tryd.prog 11 #[] w fun e w' => e = .returned (lv new0) ∧ Below w.heap.size w w' := by
  go_enter Tryd.func11, Tryd.ntmps11
  go_wp2_with fail
  exact bodyPost_ret (v := .agg #[.int .i64 6, .bool false, .int .i64 0, .int .i64 0, .bool false, .bool false]) (by simp [results, Tryd.results11, go_sem, *]) rfl ⟨rfl, below1 w _⟩

set_option maxHeartbeats 8000000 in
set_option maxRecDepth 100000 in
theorem Usable_core (e i s o m c r : Int) (w : World)
    (H0 : Hid (bits .or .i64 e i = o)) (H1 : Hid (bits .or .i64 o s = m)) (CN : Hid (∀ w', Calls Tryd.prog 30 #[.int .i64 m] w' fun e w'' => e = .returned (.int .i64 c) ∧ Below w'.heap.size w' w'')) (H2 : Hid (IntKind.i64.wrap (6 - c) = r))
    : Calls Tryd.prog 13 #[.int .i64 e, .int .i64 i, .int .i64 s] w fun e w' => e = .returned (.int .i64 r) ∧ Below w.heap.size w w' := by
  have h0 := H0.out
  have h1 := H1.out
  have h2 := H2.out
  clear H0 H1 H2
  go_enter Tryd.func13, Tryd.ntmps13
  go_wp2_with fail
  refine (CN.out _).mono ?_; rintro e w1 ⟨rfl, hb⟩
  have BH := Lib.hid hb
  clear hb
  go_wp2_with fail
  exact bodyPost_ret (v := .int .i64 r) (by simp [results, Tryd.results13, go_sem, *]) rfl ⟨rfl, BH.out⟩
theorem Usable_any (e i s : Int) (w : World) : Calls Tryd.prog 13 #[.int .i64 e, .int .i64 i, .int .i64 s] w fun en w' => en = .returned (.int .i64 (us e i s)) ∧ Below w.heap.size w w' := by
  have hr := us_room e i s
  obtain ⟨m, hm⟩ : ∃ m, bits .or .i64 (bits .or .i64 e i) s = m := ⟨_, rfl⟩
  unfold us at hr ⊢
  rw [hm] at hr ⊢
  exact Usable_core e i s _ m _ _ w (Lib.hid rfl) (Lib.hid hm) (Lib.hid fun w' => (Ref11.Count_any m w')) (Lib.hid ((wrap_i64 _).trans (by omega)))

set_option maxHeartbeats 8000000 in
set_option maxRecDepth 100000 in
theorem Join_core (a b : La) (u al sp : Int) (w : World)
    (HU : Hid (min a.u b.u = u)) (HA : Hid (max a.al b.al = al)) (HS : Hid (max a.sp b.sp = sp))
    : Calls Tryd.prog 9 #[lv a, lv b] w fun e w' => e = .returned (.agg #[.int .i64 u, .bool (a.am || b.am), .int .i64 al, .int .i64 sp, .bool (a.fo || b.fo), .bool (a.no || b.no)]) ∧ Below w.heap.size w w' := by
  have hS1 := (((Sp.none w).more [.int .i64 a.u, .bool a.am, .int .i64 a.al, .int .i64 a.sp, .bool a.fo, .bool a.no] 23).more [.int .i64 b.u, .bool b.am, .int .i64 b.al, .int .i64 b.sp, .bool b.fo, .bool b.no] 23).more [.int .i64 0, .bool false, .int .i64 0, .int .i64 0, .bool false, .bool false] 23
  simp only [heap1] at hS1
  have HS1 := Lib.hid hS1
  clear hS1
  have hu := HU.out
  have ha := HA.out
  have hs := HS.out
  clear HU HA HS
  go_enter Tryd.func9, Tryd.ntmps9
  go_upto_region 1 with fail
  obtain ⟨w1, hX, hS⟩ := (HS1.out).named
  rw [← hX]
  clear hX HS1
  have HS2 := Lib.hid hS
  clear hS
  have k0_0 := (HS2.out).at 0 rfl 0 (v := .int .i64 a.u) rfl
  have k0_1 := (HS2.out).at 0 rfl 1 (v := .bool a.am) rfl
  have k0_2 := (HS2.out).at 0 rfl 2 (v := .int .i64 a.al) rfl
  have k0_3 := (HS2.out).at 0 rfl 3 (v := .int .i64 a.sp) rfl
  have k0_4 := (HS2.out).at 0 rfl 4 (v := .bool a.fo) rfl
  have k0_5 := (HS2.out).at 0 rfl 5 (v := .bool a.no) rfl
  have k1_0 := (HS2.out).at 1 rfl 0 (v := .int .i64 b.u) rfl
  have k1_1 := (HS2.out).at 1 rfl 1 (v := .bool b.am) rfl
  have k1_2 := (HS2.out).at 1 rfl 2 (v := .int .i64 b.al) rfl
  have k1_3 := (HS2.out).at 1 rfl 3 (v := .int .i64 b.sp) rfl
  have k1_4 := (HS2.out).at 1 rfl 4 (v := .bool b.fo) rfl
  have k1_5 := (HS2.out).at 1 rfl 5 (v := .bool b.no) rfl
  have r2_0 := (HS2.out).at 2 rfl 0 (v := .int .i64 0) rfl
  have r2_1 := (HS2.out).at 2 rfl 1 (v := .bool false) rfl
  have r2_2 := (HS2.out).at 2 rfl 2 (v := .int .i64 0) rfl
  have r2_3 := (HS2.out).at 2 rfl 3 (v := .int .i64 0) rfl
  have r2_4 := (HS2.out).at 2 rfl 4 (v := .bool false) rfl
  have r2_5 := (HS2.out).at 2 rfl 5 (v := .bool false) rfl
  have rf2_0 := (HS2.out).free 2 rfl 0 rfl
  have rf2_1 := (HS2.out).free 2 rfl 1 rfl
  have rf2_2 := (HS2.out).free 2 rfl 2 rfl
  have rf2_3 := (HS2.out).free 2 rfl 3 rfl
  have rf2_4 := (HS2.out).free 2 rfl 4 rfl
  have rf2_5 := (HS2.out).free 2 rfl 5 rfl
  have BH := Lib.hid HS2.out.below
  rcases Bool.eq_false_or_eq_true a.am with c0 | c0
  · rw [c0] at k0_1
    rcases Bool.eq_false_or_eq_true a.fo with c1 | c1
    · rw [c1] at k0_4
      rcases Bool.eq_false_or_eq_true a.no with c2 | c2
      · rw [c2] at k0_5
        go_wp2_with fail
        refine bodyPost_ret (v := .agg #[.int .i64 u, .bool (a.am || b.am), .int .i64 al, .int .i64 sp, .bool (a.fo || b.fo), .bool (a.no || b.no)]) (by simp [results, Tryd.results9, go_sem, *]) rfl ⟨rfl, ?_⟩
        iterate 6 refine Below.setCell (p := ⟨w.heap.size + 1 + 1, _, none⟩) ?_ (show w.heap.size ≤ w.heap.size + 1 + 1 by omega) _
        exact BH.out
      · rw [c2] at k0_5
        go_wp2_with fail
        refine bodyPost_ret (v := .agg #[.int .i64 u, .bool (a.am || b.am), .int .i64 al, .int .i64 sp, .bool (a.fo || b.fo), .bool (a.no || b.no)]) (by simp [results, Tryd.results9, go_sem, *]) rfl ⟨rfl, ?_⟩
        iterate 6 refine Below.setCell (p := ⟨w.heap.size + 1 + 1, _, none⟩) ?_ (show w.heap.size ≤ w.heap.size + 1 + 1 by omega) _
        exact BH.out
    · rw [c1] at k0_4
      rcases Bool.eq_false_or_eq_true a.no with c2 | c2
      · rw [c2] at k0_5
        go_wp2_with fail
        refine bodyPost_ret (v := .agg #[.int .i64 u, .bool (a.am || b.am), .int .i64 al, .int .i64 sp, .bool (a.fo || b.fo), .bool (a.no || b.no)]) (by simp [results, Tryd.results9, go_sem, *]) rfl ⟨rfl, ?_⟩
        iterate 6 refine Below.setCell (p := ⟨w.heap.size + 1 + 1, _, none⟩) ?_ (show w.heap.size ≤ w.heap.size + 1 + 1 by omega) _
        exact BH.out
      · rw [c2] at k0_5
        go_wp2_with fail
        refine bodyPost_ret (v := .agg #[.int .i64 u, .bool (a.am || b.am), .int .i64 al, .int .i64 sp, .bool (a.fo || b.fo), .bool (a.no || b.no)]) (by simp [results, Tryd.results9, go_sem, *]) rfl ⟨rfl, ?_⟩
        iterate 6 refine Below.setCell (p := ⟨w.heap.size + 1 + 1, _, none⟩) ?_ (show w.heap.size ≤ w.heap.size + 1 + 1 by omega) _
        exact BH.out
  · rw [c0] at k0_1
    rcases Bool.eq_false_or_eq_true a.fo with c1 | c1
    · rw [c1] at k0_4
      rcases Bool.eq_false_or_eq_true a.no with c2 | c2
      · rw [c2] at k0_5
        go_wp2_with fail
        refine bodyPost_ret (v := .agg #[.int .i64 u, .bool (a.am || b.am), .int .i64 al, .int .i64 sp, .bool (a.fo || b.fo), .bool (a.no || b.no)]) (by simp [results, Tryd.results9, go_sem, *]) rfl ⟨rfl, ?_⟩
        iterate 6 refine Below.setCell (p := ⟨w.heap.size + 1 + 1, _, none⟩) ?_ (show w.heap.size ≤ w.heap.size + 1 + 1 by omega) _
        exact BH.out
      · rw [c2] at k0_5
        go_wp2_with fail
        refine bodyPost_ret (v := .agg #[.int .i64 u, .bool (a.am || b.am), .int .i64 al, .int .i64 sp, .bool (a.fo || b.fo), .bool (a.no || b.no)]) (by simp [results, Tryd.results9, go_sem, *]) rfl ⟨rfl, ?_⟩
        iterate 6 refine Below.setCell (p := ⟨w.heap.size + 1 + 1, _, none⟩) ?_ (show w.heap.size ≤ w.heap.size + 1 + 1 by omega) _
        exact BH.out
    · rw [c1] at k0_4
      rcases Bool.eq_false_or_eq_true a.no with c2 | c2
      · rw [c2] at k0_5
        go_wp2_with fail
        refine bodyPost_ret (v := .agg #[.int .i64 u, .bool (a.am || b.am), .int .i64 al, .int .i64 sp, .bool (a.fo || b.fo), .bool (a.no || b.no)]) (by simp [results, Tryd.results9, go_sem, *]) rfl ⟨rfl, ?_⟩
        iterate 6 refine Below.setCell (p := ⟨w.heap.size + 1 + 1, _, none⟩) ?_ (show w.heap.size ≤ w.heap.size + 1 + 1 by omega) _
        exact BH.out
      · rw [c2] at k0_5
        go_wp2_with fail
        refine bodyPost_ret (v := .agg #[.int .i64 u, .bool (a.am || b.am), .int .i64 al, .int .i64 sp, .bool (a.fo || b.fo), .bool (a.no || b.no)]) (by simp [results, Tryd.results9, go_sem, *]) rfl ⟨rfl, ?_⟩
        iterate 6 refine Below.setCell (p := ⟨w.heap.size + 1 + 1, _, none⟩) ?_ (show w.heap.size ≤ w.heap.size + 1 + 1 by omega) _
        exact BH.out
theorem Join_any (a b : La) (w : World) : Calls Tryd.prog 9 #[lv a, lv b] w fun e w' => e = .returned (lv (jn a b)) ∧ Below w.heap.size w w' :=
  Join_core a b _ _ _ w (Lib.hid rfl) (Lib.hid rfl) (Lib.hid rfl)

end Ref33
end Go.Proofs.YtldbkompebefmaaDoor
