/- The landed latch's New, Usable, flag, inRoom, Join. -/
import Derived.Test.YtldbkompebefmaaDoorLtNum
import Derived.Test.YtldbkompebefmaaDoorLtOwn
import Derived.Test.YtldbkompebefmaaDoorSp
import Derived.Test.YtldbkompebefmaaDoorLtLanB
import Derived.Lib.MinMax
import Derived.Deep.RegionWith
import Derived.Deep.CutBlock
import Derived.Deep.CutRange
import Derived.BigRegion
namespace Go.Proofs.YtldbkompebefmaaDoor
open Go.RowKit Ld Lat

namespace Lat
set_option maxHeartbeats 8000000 in
set_option maxRecDepth 100000 in
theorem New_any  (w : World)
    : Calls Tryd.prog 10 #[] w fun e w' => e = .returned (lv new0) ∧ Below w.heap.size w w' := by
  go_enter Tryd.func10, Tryd.ntmps10
  go_wp2_with fail
  exact bodyPost_ret (v := .agg #[.int .i64 6, .bool false, .int .i64 0, .int .i64 0, .bool false, .bool false]) (by simp [results, Tryd.results10, go_sem, *]) rfl ⟨rfl, below1 w _⟩

set_option maxHeartbeats 8000000 in
set_option maxRecDepth 100000 in
theorem Usable_core (e i s o m c r : Int) (w : World)
    (H0 : Hid (bits .or .i64 e i = o)) (H1 : Hid (bits .or .i64 o s = m)) (CN : Hid (∀ w', Calls Tryd.prog 29 #[.int .i64 m] w' fun e w'' => e = .returned (.int .i64 c) ∧ Below w'.heap.size w' w'')) (H2 : Hid (IntKind.i64.wrap (6 - c) = r))
    : Calls Tryd.prog 12 #[.int .i64 e, .int .i64 i, .int .i64 s] w fun e w' => e = .returned (.int .i64 r) ∧ Below w.heap.size w w' := by
  have h0 := H0.out
  have h1 := H1.out
  have h2 := H2.out
  clear H0 H1 H2
  go_enter Tryd.func12, Tryd.ntmps12
  go_wp2_with fail
  refine (CN.out _).mono ?_; rintro e w1 ⟨rfl, hb⟩
  have BH := Lib.hid hb
  clear hb
  go_wp2_with fail
  exact bodyPost_ret (v := .int .i64 r) (by simp [results, Tryd.results12, go_sem, *]) rfl ⟨rfl, BH.out⟩
theorem Usable_any (e i s : Int) (w : World) : Calls Tryd.prog 12 #[.int .i64 e, .int .i64 i, .int .i64 s] w fun en w' => en = .returned (.int .i64 (us e i s)) ∧ Below w.heap.size w w' := by
  have hr := us_room e i s
  obtain ⟨m, hm⟩ : ∃ m, bits .or .i64 (bits .or .i64 e i) s = m := ⟨_, rfl⟩
  unfold us at hr ⊢
  rw [hm] at hr ⊢
  exact Usable_core e i s _ m _ _ w (Lib.hid rfl) (Lib.hid hm) (Lib.hid fun w' => (Lan11.Count_any m w').mono (fun _ _ h => ⟨h.1, h.2 ▸ Below.refl _ _⟩)) (Lib.hid ((wrap_i64 _).trans (by omega)))

set_option maxHeartbeats 8000000 in
set_option maxRecDepth 100000 in
theorem flag_any (b : Bool) (k : Int) (w : World)
    : Calls Tryd.prog 35 #[.bool b, .int .i64 k] w fun e w' => e = .returned (.int .i64 (fl b k)) ∧ Below w.heap.size w w' := by
  have BH := Lib.hid (Below.refl w.heap.size w)
  cases b
  · skip
    go_enter Tryd.func35, Tryd.ntmps35
    go_wp2_with fail
    exact bodyPost_ret (v := .int .i64 0) (by simp [results, Tryd.results35, go_sem, *]) rfl ⟨rfl, BH.out⟩
  · skip
    go_enter Tryd.func35, Tryd.ntmps35
    go_wp2_with fail
    exact bodyPost_ret (v := .int .i64 k) (by simp [results, Tryd.results35, go_sem, *]) rfl ⟨rfl, BH.out⟩

set_option maxHeartbeats 8000000 in
set_option maxRecDepth 100000 in
theorem inRoom_core (l : La) (x y z : Int) (w : World)
    (H7 : Hid (bits .and .i64 l.u 7 = x)) (H3 : Hid (bits .and .i64 l.al 3 = y)) (G3 : Hid (bits .and .i64 l.sp 3 = z))
    : Calls Tryd.prog 34 #[lv l] w fun e w' => e = .returned (.agg #[.int .i64 x, .bool l.am, .int .i64 y, .int .i64 z, .bool l.fo, .bool l.no]) ∧ Below w.heap.size w w' := by
  have hS1 := ((Sp.none w).more [.int .i64 l.u, .bool l.am, .int .i64 l.al, .int .i64 l.sp, .bool l.fo, .bool l.no] 23).more [.int .i64 0, .bool false, .int .i64 0, .int .i64 0, .bool false, .bool false] 23
  simp only [heap1] at hS1
  have HS1 := Lib.hid hS1
  clear hS1
  have h7 := H7.out
  have h3 := H3.out
  have g3 := G3.out
  clear H7 H3 G3
  go_enter Tryd.func34, Tryd.ntmps34
  go_upto_region 1 with fail
  obtain ⟨w1, hX, hS⟩ := (HS1.out).named
  rw [← hX]
  clear hX HS1
  have HS2 := Lib.hid hS
  clear hS
  have k0_0 := (HS2.out).at 0 rfl 0 (v := .int .i64 l.u) rfl
  have f0_0 := (HS2.out).free 0 rfl 0 rfl
  go_upto_region 2 with fail
  have hS3 := (HS2.out).put 0 rfl 0 (.int .i64 x)
  have HS3 := Lib.hid hS3
  clear hS3 HS2
  clear k0_0 f0_0 h7
  go_upto_region 2 with fail
  obtain ⟨w2, hX, hS⟩ := (HS3.out).named
  rw [← hX]
  clear hX HS3
  have HS4 := Lib.hid hS
  clear hS
  have k0_2 := (HS4.out).at 0 rfl 2 (v := .int .i64 l.al) rfl
  have f0_2 := (HS4.out).free 0 rfl 2 rfl
  go_upto_region 3 with fail
  have hS5 := (HS4.out).put 0 rfl 2 (.int .i64 y)
  have HS5 := Lib.hid hS5
  clear hS5 HS4
  clear k0_2 f0_2 h3
  go_upto_region 3 with fail
  obtain ⟨w3, hX, hS⟩ := (HS5.out).named
  rw [← hX]
  clear hX HS5
  have HS6 := Lib.hid hS
  clear hS
  have k0_3 := (HS6.out).at 0 rfl 3 (v := .int .i64 l.sp) rfl
  have f0_3 := (HS6.out).free 0 rfl 3 rfl
  go_upto_region 4 with fail
  have hS7 := (HS6.out).put 0 rfl 3 (.int .i64 z)
  have HS7 := Lib.hid hS7
  clear hS7 HS6
  clear k0_3 f0_3 g3
  obtain ⟨w4, hX, hS⟩ := (HS7.out).named
  rw [← hX]
  clear hX HS7
  have HS8 := Lib.hid hS
  clear hS
  have m0_0 := (HS8.out).at 0 rfl 0 (v := .int .i64 x) rfl
  have m0_1 := (HS8.out).at 0 rfl 1 (v := .bool l.am) rfl
  have m0_2 := (HS8.out).at 0 rfl 2 (v := .int .i64 y) rfl
  have m0_3 := (HS8.out).at 0 rfl 3 (v := .int .i64 z) rfl
  have m0_4 := (HS8.out).at 0 rfl 4 (v := .bool l.fo) rfl
  have m0_5 := (HS8.out).at 0 rfl 5 (v := .bool l.no) rfl
  have r1_0 := (HS8.out).at 1 rfl 0 (v := .int .i64 0) rfl
  have r1_1 := (HS8.out).at 1 rfl 1 (v := .bool false) rfl
  have r1_2 := (HS8.out).at 1 rfl 2 (v := .int .i64 0) rfl
  have r1_3 := (HS8.out).at 1 rfl 3 (v := .int .i64 0) rfl
  have r1_4 := (HS8.out).at 1 rfl 4 (v := .bool false) rfl
  have r1_5 := (HS8.out).at 1 rfl 5 (v := .bool false) rfl
  have rf1_0 := (HS8.out).free 1 rfl 0 rfl
  have rf1_1 := (HS8.out).free 1 rfl 1 rfl
  have rf1_2 := (HS8.out).free 1 rfl 2 rfl
  have rf1_3 := (HS8.out).free 1 rfl 3 rfl
  have rf1_4 := (HS8.out).free 1 rfl 4 rfl
  have rf1_5 := (HS8.out).free 1 rfl 5 rfl
  have BH := Lib.hid HS8.out.below
  go_wp2_with fail
  refine bodyPost_ret (v := .agg #[.int .i64 x, .bool l.am, .int .i64 y, .int .i64 z, .bool l.fo, .bool l.no]) (by simp [results, Tryd.results34, go_sem, *]) rfl ⟨rfl, ?_⟩
  iterate 6 refine Below.setCell (p := ⟨w.heap.size + 1, _, none⟩) ?_ (show w.heap.size ≤ w.heap.size + 1 by omega) _
  exact BH.out
theorem inRoom_any (l : La) (w : World) : Calls Tryd.prog 34 #[lv l] w fun e w' => e = .returned (lv (cut l)) ∧ Below w.heap.size w w' :=
  inRoom_core l _ _ _ w (Lib.hid (and7 _)) (Lib.hid (and3 _)) (Lib.hid (and3 _))

set_option maxHeartbeats 8000000 in
set_option maxRecDepth 100000 in
theorem Join_core (a b : La) (u al sp : Int) (w : World)
    (HU : Hid (min a.u b.u = u)) (HA : Hid (max a.al b.al = al)) (HS : Hid (max a.sp b.sp = sp))
    : Calls Tryd.prog 8 #[lv a, lv b] w fun e w' => e = .returned (.agg #[.int .i64 u, .bool (a.am || b.am), .int .i64 al, .int .i64 sp, .bool (a.fo || b.fo), .bool (a.no || b.no)]) ∧ Below w.heap.size w w' := by
  have hS1 := (((Sp.none w).more [.int .i64 a.u, .bool a.am, .int .i64 a.al, .int .i64 a.sp, .bool a.fo, .bool a.no] 23).more [.int .i64 b.u, .bool b.am, .int .i64 b.al, .int .i64 b.sp, .bool b.fo, .bool b.no] 23).more [.int .i64 0, .bool false, .int .i64 0, .int .i64 0, .bool false, .bool false] 23
  simp only [heap1] at hS1
  have HS1 := Lib.hid hS1
  clear hS1
  have hu := HU.out
  have ha := HA.out
  have hs := HS.out
  clear HU HA HS
  go_enter Tryd.func8, Tryd.ntmps8
  go_upto_region 1 with fail
  obtain ⟨w1, hX, hS⟩ := (HS1.out).named
  rw [← hX]
  clear hX HS1
  have HS2 := Lib.hid hS
  clear hS
  have k0_0 := (HS2.out).at 0 rfl 0 (v := .int .i64 a.u) rfl
  have k0_1 := (HS2.out).at 0 rfl 1 (v := .bool a.am) rfl
  have k0_2 := (HS2.out).at 0 rfl 2 (v := .int .i64 a.al) rfl
  have k0_3 := (HS2.out).at 0 rfl 3 (v := .int .i64 a.sp) rfl
  have k0_4 := (HS2.out).at 0 rfl 4 (v := .bool a.fo) rfl
  have k0_5 := (HS2.out).at 0 rfl 5 (v := .bool a.no) rfl
  have k1_0 := (HS2.out).at 1 rfl 0 (v := .int .i64 b.u) rfl
  have k1_1 := (HS2.out).at 1 rfl 1 (v := .bool b.am) rfl
  have k1_2 := (HS2.out).at 1 rfl 2 (v := .int .i64 b.al) rfl
  have k1_3 := (HS2.out).at 1 rfl 3 (v := .int .i64 b.sp) rfl
  have k1_4 := (HS2.out).at 1 rfl 4 (v := .bool b.fo) rfl
  have k1_5 := (HS2.out).at 1 rfl 5 (v := .bool b.no) rfl
  have r2_0 := (HS2.out).at 2 rfl 0 (v := .int .i64 0) rfl
  have r2_1 := (HS2.out).at 2 rfl 1 (v := .bool false) rfl
  have r2_2 := (HS2.out).at 2 rfl 2 (v := .int .i64 0) rfl
  have r2_3 := (HS2.out).at 2 rfl 3 (v := .int .i64 0) rfl
  have r2_4 := (HS2.out).at 2 rfl 4 (v := .bool false) rfl
  have r2_5 := (HS2.out).at 2 rfl 5 (v := .bool false) rfl
  have rf2_0 := (HS2.out).free 2 rfl 0 rfl
  have rf2_1 := (HS2.out).free 2 rfl 1 rfl
  have rf2_2 := (HS2.out).free 2 rfl 2 rfl
  have rf2_3 := (HS2.out).free 2 rfl 3 rfl
  have rf2_4 := (HS2.out).free 2 rfl 4 rfl
  have rf2_5 := (HS2.out).free 2 rfl 5 rfl
  have BH := Lib.hid HS2.out.below
  rcases Bool.eq_false_or_eq_true a.am with c0 | c0
  · rw [c0] at k0_1
    rcases Bool.eq_false_or_eq_true a.fo with c1 | c1
    · rw [c1] at k0_4
      rcases Bool.eq_false_or_eq_true a.no with c2 | c2
      · rw [c2] at k0_5
        go_wp2_with fail
        refine bodyPost_ret (v := .agg #[.int .i64 u, .bool (a.am || b.am), .int .i64 al, .int .i64 sp, .bool (a.fo || b.fo), .bool (a.no || b.no)]) (by simp [results, Tryd.results8, go_sem, *]) rfl ⟨rfl, ?_⟩
        iterate 6 refine Below.setCell (p := ⟨w.heap.size + 1 + 1, _, none⟩) ?_ (show w.heap.size ≤ w.heap.size + 1 + 1 by omega) _
        exact BH.out
      · rw [c2] at k0_5
        go_wp2_with fail
        refine bodyPost_ret (v := .agg #[.int .i64 u, .bool (a.am || b.am), .int .i64 al, .int .i64 sp, .bool (a.fo || b.fo), .bool (a.no || b.no)]) (by simp [results, Tryd.results8, go_sem, *]) rfl ⟨rfl, ?_⟩
        iterate 6 refine Below.setCell (p := ⟨w.heap.size + 1 + 1, _, none⟩) ?_ (show w.heap.size ≤ w.heap.size + 1 + 1 by omega) _
        exact BH.out
    · rw [c1] at k0_4
      rcases Bool.eq_false_or_eq_true a.no with c2 | c2
      · rw [c2] at k0_5
        go_wp2_with fail
        refine bodyPost_ret (v := .agg #[.int .i64 u, .bool (a.am || b.am), .int .i64 al, .int .i64 sp, .bool (a.fo || b.fo), .bool (a.no || b.no)]) (by simp [results, Tryd.results8, go_sem, *]) rfl ⟨rfl, ?_⟩
        iterate 6 refine Below.setCell (p := ⟨w.heap.size + 1 + 1, _, none⟩) ?_ (show w.heap.size ≤ w.heap.size + 1 + 1 by omega) _
        exact BH.out
      · rw [c2] at k0_5
        go_wp2_with fail
        refine bodyPost_ret (v := .agg #[.int .i64 u, .bool (a.am || b.am), .int .i64 al, .int .i64 sp, .bool (a.fo || b.fo), .bool (a.no || b.no)]) (by simp [results, Tryd.results8, go_sem, *]) rfl ⟨rfl, ?_⟩
        iterate 6 refine Below.setCell (p := ⟨w.heap.size + 1 + 1, _, none⟩) ?_ (show w.heap.size ≤ w.heap.size + 1 + 1 by omega) _
        exact BH.out
  · rw [c0] at k0_1
    rcases Bool.eq_false_or_eq_true a.fo with c1 | c1
    · rw [c1] at k0_4
      rcases Bool.eq_false_or_eq_true a.no with c2 | c2
      · rw [c2] at k0_5
        go_wp2_with fail
        refine bodyPost_ret (v := .agg #[.int .i64 u, .bool (a.am || b.am), .int .i64 al, .int .i64 sp, .bool (a.fo || b.fo), .bool (a.no || b.no)]) (by simp [results, Tryd.results8, go_sem, *]) rfl ⟨rfl, ?_⟩
        iterate 6 refine Below.setCell (p := ⟨w.heap.size + 1 + 1, _, none⟩) ?_ (show w.heap.size ≤ w.heap.size + 1 + 1 by omega) _
        exact BH.out
      · rw [c2] at k0_5
        go_wp2_with fail
        refine bodyPost_ret (v := .agg #[.int .i64 u, .bool (a.am || b.am), .int .i64 al, .int .i64 sp, .bool (a.fo || b.fo), .bool (a.no || b.no)]) (by simp [results, Tryd.results8, go_sem, *]) rfl ⟨rfl, ?_⟩
        iterate 6 refine Below.setCell (p := ⟨w.heap.size + 1 + 1, _, none⟩) ?_ (show w.heap.size ≤ w.heap.size + 1 + 1 by omega) _
        exact BH.out
    · rw [c1] at k0_4
      rcases Bool.eq_false_or_eq_true a.no with c2 | c2
      · rw [c2] at k0_5
        go_wp2_with fail
        refine bodyPost_ret (v := .agg #[.int .i64 u, .bool (a.am || b.am), .int .i64 al, .int .i64 sp, .bool (a.fo || b.fo), .bool (a.no || b.no)]) (by simp [results, Tryd.results8, go_sem, *]) rfl ⟨rfl, ?_⟩
        iterate 6 refine Below.setCell (p := ⟨w.heap.size + 1 + 1, _, none⟩) ?_ (show w.heap.size ≤ w.heap.size + 1 + 1 by omega) _
        exact BH.out
      · rw [c2] at k0_5
        go_wp2_with fail
        refine bodyPost_ret (v := .agg #[.int .i64 u, .bool (a.am || b.am), .int .i64 al, .int .i64 sp, .bool (a.fo || b.fo), .bool (a.no || b.no)]) (by simp [results, Tryd.results8, go_sem, *]) rfl ⟨rfl, ?_⟩
        iterate 6 refine Below.setCell (p := ⟨w.heap.size + 1 + 1, _, none⟩) ?_ (show w.heap.size ≤ w.heap.size + 1 + 1 by omega) _
        exact BH.out
theorem Join_any (a b : La) (w : World) : Calls Tryd.prog 8 #[lv a, lv b] w fun e w' => e = .returned (lv (jn a b)) ∧ Below w.heap.size w w' :=
  Join_core a b _ _ _ w (Lib.hid rfl) (Lib.hid rfl) (Lib.hid rfl)

end Lat
end Go.Proofs.YtldbkompebefmaaDoor
