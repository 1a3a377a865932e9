/- The landed mat's own contracts (commit f8f2e27): Mul, Adj. -/
import Derived.Test.YtjdpcmcekockgaaMatOwnA
import Derived.Test.YtjdpcmcekockgaaMatMul
namespace Go.Proofs.Ytjdpcmcekockgaa
open Go.RowKit
namespace Own8
set_option maxHeartbeats 8000000 in
set_option maxRecDepth 100000 in
theorem Mul_any (a b : M3) (w : World) :
    Calls Try.prog 11 #[mv a, mv b] w fun e w' => e = .returned (mv (a.mul b)) ∧ Below w.heap.size w w' := by
  obtain ⟨i0, i1, i2⟩ := mat_at a
  have T := Lib.hid fun w => Turn_any b w
  have Da := Lib.hid fun w => Times_any b.turn a.a w
  have Db := Lib.hid fun w => Times_any b.turn a.b w
  have Dc := Lib.hid fun w => Times_any b.turn a.c w
  have hS1 := ((((Sp.none w).more [.int .i64 a.a.x.toInt, .int .i64 a.a.y.toInt, .int .i64 a.a.z.toInt, .int .i64 a.b.x.toInt, .int .i64 a.b.y.toInt, .int .i64 a.b.z.toInt, .int .i64 a.c.x.toInt, .int .i64 a.c.y.toInt, .int .i64 a.c.z.toInt] 25).more [.int .i64 b.a.x.toInt, .int .i64 b.a.y.toInt, .int .i64 b.a.z.toInt, .int .i64 b.b.x.toInt, .int .i64 b.b.y.toInt, .int .i64 b.b.z.toInt, .int .i64 b.c.x.toInt, .int .i64 b.c.y.toInt, .int .i64 b.c.z.toInt] 25).more [.int .i64 0, .int .i64 0, .int .i64 0, .int .i64 0, .int .i64 0, .int .i64 0, .int .i64 0, .int .i64 0, .int .i64 0] 25).more [.int .i64 0, .int .i64 0, .int .i64 0, .int .i64 0, .int .i64 0, .int .i64 0, .int .i64 0, .int .i64 0, .int .i64 0] 25
  simp only [heap1] at hS1
  have HS1 := Lib.hid hS1
  clear hS1
  unfold M3.mul
  generalize b.turn = t at *
  generalize t.times a.a = ra at *
  generalize t.times a.b = rb at *
  generalize t.times a.c = rc at *
  go_enter Try.func11, Try.ntmps11
  go_wp2_with fail
  refine (T.out _).mono ?_; rintro e w1 ⟨rfl, hb1⟩
  have hS2 := (HS1.out).keep hb1
  have HS2 := Lib.hid hS2
  clear hS2 HS1
  clear hb1
  go_upto_region 3 with fail
  have hS3 := (HS2.out).more [.int .i64 t.a.x.toInt, .int .i64 t.a.y.toInt, .int .i64 t.a.z.toInt, .int .i64 t.b.x.toInt, .int .i64 t.b.y.toInt, .int .i64 t.b.z.toInt, .int .i64 t.c.x.toInt, .int .i64 t.c.y.toInt, .int .i64 t.c.z.toInt] 25
  have HS3 := Lib.hid hS3
  clear hS3 HS2
  obtain ⟨w2, hX, hS⟩ := (HS3.out).named
  rw [← hX]
  clear hX HS3
  have HS4 := Lib.hid hS
  clear hS
  have m0_0 := (HS4.out).at 0 rfl 0 (v := .int .i64 a.a.x.toInt) rfl
  have m0_1 := (HS4.out).at 0 rfl 1 (v := .int .i64 a.a.y.toInt) rfl
  have m0_2 := (HS4.out).at 0 rfl 2 (v := .int .i64 a.a.z.toInt) rfl
  have m0_3 := (HS4.out).at 0 rfl 3 (v := .int .i64 a.b.x.toInt) rfl
  have m0_4 := (HS4.out).at 0 rfl 4 (v := .int .i64 a.b.y.toInt) rfl
  have m0_5 := (HS4.out).at 0 rfl 5 (v := .int .i64 a.b.z.toInt) rfl
  have m0_6 := (HS4.out).at 0 rfl 6 (v := .int .i64 a.c.x.toInt) rfl
  have m0_7 := (HS4.out).at 0 rfl 7 (v := .int .i64 a.c.y.toInt) rfl
  have m0_8 := (HS4.out).at 0 rfl 8 (v := .int .i64 a.c.z.toInt) rfl
  go_wp2_with fail
  refine wp_loop_rounds 4 ?_
  rw [rounds_succ]
  go_upto_region 6 with fail
  have hS5 := (HS4.out).more [.int .i64 a.a.x.toInt, .int .i64 a.a.y.toInt, .int .i64 a.a.z.toInt] 23
  have HS5 := Lib.hid hS5
  clear hS5 HS4
  obtain ⟨w3, hX, hS⟩ := (HS5.out).named
  rw [← hX]
  clear hX HS5 m0_0 m0_1 m0_2 m0_3 m0_4 m0_5 m0_6 m0_7 m0_8
  have HS6 := Lib.hid hS
  clear hS
  have c4_0 := (HS6.out).at 4 rfl 0 (v := .int .i64 t.a.x.toInt) rfl
  have c4_1 := (HS6.out).at 4 rfl 1 (v := .int .i64 t.a.y.toInt) rfl
  have c4_2 := (HS6.out).at 4 rfl 2 (v := .int .i64 t.a.z.toInt) rfl
  have c4_3 := (HS6.out).at 4 rfl 3 (v := .int .i64 t.b.x.toInt) rfl
  have c4_4 := (HS6.out).at 4 rfl 4 (v := .int .i64 t.b.y.toInt) rfl
  have c4_5 := (HS6.out).at 4 rfl 5 (v := .int .i64 t.b.z.toInt) rfl
  have c4_6 := (HS6.out).at 4 rfl 6 (v := .int .i64 t.c.x.toInt) rfl
  have c4_7 := (HS6.out).at 4 rfl 7 (v := .int .i64 t.c.y.toInt) rfl
  have c4_8 := (HS6.out).at 4 rfl 8 (v := .int .i64 t.c.z.toInt) rfl
  have c5_0 := (HS6.out).at 5 rfl 0 (v := .int .i64 a.a.x.toInt) rfl
  have c5_1 := (HS6.out).at 5 rfl 1 (v := .int .i64 a.a.y.toInt) rfl
  have c5_2 := (HS6.out).at 5 rfl 2 (v := .int .i64 a.a.z.toInt) rfl
  go_wp2_with fail
  refine (Da.out _).mono ?_; rintro e w4 ⟨rfl, hb4⟩
  have hS7 := (HS6.out).keep hb4
  have HS7 := Lib.hid hS7
  clear hS7 HS6
  clear hb4
  clear c4_0 c4_1 c4_2 c4_3 c4_4 c4_5 c4_6 c4_7 c4_8 c5_0 c5_1 c5_2
  have k3_0 := (HS7.out).at 3 rfl 0 (v := .int .i64 0) rfl
  have k3_1 := (HS7.out).at 3 rfl 1 (v := .int .i64 0) rfl
  have k3_2 := (HS7.out).at 3 rfl 2 (v := .int .i64 0) rfl
  have k3_3 := (HS7.out).at 3 rfl 3 (v := .int .i64 0) rfl
  have k3_4 := (HS7.out).at 3 rfl 4 (v := .int .i64 0) rfl
  have k3_5 := (HS7.out).at 3 rfl 5 (v := .int .i64 0) rfl
  have k3_6 := (HS7.out).at 3 rfl 6 (v := .int .i64 0) rfl
  have k3_7 := (HS7.out).at 3 rfl 7 (v := .int .i64 0) rfl
  have k3_8 := (HS7.out).at 3 rfl 8 (v := .int .i64 0) rfl
  have k2_0 := (HS7.out).at 2 rfl 0 (v := .int .i64 0) rfl
  have k2_1 := (HS7.out).at 2 rfl 1 (v := .int .i64 0) rfl
  have k2_2 := (HS7.out).at 2 rfl 2 (v := .int .i64 0) rfl
  have k2_3 := (HS7.out).at 2 rfl 3 (v := .int .i64 0) rfl
  have k2_4 := (HS7.out).at 2 rfl 4 (v := .int .i64 0) rfl
  have k2_5 := (HS7.out).at 2 rfl 5 (v := .int .i64 0) rfl
  have k2_6 := (HS7.out).at 2 rfl 6 (v := .int .i64 0) rfl
  have k2_7 := (HS7.out).at 2 rfl 7 (v := .int .i64 0) rfl
  have k2_8 := (HS7.out).at 2 rfl 8 (v := .int .i64 0) rfl
  have f3_0 := (HS7.out).free 3 rfl 0 rfl
  have f3_1 := (HS7.out).free 3 rfl 1 rfl
  have f3_2 := (HS7.out).free 3 rfl 2 rfl
  have f3_3 := (HS7.out).free 3 rfl 3 rfl
  have f3_4 := (HS7.out).free 3 rfl 4 rfl
  have f3_5 := (HS7.out).free 3 rfl 5 rfl
  have f3_6 := (HS7.out).free 3 rfl 6 rfl
  have f3_7 := (HS7.out).free 3 rfl 7 rfl
  have f3_8 := (HS7.out).free 3 rfl 8 rfl
  have f2_0 := (HS7.out).free 2 rfl 0 rfl
  have f2_1 := (HS7.out).free 2 rfl 1 rfl
  have f2_2 := (HS7.out).free 2 rfl 2 rfl
  have f2_3 := (HS7.out).free 2 rfl 3 rfl
  have f2_4 := (HS7.out).free 2 rfl 4 rfl
  have f2_5 := (HS7.out).free 2 rfl 5 rfl
  have f2_6 := (HS7.out).free 2 rfl 6 rfl
  have f2_7 := (HS7.out).free 2 rfl 7 rfl
  have f2_8 := (HS7.out).free 2 rfl 8 rfl
  have hS8 := (((HS7.out).put 3 rfl 0 (.int .i64 ra.x.toInt)).put 3 rfl 1 (.int .i64 ra.y.toInt)).put 3 rfl 2 (.int .i64 ra.z.toInt)
  have HS8 := Lib.hid hS8
  clear hS8 HS7
  go_wp2_with fail
  rw [rounds_succ]
  go_upto_region 6 with fail
  have hS9 := (HS8.out).more [.int .i64 a.b.x.toInt, .int .i64 a.b.y.toInt, .int .i64 a.b.z.toInt] 23
  simp only [World.size_setCell] at hS9
  have HS9 := Lib.hid hS9
  clear hS9 HS8
  obtain ⟨w5, hX, hS⟩ := (HS9.out).named
  rw [← hX]
  clear hX HS9 k3_0 k3_1 k3_2 k3_3 k3_4 k3_5 k3_6 k3_7 k3_8 k2_0 k2_1 k2_2 k2_3 k2_4 k2_5 k2_6 k2_7 k2_8 f3_0 f3_1 f3_2 f3_3 f3_4 f3_5 f3_6 f3_7 f3_8 f2_0 f2_1 f2_2 f2_3 f2_4 f2_5 f2_6 f2_7 f2_8
  have HS10 := Lib.hid hS
  clear hS
  have c4_0 := (HS10.out).at 4 rfl 0 (v := .int .i64 t.a.x.toInt) rfl
  have c4_1 := (HS10.out).at 4 rfl 1 (v := .int .i64 t.a.y.toInt) rfl
  have c4_2 := (HS10.out).at 4 rfl 2 (v := .int .i64 t.a.z.toInt) rfl
  have c4_3 := (HS10.out).at 4 rfl 3 (v := .int .i64 t.b.x.toInt) rfl
  have c4_4 := (HS10.out).at 4 rfl 4 (v := .int .i64 t.b.y.toInt) rfl
  have c4_5 := (HS10.out).at 4 rfl 5 (v := .int .i64 t.b.z.toInt) rfl
  have c4_6 := (HS10.out).at 4 rfl 6 (v := .int .i64 t.c.x.toInt) rfl
  have c4_7 := (HS10.out).at 4 rfl 7 (v := .int .i64 t.c.y.toInt) rfl
  have c4_8 := (HS10.out).at 4 rfl 8 (v := .int .i64 t.c.z.toInt) rfl
  have c6_0 := (HS10.out).at 6 rfl 0 (v := .int .i64 a.b.x.toInt) rfl
  have c6_1 := (HS10.out).at 6 rfl 1 (v := .int .i64 a.b.y.toInt) rfl
  have c6_2 := (HS10.out).at 6 rfl 2 (v := .int .i64 a.b.z.toInt) rfl
  go_wp2_with fail
  refine (Db.out _).mono ?_; rintro e w6 ⟨rfl, hb6⟩
  have hS11 := (HS10.out).keep hb6
  have HS11 := Lib.hid hS11
  clear hS11 HS10
  clear hb6
  clear c4_0 c4_1 c4_2 c4_3 c4_4 c4_5 c4_6 c4_7 c4_8 c6_0 c6_1 c6_2
  have k3_0 := (HS11.out).at 3 rfl 0 (v := .int .i64 ra.x.toInt) rfl
  have k3_1 := (HS11.out).at 3 rfl 1 (v := .int .i64 ra.y.toInt) rfl
  have k3_2 := (HS11.out).at 3 rfl 2 (v := .int .i64 ra.z.toInt) rfl
  have k3_3 := (HS11.out).at 3 rfl 3 (v := .int .i64 0) rfl
  have k3_4 := (HS11.out).at 3 rfl 4 (v := .int .i64 0) rfl
  have k3_5 := (HS11.out).at 3 rfl 5 (v := .int .i64 0) rfl
  have k3_6 := (HS11.out).at 3 rfl 6 (v := .int .i64 0) rfl
  have k3_7 := (HS11.out).at 3 rfl 7 (v := .int .i64 0) rfl
  have k3_8 := (HS11.out).at 3 rfl 8 (v := .int .i64 0) rfl
  have k2_0 := (HS11.out).at 2 rfl 0 (v := .int .i64 0) rfl
  have k2_1 := (HS11.out).at 2 rfl 1 (v := .int .i64 0) rfl
  have k2_2 := (HS11.out).at 2 rfl 2 (v := .int .i64 0) rfl
  have k2_3 := (HS11.out).at 2 rfl 3 (v := .int .i64 0) rfl
  have k2_4 := (HS11.out).at 2 rfl 4 (v := .int .i64 0) rfl
  have k2_5 := (HS11.out).at 2 rfl 5 (v := .int .i64 0) rfl
  have k2_6 := (HS11.out).at 2 rfl 6 (v := .int .i64 0) rfl
  have k2_7 := (HS11.out).at 2 rfl 7 (v := .int .i64 0) rfl
  have k2_8 := (HS11.out).at 2 rfl 8 (v := .int .i64 0) rfl
  have f3_0 := (HS11.out).free 3 rfl 0 rfl
  have f3_1 := (HS11.out).free 3 rfl 1 rfl
  have f3_2 := (HS11.out).free 3 rfl 2 rfl
  have f3_3 := (HS11.out).free 3 rfl 3 rfl
  have f3_4 := (HS11.out).free 3 rfl 4 rfl
  have f3_5 := (HS11.out).free 3 rfl 5 rfl
  have f3_6 := (HS11.out).free 3 rfl 6 rfl
  have f3_7 := (HS11.out).free 3 rfl 7 rfl
  have f3_8 := (HS11.out).free 3 rfl 8 rfl
  have f2_0 := (HS11.out).free 2 rfl 0 rfl
  have f2_1 := (HS11.out).free 2 rfl 1 rfl
  have f2_2 := (HS11.out).free 2 rfl 2 rfl
  have f2_3 := (HS11.out).free 2 rfl 3 rfl
  have f2_4 := (HS11.out).free 2 rfl 4 rfl
  have f2_5 := (HS11.out).free 2 rfl 5 rfl
  have f2_6 := (HS11.out).free 2 rfl 6 rfl
  have f2_7 := (HS11.out).free 2 rfl 7 rfl
  have f2_8 := (HS11.out).free 2 rfl 8 rfl
  have hS12 := (((HS11.out).put 3 rfl 3 (.int .i64 rb.x.toInt)).put 3 rfl 4 (.int .i64 rb.y.toInt)).put 3 rfl 5 (.int .i64 rb.z.toInt)
  have HS12 := Lib.hid hS12
  clear hS12 HS11
  go_wp2_with fail
  rw [rounds_succ]
  go_upto_region 6 with fail
  have hS13 := (HS12.out).more [.int .i64 a.c.x.toInt, .int .i64 a.c.y.toInt, .int .i64 a.c.z.toInt] 23
  simp only [World.size_setCell] at hS13
  have HS13 := Lib.hid hS13
  clear hS13 HS12
  obtain ⟨w7, hX, hS⟩ := (HS13.out).named
  rw [← hX]
  clear hX HS13 k3_0 k3_1 k3_2 k3_3 k3_4 k3_5 k3_6 k3_7 k3_8 k2_0 k2_1 k2_2 k2_3 k2_4 k2_5 k2_6 k2_7 k2_8 f3_0 f3_1 f3_2 f3_3 f3_4 f3_5 f3_6 f3_7 f3_8 f2_0 f2_1 f2_2 f2_3 f2_4 f2_5 f2_6 f2_7 f2_8
  have HS14 := Lib.hid hS
  clear hS
  have c4_0 := (HS14.out).at 4 rfl 0 (v := .int .i64 t.a.x.toInt) rfl
  have c4_1 := (HS14.out).at 4 rfl 1 (v := .int .i64 t.a.y.toInt) rfl
  have c4_2 := (HS14.out).at 4 rfl 2 (v := .int .i64 t.a.z.toInt) rfl
  have c4_3 := (HS14.out).at 4 rfl 3 (v := .int .i64 t.b.x.toInt) rfl
  have c4_4 := (HS14.out).at 4 rfl 4 (v := .int .i64 t.b.y.toInt) rfl
  have c4_5 := (HS14.out).at 4 rfl 5 (v := .int .i64 t.b.z.toInt) rfl
  have c4_6 := (HS14.out).at 4 rfl 6 (v := .int .i64 t.c.x.toInt) rfl
  have c4_7 := (HS14.out).at 4 rfl 7 (v := .int .i64 t.c.y.toInt) rfl
  have c4_8 := (HS14.out).at 4 rfl 8 (v := .int .i64 t.c.z.toInt) rfl
  have c7_0 := (HS14.out).at 7 rfl 0 (v := .int .i64 a.c.x.toInt) rfl
  have c7_1 := (HS14.out).at 7 rfl 1 (v := .int .i64 a.c.y.toInt) rfl
  have c7_2 := (HS14.out).at 7 rfl 2 (v := .int .i64 a.c.z.toInt) rfl
  go_wp2_with fail
  refine (Dc.out _).mono ?_; rintro e w8 ⟨rfl, hb8⟩
  have hS15 := (HS14.out).keep hb8
  have HS15 := Lib.hid hS15
  clear hS15 HS14
  clear hb8
  clear c4_0 c4_1 c4_2 c4_3 c4_4 c4_5 c4_6 c4_7 c4_8 c7_0 c7_1 c7_2
  have k3_0 := (HS15.out).at 3 rfl 0 (v := .int .i64 ra.x.toInt) rfl
  have k3_1 := (HS15.out).at 3 rfl 1 (v := .int .i64 ra.y.toInt) rfl
  have k3_2 := (HS15.out).at 3 rfl 2 (v := .int .i64 ra.z.toInt) rfl
  have k3_3 := (HS15.out).at 3 rfl 3 (v := .int .i64 rb.x.toInt) rfl
  have k3_4 := (HS15.out).at 3 rfl 4 (v := .int .i64 rb.y.toInt) rfl
  have k3_5 := (HS15.out).at 3 rfl 5 (v := .int .i64 rb.z.toInt) rfl
  have k3_6 := (HS15.out).at 3 rfl 6 (v := .int .i64 0) rfl
  have k3_7 := (HS15.out).at 3 rfl 7 (v := .int .i64 0) rfl
  have k3_8 := (HS15.out).at 3 rfl 8 (v := .int .i64 0) rfl
  have k2_0 := (HS15.out).at 2 rfl 0 (v := .int .i64 0) rfl
  have k2_1 := (HS15.out).at 2 rfl 1 (v := .int .i64 0) rfl
  have k2_2 := (HS15.out).at 2 rfl 2 (v := .int .i64 0) rfl
  have k2_3 := (HS15.out).at 2 rfl 3 (v := .int .i64 0) rfl
  have k2_4 := (HS15.out).at 2 rfl 4 (v := .int .i64 0) rfl
  have k2_5 := (HS15.out).at 2 rfl 5 (v := .int .i64 0) rfl
  have k2_6 := (HS15.out).at 2 rfl 6 (v := .int .i64 0) rfl
  have k2_7 := (HS15.out).at 2 rfl 7 (v := .int .i64 0) rfl
  have k2_8 := (HS15.out).at 2 rfl 8 (v := .int .i64 0) rfl
  have f3_0 := (HS15.out).free 3 rfl 0 rfl
  have f3_1 := (HS15.out).free 3 rfl 1 rfl
  have f3_2 := (HS15.out).free 3 rfl 2 rfl
  have f3_3 := (HS15.out).free 3 rfl 3 rfl
  have f3_4 := (HS15.out).free 3 rfl 4 rfl
  have f3_5 := (HS15.out).free 3 rfl 5 rfl
  have f3_6 := (HS15.out).free 3 rfl 6 rfl
  have f3_7 := (HS15.out).free 3 rfl 7 rfl
  have f3_8 := (HS15.out).free 3 rfl 8 rfl
  have f2_0 := (HS15.out).free 2 rfl 0 rfl
  have f2_1 := (HS15.out).free 2 rfl 1 rfl
  have f2_2 := (HS15.out).free 2 rfl 2 rfl
  have f2_3 := (HS15.out).free 2 rfl 3 rfl
  have f2_4 := (HS15.out).free 2 rfl 4 rfl
  have f2_5 := (HS15.out).free 2 rfl 5 rfl
  have f2_6 := (HS15.out).free 2 rfl 6 rfl
  have f2_7 := (HS15.out).free 2 rfl 7 rfl
  have f2_8 := (HS15.out).free 2 rfl 8 rfl
  have hS16 := (((HS15.out).put 3 rfl 6 (.int .i64 rc.x.toInt)).put 3 rfl 7 (.int .i64 rc.y.toInt)).put 3 rfl 8 (.int .i64 rc.z.toInt)
  have HS16 := Lib.hid hS16
  clear hS16 HS15
  go_wp2_with fail
  rw [rounds_succ]
  have BH := Lib.hid HS16.out.below
  clear HS16
  go_wp2_with fail
  refine bodyPost_ret (v := mv ⟨ra, rb, rc⟩) (by simp [results, Try.results11, go_sem, *]) rfl ⟨rfl, ?_⟩
  iterate 9 refine Below.setCell (p := ⟨w.heap.size + 1 + 1, _, none⟩) ?_ (show w.heap.size ≤ w.heap.size + 1 + 1 by omega) _
  exact BH.out
/-- The operations of a drawn region, as the translation has them. -/
def oadj : Array Oper := #[
  { dst := some 3, op := .indexAddr 25 (.tmp 1) (.const (.int .i64 1)), type := 0, pos := "mat.go:49", after := #[], guard := none },
  { dst := some 4, op := .load 23 (.tmp 3), type := 23, pos := "mat.go:49", after := #[{ on := 0, ground := .data }], guard := none },
  { dst := some 5, op := .indexAddr 25 (.tmp 1) (.const (.int .i64 2)), type := 0, pos := "mat.go:49", after := #[], guard := none },
  { dst := some 6, op := .load 23 (.tmp 5), type := 23, pos := "mat.go:49", after := #[{ on := 2, ground := .data }], guard := none },
  { dst := some 7, op := .call { callee := .value (.func 39), args := #[.tmp 4, .tmp 6], argTypes := #[23, 23] }, type := 23, pos := "mat.go:50", after := #[{ on := 1, ground := .data }, { on := 3, ground := .data }], guard := none },
  { dst := some 8, op := .indexAddr 25 (.tmp 1) (.const (.int .i64 2)), type := 0, pos := "mat.go:49", after := #[], guard := none },
  { dst := some 9, op := .load 23 (.tmp 8), type := 23, pos := "mat.go:49", after := #[{ on := 5, ground := .data }], guard := none },
  { dst := some 10, op := .indexAddr 25 (.tmp 1) (.const (.int .i64 0)), type := 0, pos := "mat.go:49", after := #[], guard := none },
  { dst := some 11, op := .load 23 (.tmp 10), type := 23, pos := "mat.go:49", after := #[{ on := 7, ground := .data }], guard := none },
  { dst := some 12, op := .call { callee := .value (.func 39), args := #[.tmp 9, .tmp 11], argTypes := #[23, 23] }, type := 23, pos := "mat.go:51", after := #[{ on := 6, ground := .data }, { on := 8, ground := .data }, { on := 4, ground := .chain }], guard := none },
  { dst := some 13, op := .indexAddr 25 (.tmp 1) (.const (.int .i64 0)), type := 0, pos := "mat.go:49", after := #[], guard := none },
  { dst := some 14, op := .load 23 (.tmp 13), type := 23, pos := "mat.go:49", after := #[{ on := 10, ground := .data }], guard := none },
  { dst := some 15, op := .indexAddr 25 (.tmp 1) (.const (.int .i64 1)), type := 0, pos := "mat.go:49", after := #[], guard := none },
  { dst := some 16, op := .load 23 (.tmp 15), type := 23, pos := "mat.go:49", after := #[{ on := 12, ground := .data }], guard := none },
  { dst := some 17, op := .call { callee := .value (.func 39), args := #[.tmp 14, .tmp 16], argTypes := #[23, 23] }, type := 23, pos := "mat.go:52", after := #[{ on := 11, ground := .data }, { on := 13, ground := .data }, { on := 9, ground := .chain }], guard := none },
  { dst := some 18, op := .build 25 #[(0, .tmp 7), (1, .tmp 12), (2, .tmp 17)], type := 25, pos := "mat.go:49", after := #[{ on := 4, ground := .data }, { on := 9, ground := .data }, { on := 14, ground := .data }], guard := none },
  { dst := some 19, op := .call { callee := .value (.func 28), args := #[.tmp 18], argTypes := #[25] }, type := 25, pos := "mat.go:49", after := #[{ on := 15, ground := .data }, { on := 14, ground := .chain }], guard := none },
  { dst := none, op := .store 25 (.tmp 2) (.tmp 19), type := 0, pos := "mat.go:49", after := #[{ on := 16, ground := .data }, { on := 16, ground := .chain }, { on := 0, ground := .phase }, { on := 1, ground := .phase }, { on := 2, ground := .phase }, { on := 3, ground := .phase }, { on := 4, ground := .phase }, { on := 5, ground := .phase }, { on := 6, ground := .phase }, { on := 7, ground := .phase }, { on := 8, ground := .phase }, { on := 9, ground := .phase }, { on := 10, ground := .phase }, { on := 11, ground := .phase }, { on := 12, ground := .phase }, { on := 13, ground := .phase }, { on := 14, ground := .phase }, { on := 15, ground := .phase }, { on := 16, ground := .phase }], guard := none }]
theorem oadj_plain : Region.noSelect oadj = true := by kernel_rfl

set_option maxHeartbeats 8000000 in
set_option maxRecDepth 100000 in
theorem Adj_any (m : M3) (w : World) :
    Calls Try.prog 12 #[mv m] w fun e w' => e = .returned (mv m.adj) ∧ Below w.heap.size w w' := by
  have Ca := Lib.hid fun w => Own7.Cross_any m.b m.c w
  have Cb := Lib.hid fun w => Own7.Cross_any m.c m.a w
  have Cc := Lib.hid fun w => Own7.Cross_any m.a m.b w
  have T := Lib.hid fun w => Turn_any ⟨m.b.cross m.c, m.c.cross m.a, m.a.cross m.b⟩ w
  have hS1 := ((Sp.none w).more [.int .i64 m.a.x.toInt, .int .i64 m.a.y.toInt, .int .i64 m.a.z.toInt, .int .i64 m.b.x.toInt, .int .i64 m.b.y.toInt, .int .i64 m.b.z.toInt, .int .i64 m.c.x.toInt, .int .i64 m.c.y.toInt, .int .i64 m.c.z.toInt] 25).more [.int .i64 0, .int .i64 0, .int .i64 0, .int .i64 0, .int .i64 0, .int .i64 0, .int .i64 0, .int .i64 0, .int .i64 0] 25
  simp only [heap1] at hS1
  have HS1 := Lib.hid hS1
  clear hS1
  unfold M3.adj
  generalize m.b.cross m.c = ca at *; generalize m.c.cross m.a = cb at *; generalize m.a.cross m.b = cc at *
  generalize (M3.turn ⟨ca, cb, cc⟩) = r at *
  go_enter Try.func12, Try.ntmps12
  go_upto_region 1 with fail
  have hS2 := (HS1.out).forget 1 rfl 0
  have HS2 := Lib.hid hS2
  clear hS2 HS1
  have hS3 := (HS2.out).forget 1 rfl 1
  have HS3 := Lib.hid hS3
  clear hS3 HS2
  have hS4 := (HS3.out).forget 1 rfl 2
  have HS4 := Lib.hid hS4
  clear hS4 HS3
  have hS5 := (HS4.out).forget 1 rfl 3
  have HS5 := Lib.hid hS5
  clear hS5 HS4
  have hS6 := (HS5.out).forget 1 rfl 4
  have HS6 := Lib.hid hS6
  clear hS6 HS5
  have hS7 := (HS6.out).forget 1 rfl 5
  have HS7 := Lib.hid hS7
  clear hS7 HS6
  have hS8 := (HS7.out).forget 1 rfl 6
  have HS8 := Lib.hid hS8
  clear hS8 HS7
  have hS9 := (HS8.out).forget 1 rfl 7
  have HS9 := Lib.hid hS9
  clear hS9 HS8
  have hS10 := (HS9.out).forget 1 rfl 8
  have HS10 := Lib.hid hS10
  clear hS10 HS9
  obtain ⟨bs1, hbs⟩ : ∃ bs : List (Nat × List (Option Value)), bs = [(w.heap.size, [some (.int .i64 m.a.x.toInt), some (.int .i64 m.a.y.toInt), some (.int .i64 m.a.z.toInt), some (.int .i64 m.b.x.toInt), some (.int .i64 m.b.y.toInt), some (.int .i64 m.b.z.toInt), some (.int .i64 m.c.x.toInt), some (.int .i64 m.c.y.toInt), some (.int .i64 m.c.z.toInt)]), (w.heap.size + 1, [none, none, none, none, none, none, none, none, none])] := ⟨_, rfl⟩
  have hT := (HS10.out).cast hbs
  have c0_0 : ∀ w', Sp w bs1 w' → w'.cell? ⟨w.heap.size, 0, none⟩ = some (.int .i64 m.a.x.toInt) := by rw [hbs]; exact fun w' h => h.at 0 rfl 0 rfl
  have c0_1 : ∀ w', Sp w bs1 w' → w'.cell? ⟨w.heap.size, 1, none⟩ = some (.int .i64 m.a.y.toInt) := by rw [hbs]; exact fun w' h => h.at 0 rfl 1 rfl
  have c0_2 : ∀ w', Sp w bs1 w' → w'.cell? ⟨w.heap.size, 2, none⟩ = some (.int .i64 m.a.z.toInt) := by rw [hbs]; exact fun w' h => h.at 0 rfl 2 rfl
  have c0_3 : ∀ w', Sp w bs1 w' → w'.cell? ⟨w.heap.size, 3, none⟩ = some (.int .i64 m.b.x.toInt) := by rw [hbs]; exact fun w' h => h.at 0 rfl 3 rfl
  have c0_4 : ∀ w', Sp w bs1 w' → w'.cell? ⟨w.heap.size, 4, none⟩ = some (.int .i64 m.b.y.toInt) := by rw [hbs]; exact fun w' h => h.at 0 rfl 4 rfl
  have c0_5 : ∀ w', Sp w bs1 w' → w'.cell? ⟨w.heap.size, 5, none⟩ = some (.int .i64 m.b.z.toInt) := by rw [hbs]; exact fun w' h => h.at 0 rfl 5 rfl
  have c0_6 : ∀ w', Sp w bs1 w' → w'.cell? ⟨w.heap.size, 6, none⟩ = some (.int .i64 m.c.x.toInt) := by rw [hbs]; exact fun w' h => h.at 0 rfl 6 rfl
  have c0_7 : ∀ w', Sp w bs1 w' → w'.cell? ⟨w.heap.size, 7, none⟩ = some (.int .i64 m.c.y.toInt) := by rw [hbs]; exact fun w' h => h.at 0 rfl 7 rfl
  have c0_8 : ∀ w', Sp w bs1 w' → w'.cell? ⟨w.heap.size, 8, none⟩ = some (.int .i64 m.c.z.toInt) := by rw [hbs]; exact fun w' h => h.at 0 rfl 8 rfl
  have o1_0 : ∀ w', Sp w bs1 w' → ∃ z, w'.cell? ⟨w.heap.size + 1, 0, none⟩ = some z ∧ w'.frozen? ⟨w.heap.size + 1, 0, none⟩ = false := by rw [hbs]; exact fun w' h => h.there 1 rfl 0 rfl
  have s1_0 : ∀ w' z, Sp w bs1 w' → Sp w bs1 (w'.setCell ⟨w.heap.size + 1, 0, none⟩ z) := by rw [hbs]; exact fun w' z h => h.hit 1 rfl 0 rfl z
  have o1_1 : ∀ w', Sp w bs1 w' → ∃ z, w'.cell? ⟨w.heap.size + 1, 1, none⟩ = some z ∧ w'.frozen? ⟨w.heap.size + 1, 1, none⟩ = false := by rw [hbs]; exact fun w' h => h.there 1 rfl 1 rfl
  have s1_1 : ∀ w' z, Sp w bs1 w' → Sp w bs1 (w'.setCell ⟨w.heap.size + 1, 1, none⟩ z) := by rw [hbs]; exact fun w' z h => h.hit 1 rfl 1 rfl z
  have o1_2 : ∀ w', Sp w bs1 w' → ∃ z, w'.cell? ⟨w.heap.size + 1, 2, none⟩ = some z ∧ w'.frozen? ⟨w.heap.size + 1, 2, none⟩ = false := by rw [hbs]; exact fun w' h => h.there 1 rfl 2 rfl
  have s1_2 : ∀ w' z, Sp w bs1 w' → Sp w bs1 (w'.setCell ⟨w.heap.size + 1, 2, none⟩ z) := by rw [hbs]; exact fun w' z h => h.hit 1 rfl 2 rfl z
  have o1_3 : ∀ w', Sp w bs1 w' → ∃ z, w'.cell? ⟨w.heap.size + 1, 3, none⟩ = some z ∧ w'.frozen? ⟨w.heap.size + 1, 3, none⟩ = false := by rw [hbs]; exact fun w' h => h.there 1 rfl 3 rfl
  have s1_3 : ∀ w' z, Sp w bs1 w' → Sp w bs1 (w'.setCell ⟨w.heap.size + 1, 3, none⟩ z) := by rw [hbs]; exact fun w' z h => h.hit 1 rfl 3 rfl z
  have o1_4 : ∀ w', Sp w bs1 w' → ∃ z, w'.cell? ⟨w.heap.size + 1, 4, none⟩ = some z ∧ w'.frozen? ⟨w.heap.size + 1, 4, none⟩ = false := by rw [hbs]; exact fun w' h => h.there 1 rfl 4 rfl
  have s1_4 : ∀ w' z, Sp w bs1 w' → Sp w bs1 (w'.setCell ⟨w.heap.size + 1, 4, none⟩ z) := by rw [hbs]; exact fun w' z h => h.hit 1 rfl 4 rfl z
  have o1_5 : ∀ w', Sp w bs1 w' → ∃ z, w'.cell? ⟨w.heap.size + 1, 5, none⟩ = some z ∧ w'.frozen? ⟨w.heap.size + 1, 5, none⟩ = false := by rw [hbs]; exact fun w' h => h.there 1 rfl 5 rfl
  have s1_5 : ∀ w' z, Sp w bs1 w' → Sp w bs1 (w'.setCell ⟨w.heap.size + 1, 5, none⟩ z) := by rw [hbs]; exact fun w' z h => h.hit 1 rfl 5 rfl z
  have o1_6 : ∀ w', Sp w bs1 w' → ∃ z, w'.cell? ⟨w.heap.size + 1, 6, none⟩ = some z ∧ w'.frozen? ⟨w.heap.size + 1, 6, none⟩ = false := by rw [hbs]; exact fun w' h => h.there 1 rfl 6 rfl
  have s1_6 : ∀ w' z, Sp w bs1 w' → Sp w bs1 (w'.setCell ⟨w.heap.size + 1, 6, none⟩ z) := by rw [hbs]; exact fun w' z h => h.hit 1 rfl 6 rfl z
  have o1_7 : ∀ w', Sp w bs1 w' → ∃ z, w'.cell? ⟨w.heap.size + 1, 7, none⟩ = some z ∧ w'.frozen? ⟨w.heap.size + 1, 7, none⟩ = false := by rw [hbs]; exact fun w' h => h.there 1 rfl 7 rfl
  have s1_7 : ∀ w' z, Sp w bs1 w' → Sp w bs1 (w'.setCell ⟨w.heap.size + 1, 7, none⟩ z) := by rw [hbs]; exact fun w' z h => h.hit 1 rfl 7 rfl z
  have o1_8 : ∀ w', Sp w bs1 w' → ∃ z, w'.cell? ⟨w.heap.size + 1, 8, none⟩ = some z ∧ w'.frozen? ⟨w.heap.size + 1, 8, none⟩ = false := by rw [hbs]; exact fun w' h => h.there 1 rfl 8 rfl
  have s1_8 : ∀ w' z, Sp w bs1 w' → Sp w bs1 (w'.setCell ⟨w.heap.size + 1, 8, none⟩ z) := by rw [hbs]; exact fun w' z h => h.hit 1 rfl 8 rfl z
  have nx : ∀ w', Sp w bs1 w' → Sp w [(w.heap.size, [some (.int .i64 m.a.x.toInt), some (.int .i64 m.a.y.toInt), some (.int .i64 m.a.z.toInt), some (.int .i64 m.b.x.toInt), some (.int .i64 m.b.y.toInt), some (.int .i64 m.b.z.toInt), some (.int .i64 m.c.x.toInt), some (.int .i64 m.c.y.toInt), some (.int .i64 m.c.z.toInt)]), (w.heap.size + 1, [some (.int .i64 r.a.x.toInt), some (.int .i64 r.a.y.toInt), some (.int .i64 r.a.z.toInt), some (.int .i64 r.b.x.toInt), some (.int .i64 r.b.y.toInt), some (.int .i64 r.b.z.toInt), some (.int .i64 r.c.x.toInt), some (.int .i64 r.c.y.toInt), some (.int .i64 r.c.z.toInt)])] (((((((((w'.setCell ⟨w.heap.size + 1, 0, none⟩ (.int .i64 r.a.x.toInt)).setCell ⟨w.heap.size + 1, 1, none⟩ (.int .i64 r.a.y.toInt)).setCell ⟨w.heap.size + 1, 2, none⟩ (.int .i64 r.a.z.toInt)).setCell ⟨w.heap.size + 1, 3, none⟩ (.int .i64 r.b.x.toInt)).setCell ⟨w.heap.size + 1, 4, none⟩ (.int .i64 r.b.y.toInt)).setCell ⟨w.heap.size + 1, 5, none⟩ (.int .i64 r.b.z.toInt)).setCell ⟨w.heap.size + 1, 6, none⟩ (.int .i64 r.c.x.toInt)).setCell ⟨w.heap.size + 1, 7, none⟩ (.int .i64 r.c.y.toInt)).setCell ⟨w.heap.size + 1, 8, none⟩ (.int .i64 r.c.z.toInt)) := by rw [hbs]; exact fun w' h => (((((((((h.put 1 rfl 0 _).put 1 rfl 1 _).put 1 rfl 2 _).put 1 rfl 3 _).put 1 rfl 4 _).put 1 rfl 5 _).put 1 rfl 6 _).put 1 rfl 7 _).put 1 rfl 8 _)
  have kS : ∀ w1 w2, Sp w bs1 w1 → Below w1.heap.size w1 w2 → Sp w bs1 w2 := fun _ _ h hb => h.keep hb
  clear hbs HS10
  change (Code.region 1 oadj true).wp Try.prog _ _ _
  refine wp_region_noPanic ?_
  refine wp_region_held_drew (S := (Sp w bs1)) (by kernel_rfl) (hT.drew) (fun hHeld => ?_)
  refine wpAnyH_take (i := 0) (oi := ({ dst := some 3, op := .indexAddr 25 (.tmp 1) (.const (.int .i64 1)), type := 0, pos := "mat.go:49", after := #[], guard := none } : Oper)) (v := ?vs1_0) rfl oadj_plain (by as_aux_lemma => kernel_rfl) (by as_aux_lemma => kernel_rfl) (fun _ _ _ h => h) (Or.inl ⟨by rfl, ?ys1_0⟩) (by assumption) ?rs1_0
  case ys1_0 => (intro w hSw; (try dsimp only at hSw); go_simp; try with_reducible rfl)
  try simp only [Act.put, List.setIfInBounds_toArray, List.set_cons_zero, List.set_cons_succ]
  refine wpAnyH_take (i := 1) (oi := ({ dst := some 4, op := .load 23 (.tmp 3), type := 23, pos := "mat.go:49", after := #[{ on := 0, ground := .data }], guard := none } : Oper)) (v := ?vs1_1) rfl oadj_plain (by as_aux_lemma => kernel_rfl) (by as_aux_lemma => kernel_rfl) (fun _ _ _ h => h) (Or.inl ⟨by rfl, ?ys1_1⟩) (by assumption) ?rs1_1
  case ys1_1 => (intro w hSw; (try dsimp only at hSw); go_simp; try with_reducible rfl)
  try simp only [Act.put, List.setIfInBounds_toArray, List.set_cons_zero, List.set_cons_succ]
  refine wpAnyH_take (i := 2) (oi := ({ dst := some 5, op := .indexAddr 25 (.tmp 1) (.const (.int .i64 2)), type := 0, pos := "mat.go:49", after := #[], guard := none } : Oper)) (v := ?vs1_2) rfl oadj_plain (by as_aux_lemma => kernel_rfl) (by as_aux_lemma => kernel_rfl) (fun _ _ _ h => h) (Or.inl ⟨by rfl, ?ys1_2⟩) (by assumption) ?rs1_2
  case ys1_2 => (intro w hSw; (try dsimp only at hSw); go_simp; try with_reducible rfl)
  try simp only [Act.put, List.setIfInBounds_toArray, List.set_cons_zero, List.set_cons_succ]
  refine wpAnyH_take (i := 3) (oi := ({ dst := some 6, op := .load 23 (.tmp 5), type := 23, pos := "mat.go:49", after := #[{ on := 2, ground := .data }], guard := none } : Oper)) (v := ?vs1_3) rfl oadj_plain (by as_aux_lemma => kernel_rfl) (by as_aux_lemma => kernel_rfl) (fun _ _ _ h => h) (Or.inl ⟨by rfl, ?ys1_3⟩) (by assumption) ?rs1_3
  case ys1_3 => (intro w hSw; (try dsimp only at hSw); go_simp; try with_reducible rfl)
  try simp only [Act.put, List.setIfInBounds_toArray, List.set_cons_zero, List.set_cons_succ]
  refine wpAnyH_take (i := 5) (oi := ({ dst := some 8, op := .indexAddr 25 (.tmp 1) (.const (.int .i64 2)), type := 0, pos := "mat.go:49", after := #[], guard := none } : Oper)) (v := ?vs1_5) rfl oadj_plain (by as_aux_lemma => kernel_rfl) (by as_aux_lemma => kernel_rfl) (fun _ _ _ h => h) (Or.inl ⟨by rfl, ?ys1_5⟩) (by assumption) ?rs1_5
  case ys1_5 => (intro w hSw; (try dsimp only at hSw); go_simp; try with_reducible rfl)
  try simp only [Act.put, List.setIfInBounds_toArray, List.set_cons_zero, List.set_cons_succ]
  refine wpAnyH_take (i := 6) (oi := ({ dst := some 9, op := .load 23 (.tmp 8), type := 23, pos := "mat.go:49", after := #[{ on := 5, ground := .data }], guard := none } : Oper)) (v := ?vs1_6) rfl oadj_plain (by as_aux_lemma => kernel_rfl) (by as_aux_lemma => kernel_rfl) (fun _ _ _ h => h) (Or.inl ⟨by rfl, ?ys1_6⟩) (by assumption) ?rs1_6
  case ys1_6 => (intro w hSw; (try dsimp only at hSw); go_simp; try with_reducible rfl)
  try simp only [Act.put, List.setIfInBounds_toArray, List.set_cons_zero, List.set_cons_succ]
  refine wpAnyH_take (i := 7) (oi := ({ dst := some 10, op := .indexAddr 25 (.tmp 1) (.const (.int .i64 0)), type := 0, pos := "mat.go:49", after := #[], guard := none } : Oper)) (v := ?vs1_7) rfl oadj_plain (by as_aux_lemma => kernel_rfl) (by as_aux_lemma => kernel_rfl) (fun _ _ _ h => h) (Or.inl ⟨by rfl, ?ys1_7⟩) (by assumption) ?rs1_7
  case ys1_7 => (intro w hSw; (try dsimp only at hSw); go_simp; try with_reducible rfl)
  try simp only [Act.put, List.setIfInBounds_toArray, List.set_cons_zero, List.set_cons_succ]
  refine wpAnyH_take (i := 8) (oi := ({ dst := some 11, op := .load 23 (.tmp 10), type := 23, pos := "mat.go:49", after := #[{ on := 7, ground := .data }], guard := none } : Oper)) (v := ?vs1_8) rfl oadj_plain (by as_aux_lemma => kernel_rfl) (by as_aux_lemma => kernel_rfl) (fun _ _ _ h => h) (Or.inl ⟨by rfl, ?ys1_8⟩) (by assumption) ?rs1_8
  case ys1_8 => (intro w hSw; (try dsimp only at hSw); go_simp; try with_reducible rfl)
  try simp only [Act.put, List.setIfInBounds_toArray, List.set_cons_zero, List.set_cons_succ]
  refine wpAnyH_take (i := 10) (oi := ({ dst := some 13, op := .indexAddr 25 (.tmp 1) (.const (.int .i64 0)), type := 0, pos := "mat.go:49", after := #[], guard := none } : Oper)) (v := ?vs1_10) rfl oadj_plain (by as_aux_lemma => kernel_rfl) (by as_aux_lemma => kernel_rfl) (fun _ _ _ h => h) (Or.inl ⟨by rfl, ?ys1_10⟩) (by assumption) ?rs1_10
  case ys1_10 => (intro w hSw; (try dsimp only at hSw); go_simp; try with_reducible rfl)
  try simp only [Act.put, List.setIfInBounds_toArray, List.set_cons_zero, List.set_cons_succ]
  refine wpAnyH_take (i := 11) (oi := ({ dst := some 14, op := .load 23 (.tmp 13), type := 23, pos := "mat.go:49", after := #[{ on := 10, ground := .data }], guard := none } : Oper)) (v := ?vs1_11) rfl oadj_plain (by as_aux_lemma => kernel_rfl) (by as_aux_lemma => kernel_rfl) (fun _ _ _ h => h) (Or.inl ⟨by rfl, ?ys1_11⟩) (by assumption) ?rs1_11
  case ys1_11 => (intro w hSw; (try dsimp only at hSw); go_simp; try with_reducible rfl)
  try simp only [Act.put, List.setIfInBounds_toArray, List.set_cons_zero, List.set_cons_succ]
  refine wpAnyH_take (i := 12) (oi := ({ dst := some 15, op := .indexAddr 25 (.tmp 1) (.const (.int .i64 1)), type := 0, pos := "mat.go:49", after := #[], guard := none } : Oper)) (v := ?vs1_12) rfl oadj_plain (by as_aux_lemma => kernel_rfl) (by as_aux_lemma => kernel_rfl) (fun _ _ _ h => h) (Or.inl ⟨by rfl, ?ys1_12⟩) (by assumption) ?rs1_12
  case ys1_12 => (intro w hSw; (try dsimp only at hSw); go_simp; try with_reducible rfl)
  try simp only [Act.put, List.setIfInBounds_toArray, List.set_cons_zero, List.set_cons_succ]
  refine wpAnyH_take (i := 13) (oi := ({ dst := some 16, op := .load 23 (.tmp 15), type := 23, pos := "mat.go:49", after := #[{ on := 12, ground := .data }], guard := none } : Oper)) (v := ?vs1_13) rfl oadj_plain (by as_aux_lemma => kernel_rfl) (by as_aux_lemma => kernel_rfl) (fun _ _ _ h => h) (Or.inl ⟨by rfl, ?ys1_13⟩) (by assumption) ?rs1_13
  case ys1_13 => (intro w hSw; (try dsimp only at hSw); go_simp; try with_reducible rfl)
  try simp only [Act.put, List.setIfInBounds_toArray, List.set_cons_zero, List.set_cons_succ]
  refine wpAnyH_ready (rs := [4]) (by as_aux_lemma => kernel_rfl) (by simp) ?_
  refine AllReadyH.cons (o := ({ dst := some 7, op := .call { callee := .value (.func 39), args := #[.tmp 4, .tmp 6], argTypes := #[23, 23] }, type := 23, pos := "mat.go:50", after := #[{ on := 1, ground := .data }, { on := 3, ground := .data }], guard := none } : Oper)) rfl (fun KK hK => ?_) AllReadyH.nil
  rw [if_pos (by rfl)]
  go_simp
  go_at_call 39; refine (Ca.out _).mono ?_; rintro e w1 ⟨rfl, hb1⟩
  go_wp2_with fail
  refine hK.out _ _ ?_ (fun hHeld1 => ?_)
  · exact kS _ _ (by assumption) hb1
  clear hK KK hb1
  try simp only [Act.put, List.setIfInBounds_toArray, List.set_cons_zero, List.set_cons_succ]
  refine wpAnyH_ready (rs := [9]) (by as_aux_lemma => kernel_rfl) (by simp) ?_
  refine AllReadyH.cons (o := ({ dst := some 12, op := .call { callee := .value (.func 39), args := #[.tmp 9, .tmp 11], argTypes := #[23, 23] }, type := 23, pos := "mat.go:51", after := #[{ on := 6, ground := .data }, { on := 8, ground := .data }, { on := 4, ground := .chain }], guard := none } : Oper)) rfl (fun KK hK => ?_) AllReadyH.nil
  rw [if_pos (by rfl)]
  go_simp
  go_at_call 39; refine (Cb.out _).mono ?_; rintro e w2 ⟨rfl, hb2⟩
  go_wp2_with fail
  refine hK.out _ _ ?_ (fun hHeld2 => ?_)
  · exact kS _ _ (by assumption) hb2
  clear hK KK hb2 hHeld1
  try simp only [Act.put, List.setIfInBounds_toArray, List.set_cons_zero, List.set_cons_succ]
  refine wpAnyH_ready (rs := [14]) (by as_aux_lemma => kernel_rfl) (by simp) ?_
  refine AllReadyH.cons (o := ({ dst := some 17, op := .call { callee := .value (.func 39), args := #[.tmp 14, .tmp 16], argTypes := #[23, 23] }, type := 23, pos := "mat.go:52", after := #[{ on := 11, ground := .data }, { on := 13, ground := .data }, { on := 9, ground := .chain }], guard := none } : Oper)) rfl (fun KK hK => ?_) AllReadyH.nil
  rw [if_pos (by rfl)]
  go_simp
  go_at_call 39; refine (Cc.out _).mono ?_; rintro e w3 ⟨rfl, hb3⟩
  go_wp2_with fail
  refine hK.out _ _ ?_ (fun hHeld3 => ?_)
  · exact kS _ _ (by assumption) hb3
  clear hK KK hb3 hHeld2
  try simp only [Act.put, List.setIfInBounds_toArray, List.set_cons_zero, List.set_cons_succ]
  refine wpAnyH_take (i := 15) (oi := ({ dst := some 18, op := .build 25 #[(0, .tmp 7), (1, .tmp 12), (2, .tmp 17)], type := 25, pos := "mat.go:49", after := #[{ on := 4, ground := .data }, { on := 9, ground := .data }, { on := 14, ground := .data }], guard := none } : Oper)) (v := ?vs1_15) rfl oadj_plain (by as_aux_lemma => kernel_rfl) (by as_aux_lemma => kernel_rfl) (fun _ _ _ h => h) (Or.inl ⟨by rfl, ?ys1_15⟩) (by assumption) ?rs1_15
  case ys1_15 => (intro w hSw; (try dsimp only at hSw); go_simp; try with_reducible rfl)
  try simp only [Act.put, List.setIfInBounds_toArray, List.set_cons_zero, List.set_cons_succ]
  refine wpAnyH_ready (rs := [16]) (by as_aux_lemma => kernel_rfl) (by simp) ?_
  refine AllReadyH.cons (o := ({ dst := some 19, op := .call { callee := .value (.func 28), args := #[.tmp 18], argTypes := #[25] }, type := 25, pos := "mat.go:49", after := #[{ on := 15, ground := .data }, { on := 14, ground := .chain }], guard := none } : Oper)) rfl (fun KK hK => ?_) AllReadyH.nil
  rw [if_pos (by rfl)]
  go_simp
  go_at_call 28; refine (T.out _).mono ?_; rintro e w4 ⟨rfl, hb4⟩
  go_wp2_with fail
  refine hK.out _ _ ?_ (fun hHeld4 => ?_)
  · exact kS _ _ (by assumption) hb4
  clear hK KK hb4 hHeld3
  try simp only [Act.put, List.setIfInBounds_toArray, List.set_cons_zero, List.set_cons_succ]
  refine wpAnyH_ready (rs := [17]) (by as_aux_lemma => kernel_rfl) (by simp) ?_
  refine AllReadyH.cons (o := ({ dst := none, op := .store 25 (.tmp 2) (.tmp 19), type := 0, pos := "mat.go:49", after := #[{ on := 16, ground := .data }, { on := 16, ground := .chain }, { on := 0, ground := .phase }, { on := 1, ground := .phase }, { on := 2, ground := .phase }, { on := 3, ground := .phase }, { on := 4, ground := .phase }, { on := 5, ground := .phase }, { on := 6, ground := .phase }, { on := 7, ground := .phase }, { on := 8, ground := .phase }, { on := 9, ground := .phase }, { on := 10, ground := .phase }, { on := 11, ground := .phase }, { on := 12, ground := .phase }, { on := 13, ground := .phase }, { on := 14, ground := .phase }, { on := 15, ground := .phase }, { on := 16, ground := .phase }], guard := none } : Oper)) rfl (fun KK hK => ?_) AllReadyH.nil
  rw [if_pos (by rfl)]
  obtain ⟨z1_0, k1_0, f1_0⟩ := o1_0 _ hHeld4
  obtain ⟨z1_1, k1_1, f1_1⟩ := o1_1 _ hHeld4
  obtain ⟨z1_2, k1_2, f1_2⟩ := o1_2 _ hHeld4
  obtain ⟨z1_3, k1_3, f1_3⟩ := o1_3 _ hHeld4
  obtain ⟨z1_4, k1_4, f1_4⟩ := o1_4 _ hHeld4
  obtain ⟨z1_5, k1_5, f1_5⟩ := o1_5 _ hHeld4
  obtain ⟨z1_6, k1_6, f1_6⟩ := o1_6 _ hHeld4
  obtain ⟨z1_7, k1_7, f1_7⟩ := o1_7 _ hHeld4
  obtain ⟨z1_8, k1_8, f1_8⟩ := o1_8 _ hHeld4
  have N1 := nx _ hHeld4
  go_simp
  refine hK.out _ _ ?_ (fun hHeldS0 => ?_)
  · exact (s1_8 _ _ (s1_7 _ _ (s1_6 _ _ (s1_5 _ _ (s1_4 _ _ (s1_3 _ _ (s1_2 _ _ (s1_1 _ _ (s1_0 _ _ hHeld4)))))))))
  clear hK KK
  try simp only [Act.put, List.setIfInBounds_toArray, List.set_cons_zero, List.set_cons_succ]
  refine wpAnyH_done (by as_aux_lemma => kernel_rfl) ?_ _
  refine NoPanic.normal ?_
  have HS11 := Lib.hid N1
  clear c0_0 c0_1 c0_2 c0_3 c0_4 c0_5 c0_6 c0_7 c0_8 o1_0 s1_0 o1_1 s1_1 o1_2 s1_2 o1_3 s1_3 o1_4 s1_4 o1_5 s1_5 o1_6 s1_6 o1_7 s1_7 o1_8 s1_8 nx kS hT N1 k1_0 f1_0 k1_1 f1_1 k1_2 f1_2 k1_3 f1_3 k1_4 f1_4 k1_5 f1_5 k1_6 f1_6 k1_7 f1_7 k1_8 f1_8
  have r1_0 := (HS11.out).at 1 rfl 0 (v := .int .i64 r.a.x.toInt) rfl
  have r1_1 := (HS11.out).at 1 rfl 1 (v := .int .i64 r.a.y.toInt) rfl
  have r1_2 := (HS11.out).at 1 rfl 2 (v := .int .i64 r.a.z.toInt) rfl
  have r1_3 := (HS11.out).at 1 rfl 3 (v := .int .i64 r.b.x.toInt) rfl
  have r1_4 := (HS11.out).at 1 rfl 4 (v := .int .i64 r.b.y.toInt) rfl
  have r1_5 := (HS11.out).at 1 rfl 5 (v := .int .i64 r.b.z.toInt) rfl
  have r1_6 := (HS11.out).at 1 rfl 6 (v := .int .i64 r.c.x.toInt) rfl
  have r1_7 := (HS11.out).at 1 rfl 7 (v := .int .i64 r.c.y.toInt) rfl
  have r1_8 := (HS11.out).at 1 rfl 8 (v := .int .i64 r.c.z.toInt) rfl
  have BH := Lib.hid HS11.out.below
  clear HS11
  go_wp2_with fail
  exact bodyPost_ret (v := mv r) (by simp [results, Try.results12, go_sem, *]) rfl ⟨rfl, BH.out⟩
end Own8
end Go.Proofs.Ytjdpcmcekockgaa
