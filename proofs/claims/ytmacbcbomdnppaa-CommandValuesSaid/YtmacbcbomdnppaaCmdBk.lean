/- What the law's 'back' answers of a right command's own value. -/
import Derived.Test.YtmacbcbomdnppaaCmdLanE
namespace Go.Proofs.Ytmacbcbomdnppaa
open Go.RowKit

namespace Law34
theorem back_ground (b : Bool) (w : World) : Calls Try.prog 14 #[cv ⟨1, b01 b⟩, gV b] w fun e w' => e = .returned (.bool true) ∧ Below w.heap.size w w' := by
  have hr : rightC ⟨1, b01 b⟩ = true := by cases b <;> decide
  have AO := Lib.hid fun w => Lan34.As_ok ⟨1, b01 b⟩ w hr
  have RR := Lib.hid fun w => Lan34.Right_any ⟨1, b01 b⟩ w
  have ev : Lan34.asV ⟨1, b01 b⟩ = gV b := by cases b <;> rfl
  rw [ev] at AO
  rw [hr] at RR
  generalize b01 b = n at *
  simp only [cv, gV] at AO RR ⊢
  have t1 := asG_yes (.agg #[.bool b])
  have B1 := Lib.hid (below1 w (.cells #[.int .i64 1, .int .i64 n] 23))
  have H1 := Lib.hid (hasl w [.int .i64 1, .int .i64 n] 23)
  clear hr ev
  go_enter Try.func14, Try.ntmps14
  go_wp2_with fail
  refine (AO.out _).mono ?_; rintro e w1 ⟨rfl, hb1⟩
  have HB1 := Lib.hid (belowT B1.out hb1)
  have H2 := H1.out.keep hb1
  have q0 := H2.at 0 rfl
  have q1 := H2.at 1 rfl
  clear AO B1 H1 H2 hb1
  go_wp2_with fail
  refine (RR.out _).mono ?_; rintro e w2 ⟨rfl, hb2⟩
  have HB2 := Lib.hid (belowT HB1.out hb2)
  clear RR HB1 hb2 q0 q1
  go_wp2
  go_ret
  exact ⟨rfl, belowT (belowT HB2.out (below1 _ _)) (below1 _ _)⟩

theorem back_reset (w : World) : Calls Try.prog 14 #[cv ⟨2, 0⟩, rV] w fun e w' => e = .returned (.bool true) ∧ Below w.heap.size w w' := by
  have hr : rightC ⟨2, 0⟩ = true := by decide
  have AO := Lib.hid fun w => Lan34.As_ok ⟨2, 0⟩ w hr
  have RR := Lib.hid fun w => Lan34.Right_any ⟨2, 0⟩ w
  have ev : Lan34.asV ⟨2, 0⟩ = rV := rfl
  rw [ev] at AO
  rw [hr] at RR
  simp only [cv, rV] at AO RR ⊢
  have t0 := fun xT w => asG_no 37 (.agg #[]) xT w (by decide)
  have t1 := asR_yes (.agg #[])
  have B1 := Lib.hid (below1 w (.cells #[.int .i64 2, .int .i64 0] 23))
  have H1 := Lib.hid (hasl w [.int .i64 2, .int .i64 0] 23)
  clear hr ev
  go_enter Try.func14, Try.ntmps14
  go_wp2_with fail
  refine (AO.out _).mono ?_; rintro e w1 ⟨rfl, hb1⟩
  have HB1 := Lib.hid (belowT B1.out hb1)
  have H2 := H1.out.keep hb1
  have q0 := H2.at 0 rfl
  have q1 := H2.at 1 rfl
  clear AO B1 H1 H2 hb1
  go_wp2_with fail
  refine (RR.out _).mono ?_; rintro e w2 ⟨rfl, hb2⟩
  have HB2 := Lib.hid (belowT HB1.out hb2)
  clear RR HB1 hb2 q0 q1
  go_wp2
  go_ret
  exact ⟨rfl, belowT (belowT HB2.out (below1 _ _)) (below1 _ _)⟩

theorem back_inhibit (g : Int) (w : World) (h : rightC ⟨3, g⟩ = true) : Calls Try.prog 14 #[cv ⟨3, g⟩, iV g] w fun e w' => e = .returned (.bool true) ∧ Below w.heap.size w w' := by
  have AO := Lib.hid fun w => Lan34.As_ok ⟨3, g⟩ w h
  have RR := Lib.hid fun w => Lan34.Right_any ⟨3, g⟩ w
  have ev : Lan34.asV ⟨3, g⟩ = iV g := rfl
  rw [ev] at AO
  rw [h] at RR
  simp only [cv, iV] at AO RR ⊢
  have t0 := fun xT w => asG_no 39 (.agg #[.int .i64 g]) xT w (by decide)
  have t1 := fun xT w => asR_no 39 (.agg #[.int .i64 g]) xT w (by decide)
  have t2 := asI_yes (.agg #[.int .i64 g])
  have B1 := Lib.hid (below1 w (.cells #[.int .i64 3, .int .i64 g] 23))
  have H1 := Lib.hid (hasl w [.int .i64 3, .int .i64 g] 23)
  clear h ev
  go_enter Try.func14, Try.ntmps14
  go_wp2_with fail
  refine (AO.out _).mono ?_; rintro e w1 ⟨rfl, hb1⟩
  have HB1 := Lib.hid (belowT B1.out hb1)
  have H2 := H1.out.keep hb1
  have q0 := H2.at 0 rfl
  have q1 := H2.at 1 rfl
  clear AO B1 H1 H2 hb1
  go_wp2_with fail
  refine (RR.out _).mono ?_; rintro e w2 ⟨rfl, hb2⟩
  have HB2 := Lib.hid (belowT HB1.out hb2)
  clear RR HB1 hb2 q0 q1
  go_wp2
  go_ret
  exact ⟨rfl, belowT (belowT HB2.out (below1 _ _)) (below1 _ _)⟩

theorem back_admit (g : Int) (w : World) (h : rightC ⟨4, g⟩ = true) : Calls Try.prog 14 #[cv ⟨4, g⟩, aV g] w fun e w' => e = .returned (.bool true) ∧ Below w.heap.size w w' := by
  have AO := Lib.hid fun w => Lan34.As_ok ⟨4, g⟩ w h
  have RR := Lib.hid fun w => Lan34.Right_any ⟨4, g⟩ w
  have ev : Lan34.asV ⟨4, g⟩ = aV g := rfl
  rw [ev] at AO
  rw [h] at RR
  simp only [cv, aV] at AO RR ⊢
  have t0 := fun xT w => asG_no 40 (.agg #[.int .i64 g]) xT w (by decide)
  have t1 := fun xT w => asR_no 40 (.agg #[.int .i64 g]) xT w (by decide)
  have t2 := fun xT w => asI_no 40 (.agg #[.int .i64 g]) xT w (by decide)
  have t3 := asA_yes (.agg #[.int .i64 g])
  have B1 := Lib.hid (below1 w (.cells #[.int .i64 4, .int .i64 g] 23))
  have H1 := Lib.hid (hasl w [.int .i64 4, .int .i64 g] 23)
  clear h ev
  go_enter Try.func14, Try.ntmps14
  go_wp2_with fail
  refine (AO.out _).mono ?_; rintro e w1 ⟨rfl, hb1⟩
  have HB1 := Lib.hid (belowT B1.out hb1)
  have H2 := H1.out.keep hb1
  have q0 := H2.at 0 rfl
  have q1 := H2.at 1 rfl
  clear AO B1 H1 H2 hb1
  go_wp2_with fail
  refine (RR.out _).mono ?_; rintro e w2 ⟨rfl, hb2⟩
  have HB2 := Lib.hid (belowT HB1.out hb2)
  clear RR HB1 hb2 q0 q1
  go_wp2
  go_ret
  exact ⟨rfl, belowT (belowT HB2.out (below1 _ _)) (below1 _ _)⟩
end Law34
end Go.Proofs.Ytmacbcbomdnppaa
