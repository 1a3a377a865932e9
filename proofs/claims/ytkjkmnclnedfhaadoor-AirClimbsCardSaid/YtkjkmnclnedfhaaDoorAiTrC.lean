/- The landed triple's Start. -/
import Derived.Test.YtkjkmnclnedfhaaDoorAiTrA
import Derived.Test.YtkjkmnclnedfhaaDoorTrObs
import Derived.Test.YtkjkmnclnedfhaaDoorSp
import Derived.BigRegion
namespace Go.Proofs.YtkjkmnclnedfhaaDoor
open Go.RowKit Obs

set_option maxHeartbeats 8000000 in
set_option maxRecDepth 100000 in
theorem TStart_core (a : Ai) (o : Ob) (w : World)
    (ST : Hid (∀ w', Below w.heap.size w w' → Calls Tryd.prog 21 #[av a] w' fun e w'' => e = .returned (ov o) ∧ Below w'.heap.size w' w''))
    : Calls Tryd.prog 7 #[av a] w fun e w' => e = .returned (qv ⟨o, o, o, o⟩) ∧ Below w.heap.size w w' := by
  have hS1 := ((Sp.none w).more [.int .i64 a.e0, .int .i64 a.e1, .int .i64 a.e2, .bool a.b0, .bool a.b1, .bool a.b2, .int .i64 a.bias, .int .i64 a.change, .int .i64 a.move, .int .i64 a.most] 25).more [.int .i64 0, .int .i64 0, .int .i64 0, .int .i64 0, .bool false, .int .i64 0, .int .i64 0, .int .i64 0, .int .i64 0, .bool false, .int .i64 0, .int .i64 0, .int .i64 0, .int .i64 0, .bool false, .int .i64 0, .int .i64 0, .int .i64 0, .int .i64 0, .bool false] 35
  simp only [heap1] at hS1
  have HS1 := Lib.hid hS1
  clear hS1
  have HI := Lib.hid (info_qa ⟨o, o, o, o⟩)
  have H1 := Lib.hid (qa_one ⟨o, o, o, o⟩)
  go_enter Tryd.func7, Tryd.ntmps7
  go_upto_region 1 with fail
  obtain ⟨w1, hX, hS⟩ := (HS1.out).named
  rw [← hX]
  clear hX HS1
  have HS2 := Lib.hid hS
  clear hS
  have k0_0 := (HS2.out).at 0 rfl 0 (v := .int .i64 a.e0) rfl
  have k0_1 := (HS2.out).at 0 rfl 1 (v := .int .i64 a.e1) rfl
  have k0_2 := (HS2.out).at 0 rfl 2 (v := .int .i64 a.e2) rfl
  have k0_3 := (HS2.out).at 0 rfl 3 (v := .bool a.b0) rfl
  have k0_4 := (HS2.out).at 0 rfl 4 (v := .bool a.b1) rfl
  have k0_5 := (HS2.out).at 0 rfl 5 (v := .bool a.b2) rfl
  have k0_6 := (HS2.out).at 0 rfl 6 (v := .int .i64 a.bias) rfl
  have k0_7 := (HS2.out).at 0 rfl 7 (v := .int .i64 a.change) rfl
  have k0_8 := (HS2.out).at 0 rfl 8 (v := .int .i64 a.move) rfl
  have k0_9 := (HS2.out).at 0 rfl 9 (v := .int .i64 a.most) rfl
  go_wp2_with fail
  refine (ST.out _ HS2.out.below).mono ?_; rintro e w2 ⟨rfl, hb2⟩
  have hS3 := (HS2.out).keep hb2
  have HS3 := Lib.hid hS3
  clear hS3 HS2
  clear hb2
  clear ST k0_0 k0_1 k0_2 k0_3 k0_4 k0_5 k0_6 k0_7 k0_8 k0_9
  go_upto_region 2 with fail
  have hS4 := (HS3.out).more [.int .i64 o.vL, .int .i64 o.vH, .int .i64 o.bL, .int .i64 o.bH, .bool o.ref] 34
  have HS4 := Lib.hid hS4
  clear hS4 HS3
  obtain ⟨w3, hX, hS⟩ := (HS4.out).named
  rw [← hX]
  clear hX HS4
  have HS5 := Lib.hid hS
  clear hS
  have k2_0 := (HS5.out).at 2 rfl 0 (v := .int .i64 o.vL) rfl
  have k2_1 := (HS5.out).at 2 rfl 1 (v := .int .i64 o.vH) rfl
  have k2_2 := (HS5.out).at 2 rfl 2 (v := .int .i64 o.bL) rfl
  have k2_3 := (HS5.out).at 2 rfl 3 (v := .int .i64 o.bH) rfl
  have k2_4 := (HS5.out).at 2 rfl 4 (v := .bool o.ref) rfl
  have HT := Lib.hid ((HS5.out).free_row 1 rfl (n := 20) rfl)
  have HF := Lib.hid ((HS5.out).row 1 rfl (qc ⟨o, o, o, o⟩) rfl)
  have HR := Lib.hid (HF.out.range 1 (l := qc ⟨o, o, o, o⟩) rfl)
  have HB := Lib.hid HF.out.below
  clear HF HS5
  go_wp2_with (first | (refine wpList_store_mid rfl 35 _ _ rfl (w.heap.size + 1) 0 (qa ⟨o, o, o, o⟩) rfl rfl HT.out HI.out H1.out ?_))
  exact bodyPost_ret (results_row (c := (qa ⟨o, o, o, o⟩)) rfl rfl HR.out Tryd.underlying35 rfl HI.out) rfl ⟨rfl, HB.out⟩

theorem TStart_any (a : Ai) (w : World) (h : RA a) :
    Calls Tryd.prog 7 #[av a] w fun e w' => e = .returned (qv (qstart a)) ∧ Below w.heap.size w w' :=
  TStart_core a (startG a) w (Lib.hid fun w' _ => Start_g a w' h)
end Go.Proofs.YtkjkmnclnedfhaaDoor
