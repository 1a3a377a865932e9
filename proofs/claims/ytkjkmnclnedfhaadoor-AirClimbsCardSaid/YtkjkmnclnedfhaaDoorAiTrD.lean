/- The landed triple's Step. -/
import Derived.Test.YtkjkmnclnedfhaaDoorAiTrA
import Derived.Test.YtkjkmnclnedfhaaDoorTrObs
import Derived.Test.YtkjkmnclnedfhaaDoorSp
import Derived.BigRegion
namespace Go.Proofs.YtkjkmnclnedfhaaDoor
open Go.RowKit Obs

namespace Obs
def qstepF (q : Qd) (s0 s1 s2 s3 : Ob) : Nat → Qd
  | 0 => q
  | 1 => ⟨s0, q.h1, q.h2, q.h3⟩
  | 2 => ⟨s0, s1, q.h2, q.h3⟩
  | 3 => ⟨s0, s1, s2, q.h3⟩
  | _ => ⟨s0, s1, s2, s3⟩
end Obs
/-- The operations of a drawn region, as the translation has them. -/
def tstep4 : Array Oper := #[
  { dst := some 16, op := .move (.tmp 9), type := 3, pos := "triple.go:27", after := #[], guard := none },
  { dst := some 17, op := .load 25 (.tmp 4), type := 25, pos := "triple.go:27", after := #[], guard := none },
  { dst := some 18, op := .load 34 (.tmp 10), type := 34, pos := "triple.go:27", after := #[], guard := none },
  { dst := some 19, op := .move (.tmp 9), type := 3, pos := "triple.go:27", after := #[], guard := none },
  { dst := some 20, op := .call { callee := .value (.func 24), args := #[.tmp 19], argTypes := #[3] }, type := 3, pos := "triple.go:27", after := #[{ on := 3, ground := .data }], guard := none },
  { dst := some 21, op := .load 22 (.tmp 6), type := 22, pos := "triple.go:27", after := #[], guard := none },
  { dst := some 22, op := .load 23 (.tmp 7), type := 23, pos := "triple.go:27", after := #[], guard := none },
  { dst := some 23, op := .call { callee := .value (.func 23), args := #[.tmp 17, .tmp 18, .tmp 20, .tmp 21, .tmp 22], argTypes := #[25, 34, 3, 22, 23] }, type := 34, pos := "triple.go:27", after := #[{ on := 1, ground := .data }, { on := 2, ground := .data }, { on := 4, ground := .data }, { on := 5, ground := .data }, { on := 6, ground := .data }, { on := 4, ground := .chain }], guard := none },
  { dst := some 24, op := .indexAddr 35 (.tmp 5) (.tmp 16), type := 0, pos := "triple.go:27", after := #[{ on := 0, ground := .data }, { on := 0, ground := .phase }, { on := 1, ground := .phase }, { on := 2, ground := .phase }, { on := 3, ground := .phase }, { on := 4, ground := .phase }, { on := 5, ground := .phase }, { on := 6, ground := .phase }, { on := 7, ground := .phase }], guard := none },
  { dst := none, op := .store 34 (.tmp 24) (.tmp 23), type := 0, pos := "triple.go:27", after := #[{ on := 8, ground := .data }, { on := 7, ground := .data }, { on := 7, ground := .chain }, { on := 0, ground := .phase }, { on := 1, ground := .phase }, { on := 2, ground := .phase }, { on := 3, ground := .phase }, { on := 4, ground := .phase }, { on := 5, ground := .phase }, { on := 6, ground := .phase }, { on := 7, ground := .phase }], guard := none }]
theorem tstep4_plain : Region.noSelect tstep4 = true := by kernel_rfl

set_option maxHeartbeats 40000000 in
set_option maxRecDepth 100000 in
theorem TStep_core (a : Ai) (q : Qd) (x0 x1 x2 : Int) (t0 t1 t2 : Bool) (s0 s1 s2 s3 : Ob) (w : World)
    (IX : Hid (∀ j : Nat, j < 4 → ∀ w, (Instr.index 35 (.agg (qa q)) (.int .i64 (j : Int))).run Tryd.prog w = .ok (.agg #[.int .i64 (qget q j).vL, .int .i64 (qget q j).vH, .int .i64 (qget q j).bL, .int .i64 (qget q j).bH, .bool (qget q j).ref]) w))
    (B0 : Hid (∀ w', Calls Tryd.prog 24 #[.int .i64 0] w' fun e w'' => e = .returned (.int .i64 (-1)) ∧ Below w'.heap.size w' w''))
    (S0 : Hid (∀ w', Below w.heap.size w w' → Calls Tryd.prog 23 #[av a, ov q.h0, .int .i64 (-1), .agg #[.int .i64 x0, .int .i64 x1, .int .i64 x2], .agg #[.bool t0, .bool t1, .bool t2]] w' fun e w'' => e = .returned (ov s0) ∧ Below w'.heap.size w' w''))
    (B1 : Hid (∀ w', Calls Tryd.prog 24 #[.int .i64 1] w' fun e w'' => e = .returned (.int .i64 (0)) ∧ Below w'.heap.size w' w''))
    (S1 : Hid (∀ w', Below w.heap.size w w' → Calls Tryd.prog 23 #[av a, ov q.h1, .int .i64 (0), .agg #[.int .i64 x0, .int .i64 x1, .int .i64 x2], .agg #[.bool t0, .bool t1, .bool t2]] w' fun e w'' => e = .returned (ov s1) ∧ Below w'.heap.size w' w''))
    (B2 : Hid (∀ w', Calls Tryd.prog 24 #[.int .i64 2] w' fun e w'' => e = .returned (.int .i64 (1)) ∧ Below w'.heap.size w' w''))
    (S2 : Hid (∀ w', Below w.heap.size w w' → Calls Tryd.prog 23 #[av a, ov q.h2, .int .i64 (1), .agg #[.int .i64 x0, .int .i64 x1, .int .i64 x2], .agg #[.bool t0, .bool t1, .bool t2]] w' fun e w'' => e = .returned (ov s2) ∧ Below w'.heap.size w' w''))
    (B3 : Hid (∀ w', Calls Tryd.prog 24 #[.int .i64 3] w' fun e w'' => e = .returned (.int .i64 (2)) ∧ Below w'.heap.size w' w''))
    (S3 : Hid (∀ w', Below w.heap.size w w' → Calls Tryd.prog 23 #[av a, ov q.h3, .int .i64 (2), .agg #[.int .i64 x0, .int .i64 x1, .int .i64 x2], .agg #[.bool t0, .bool t1, .bool t2]] w' fun e w'' => e = .returned (ov s3) ∧ Below w'.heap.size w' w''))
    : Calls Tryd.prog 9 #[av a, qv q, .agg #[.int .i64 x0, .int .i64 x1, .int .i64 x2], .agg #[.bool t0, .bool t1, .bool t2]] w fun e w' => e = .returned (qv ⟨s0, s1, s2, s3⟩) ∧ Below w.heap.size w w' := by
  have hS1 := (((((Sp.none w).more [.int .i64 a.e0, .int .i64 a.e1, .int .i64 a.e2, .bool a.b0, .bool a.b1, .bool a.b2, .int .i64 a.bias, .int .i64 a.change, .int .i64 a.move, .int .i64 a.most] 25).more [.int .i64 q.h0.vL, .int .i64 q.h0.vH, .int .i64 q.h0.bL, .int .i64 q.h0.bH, .bool q.h0.ref, .int .i64 q.h1.vL, .int .i64 q.h1.vH, .int .i64 q.h1.bL, .int .i64 q.h1.bH, .bool q.h1.ref, .int .i64 q.h2.vL, .int .i64 q.h2.vH, .int .i64 q.h2.bL, .int .i64 q.h2.bH, .bool q.h2.ref, .int .i64 q.h3.vL, .int .i64 q.h3.vH, .int .i64 q.h3.bL, .int .i64 q.h3.bH, .bool q.h3.ref] 35).more [.int .i64 x0, .int .i64 x1, .int .i64 x2] 22).more [.bool t0, .bool t1, .bool t2] 23).more [.int .i64 0, .int .i64 0, .int .i64 0, .int .i64 0, .bool false, .int .i64 0, .int .i64 0, .int .i64 0, .int .i64 0, .bool false, .int .i64 0, .int .i64 0, .int .i64 0, .int .i64 0, .bool false, .int .i64 0, .int .i64 0, .int .i64 0, .int .i64 0, .bool false] 35
  simp only [heap1] at hS1
  have HS1 := Lib.hid hS1
  clear hS1
  have hS2 := (show Sp w [(w.heap.size, [some (.int .i64 a.e0), some (.int .i64 a.e1), some (.int .i64 a.e2), some (.bool a.b0), some (.bool a.b1), some (.bool a.b2), some (.int .i64 a.bias), some (.int .i64 a.change), some (.int .i64 a.move), some (.int .i64 a.most)]), (w.heap.size + 1, [some (.int .i64 q.h0.vL), some (.int .i64 q.h0.vH), some (.int .i64 q.h0.bL), some (.int .i64 q.h0.bH), some (.bool q.h0.ref), some (.int .i64 q.h1.vL), some (.int .i64 q.h1.vH), some (.int .i64 q.h1.bL), some (.int .i64 q.h1.bH), some (.bool q.h1.ref), some (.int .i64 q.h2.vL), some (.int .i64 q.h2.vH), some (.int .i64 q.h2.bL), some (.int .i64 q.h2.bH), some (.bool q.h2.ref), some (.int .i64 q.h3.vL), some (.int .i64 q.h3.vH), some (.int .i64 q.h3.bL), some (.int .i64 q.h3.bH), some (.bool q.h3.ref)]), (w.heap.size + 1 + 1, [some (.int .i64 x0), some (.int .i64 x1), some (.int .i64 x2)]), (w.heap.size + 1 + 1 + 1, [some (.bool t0), some (.bool t1), some (.bool t2)]), (w.heap.size + 1 + 1 + 1 + 1, [some (.int .i64 0), some (.int .i64 0), some (.int .i64 0), some (.int .i64 0), some (.bool false), some (.int .i64 0), some (.int .i64 0), some (.int .i64 0), some (.int .i64 0), some (.bool false), some (.int .i64 0), some (.int .i64 0), some (.int .i64 0), some (.int .i64 0), some (.bool false), some (.int .i64 0), some (.int .i64 0), some (.int .i64 0), some (.int .i64 0), some (.bool false)])] (((((w.alloc (.cells #[.int .i64 a.e0, .int .i64 a.e1, .int .i64 a.e2, .bool a.b0, .bool a.b1, .bool a.b2, .int .i64 a.bias, .int .i64 a.change, .int .i64 a.move, .int .i64 a.most] 25)).alloc (.cells (qa q) 35)).alloc (.cells #[.int .i64 x0, .int .i64 x1, .int .i64 x2] 22)).alloc (.cells #[.bool t0, .bool t1, .bool t2] 23)).alloc (.cells #[.int .i64 0, .int .i64 0, .int .i64 0, .int .i64 0, .bool false, .int .i64 0, .int .i64 0, .int .i64 0, .int .i64 0, .bool false, .int .i64 0, .int .i64 0, .int .i64 0, .int .i64 0, .bool false, .int .i64 0, .int .i64 0, .int .i64 0, .int .i64 0, .bool false] 35)) from HS1.out)
  have HS2 := Lib.hid hS2
  clear hS2 HS1
  have HI := Lib.hid (info_qa q)
  have HJ := Lib.hid (info_qa ⟨s0, s1, s2, s3⟩)
  have H1 := Lib.hid (qa_one ⟨s0, s1, s2, s3⟩)
  go_enter Tryd.func9, Tryd.ntmps9
  go_upto_region 1 with fail
  obtain ⟨w1, hX, hS⟩ := (HS2.out).named
  rw [← hX]
  clear hX HS2
  have HS3 := Lib.hid hS
  clear hS
  have HA := Lib.hid ((HS3.out).range 1 (l := qc q) rfl)
  go_wp2_with (refine list_load_any rfl 35 _ rfl _ 0 rfl (qa q) _ HA.out Tryd.underlying35 rfl HI.out ?_)
  clear HA
  go_loopw [12] (fun i wr => ∃ j : Nat, j ≤ 4 ∧ i = .int .i64 j ∧ Sp w [(w.heap.size, [some (.int .i64 a.e0), some (.int .i64 a.e1), some (.int .i64 a.e2), some (.bool a.b0), some (.bool a.b1), some (.bool a.b2), some (.int .i64 a.bias), some (.int .i64 a.change), some (.int .i64 a.move), some (.int .i64 a.most)]), (w.heap.size + 1, (qc (qstepF q s0 s1 s2 s3 j)).map some), (w.heap.size + 1 + 1, [some (.int .i64 x0), some (.int .i64 x1), some (.int .i64 x2)]), (w.heap.size + 1 + 1 + 1, [some (.bool t0), some (.bool t1), some (.bool t2)]), (w.heap.size + 1 + 1 + 1 + 1, [some (.int .i64 0), some (.int .i64 0), some (.int .i64 0), some (.int .i64 0), some (.bool false), some (.int .i64 0), some (.int .i64 0), some (.int .i64 0), some (.int .i64 0), some (.bool false), some (.int .i64 0), some (.int .i64 0), some (.int .i64 0), some (.int .i64 0), some (.bool false), some (.int .i64 0), some (.int .i64 0), some (.int .i64 0), some (.int .i64 0), some (.bool false)])] wr) (fun i _ => 4 - (intOf i).toNat)
  case atStart => exact ⟨0, by omega, rfl, HS3.out⟩
  case round =>
    clear HS3
    obtain ⟨j, hj, rfl, hS⟩ := hrel
    rcases (show j = 0 ∨ j = 1 ∨ j = 2 ∨ j = 3 ∨ j = 4 by omega) with rfl | rfl | rfl | rfl | rfl
    · skip
      have HS4 := Lib.hid (show Sp w [(w.heap.size, [some (.int .i64 a.e0), some (.int .i64 a.e1), some (.int .i64 a.e2), some (.bool a.b0), some (.bool a.b1), some (.bool a.b2), some (.int .i64 a.bias), some (.int .i64 a.change), some (.int .i64 a.move), some (.int .i64 a.most)]), (w.heap.size + 1, [some (.int .i64 q.h0.vL), some (.int .i64 q.h0.vH), some (.int .i64 q.h0.bL), some (.int .i64 q.h0.bH), some (.bool q.h0.ref), some (.int .i64 q.h1.vL), some (.int .i64 q.h1.vH), some (.int .i64 q.h1.bL), some (.int .i64 q.h1.bH), some (.bool q.h1.ref), some (.int .i64 q.h2.vL), some (.int .i64 q.h2.vH), some (.int .i64 q.h2.bL), some (.int .i64 q.h2.bH), some (.bool q.h2.ref), some (.int .i64 q.h3.vL), some (.int .i64 q.h3.vH), some (.int .i64 q.h3.bL), some (.int .i64 q.h3.bH), some (.bool q.h3.ref)]), (w.heap.size + 1 + 1, [some (.int .i64 x0), some (.int .i64 x1), some (.int .i64 x2)]), (w.heap.size + 1 + 1 + 1, [some (.bool t0), some (.bool t1), some (.bool t2)]), (w.heap.size + 1 + 1 + 1 + 1, [some (.int .i64 0), some (.int .i64 0), some (.int .i64 0), some (.int .i64 0), some (.bool false), some (.int .i64 0), some (.int .i64 0), some (.int .i64 0), some (.int .i64 0), some (.bool false), some (.int .i64 0), some (.int .i64 0), some (.int .i64 0), some (.int .i64 0), some (.bool false), some (.int .i64 0), some (.int .i64 0), some (.int .i64 0), some (.int .i64 0), some (.bool false)])] _ from hS)
      clear hS hj
      have ix : ∀ w, (Instr.index 35 (.agg (qa q)) (.int .i64 (0 : Int))).run Tryd.prog w = .ok (.agg #[.int .i64 q.h0.vL, .int .i64 q.h0.vH, .int .i64 q.h0.bL, .int .i64 q.h0.bH, .bool q.h0.ref]) w := IX.out 0 (by decide)
      go_upto_region 4 with fail
      clear ix
      have hS5 := (HS4.out).more [.int .i64 q.h0.vL, .int .i64 q.h0.vH, .int .i64 q.h0.bL, .int .i64 q.h0.bH, .bool q.h0.ref] 34
      have HS5 := Lib.hid hS5
      clear hS5 HS4
      obtain ⟨w2, hX, hS⟩ := (HS5.out).named
      rw [← hX]
      clear hX HS5
      have HS6 := Lib.hid hS
      clear hS
      have hS7 := (HS6.out).forget 1 rfl 0
      have HS7 := Lib.hid hS7
      clear hS7 HS6
      have hS8 := (HS7.out).forget 1 rfl 1
      have HS8 := Lib.hid hS8
      clear hS8 HS7
      have hS9 := (HS8.out).forget 1 rfl 2
      have HS9 := Lib.hid hS9
      clear hS9 HS8
      have hS10 := (HS9.out).forget 1 rfl 3
      have HS10 := Lib.hid hS10
      clear hS10 HS9
      have hS11 := (HS10.out).forget 1 rfl 4
      have HS11 := Lib.hid hS11
      clear hS11 HS10
      obtain ⟨bs1, hbs⟩ : ∃ bs : List (Nat × List (Option Value)), bs = [(w.heap.size, [some (.int .i64 a.e0), some (.int .i64 a.e1), some (.int .i64 a.e2), some (.bool a.b0), some (.bool a.b1), some (.bool a.b2), some (.int .i64 a.bias), some (.int .i64 a.change), some (.int .i64 a.move), some (.int .i64 a.most)]), (w.heap.size + 1, [none, none, none, none, none, some (.int .i64 q.h1.vL), some (.int .i64 q.h1.vH), some (.int .i64 q.h1.bL), some (.int .i64 q.h1.bH), some (.bool q.h1.ref), some (.int .i64 q.h2.vL), some (.int .i64 q.h2.vH), some (.int .i64 q.h2.bL), some (.int .i64 q.h2.bH), some (.bool q.h2.ref), some (.int .i64 q.h3.vL), some (.int .i64 q.h3.vH), some (.int .i64 q.h3.bL), some (.int .i64 q.h3.bH), some (.bool q.h3.ref)]), (w.heap.size + 1 + 1, [some (.int .i64 x0), some (.int .i64 x1), some (.int .i64 x2)]), (w.heap.size + 1 + 1 + 1, [some (.bool t0), some (.bool t1), some (.bool t2)]), (w.heap.size + 1 + 1 + 1 + 1, [some (.int .i64 0), some (.int .i64 0), some (.int .i64 0), some (.int .i64 0), some (.bool false), some (.int .i64 0), some (.int .i64 0), some (.int .i64 0), some (.int .i64 0), some (.bool false), some (.int .i64 0), some (.int .i64 0), some (.int .i64 0), some (.int .i64 0), some (.bool false), some (.int .i64 0), some (.int .i64 0), some (.int .i64 0), some (.int .i64 0), some (.bool false)]), (wr.heap.size, [some (.int .i64 q.h0.vL), some (.int .i64 q.h0.vH), some (.int .i64 q.h0.bL), some (.int .i64 q.h0.bH), some (.bool q.h0.ref)])] := ⟨_, rfl⟩
      have hT := (HS11.out).cast hbs
      have c0_0 : ∀ w', Sp w bs1 w' → w'.cell? ⟨w.heap.size, 0, none⟩ = some (.int .i64 a.e0) := by rw [hbs]; exact fun w' h => h.at 0 rfl 0 rfl
      have c0_1 : ∀ w', Sp w bs1 w' → w'.cell? ⟨w.heap.size, 1, none⟩ = some (.int .i64 a.e1) := by rw [hbs]; exact fun w' h => h.at 0 rfl 1 rfl
      have c0_2 : ∀ w', Sp w bs1 w' → w'.cell? ⟨w.heap.size, 2, none⟩ = some (.int .i64 a.e2) := by rw [hbs]; exact fun w' h => h.at 0 rfl 2 rfl
      have c0_3 : ∀ w', Sp w bs1 w' → w'.cell? ⟨w.heap.size, 3, none⟩ = some (.bool a.b0) := by rw [hbs]; exact fun w' h => h.at 0 rfl 3 rfl
      have c0_4 : ∀ w', Sp w bs1 w' → w'.cell? ⟨w.heap.size, 4, none⟩ = some (.bool a.b1) := by rw [hbs]; exact fun w' h => h.at 0 rfl 4 rfl
      have c0_5 : ∀ w', Sp w bs1 w' → w'.cell? ⟨w.heap.size, 5, none⟩ = some (.bool a.b2) := by rw [hbs]; exact fun w' h => h.at 0 rfl 5 rfl
      have c0_6 : ∀ w', Sp w bs1 w' → w'.cell? ⟨w.heap.size, 6, none⟩ = some (.int .i64 a.bias) := by rw [hbs]; exact fun w' h => h.at 0 rfl 6 rfl
      have c0_7 : ∀ w', Sp w bs1 w' → w'.cell? ⟨w.heap.size, 7, none⟩ = some (.int .i64 a.change) := by rw [hbs]; exact fun w' h => h.at 0 rfl 7 rfl
      have c0_8 : ∀ w', Sp w bs1 w' → w'.cell? ⟨w.heap.size, 8, none⟩ = some (.int .i64 a.move) := by rw [hbs]; exact fun w' h => h.at 0 rfl 8 rfl
      have c0_9 : ∀ w', Sp w bs1 w' → w'.cell? ⟨w.heap.size, 9, none⟩ = some (.int .i64 a.most) := by rw [hbs]; exact fun w' h => h.at 0 rfl 9 rfl
      have c2_0 : ∀ w', Sp w bs1 w' → w'.cell? ⟨w.heap.size + 1 + 1, 0, none⟩ = some (.int .i64 x0) := by rw [hbs]; exact fun w' h => h.at 2 rfl 0 rfl
      have c2_1 : ∀ w', Sp w bs1 w' → w'.cell? ⟨w.heap.size + 1 + 1, 1, none⟩ = some (.int .i64 x1) := by rw [hbs]; exact fun w' h => h.at 2 rfl 1 rfl
      have c2_2 : ∀ w', Sp w bs1 w' → w'.cell? ⟨w.heap.size + 1 + 1, 2, none⟩ = some (.int .i64 x2) := by rw [hbs]; exact fun w' h => h.at 2 rfl 2 rfl
      have c3_0 : ∀ w', Sp w bs1 w' → w'.cell? ⟨w.heap.size + 1 + 1 + 1, 0, none⟩ = some (.bool t0) := by rw [hbs]; exact fun w' h => h.at 3 rfl 0 rfl
      have c3_1 : ∀ w', Sp w bs1 w' → w'.cell? ⟨w.heap.size + 1 + 1 + 1, 1, none⟩ = some (.bool t1) := by rw [hbs]; exact fun w' h => h.at 3 rfl 1 rfl
      have c3_2 : ∀ w', Sp w bs1 w' → w'.cell? ⟨w.heap.size + 1 + 1 + 1, 2, none⟩ = some (.bool t2) := by rw [hbs]; exact fun w' h => h.at 3 rfl 2 rfl
      have c5_0 : ∀ w', Sp w bs1 w' → w'.cell? ⟨wr.heap.size, 0, none⟩ = some (.int .i64 q.h0.vL) := by rw [hbs]; exact fun w' h => h.at 5 rfl 0 rfl
      have c5_1 : ∀ w', Sp w bs1 w' → w'.cell? ⟨wr.heap.size, 1, none⟩ = some (.int .i64 q.h0.vH) := by rw [hbs]; exact fun w' h => h.at 5 rfl 1 rfl
      have c5_2 : ∀ w', Sp w bs1 w' → w'.cell? ⟨wr.heap.size, 2, none⟩ = some (.int .i64 q.h0.bL) := by rw [hbs]; exact fun w' h => h.at 5 rfl 2 rfl
      have c5_3 : ∀ w', Sp w bs1 w' → w'.cell? ⟨wr.heap.size, 3, none⟩ = some (.int .i64 q.h0.bH) := by rw [hbs]; exact fun w' h => h.at 5 rfl 3 rfl
      have c5_4 : ∀ w', Sp w bs1 w' → w'.cell? ⟨wr.heap.size, 4, none⟩ = some (.bool q.h0.ref) := by rw [hbs]; exact fun w' h => h.at 5 rfl 4 rfl
      have o1_0 : ∀ w', Sp w bs1 w' → ∃ z, w'.cell? ⟨w.heap.size + 1, 0, none⟩ = some z ∧ w'.frozen? ⟨w.heap.size + 1, 0, none⟩ = false := by rw [hbs]; exact fun w' h => h.there 1 rfl 0 rfl
      have s1_0 : ∀ w' z, Sp w bs1 w' → Sp w bs1 (w'.setCell ⟨w.heap.size + 1, 0, none⟩ z) := by rw [hbs]; exact fun w' z h => h.hit 1 rfl 0 rfl z
      have o1_1 : ∀ w', Sp w bs1 w' → ∃ z, w'.cell? ⟨w.heap.size + 1, 1, none⟩ = some z ∧ w'.frozen? ⟨w.heap.size + 1, 1, none⟩ = false := by rw [hbs]; exact fun w' h => h.there 1 rfl 1 rfl
      have s1_1 : ∀ w' z, Sp w bs1 w' → Sp w bs1 (w'.setCell ⟨w.heap.size + 1, 1, none⟩ z) := by rw [hbs]; exact fun w' z h => h.hit 1 rfl 1 rfl z
      have o1_2 : ∀ w', Sp w bs1 w' → ∃ z, w'.cell? ⟨w.heap.size + 1, 2, none⟩ = some z ∧ w'.frozen? ⟨w.heap.size + 1, 2, none⟩ = false := by rw [hbs]; exact fun w' h => h.there 1 rfl 2 rfl
      have s1_2 : ∀ w' z, Sp w bs1 w' → Sp w bs1 (w'.setCell ⟨w.heap.size + 1, 2, none⟩ z) := by rw [hbs]; exact fun w' z h => h.hit 1 rfl 2 rfl z
      have o1_3 : ∀ w', Sp w bs1 w' → ∃ z, w'.cell? ⟨w.heap.size + 1, 3, none⟩ = some z ∧ w'.frozen? ⟨w.heap.size + 1, 3, none⟩ = false := by rw [hbs]; exact fun w' h => h.there 1 rfl 3 rfl
      have s1_3 : ∀ w' z, Sp w bs1 w' → Sp w bs1 (w'.setCell ⟨w.heap.size + 1, 3, none⟩ z) := by rw [hbs]; exact fun w' z h => h.hit 1 rfl 3 rfl z
      have o1_4 : ∀ w', Sp w bs1 w' → ∃ z, w'.cell? ⟨w.heap.size + 1, 4, none⟩ = some z ∧ w'.frozen? ⟨w.heap.size + 1, 4, none⟩ = false := by rw [hbs]; exact fun w' h => h.there 1 rfl 4 rfl
      have s1_4 : ∀ w' z, Sp w bs1 w' → Sp w bs1 (w'.setCell ⟨w.heap.size + 1, 4, none⟩ z) := by rw [hbs]; exact fun w' z h => h.hit 1 rfl 4 rfl z
      have nx : ∀ w', Sp w bs1 w' → Sp w [(w.heap.size, [some (.int .i64 a.e0), some (.int .i64 a.e1), some (.int .i64 a.e2), some (.bool a.b0), some (.bool a.b1), some (.bool a.b2), some (.int .i64 a.bias), some (.int .i64 a.change), some (.int .i64 a.move), some (.int .i64 a.most)]), (w.heap.size + 1, [some (.int .i64 s0.vL), some (.int .i64 s0.vH), some (.int .i64 s0.bL), some (.int .i64 s0.bH), some (.bool s0.ref), some (.int .i64 q.h1.vL), some (.int .i64 q.h1.vH), some (.int .i64 q.h1.bL), some (.int .i64 q.h1.bH), some (.bool q.h1.ref), some (.int .i64 q.h2.vL), some (.int .i64 q.h2.vH), some (.int .i64 q.h2.bL), some (.int .i64 q.h2.bH), some (.bool q.h2.ref), some (.int .i64 q.h3.vL), some (.int .i64 q.h3.vH), some (.int .i64 q.h3.bL), some (.int .i64 q.h3.bH), some (.bool q.h3.ref)]), (w.heap.size + 1 + 1, [some (.int .i64 x0), some (.int .i64 x1), some (.int .i64 x2)]), (w.heap.size + 1 + 1 + 1, [some (.bool t0), some (.bool t1), some (.bool t2)]), (w.heap.size + 1 + 1 + 1 + 1, [some (.int .i64 0), some (.int .i64 0), some (.int .i64 0), some (.int .i64 0), some (.bool false), some (.int .i64 0), some (.int .i64 0), some (.int .i64 0), some (.int .i64 0), some (.bool false), some (.int .i64 0), some (.int .i64 0), some (.int .i64 0), some (.int .i64 0), some (.bool false), some (.int .i64 0), some (.int .i64 0), some (.int .i64 0), some (.int .i64 0), some (.bool false)]), (wr.heap.size, [some (.int .i64 q.h0.vL), some (.int .i64 q.h0.vH), some (.int .i64 q.h0.bL), some (.int .i64 q.h0.bH), some (.bool q.h0.ref)])] (((((w'.setCell ⟨w.heap.size + 1, 0, none⟩ (.int .i64 s0.vL)).setCell ⟨w.heap.size + 1, 1, none⟩ (.int .i64 s0.vH)).setCell ⟨w.heap.size + 1, 2, none⟩ (.int .i64 s0.bL)).setCell ⟨w.heap.size + 1, 3, none⟩ (.int .i64 s0.bH)).setCell ⟨w.heap.size + 1, 4, none⟩ (.bool s0.ref)) := by rw [hbs]; exact fun w' h => (((((h.put 1 rfl 0 _).put 1 rfl 1 _).put 1 rfl 2 _).put 1 rfl 3 _).put 1 rfl 4 _)
      have kS : ∀ w1 w2, Sp w bs1 w1 → Below w1.heap.size w1 w2 → Sp w bs1 w2 := fun _ _ h hb => h.keep hb
      clear hbs HS11
      change (Code.region 4 tstep4 true).wp Tryd.prog _ _ _
      refine wp_region_noPanic ?_
      refine wp_region_held_drew (S := (Sp w bs1)) (by kernel_rfl) (hT.drew) (fun hHeld => ?_)
      refine wpAnyH_take (i := 0) (oi := ({ dst := some 16, op := .move (.tmp 9), type := 3, pos := "triple.go:27", after := #[], guard := none } : Oper)) (v := ?vs1_0) rfl tstep4_plain (by as_aux_lemma => kernel_rfl) (by as_aux_lemma => kernel_rfl) (fun _ _ _ h => h) (Or.inl ⟨by rfl, ?ys1_0⟩) (by assumption) ?rs1_0
      case ys1_0 => (intro w hSw; (try dsimp only at hSw); go_simp; try with_reducible rfl)
      try simp only [Act.put, List.setIfInBounds_toArray, List.set_cons_zero, List.set_cons_succ]
      refine wpAnyH_take (i := 1) (oi := ({ dst := some 17, op := .load 25 (.tmp 4), type := 25, pos := "triple.go:27", after := #[], guard := none } : Oper)) (v := ?vs1_1) rfl tstep4_plain (by as_aux_lemma => kernel_rfl) (by as_aux_lemma => kernel_rfl) (fun _ _ _ h => h) (Or.inl ⟨by rfl, ?ys1_1⟩) (by assumption) ?rs1_1
      case ys1_1 => (intro w hSw; (try dsimp only at hSw); go_simp; try with_reducible rfl)
      try simp only [Act.put, List.setIfInBounds_toArray, List.set_cons_zero, List.set_cons_succ]
      refine wpAnyH_take (i := 2) (oi := ({ dst := some 18, op := .load 34 (.tmp 10), type := 34, pos := "triple.go:27", after := #[], guard := none } : Oper)) (v := ?vs1_2) rfl tstep4_plain (by as_aux_lemma => kernel_rfl) (by as_aux_lemma => kernel_rfl) (fun _ _ _ h => h) (Or.inl ⟨by rfl, ?ys1_2⟩) (by assumption) ?rs1_2
      case ys1_2 => (intro w hSw; (try dsimp only at hSw); go_simp; try with_reducible rfl)
      try simp only [Act.put, List.setIfInBounds_toArray, List.set_cons_zero, List.set_cons_succ]
      refine wpAnyH_take (i := 3) (oi := ({ dst := some 19, op := .move (.tmp 9), type := 3, pos := "triple.go:27", after := #[], guard := none } : Oper)) (v := ?vs1_3) rfl tstep4_plain (by as_aux_lemma => kernel_rfl) (by as_aux_lemma => kernel_rfl) (fun _ _ _ h => h) (Or.inl ⟨by rfl, ?ys1_3⟩) (by assumption) ?rs1_3
      case ys1_3 => (intro w hSw; (try dsimp only at hSw); go_simp; try with_reducible rfl)
      try simp only [Act.put, List.setIfInBounds_toArray, List.set_cons_zero, List.set_cons_succ]
      refine wpAnyH_take (i := 5) (oi := ({ dst := some 21, op := .load 22 (.tmp 6), type := 22, pos := "triple.go:27", after := #[], guard := none } : Oper)) (v := ?vs1_5) rfl tstep4_plain (by as_aux_lemma => kernel_rfl) (by as_aux_lemma => kernel_rfl) (fun _ _ _ h => h) (Or.inl ⟨by rfl, ?ys1_5⟩) (by assumption) ?rs1_5
      case ys1_5 => (intro w hSw; (try dsimp only at hSw); go_simp; try with_reducible rfl)
      try simp only [Act.put, List.setIfInBounds_toArray, List.set_cons_zero, List.set_cons_succ]
      refine wpAnyH_take (i := 6) (oi := ({ dst := some 22, op := .load 23 (.tmp 7), type := 23, pos := "triple.go:27", after := #[], guard := none } : Oper)) (v := ?vs1_6) rfl tstep4_plain (by as_aux_lemma => kernel_rfl) (by as_aux_lemma => kernel_rfl) (fun _ _ _ h => h) (Or.inl ⟨by rfl, ?ys1_6⟩) (by assumption) ?rs1_6
      case ys1_6 => (intro w hSw; (try dsimp only at hSw); go_simp; try with_reducible rfl)
      try simp only [Act.put, List.setIfInBounds_toArray, List.set_cons_zero, List.set_cons_succ]
      refine wpAnyH_ready (rs := [4]) (by as_aux_lemma => kernel_rfl) (by simp) ?_
      refine AllReadyH.cons (o := ({ dst := some 20, op := .call { callee := .value (.func 24), args := #[.tmp 19], argTypes := #[3] }, type := 3, pos := "triple.go:27", after := #[{ on := 3, ground := .data }], guard := none } : Oper)) rfl (fun KK hK => ?_) AllReadyH.nil
      rw [if_pos (by rfl)]
      go_simp
      go_at_call 24; refine (B0.out _).mono ?_; rintro e w3 ⟨rfl, hb3⟩
      go_wp2_with fail
      refine hK.out _ _ ?_ (fun hHeld3 => ?_)
      · exact kS _ _ (by assumption) hb3
      clear hK KK hb3
      try simp only [Act.put, List.setIfInBounds_toArray, List.set_cons_zero, List.set_cons_succ]
      refine wpAnyH_ready (rs := [7]) (by as_aux_lemma => kernel_rfl) (by simp) ?_
      refine AllReadyH.cons (o := ({ dst := some 23, op := .call { callee := .value (.func 23), args := #[.tmp 17, .tmp 18, .tmp 20, .tmp 21, .tmp 22], argTypes := #[25, 34, 3, 22, 23] }, type := 34, pos := "triple.go:27", after := #[{ on := 1, ground := .data }, { on := 2, ground := .data }, { on := 4, ground := .data }, { on := 5, ground := .data }, { on := 6, ground := .data }, { on := 4, ground := .chain }], guard := none } : Oper)) rfl (fun KK hK => ?_) AllReadyH.nil
      rw [if_pos (by rfl)]
      go_simp
      go_at_call 23; refine (S0.out _ (Sp.below (by assumption))).mono ?_; rintro e w4 ⟨rfl, hb4⟩
      go_wp2_with fail
      refine hK.out _ _ ?_ (fun hHeld4 => ?_)
      · exact kS _ _ (by assumption) hb4
      clear hK KK hb4 hHeld3
      try simp only [Act.put, List.setIfInBounds_toArray, List.set_cons_zero, List.set_cons_succ]
      refine wpAnyH_take (i := 8) (oi := ({ dst := some 24, op := .indexAddr 35 (.tmp 5) (.tmp 16), type := 0, pos := "triple.go:27", after := #[{ on := 0, ground := .data }, { on := 0, ground := .phase }, { on := 1, ground := .phase }, { on := 2, ground := .phase }, { on := 3, ground := .phase }, { on := 4, ground := .phase }, { on := 5, ground := .phase }, { on := 6, ground := .phase }, { on := 7, ground := .phase }], guard := none } : Oper)) (v := ?vs1_8) rfl tstep4_plain (by as_aux_lemma => kernel_rfl) (by as_aux_lemma => kernel_rfl) (fun _ _ _ h => h) (Or.inl ⟨by rfl, ?ys1_8⟩) (by assumption) ?rs1_8
      case ys1_8 => (intro w hSw; (try dsimp only at hSw); go_simp; try with_reducible rfl)
      try simp only [Act.put, List.setIfInBounds_toArray, List.set_cons_zero, List.set_cons_succ]
      refine wpAnyH_ready (rs := [9]) (by as_aux_lemma => kernel_rfl) (by simp) ?_
      refine AllReadyH.cons (o := ({ dst := none, op := .store 34 (.tmp 24) (.tmp 23), type := 0, pos := "triple.go:27", after := #[{ on := 8, ground := .data }, { on := 7, ground := .data }, { on := 7, ground := .chain }, { on := 0, ground := .phase }, { on := 1, ground := .phase }, { on := 2, ground := .phase }, { on := 3, ground := .phase }, { on := 4, ground := .phase }, { on := 5, ground := .phase }, { on := 6, ground := .phase }, { on := 7, ground := .phase }], guard := none } : Oper)) rfl (fun KK hK => ?_) AllReadyH.nil
      rw [if_pos (by rfl)]
      obtain ⟨z1_0, k1_0, f1_0⟩ := o1_0 _ hHeld4
      obtain ⟨z1_1, k1_1, f1_1⟩ := o1_1 _ hHeld4
      obtain ⟨z1_2, k1_2, f1_2⟩ := o1_2 _ hHeld4
      obtain ⟨z1_3, k1_3, f1_3⟩ := o1_3 _ hHeld4
      obtain ⟨z1_4, k1_4, f1_4⟩ := o1_4 _ hHeld4
      have N1 := nx _ hHeld4
      go_simp
      refine hK.out _ _ ?_ (fun hHeldS0 => ?_)
      · exact (s1_4 _ _ (s1_3 _ _ (s1_2 _ _ (s1_1 _ _ (s1_0 _ _ hHeld4)))))
      clear hK KK
      try simp only [Act.put, List.setIfInBounds_toArray, List.set_cons_zero, List.set_cons_succ]
      refine wpAnyH_done (by as_aux_lemma => kernel_rfl) ?_ _
      refine NoPanic.normal ?_
      have HS12 := Lib.hid N1
      clear c0_0 c0_1 c0_2 c0_3 c0_4 c0_5 c0_6 c0_7 c0_8 c0_9 c2_0 c2_1 c2_2 c3_0 c3_1 c3_2 c5_0 c5_1 c5_2 c5_3 c5_4 o1_0 s1_0 o1_1 s1_1 o1_2 s1_2 o1_3 s1_3 o1_4 s1_4 nx kS hT N1 k1_0 f1_0 k1_1 f1_1 k1_2 f1_2 k1_3 f1_3 k1_4 f1_4
      have HF := Lib.hid (show Sp w [(w.heap.size, [some (.int .i64 a.e0), some (.int .i64 a.e1), some (.int .i64 a.e2), some (.bool a.b0), some (.bool a.b1), some (.bool a.b2), some (.int .i64 a.bias), some (.int .i64 a.change), some (.int .i64 a.move), some (.int .i64 a.most)]), (w.heap.size + 1, (qc (qstepF q s0 s1 s2 s3 1)).map some), (w.heap.size + 1 + 1, [some (.int .i64 x0), some (.int .i64 x1), some (.int .i64 x2)]), (w.heap.size + 1 + 1 + 1, [some (.bool t0), some (.bool t1), some (.bool t2)]), (w.heap.size + 1 + 1 + 1 + 1, [some (.int .i64 0), some (.int .i64 0), some (.int .i64 0), some (.int .i64 0), some (.bool false), some (.int .i64 0), some (.int .i64 0), some (.int .i64 0), some (.int .i64 0), some (.bool false), some (.int .i64 0), some (.int .i64 0), some (.int .i64 0), some (.int .i64 0), some (.bool false), some (.int .i64 0), some (.int .i64 0), some (.int .i64 0), some (.int .i64 0), some (.bool false)])] _ from (HS12.out).take 5)
      clear HS12
      go_wp2_with fail
      go_roundw
      case rel => first | exact ⟨1, by omega, rfl, HF.out⟩ | ((repeat apply Exists.intro); exact ⟨⟨1, by omega, rfl, HF.out⟩, rfl⟩)
      case measure => simp [intOf]
    · skip
      have HS4 := Lib.hid (show Sp w [(w.heap.size, [some (.int .i64 a.e0), some (.int .i64 a.e1), some (.int .i64 a.e2), some (.bool a.b0), some (.bool a.b1), some (.bool a.b2), some (.int .i64 a.bias), some (.int .i64 a.change), some (.int .i64 a.move), some (.int .i64 a.most)]), (w.heap.size + 1, [some (.int .i64 s0.vL), some (.int .i64 s0.vH), some (.int .i64 s0.bL), some (.int .i64 s0.bH), some (.bool s0.ref), some (.int .i64 q.h1.vL), some (.int .i64 q.h1.vH), some (.int .i64 q.h1.bL), some (.int .i64 q.h1.bH), some (.bool q.h1.ref), some (.int .i64 q.h2.vL), some (.int .i64 q.h2.vH), some (.int .i64 q.h2.bL), some (.int .i64 q.h2.bH), some (.bool q.h2.ref), some (.int .i64 q.h3.vL), some (.int .i64 q.h3.vH), some (.int .i64 q.h3.bL), some (.int .i64 q.h3.bH), some (.bool q.h3.ref)]), (w.heap.size + 1 + 1, [some (.int .i64 x0), some (.int .i64 x1), some (.int .i64 x2)]), (w.heap.size + 1 + 1 + 1, [some (.bool t0), some (.bool t1), some (.bool t2)]), (w.heap.size + 1 + 1 + 1 + 1, [some (.int .i64 0), some (.int .i64 0), some (.int .i64 0), some (.int .i64 0), some (.bool false), some (.int .i64 0), some (.int .i64 0), some (.int .i64 0), some (.int .i64 0), some (.bool false), some (.int .i64 0), some (.int .i64 0), some (.int .i64 0), some (.int .i64 0), some (.bool false), some (.int .i64 0), some (.int .i64 0), some (.int .i64 0), some (.int .i64 0), some (.bool false)])] _ from hS)
      clear hS hj
      have ix : ∀ w, (Instr.index 35 (.agg (qa q)) (.int .i64 (1 : Int))).run Tryd.prog w = .ok (.agg #[.int .i64 q.h1.vL, .int .i64 q.h1.vH, .int .i64 q.h1.bL, .int .i64 q.h1.bH, .bool q.h1.ref]) w := IX.out 1 (by decide)
      go_upto_region 4 with fail
      clear ix
      have hS5 := (HS4.out).more [.int .i64 q.h1.vL, .int .i64 q.h1.vH, .int .i64 q.h1.bL, .int .i64 q.h1.bH, .bool q.h1.ref] 34
      have HS5 := Lib.hid hS5
      clear hS5 HS4
      obtain ⟨w5, hX, hS⟩ := (HS5.out).named
      rw [← hX]
      clear hX HS5
      have HS6 := Lib.hid hS
      clear hS
      have hS7 := (HS6.out).forget 1 rfl 5
      have HS7 := Lib.hid hS7
      clear hS7 HS6
      have hS8 := (HS7.out).forget 1 rfl 6
      have HS8 := Lib.hid hS8
      clear hS8 HS7
      have hS9 := (HS8.out).forget 1 rfl 7
      have HS9 := Lib.hid hS9
      clear hS9 HS8
      have hS10 := (HS9.out).forget 1 rfl 8
      have HS10 := Lib.hid hS10
      clear hS10 HS9
      have hS11 := (HS10.out).forget 1 rfl 9
      have HS11 := Lib.hid hS11
      clear hS11 HS10
      obtain ⟨bs2, hbs⟩ : ∃ bs : List (Nat × List (Option Value)), bs = [(w.heap.size, [some (.int .i64 a.e0), some (.int .i64 a.e1), some (.int .i64 a.e2), some (.bool a.b0), some (.bool a.b1), some (.bool a.b2), some (.int .i64 a.bias), some (.int .i64 a.change), some (.int .i64 a.move), some (.int .i64 a.most)]), (w.heap.size + 1, [some (.int .i64 s0.vL), some (.int .i64 s0.vH), some (.int .i64 s0.bL), some (.int .i64 s0.bH), some (.bool s0.ref), none, none, none, none, none, some (.int .i64 q.h2.vL), some (.int .i64 q.h2.vH), some (.int .i64 q.h2.bL), some (.int .i64 q.h2.bH), some (.bool q.h2.ref), some (.int .i64 q.h3.vL), some (.int .i64 q.h3.vH), some (.int .i64 q.h3.bL), some (.int .i64 q.h3.bH), some (.bool q.h3.ref)]), (w.heap.size + 1 + 1, [some (.int .i64 x0), some (.int .i64 x1), some (.int .i64 x2)]), (w.heap.size + 1 + 1 + 1, [some (.bool t0), some (.bool t1), some (.bool t2)]), (w.heap.size + 1 + 1 + 1 + 1, [some (.int .i64 0), some (.int .i64 0), some (.int .i64 0), some (.int .i64 0), some (.bool false), some (.int .i64 0), some (.int .i64 0), some (.int .i64 0), some (.int .i64 0), some (.bool false), some (.int .i64 0), some (.int .i64 0), some (.int .i64 0), some (.int .i64 0), some (.bool false), some (.int .i64 0), some (.int .i64 0), some (.int .i64 0), some (.int .i64 0), some (.bool false)]), (wr.heap.size, [some (.int .i64 q.h1.vL), some (.int .i64 q.h1.vH), some (.int .i64 q.h1.bL), some (.int .i64 q.h1.bH), some (.bool q.h1.ref)])] := ⟨_, rfl⟩
      have hT := (HS11.out).cast hbs
      have c0_0 : ∀ w', Sp w bs2 w' → w'.cell? ⟨w.heap.size, 0, none⟩ = some (.int .i64 a.e0) := by rw [hbs]; exact fun w' h => h.at 0 rfl 0 rfl
      have c0_1 : ∀ w', Sp w bs2 w' → w'.cell? ⟨w.heap.size, 1, none⟩ = some (.int .i64 a.e1) := by rw [hbs]; exact fun w' h => h.at 0 rfl 1 rfl
      have c0_2 : ∀ w', Sp w bs2 w' → w'.cell? ⟨w.heap.size, 2, none⟩ = some (.int .i64 a.e2) := by rw [hbs]; exact fun w' h => h.at 0 rfl 2 rfl
      have c0_3 : ∀ w', Sp w bs2 w' → w'.cell? ⟨w.heap.size, 3, none⟩ = some (.bool a.b0) := by rw [hbs]; exact fun w' h => h.at 0 rfl 3 rfl
      have c0_4 : ∀ w', Sp w bs2 w' → w'.cell? ⟨w.heap.size, 4, none⟩ = some (.bool a.b1) := by rw [hbs]; exact fun w' h => h.at 0 rfl 4 rfl
      have c0_5 : ∀ w', Sp w bs2 w' → w'.cell? ⟨w.heap.size, 5, none⟩ = some (.bool a.b2) := by rw [hbs]; exact fun w' h => h.at 0 rfl 5 rfl
      have c0_6 : ∀ w', Sp w bs2 w' → w'.cell? ⟨w.heap.size, 6, none⟩ = some (.int .i64 a.bias) := by rw [hbs]; exact fun w' h => h.at 0 rfl 6 rfl
      have c0_7 : ∀ w', Sp w bs2 w' → w'.cell? ⟨w.heap.size, 7, none⟩ = some (.int .i64 a.change) := by rw [hbs]; exact fun w' h => h.at 0 rfl 7 rfl
      have c0_8 : ∀ w', Sp w bs2 w' → w'.cell? ⟨w.heap.size, 8, none⟩ = some (.int .i64 a.move) := by rw [hbs]; exact fun w' h => h.at 0 rfl 8 rfl
      have c0_9 : ∀ w', Sp w bs2 w' → w'.cell? ⟨w.heap.size, 9, none⟩ = some (.int .i64 a.most) := by rw [hbs]; exact fun w' h => h.at 0 rfl 9 rfl
      have c2_0 : ∀ w', Sp w bs2 w' → w'.cell? ⟨w.heap.size + 1 + 1, 0, none⟩ = some (.int .i64 x0) := by rw [hbs]; exact fun w' h => h.at 2 rfl 0 rfl
      have c2_1 : ∀ w', Sp w bs2 w' → w'.cell? ⟨w.heap.size + 1 + 1, 1, none⟩ = some (.int .i64 x1) := by rw [hbs]; exact fun w' h => h.at 2 rfl 1 rfl
      have c2_2 : ∀ w', Sp w bs2 w' → w'.cell? ⟨w.heap.size + 1 + 1, 2, none⟩ = some (.int .i64 x2) := by rw [hbs]; exact fun w' h => h.at 2 rfl 2 rfl
      have c3_0 : ∀ w', Sp w bs2 w' → w'.cell? ⟨w.heap.size + 1 + 1 + 1, 0, none⟩ = some (.bool t0) := by rw [hbs]; exact fun w' h => h.at 3 rfl 0 rfl
      have c3_1 : ∀ w', Sp w bs2 w' → w'.cell? ⟨w.heap.size + 1 + 1 + 1, 1, none⟩ = some (.bool t1) := by rw [hbs]; exact fun w' h => h.at 3 rfl 1 rfl
      have c3_2 : ∀ w', Sp w bs2 w' → w'.cell? ⟨w.heap.size + 1 + 1 + 1, 2, none⟩ = some (.bool t2) := by rw [hbs]; exact fun w' h => h.at 3 rfl 2 rfl
      have c5_0 : ∀ w', Sp w bs2 w' → w'.cell? ⟨wr.heap.size, 0, none⟩ = some (.int .i64 q.h1.vL) := by rw [hbs]; exact fun w' h => h.at 5 rfl 0 rfl
      have c5_1 : ∀ w', Sp w bs2 w' → w'.cell? ⟨wr.heap.size, 1, none⟩ = some (.int .i64 q.h1.vH) := by rw [hbs]; exact fun w' h => h.at 5 rfl 1 rfl
      have c5_2 : ∀ w', Sp w bs2 w' → w'.cell? ⟨wr.heap.size, 2, none⟩ = some (.int .i64 q.h1.bL) := by rw [hbs]; exact fun w' h => h.at 5 rfl 2 rfl
      have c5_3 : ∀ w', Sp w bs2 w' → w'.cell? ⟨wr.heap.size, 3, none⟩ = some (.int .i64 q.h1.bH) := by rw [hbs]; exact fun w' h => h.at 5 rfl 3 rfl
      have c5_4 : ∀ w', Sp w bs2 w' → w'.cell? ⟨wr.heap.size, 4, none⟩ = some (.bool q.h1.ref) := by rw [hbs]; exact fun w' h => h.at 5 rfl 4 rfl
      have o1_5 : ∀ w', Sp w bs2 w' → ∃ z, w'.cell? ⟨w.heap.size + 1, 5, none⟩ = some z ∧ w'.frozen? ⟨w.heap.size + 1, 5, none⟩ = false := by rw [hbs]; exact fun w' h => h.there 1 rfl 5 rfl
      have s1_5 : ∀ w' z, Sp w bs2 w' → Sp w bs2 (w'.setCell ⟨w.heap.size + 1, 5, none⟩ z) := by rw [hbs]; exact fun w' z h => h.hit 1 rfl 5 rfl z
      have o1_6 : ∀ w', Sp w bs2 w' → ∃ z, w'.cell? ⟨w.heap.size + 1, 6, none⟩ = some z ∧ w'.frozen? ⟨w.heap.size + 1, 6, none⟩ = false := by rw [hbs]; exact fun w' h => h.there 1 rfl 6 rfl
      have s1_6 : ∀ w' z, Sp w bs2 w' → Sp w bs2 (w'.setCell ⟨w.heap.size + 1, 6, none⟩ z) := by rw [hbs]; exact fun w' z h => h.hit 1 rfl 6 rfl z
      have o1_7 : ∀ w', Sp w bs2 w' → ∃ z, w'.cell? ⟨w.heap.size + 1, 7, none⟩ = some z ∧ w'.frozen? ⟨w.heap.size + 1, 7, none⟩ = false := by rw [hbs]; exact fun w' h => h.there 1 rfl 7 rfl
      have s1_7 : ∀ w' z, Sp w bs2 w' → Sp w bs2 (w'.setCell ⟨w.heap.size + 1, 7, none⟩ z) := by rw [hbs]; exact fun w' z h => h.hit 1 rfl 7 rfl z
      have o1_8 : ∀ w', Sp w bs2 w' → ∃ z, w'.cell? ⟨w.heap.size + 1, 8, none⟩ = some z ∧ w'.frozen? ⟨w.heap.size + 1, 8, none⟩ = false := by rw [hbs]; exact fun w' h => h.there 1 rfl 8 rfl
      have s1_8 : ∀ w' z, Sp w bs2 w' → Sp w bs2 (w'.setCell ⟨w.heap.size + 1, 8, none⟩ z) := by rw [hbs]; exact fun w' z h => h.hit 1 rfl 8 rfl z
      have o1_9 : ∀ w', Sp w bs2 w' → ∃ z, w'.cell? ⟨w.heap.size + 1, 9, none⟩ = some z ∧ w'.frozen? ⟨w.heap.size + 1, 9, none⟩ = false := by rw [hbs]; exact fun w' h => h.there 1 rfl 9 rfl
      have s1_9 : ∀ w' z, Sp w bs2 w' → Sp w bs2 (w'.setCell ⟨w.heap.size + 1, 9, none⟩ z) := by rw [hbs]; exact fun w' z h => h.hit 1 rfl 9 rfl z
      have nx : ∀ w', Sp w bs2 w' → Sp w [(w.heap.size, [some (.int .i64 a.e0), some (.int .i64 a.e1), some (.int .i64 a.e2), some (.bool a.b0), some (.bool a.b1), some (.bool a.b2), some (.int .i64 a.bias), some (.int .i64 a.change), some (.int .i64 a.move), some (.int .i64 a.most)]), (w.heap.size + 1, [some (.int .i64 s0.vL), some (.int .i64 s0.vH), some (.int .i64 s0.bL), some (.int .i64 s0.bH), some (.bool s0.ref), some (.int .i64 s1.vL), some (.int .i64 s1.vH), some (.int .i64 s1.bL), some (.int .i64 s1.bH), some (.bool s1.ref), some (.int .i64 q.h2.vL), some (.int .i64 q.h2.vH), some (.int .i64 q.h2.bL), some (.int .i64 q.h2.bH), some (.bool q.h2.ref), some (.int .i64 q.h3.vL), some (.int .i64 q.h3.vH), some (.int .i64 q.h3.bL), some (.int .i64 q.h3.bH), some (.bool q.h3.ref)]), (w.heap.size + 1 + 1, [some (.int .i64 x0), some (.int .i64 x1), some (.int .i64 x2)]), (w.heap.size + 1 + 1 + 1, [some (.bool t0), some (.bool t1), some (.bool t2)]), (w.heap.size + 1 + 1 + 1 + 1, [some (.int .i64 0), some (.int .i64 0), some (.int .i64 0), some (.int .i64 0), some (.bool false), some (.int .i64 0), some (.int .i64 0), some (.int .i64 0), some (.int .i64 0), some (.bool false), some (.int .i64 0), some (.int .i64 0), some (.int .i64 0), some (.int .i64 0), some (.bool false), some (.int .i64 0), some (.int .i64 0), some (.int .i64 0), some (.int .i64 0), some (.bool false)]), (wr.heap.size, [some (.int .i64 q.h1.vL), some (.int .i64 q.h1.vH), some (.int .i64 q.h1.bL), some (.int .i64 q.h1.bH), some (.bool q.h1.ref)])] (((((w'.setCell ⟨w.heap.size + 1, 5, none⟩ (.int .i64 s1.vL)).setCell ⟨w.heap.size + 1, 6, none⟩ (.int .i64 s1.vH)).setCell ⟨w.heap.size + 1, 7, none⟩ (.int .i64 s1.bL)).setCell ⟨w.heap.size + 1, 8, none⟩ (.int .i64 s1.bH)).setCell ⟨w.heap.size + 1, 9, none⟩ (.bool s1.ref)) := by rw [hbs]; exact fun w' h => (((((h.put 1 rfl 5 _).put 1 rfl 6 _).put 1 rfl 7 _).put 1 rfl 8 _).put 1 rfl 9 _)
      have kS : ∀ w1 w2, Sp w bs2 w1 → Below w1.heap.size w1 w2 → Sp w bs2 w2 := fun _ _ h hb => h.keep hb
      clear hbs HS11
      change (Code.region 4 tstep4 true).wp Tryd.prog _ _ _
      refine wp_region_noPanic ?_
      refine wp_region_held_drew (S := (Sp w bs2)) (by kernel_rfl) (hT.drew) (fun hHeld => ?_)
      refine wpAnyH_take (i := 0) (oi := ({ dst := some 16, op := .move (.tmp 9), type := 3, pos := "triple.go:27", after := #[], guard := none } : Oper)) (v := ?vs2_0) rfl tstep4_plain (by as_aux_lemma => kernel_rfl) (by as_aux_lemma => kernel_rfl) (fun _ _ _ h => h) (Or.inl ⟨by rfl, ?ys2_0⟩) (by assumption) ?rs2_0
      case ys2_0 => (intro w hSw; (try dsimp only at hSw); go_simp; try with_reducible rfl)
      try simp only [Act.put, List.setIfInBounds_toArray, List.set_cons_zero, List.set_cons_succ]
      refine wpAnyH_take (i := 1) (oi := ({ dst := some 17, op := .load 25 (.tmp 4), type := 25, pos := "triple.go:27", after := #[], guard := none } : Oper)) (v := ?vs2_1) rfl tstep4_plain (by as_aux_lemma => kernel_rfl) (by as_aux_lemma => kernel_rfl) (fun _ _ _ h => h) (Or.inl ⟨by rfl, ?ys2_1⟩) (by assumption) ?rs2_1
      case ys2_1 => (intro w hSw; (try dsimp only at hSw); go_simp; try with_reducible rfl)
      try simp only [Act.put, List.setIfInBounds_toArray, List.set_cons_zero, List.set_cons_succ]
      refine wpAnyH_take (i := 2) (oi := ({ dst := some 18, op := .load 34 (.tmp 10), type := 34, pos := "triple.go:27", after := #[], guard := none } : Oper)) (v := ?vs2_2) rfl tstep4_plain (by as_aux_lemma => kernel_rfl) (by as_aux_lemma => kernel_rfl) (fun _ _ _ h => h) (Or.inl ⟨by rfl, ?ys2_2⟩) (by assumption) ?rs2_2
      case ys2_2 => (intro w hSw; (try dsimp only at hSw); go_simp; try with_reducible rfl)
      try simp only [Act.put, List.setIfInBounds_toArray, List.set_cons_zero, List.set_cons_succ]
      refine wpAnyH_take (i := 3) (oi := ({ dst := some 19, op := .move (.tmp 9), type := 3, pos := "triple.go:27", after := #[], guard := none } : Oper)) (v := ?vs2_3) rfl tstep4_plain (by as_aux_lemma => kernel_rfl) (by as_aux_lemma => kernel_rfl) (fun _ _ _ h => h) (Or.inl ⟨by rfl, ?ys2_3⟩) (by assumption) ?rs2_3
      case ys2_3 => (intro w hSw; (try dsimp only at hSw); go_simp; try with_reducible rfl)
      try simp only [Act.put, List.setIfInBounds_toArray, List.set_cons_zero, List.set_cons_succ]
      refine wpAnyH_take (i := 5) (oi := ({ dst := some 21, op := .load 22 (.tmp 6), type := 22, pos := "triple.go:27", after := #[], guard := none } : Oper)) (v := ?vs2_5) rfl tstep4_plain (by as_aux_lemma => kernel_rfl) (by as_aux_lemma => kernel_rfl) (fun _ _ _ h => h) (Or.inl ⟨by rfl, ?ys2_5⟩) (by assumption) ?rs2_5
      case ys2_5 => (intro w hSw; (try dsimp only at hSw); go_simp; try with_reducible rfl)
      try simp only [Act.put, List.setIfInBounds_toArray, List.set_cons_zero, List.set_cons_succ]
      refine wpAnyH_take (i := 6) (oi := ({ dst := some 22, op := .load 23 (.tmp 7), type := 23, pos := "triple.go:27", after := #[], guard := none } : Oper)) (v := ?vs2_6) rfl tstep4_plain (by as_aux_lemma => kernel_rfl) (by as_aux_lemma => kernel_rfl) (fun _ _ _ h => h) (Or.inl ⟨by rfl, ?ys2_6⟩) (by assumption) ?rs2_6
      case ys2_6 => (intro w hSw; (try dsimp only at hSw); go_simp; try with_reducible rfl)
      try simp only [Act.put, List.setIfInBounds_toArray, List.set_cons_zero, List.set_cons_succ]
      refine wpAnyH_ready (rs := [4]) (by as_aux_lemma => kernel_rfl) (by simp) ?_
      refine AllReadyH.cons (o := ({ dst := some 20, op := .call { callee := .value (.func 24), args := #[.tmp 19], argTypes := #[3] }, type := 3, pos := "triple.go:27", after := #[{ on := 3, ground := .data }], guard := none } : Oper)) rfl (fun KK hK => ?_) AllReadyH.nil
      rw [if_pos (by rfl)]
      go_simp
      go_at_call 24; refine (B1.out _).mono ?_; rintro e w6 ⟨rfl, hb6⟩
      go_wp2_with fail
      refine hK.out _ _ ?_ (fun hHeld6 => ?_)
      · exact kS _ _ (by assumption) hb6
      clear hK KK hb6
      try simp only [Act.put, List.setIfInBounds_toArray, List.set_cons_zero, List.set_cons_succ]
      refine wpAnyH_ready (rs := [7]) (by as_aux_lemma => kernel_rfl) (by simp) ?_
      refine AllReadyH.cons (o := ({ dst := some 23, op := .call { callee := .value (.func 23), args := #[.tmp 17, .tmp 18, .tmp 20, .tmp 21, .tmp 22], argTypes := #[25, 34, 3, 22, 23] }, type := 34, pos := "triple.go:27", after := #[{ on := 1, ground := .data }, { on := 2, ground := .data }, { on := 4, ground := .data }, { on := 5, ground := .data }, { on := 6, ground := .data }, { on := 4, ground := .chain }], guard := none } : Oper)) rfl (fun KK hK => ?_) AllReadyH.nil
      rw [if_pos (by rfl)]
      go_simp
      go_at_call 23; refine (S1.out _ (Sp.below (by assumption))).mono ?_; rintro e w7 ⟨rfl, hb7⟩
      go_wp2_with fail
      refine hK.out _ _ ?_ (fun hHeld7 => ?_)
      · exact kS _ _ (by assumption) hb7
      clear hK KK hb7 hHeld6
      try simp only [Act.put, List.setIfInBounds_toArray, List.set_cons_zero, List.set_cons_succ]
      refine wpAnyH_take (i := 8) (oi := ({ dst := some 24, op := .indexAddr 35 (.tmp 5) (.tmp 16), type := 0, pos := "triple.go:27", after := #[{ on := 0, ground := .data }, { on := 0, ground := .phase }, { on := 1, ground := .phase }, { on := 2, ground := .phase }, { on := 3, ground := .phase }, { on := 4, ground := .phase }, { on := 5, ground := .phase }, { on := 6, ground := .phase }, { on := 7, ground := .phase }], guard := none } : Oper)) (v := ?vs2_8) rfl tstep4_plain (by as_aux_lemma => kernel_rfl) (by as_aux_lemma => kernel_rfl) (fun _ _ _ h => h) (Or.inl ⟨by rfl, ?ys2_8⟩) (by assumption) ?rs2_8
      case ys2_8 => (intro w hSw; (try dsimp only at hSw); go_simp; try with_reducible rfl)
      try simp only [Act.put, List.setIfInBounds_toArray, List.set_cons_zero, List.set_cons_succ]
      refine wpAnyH_ready (rs := [9]) (by as_aux_lemma => kernel_rfl) (by simp) ?_
      refine AllReadyH.cons (o := ({ dst := none, op := .store 34 (.tmp 24) (.tmp 23), type := 0, pos := "triple.go:27", after := #[{ on := 8, ground := .data }, { on := 7, ground := .data }, { on := 7, ground := .chain }, { on := 0, ground := .phase }, { on := 1, ground := .phase }, { on := 2, ground := .phase }, { on := 3, ground := .phase }, { on := 4, ground := .phase }, { on := 5, ground := .phase }, { on := 6, ground := .phase }, { on := 7, ground := .phase }], guard := none } : Oper)) rfl (fun KK hK => ?_) AllReadyH.nil
      rw [if_pos (by rfl)]
      obtain ⟨z1_5, k1_5, f1_5⟩ := o1_5 _ hHeld7
      obtain ⟨z1_6, k1_6, f1_6⟩ := o1_6 _ hHeld7
      obtain ⟨z1_7, k1_7, f1_7⟩ := o1_7 _ hHeld7
      obtain ⟨z1_8, k1_8, f1_8⟩ := o1_8 _ hHeld7
      obtain ⟨z1_9, k1_9, f1_9⟩ := o1_9 _ hHeld7
      have N1 := nx _ hHeld7
      go_simp
      refine hK.out _ _ ?_ (fun hHeldS0 => ?_)
      · exact (s1_9 _ _ (s1_8 _ _ (s1_7 _ _ (s1_6 _ _ (s1_5 _ _ hHeld7)))))
      clear hK KK
      try simp only [Act.put, List.setIfInBounds_toArray, List.set_cons_zero, List.set_cons_succ]
      refine wpAnyH_done (by as_aux_lemma => kernel_rfl) ?_ _
      refine NoPanic.normal ?_
      have HS12 := Lib.hid N1
      clear c0_0 c0_1 c0_2 c0_3 c0_4 c0_5 c0_6 c0_7 c0_8 c0_9 c2_0 c2_1 c2_2 c3_0 c3_1 c3_2 c5_0 c5_1 c5_2 c5_3 c5_4 o1_5 s1_5 o1_6 s1_6 o1_7 s1_7 o1_8 s1_8 o1_9 s1_9 nx kS hT N1 k1_5 f1_5 k1_6 f1_6 k1_7 f1_7 k1_8 f1_8 k1_9 f1_9
      have HF := Lib.hid (show Sp w [(w.heap.size, [some (.int .i64 a.e0), some (.int .i64 a.e1), some (.int .i64 a.e2), some (.bool a.b0), some (.bool a.b1), some (.bool a.b2), some (.int .i64 a.bias), some (.int .i64 a.change), some (.int .i64 a.move), some (.int .i64 a.most)]), (w.heap.size + 1, (qc (qstepF q s0 s1 s2 s3 2)).map some), (w.heap.size + 1 + 1, [some (.int .i64 x0), some (.int .i64 x1), some (.int .i64 x2)]), (w.heap.size + 1 + 1 + 1, [some (.bool t0), some (.bool t1), some (.bool t2)]), (w.heap.size + 1 + 1 + 1 + 1, [some (.int .i64 0), some (.int .i64 0), some (.int .i64 0), some (.int .i64 0), some (.bool false), some (.int .i64 0), some (.int .i64 0), some (.int .i64 0), some (.int .i64 0), some (.bool false), some (.int .i64 0), some (.int .i64 0), some (.int .i64 0), some (.int .i64 0), some (.bool false), some (.int .i64 0), some (.int .i64 0), some (.int .i64 0), some (.int .i64 0), some (.bool false)])] _ from (HS12.out).take 5)
      clear HS12
      go_wp2_with fail
      go_roundw
      case rel => first | exact ⟨2, by omega, rfl, HF.out⟩ | ((repeat apply Exists.intro); exact ⟨⟨2, by omega, rfl, HF.out⟩, rfl⟩)
      case measure => simp [intOf]
    · skip
      have HS4 := Lib.hid (show Sp w [(w.heap.size, [some (.int .i64 a.e0), some (.int .i64 a.e1), some (.int .i64 a.e2), some (.bool a.b0), some (.bool a.b1), some (.bool a.b2), some (.int .i64 a.bias), some (.int .i64 a.change), some (.int .i64 a.move), some (.int .i64 a.most)]), (w.heap.size + 1, [some (.int .i64 s0.vL), some (.int .i64 s0.vH), some (.int .i64 s0.bL), some (.int .i64 s0.bH), some (.bool s0.ref), some (.int .i64 s1.vL), some (.int .i64 s1.vH), some (.int .i64 s1.bL), some (.int .i64 s1.bH), some (.bool s1.ref), some (.int .i64 q.h2.vL), some (.int .i64 q.h2.vH), some (.int .i64 q.h2.bL), some (.int .i64 q.h2.bH), some (.bool q.h2.ref), some (.int .i64 q.h3.vL), some (.int .i64 q.h3.vH), some (.int .i64 q.h3.bL), some (.int .i64 q.h3.bH), some (.bool q.h3.ref)]), (w.heap.size + 1 + 1, [some (.int .i64 x0), some (.int .i64 x1), some (.int .i64 x2)]), (w.heap.size + 1 + 1 + 1, [some (.bool t0), some (.bool t1), some (.bool t2)]), (w.heap.size + 1 + 1 + 1 + 1, [some (.int .i64 0), some (.int .i64 0), some (.int .i64 0), some (.int .i64 0), some (.bool false), some (.int .i64 0), some (.int .i64 0), some (.int .i64 0), some (.int .i64 0), some (.bool false), some (.int .i64 0), some (.int .i64 0), some (.int .i64 0), some (.int .i64 0), some (.bool false), some (.int .i64 0), some (.int .i64 0), some (.int .i64 0), some (.int .i64 0), some (.bool false)])] _ from hS)
      clear hS hj
      have ix : ∀ w, (Instr.index 35 (.agg (qa q)) (.int .i64 (2 : Int))).run Tryd.prog w = .ok (.agg #[.int .i64 q.h2.vL, .int .i64 q.h2.vH, .int .i64 q.h2.bL, .int .i64 q.h2.bH, .bool q.h2.ref]) w := IX.out 2 (by decide)
      go_upto_region 4 with fail
      clear ix
      have hS5 := (HS4.out).more [.int .i64 q.h2.vL, .int .i64 q.h2.vH, .int .i64 q.h2.bL, .int .i64 q.h2.bH, .bool q.h2.ref] 34
      have HS5 := Lib.hid hS5
      clear hS5 HS4
      obtain ⟨w8, hX, hS⟩ := (HS5.out).named
      rw [← hX]
      clear hX HS5
      have HS6 := Lib.hid hS
      clear hS
      have hS7 := (HS6.out).forget 1 rfl 10
      have HS7 := Lib.hid hS7
      clear hS7 HS6
      have hS8 := (HS7.out).forget 1 rfl 11
      have HS8 := Lib.hid hS8
      clear hS8 HS7
      have hS9 := (HS8.out).forget 1 rfl 12
      have HS9 := Lib.hid hS9
      clear hS9 HS8
      have hS10 := (HS9.out).forget 1 rfl 13
      have HS10 := Lib.hid hS10
      clear hS10 HS9
      have hS11 := (HS10.out).forget 1 rfl 14
      have HS11 := Lib.hid hS11
      clear hS11 HS10
      obtain ⟨bs3, hbs⟩ : ∃ bs : List (Nat × List (Option Value)), bs = [(w.heap.size, [some (.int .i64 a.e0), some (.int .i64 a.e1), some (.int .i64 a.e2), some (.bool a.b0), some (.bool a.b1), some (.bool a.b2), some (.int .i64 a.bias), some (.int .i64 a.change), some (.int .i64 a.move), some (.int .i64 a.most)]), (w.heap.size + 1, [some (.int .i64 s0.vL), some (.int .i64 s0.vH), some (.int .i64 s0.bL), some (.int .i64 s0.bH), some (.bool s0.ref), some (.int .i64 s1.vL), some (.int .i64 s1.vH), some (.int .i64 s1.bL), some (.int .i64 s1.bH), some (.bool s1.ref), none, none, none, none, none, some (.int .i64 q.h3.vL), some (.int .i64 q.h3.vH), some (.int .i64 q.h3.bL), some (.int .i64 q.h3.bH), some (.bool q.h3.ref)]), (w.heap.size + 1 + 1, [some (.int .i64 x0), some (.int .i64 x1), some (.int .i64 x2)]), (w.heap.size + 1 + 1 + 1, [some (.bool t0), some (.bool t1), some (.bool t2)]), (w.heap.size + 1 + 1 + 1 + 1, [some (.int .i64 0), some (.int .i64 0), some (.int .i64 0), some (.int .i64 0), some (.bool false), some (.int .i64 0), some (.int .i64 0), some (.int .i64 0), some (.int .i64 0), some (.bool false), some (.int .i64 0), some (.int .i64 0), some (.int .i64 0), some (.int .i64 0), some (.bool false), some (.int .i64 0), some (.int .i64 0), some (.int .i64 0), some (.int .i64 0), some (.bool false)]), (wr.heap.size, [some (.int .i64 q.h2.vL), some (.int .i64 q.h2.vH), some (.int .i64 q.h2.bL), some (.int .i64 q.h2.bH), some (.bool q.h2.ref)])] := ⟨_, rfl⟩
      have hT := (HS11.out).cast hbs
      have c0_0 : ∀ w', Sp w bs3 w' → w'.cell? ⟨w.heap.size, 0, none⟩ = some (.int .i64 a.e0) := by rw [hbs]; exact fun w' h => h.at 0 rfl 0 rfl
      have c0_1 : ∀ w', Sp w bs3 w' → w'.cell? ⟨w.heap.size, 1, none⟩ = some (.int .i64 a.e1) := by rw [hbs]; exact fun w' h => h.at 0 rfl 1 rfl
      have c0_2 : ∀ w', Sp w bs3 w' → w'.cell? ⟨w.heap.size, 2, none⟩ = some (.int .i64 a.e2) := by rw [hbs]; exact fun w' h => h.at 0 rfl 2 rfl
      have c0_3 : ∀ w', Sp w bs3 w' → w'.cell? ⟨w.heap.size, 3, none⟩ = some (.bool a.b0) := by rw [hbs]; exact fun w' h => h.at 0 rfl 3 rfl
      have c0_4 : ∀ w', Sp w bs3 w' → w'.cell? ⟨w.heap.size, 4, none⟩ = some (.bool a.b1) := by rw [hbs]; exact fun w' h => h.at 0 rfl 4 rfl
      have c0_5 : ∀ w', Sp w bs3 w' → w'.cell? ⟨w.heap.size, 5, none⟩ = some (.bool a.b2) := by rw [hbs]; exact fun w' h => h.at 0 rfl 5 rfl
      have c0_6 : ∀ w', Sp w bs3 w' → w'.cell? ⟨w.heap.size, 6, none⟩ = some (.int .i64 a.bias) := by rw [hbs]; exact fun w' h => h.at 0 rfl 6 rfl
      have c0_7 : ∀ w', Sp w bs3 w' → w'.cell? ⟨w.heap.size, 7, none⟩ = some (.int .i64 a.change) := by rw [hbs]; exact fun w' h => h.at 0 rfl 7 rfl
      have c0_8 : ∀ w', Sp w bs3 w' → w'.cell? ⟨w.heap.size, 8, none⟩ = some (.int .i64 a.move) := by rw [hbs]; exact fun w' h => h.at 0 rfl 8 rfl
      have c0_9 : ∀ w', Sp w bs3 w' → w'.cell? ⟨w.heap.size, 9, none⟩ = some (.int .i64 a.most) := by rw [hbs]; exact fun w' h => h.at 0 rfl 9 rfl
      have c2_0 : ∀ w', Sp w bs3 w' → w'.cell? ⟨w.heap.size + 1 + 1, 0, none⟩ = some (.int .i64 x0) := by rw [hbs]; exact fun w' h => h.at 2 rfl 0 rfl
      have c2_1 : ∀ w', Sp w bs3 w' → w'.cell? ⟨w.heap.size + 1 + 1, 1, none⟩ = some (.int .i64 x1) := by rw [hbs]; exact fun w' h => h.at 2 rfl 1 rfl
      have c2_2 : ∀ w', Sp w bs3 w' → w'.cell? ⟨w.heap.size + 1 + 1, 2, none⟩ = some (.int .i64 x2) := by rw [hbs]; exact fun w' h => h.at 2 rfl 2 rfl
      have c3_0 : ∀ w', Sp w bs3 w' → w'.cell? ⟨w.heap.size + 1 + 1 + 1, 0, none⟩ = some (.bool t0) := by rw [hbs]; exact fun w' h => h.at 3 rfl 0 rfl
      have c3_1 : ∀ w', Sp w bs3 w' → w'.cell? ⟨w.heap.size + 1 + 1 + 1, 1, none⟩ = some (.bool t1) := by rw [hbs]; exact fun w' h => h.at 3 rfl 1 rfl
      have c3_2 : ∀ w', Sp w bs3 w' → w'.cell? ⟨w.heap.size + 1 + 1 + 1, 2, none⟩ = some (.bool t2) := by rw [hbs]; exact fun w' h => h.at 3 rfl 2 rfl
      have c5_0 : ∀ w', Sp w bs3 w' → w'.cell? ⟨wr.heap.size, 0, none⟩ = some (.int .i64 q.h2.vL) := by rw [hbs]; exact fun w' h => h.at 5 rfl 0 rfl
      have c5_1 : ∀ w', Sp w bs3 w' → w'.cell? ⟨wr.heap.size, 1, none⟩ = some (.int .i64 q.h2.vH) := by rw [hbs]; exact fun w' h => h.at 5 rfl 1 rfl
      have c5_2 : ∀ w', Sp w bs3 w' → w'.cell? ⟨wr.heap.size, 2, none⟩ = some (.int .i64 q.h2.bL) := by rw [hbs]; exact fun w' h => h.at 5 rfl 2 rfl
      have c5_3 : ∀ w', Sp w bs3 w' → w'.cell? ⟨wr.heap.size, 3, none⟩ = some (.int .i64 q.h2.bH) := by rw [hbs]; exact fun w' h => h.at 5 rfl 3 rfl
      have c5_4 : ∀ w', Sp w bs3 w' → w'.cell? ⟨wr.heap.size, 4, none⟩ = some (.bool q.h2.ref) := by rw [hbs]; exact fun w' h => h.at 5 rfl 4 rfl
      have o1_10 : ∀ w', Sp w bs3 w' → ∃ z, w'.cell? ⟨w.heap.size + 1, 10, none⟩ = some z ∧ w'.frozen? ⟨w.heap.size + 1, 10, none⟩ = false := by rw [hbs]; exact fun w' h => h.there 1 rfl 10 rfl
      have s1_10 : ∀ w' z, Sp w bs3 w' → Sp w bs3 (w'.setCell ⟨w.heap.size + 1, 10, none⟩ z) := by rw [hbs]; exact fun w' z h => h.hit 1 rfl 10 rfl z
      have o1_11 : ∀ w', Sp w bs3 w' → ∃ z, w'.cell? ⟨w.heap.size + 1, 11, none⟩ = some z ∧ w'.frozen? ⟨w.heap.size + 1, 11, none⟩ = false := by rw [hbs]; exact fun w' h => h.there 1 rfl 11 rfl
      have s1_11 : ∀ w' z, Sp w bs3 w' → Sp w bs3 (w'.setCell ⟨w.heap.size + 1, 11, none⟩ z) := by rw [hbs]; exact fun w' z h => h.hit 1 rfl 11 rfl z
      have o1_12 : ∀ w', Sp w bs3 w' → ∃ z, w'.cell? ⟨w.heap.size + 1, 12, none⟩ = some z ∧ w'.frozen? ⟨w.heap.size + 1, 12, none⟩ = false := by rw [hbs]; exact fun w' h => h.there 1 rfl 12 rfl
      have s1_12 : ∀ w' z, Sp w bs3 w' → Sp w bs3 (w'.setCell ⟨w.heap.size + 1, 12, none⟩ z) := by rw [hbs]; exact fun w' z h => h.hit 1 rfl 12 rfl z
      have o1_13 : ∀ w', Sp w bs3 w' → ∃ z, w'.cell? ⟨w.heap.size + 1, 13, none⟩ = some z ∧ w'.frozen? ⟨w.heap.size + 1, 13, none⟩ = false := by rw [hbs]; exact fun w' h => h.there 1 rfl 13 rfl
      have s1_13 : ∀ w' z, Sp w bs3 w' → Sp w bs3 (w'.setCell ⟨w.heap.size + 1, 13, none⟩ z) := by rw [hbs]; exact fun w' z h => h.hit 1 rfl 13 rfl z
      have o1_14 : ∀ w', Sp w bs3 w' → ∃ z, w'.cell? ⟨w.heap.size + 1, 14, none⟩ = some z ∧ w'.frozen? ⟨w.heap.size + 1, 14, none⟩ = false := by rw [hbs]; exact fun w' h => h.there 1 rfl 14 rfl
      have s1_14 : ∀ w' z, Sp w bs3 w' → Sp w bs3 (w'.setCell ⟨w.heap.size + 1, 14, none⟩ z) := by rw [hbs]; exact fun w' z h => h.hit 1 rfl 14 rfl z
      have nx : ∀ w', Sp w bs3 w' → Sp w [(w.heap.size, [some (.int .i64 a.e0), some (.int .i64 a.e1), some (.int .i64 a.e2), some (.bool a.b0), some (.bool a.b1), some (.bool a.b2), some (.int .i64 a.bias), some (.int .i64 a.change), some (.int .i64 a.move), some (.int .i64 a.most)]), (w.heap.size + 1, [some (.int .i64 s0.vL), some (.int .i64 s0.vH), some (.int .i64 s0.bL), some (.int .i64 s0.bH), some (.bool s0.ref), some (.int .i64 s1.vL), some (.int .i64 s1.vH), some (.int .i64 s1.bL), some (.int .i64 s1.bH), some (.bool s1.ref), some (.int .i64 s2.vL), some (.int .i64 s2.vH), some (.int .i64 s2.bL), some (.int .i64 s2.bH), some (.bool s2.ref), some (.int .i64 q.h3.vL), some (.int .i64 q.h3.vH), some (.int .i64 q.h3.bL), some (.int .i64 q.h3.bH), some (.bool q.h3.ref)]), (w.heap.size + 1 + 1, [some (.int .i64 x0), some (.int .i64 x1), some (.int .i64 x2)]), (w.heap.size + 1 + 1 + 1, [some (.bool t0), some (.bool t1), some (.bool t2)]), (w.heap.size + 1 + 1 + 1 + 1, [some (.int .i64 0), some (.int .i64 0), some (.int .i64 0), some (.int .i64 0), some (.bool false), some (.int .i64 0), some (.int .i64 0), some (.int .i64 0), some (.int .i64 0), some (.bool false), some (.int .i64 0), some (.int .i64 0), some (.int .i64 0), some (.int .i64 0), some (.bool false), some (.int .i64 0), some (.int .i64 0), some (.int .i64 0), some (.int .i64 0), some (.bool false)]), (wr.heap.size, [some (.int .i64 q.h2.vL), some (.int .i64 q.h2.vH), some (.int .i64 q.h2.bL), some (.int .i64 q.h2.bH), some (.bool q.h2.ref)])] (((((w'.setCell ⟨w.heap.size + 1, 10, none⟩ (.int .i64 s2.vL)).setCell ⟨w.heap.size + 1, 11, none⟩ (.int .i64 s2.vH)).setCell ⟨w.heap.size + 1, 12, none⟩ (.int .i64 s2.bL)).setCell ⟨w.heap.size + 1, 13, none⟩ (.int .i64 s2.bH)).setCell ⟨w.heap.size + 1, 14, none⟩ (.bool s2.ref)) := by rw [hbs]; exact fun w' h => (((((h.put 1 rfl 10 _).put 1 rfl 11 _).put 1 rfl 12 _).put 1 rfl 13 _).put 1 rfl 14 _)
      have kS : ∀ w1 w2, Sp w bs3 w1 → Below w1.heap.size w1 w2 → Sp w bs3 w2 := fun _ _ h hb => h.keep hb
      clear hbs HS11
      change (Code.region 4 tstep4 true).wp Tryd.prog _ _ _
      refine wp_region_noPanic ?_
      refine wp_region_held_drew (S := (Sp w bs3)) (by kernel_rfl) (hT.drew) (fun hHeld => ?_)
      refine wpAnyH_take (i := 0) (oi := ({ dst := some 16, op := .move (.tmp 9), type := 3, pos := "triple.go:27", after := #[], guard := none } : Oper)) (v := ?vs3_0) rfl tstep4_plain (by as_aux_lemma => kernel_rfl) (by as_aux_lemma => kernel_rfl) (fun _ _ _ h => h) (Or.inl ⟨by rfl, ?ys3_0⟩) (by assumption) ?rs3_0
      case ys3_0 => (intro w hSw; (try dsimp only at hSw); go_simp; try with_reducible rfl)
      try simp only [Act.put, List.setIfInBounds_toArray, List.set_cons_zero, List.set_cons_succ]
      refine wpAnyH_take (i := 1) (oi := ({ dst := some 17, op := .load 25 (.tmp 4), type := 25, pos := "triple.go:27", after := #[], guard := none } : Oper)) (v := ?vs3_1) rfl tstep4_plain (by as_aux_lemma => kernel_rfl) (by as_aux_lemma => kernel_rfl) (fun _ _ _ h => h) (Or.inl ⟨by rfl, ?ys3_1⟩) (by assumption) ?rs3_1
      case ys3_1 => (intro w hSw; (try dsimp only at hSw); go_simp; try with_reducible rfl)
      try simp only [Act.put, List.setIfInBounds_toArray, List.set_cons_zero, List.set_cons_succ]
      refine wpAnyH_take (i := 2) (oi := ({ dst := some 18, op := .load 34 (.tmp 10), type := 34, pos := "triple.go:27", after := #[], guard := none } : Oper)) (v := ?vs3_2) rfl tstep4_plain (by as_aux_lemma => kernel_rfl) (by as_aux_lemma => kernel_rfl) (fun _ _ _ h => h) (Or.inl ⟨by rfl, ?ys3_2⟩) (by assumption) ?rs3_2
      case ys3_2 => (intro w hSw; (try dsimp only at hSw); go_simp; try with_reducible rfl)
      try simp only [Act.put, List.setIfInBounds_toArray, List.set_cons_zero, List.set_cons_succ]
      refine wpAnyH_take (i := 3) (oi := ({ dst := some 19, op := .move (.tmp 9), type := 3, pos := "triple.go:27", after := #[], guard := none } : Oper)) (v := ?vs3_3) rfl tstep4_plain (by as_aux_lemma => kernel_rfl) (by as_aux_lemma => kernel_rfl) (fun _ _ _ h => h) (Or.inl ⟨by rfl, ?ys3_3⟩) (by assumption) ?rs3_3
      case ys3_3 => (intro w hSw; (try dsimp only at hSw); go_simp; try with_reducible rfl)
      try simp only [Act.put, List.setIfInBounds_toArray, List.set_cons_zero, List.set_cons_succ]
      refine wpAnyH_take (i := 5) (oi := ({ dst := some 21, op := .load 22 (.tmp 6), type := 22, pos := "triple.go:27", after := #[], guard := none } : Oper)) (v := ?vs3_5) rfl tstep4_plain (by as_aux_lemma => kernel_rfl) (by as_aux_lemma => kernel_rfl) (fun _ _ _ h => h) (Or.inl ⟨by rfl, ?ys3_5⟩) (by assumption) ?rs3_5
      case ys3_5 => (intro w hSw; (try dsimp only at hSw); go_simp; try with_reducible rfl)
      try simp only [Act.put, List.setIfInBounds_toArray, List.set_cons_zero, List.set_cons_succ]
      refine wpAnyH_take (i := 6) (oi := ({ dst := some 22, op := .load 23 (.tmp 7), type := 23, pos := "triple.go:27", after := #[], guard := none } : Oper)) (v := ?vs3_6) rfl tstep4_plain (by as_aux_lemma => kernel_rfl) (by as_aux_lemma => kernel_rfl) (fun _ _ _ h => h) (Or.inl ⟨by rfl, ?ys3_6⟩) (by assumption) ?rs3_6
      case ys3_6 => (intro w hSw; (try dsimp only at hSw); go_simp; try with_reducible rfl)
      try simp only [Act.put, List.setIfInBounds_toArray, List.set_cons_zero, List.set_cons_succ]
      refine wpAnyH_ready (rs := [4]) (by as_aux_lemma => kernel_rfl) (by simp) ?_
      refine AllReadyH.cons (o := ({ dst := some 20, op := .call { callee := .value (.func 24), args := #[.tmp 19], argTypes := #[3] }, type := 3, pos := "triple.go:27", after := #[{ on := 3, ground := .data }], guard := none } : Oper)) rfl (fun KK hK => ?_) AllReadyH.nil
      rw [if_pos (by rfl)]
      go_simp
      go_at_call 24; refine (B2.out _).mono ?_; rintro e w9 ⟨rfl, hb9⟩
      go_wp2_with fail
      refine hK.out _ _ ?_ (fun hHeld9 => ?_)
      · exact kS _ _ (by assumption) hb9
      clear hK KK hb9
      try simp only [Act.put, List.setIfInBounds_toArray, List.set_cons_zero, List.set_cons_succ]
      refine wpAnyH_ready (rs := [7]) (by as_aux_lemma => kernel_rfl) (by simp) ?_
      refine AllReadyH.cons (o := ({ dst := some 23, op := .call { callee := .value (.func 23), args := #[.tmp 17, .tmp 18, .tmp 20, .tmp 21, .tmp 22], argTypes := #[25, 34, 3, 22, 23] }, type := 34, pos := "triple.go:27", after := #[{ on := 1, ground := .data }, { on := 2, ground := .data }, { on := 4, ground := .data }, { on := 5, ground := .data }, { on := 6, ground := .data }, { on := 4, ground := .chain }], guard := none } : Oper)) rfl (fun KK hK => ?_) AllReadyH.nil
      rw [if_pos (by rfl)]
      go_simp
      go_at_call 23; refine (S2.out _ (Sp.below (by assumption))).mono ?_; rintro e w10 ⟨rfl, hb10⟩
      go_wp2_with fail
      refine hK.out _ _ ?_ (fun hHeld10 => ?_)
      · exact kS _ _ (by assumption) hb10
      clear hK KK hb10 hHeld9
      try simp only [Act.put, List.setIfInBounds_toArray, List.set_cons_zero, List.set_cons_succ]
      refine wpAnyH_take (i := 8) (oi := ({ dst := some 24, op := .indexAddr 35 (.tmp 5) (.tmp 16), type := 0, pos := "triple.go:27", after := #[{ on := 0, ground := .data }, { on := 0, ground := .phase }, { on := 1, ground := .phase }, { on := 2, ground := .phase }, { on := 3, ground := .phase }, { on := 4, ground := .phase }, { on := 5, ground := .phase }, { on := 6, ground := .phase }, { on := 7, ground := .phase }], guard := none } : Oper)) (v := ?vs3_8) rfl tstep4_plain (by as_aux_lemma => kernel_rfl) (by as_aux_lemma => kernel_rfl) (fun _ _ _ h => h) (Or.inl ⟨by rfl, ?ys3_8⟩) (by assumption) ?rs3_8
      case ys3_8 => (intro w hSw; (try dsimp only at hSw); go_simp; try with_reducible rfl)
      try simp only [Act.put, List.setIfInBounds_toArray, List.set_cons_zero, List.set_cons_succ]
      refine wpAnyH_ready (rs := [9]) (by as_aux_lemma => kernel_rfl) (by simp) ?_
      refine AllReadyH.cons (o := ({ dst := none, op := .store 34 (.tmp 24) (.tmp 23), type := 0, pos := "triple.go:27", after := #[{ on := 8, ground := .data }, { on := 7, ground := .data }, { on := 7, ground := .chain }, { on := 0, ground := .phase }, { on := 1, ground := .phase }, { on := 2, ground := .phase }, { on := 3, ground := .phase }, { on := 4, ground := .phase }, { on := 5, ground := .phase }, { on := 6, ground := .phase }, { on := 7, ground := .phase }], guard := none } : Oper)) rfl (fun KK hK => ?_) AllReadyH.nil
      rw [if_pos (by rfl)]
      obtain ⟨z1_10, k1_10, f1_10⟩ := o1_10 _ hHeld10
      obtain ⟨z1_11, k1_11, f1_11⟩ := o1_11 _ hHeld10
      obtain ⟨z1_12, k1_12, f1_12⟩ := o1_12 _ hHeld10
      obtain ⟨z1_13, k1_13, f1_13⟩ := o1_13 _ hHeld10
      obtain ⟨z1_14, k1_14, f1_14⟩ := o1_14 _ hHeld10
      have N1 := nx _ hHeld10
      go_simp
      refine hK.out _ _ ?_ (fun hHeldS0 => ?_)
      · exact (s1_14 _ _ (s1_13 _ _ (s1_12 _ _ (s1_11 _ _ (s1_10 _ _ hHeld10)))))
      clear hK KK
      try simp only [Act.put, List.setIfInBounds_toArray, List.set_cons_zero, List.set_cons_succ]
      refine wpAnyH_done (by as_aux_lemma => kernel_rfl) ?_ _
      refine NoPanic.normal ?_
      have HS12 := Lib.hid N1
      clear c0_0 c0_1 c0_2 c0_3 c0_4 c0_5 c0_6 c0_7 c0_8 c0_9 c2_0 c2_1 c2_2 c3_0 c3_1 c3_2 c5_0 c5_1 c5_2 c5_3 c5_4 o1_10 s1_10 o1_11 s1_11 o1_12 s1_12 o1_13 s1_13 o1_14 s1_14 nx kS hT N1 k1_10 f1_10 k1_11 f1_11 k1_12 f1_12 k1_13 f1_13 k1_14 f1_14
      have HF := Lib.hid (show Sp w [(w.heap.size, [some (.int .i64 a.e0), some (.int .i64 a.e1), some (.int .i64 a.e2), some (.bool a.b0), some (.bool a.b1), some (.bool a.b2), some (.int .i64 a.bias), some (.int .i64 a.change), some (.int .i64 a.move), some (.int .i64 a.most)]), (w.heap.size + 1, (qc (qstepF q s0 s1 s2 s3 3)).map some), (w.heap.size + 1 + 1, [some (.int .i64 x0), some (.int .i64 x1), some (.int .i64 x2)]), (w.heap.size + 1 + 1 + 1, [some (.bool t0), some (.bool t1), some (.bool t2)]), (w.heap.size + 1 + 1 + 1 + 1, [some (.int .i64 0), some (.int .i64 0), some (.int .i64 0), some (.int .i64 0), some (.bool false), some (.int .i64 0), some (.int .i64 0), some (.int .i64 0), some (.int .i64 0), some (.bool false), some (.int .i64 0), some (.int .i64 0), some (.int .i64 0), some (.int .i64 0), some (.bool false), some (.int .i64 0), some (.int .i64 0), some (.int .i64 0), some (.int .i64 0), some (.bool false)])] _ from (HS12.out).take 5)
      clear HS12
      go_wp2_with fail
      go_roundw
      case rel => first | exact ⟨3, by omega, rfl, HF.out⟩ | ((repeat apply Exists.intro); exact ⟨⟨3, by omega, rfl, HF.out⟩, rfl⟩)
      case measure => simp [intOf]
    · skip
      have HS4 := Lib.hid (show Sp w [(w.heap.size, [some (.int .i64 a.e0), some (.int .i64 a.e1), some (.int .i64 a.e2), some (.bool a.b0), some (.bool a.b1), some (.bool a.b2), some (.int .i64 a.bias), some (.int .i64 a.change), some (.int .i64 a.move), some (.int .i64 a.most)]), (w.heap.size + 1, [some (.int .i64 s0.vL), some (.int .i64 s0.vH), some (.int .i64 s0.bL), some (.int .i64 s0.bH), some (.bool s0.ref), some (.int .i64 s1.vL), some (.int .i64 s1.vH), some (.int .i64 s1.bL), some (.int .i64 s1.bH), some (.bool s1.ref), some (.int .i64 s2.vL), some (.int .i64 s2.vH), some (.int .i64 s2.bL), some (.int .i64 s2.bH), some (.bool s2.ref), some (.int .i64 q.h3.vL), some (.int .i64 q.h3.vH), some (.int .i64 q.h3.bL), some (.int .i64 q.h3.bH), some (.bool q.h3.ref)]), (w.heap.size + 1 + 1, [some (.int .i64 x0), some (.int .i64 x1), some (.int .i64 x2)]), (w.heap.size + 1 + 1 + 1, [some (.bool t0), some (.bool t1), some (.bool t2)]), (w.heap.size + 1 + 1 + 1 + 1, [some (.int .i64 0), some (.int .i64 0), some (.int .i64 0), some (.int .i64 0), some (.bool false), some (.int .i64 0), some (.int .i64 0), some (.int .i64 0), some (.int .i64 0), some (.bool false), some (.int .i64 0), some (.int .i64 0), some (.int .i64 0), some (.int .i64 0), some (.bool false), some (.int .i64 0), some (.int .i64 0), some (.int .i64 0), some (.int .i64 0), some (.bool false)])] _ from hS)
      clear hS hj
      have ix : ∀ w, (Instr.index 35 (.agg (qa q)) (.int .i64 (3 : Int))).run Tryd.prog w = .ok (.agg #[.int .i64 q.h3.vL, .int .i64 q.h3.vH, .int .i64 q.h3.bL, .int .i64 q.h3.bH, .bool q.h3.ref]) w := IX.out 3 (by decide)
      go_upto_region 4 with fail
      clear ix
      have hS5 := (HS4.out).more [.int .i64 q.h3.vL, .int .i64 q.h3.vH, .int .i64 q.h3.bL, .int .i64 q.h3.bH, .bool q.h3.ref] 34
      have HS5 := Lib.hid hS5
      clear hS5 HS4
      obtain ⟨w11, hX, hS⟩ := (HS5.out).named
      rw [← hX]
      clear hX HS5
      have HS6 := Lib.hid hS
      clear hS
      have hS7 := (HS6.out).forget 1 rfl 15
      have HS7 := Lib.hid hS7
      clear hS7 HS6
      have hS8 := (HS7.out).forget 1 rfl 16
      have HS8 := Lib.hid hS8
      clear hS8 HS7
      have hS9 := (HS8.out).forget 1 rfl 17
      have HS9 := Lib.hid hS9
      clear hS9 HS8
      have hS10 := (HS9.out).forget 1 rfl 18
      have HS10 := Lib.hid hS10
      clear hS10 HS9
      have hS11 := (HS10.out).forget 1 rfl 19
      have HS11 := Lib.hid hS11
      clear hS11 HS10
      obtain ⟨bs4, hbs⟩ : ∃ bs : List (Nat × List (Option Value)), bs = [(w.heap.size, [some (.int .i64 a.e0), some (.int .i64 a.e1), some (.int .i64 a.e2), some (.bool a.b0), some (.bool a.b1), some (.bool a.b2), some (.int .i64 a.bias), some (.int .i64 a.change), some (.int .i64 a.move), some (.int .i64 a.most)]), (w.heap.size + 1, [some (.int .i64 s0.vL), some (.int .i64 s0.vH), some (.int .i64 s0.bL), some (.int .i64 s0.bH), some (.bool s0.ref), some (.int .i64 s1.vL), some (.int .i64 s1.vH), some (.int .i64 s1.bL), some (.int .i64 s1.bH), some (.bool s1.ref), some (.int .i64 s2.vL), some (.int .i64 s2.vH), some (.int .i64 s2.bL), some (.int .i64 s2.bH), some (.bool s2.ref), none, none, none, none, none]), (w.heap.size + 1 + 1, [some (.int .i64 x0), some (.int .i64 x1), some (.int .i64 x2)]), (w.heap.size + 1 + 1 + 1, [some (.bool t0), some (.bool t1), some (.bool t2)]), (w.heap.size + 1 + 1 + 1 + 1, [some (.int .i64 0), some (.int .i64 0), some (.int .i64 0), some (.int .i64 0), some (.bool false), some (.int .i64 0), some (.int .i64 0), some (.int .i64 0), some (.int .i64 0), some (.bool false), some (.int .i64 0), some (.int .i64 0), some (.int .i64 0), some (.int .i64 0), some (.bool false), some (.int .i64 0), some (.int .i64 0), some (.int .i64 0), some (.int .i64 0), some (.bool false)]), (wr.heap.size, [some (.int .i64 q.h3.vL), some (.int .i64 q.h3.vH), some (.int .i64 q.h3.bL), some (.int .i64 q.h3.bH), some (.bool q.h3.ref)])] := ⟨_, rfl⟩
      have hT := (HS11.out).cast hbs
      have c0_0 : ∀ w', Sp w bs4 w' → w'.cell? ⟨w.heap.size, 0, none⟩ = some (.int .i64 a.e0) := by rw [hbs]; exact fun w' h => h.at 0 rfl 0 rfl
      have c0_1 : ∀ w', Sp w bs4 w' → w'.cell? ⟨w.heap.size, 1, none⟩ = some (.int .i64 a.e1) := by rw [hbs]; exact fun w' h => h.at 0 rfl 1 rfl
      have c0_2 : ∀ w', Sp w bs4 w' → w'.cell? ⟨w.heap.size, 2, none⟩ = some (.int .i64 a.e2) := by rw [hbs]; exact fun w' h => h.at 0 rfl 2 rfl
      have c0_3 : ∀ w', Sp w bs4 w' → w'.cell? ⟨w.heap.size, 3, none⟩ = some (.bool a.b0) := by rw [hbs]; exact fun w' h => h.at 0 rfl 3 rfl
      have c0_4 : ∀ w', Sp w bs4 w' → w'.cell? ⟨w.heap.size, 4, none⟩ = some (.bool a.b1) := by rw [hbs]; exact fun w' h => h.at 0 rfl 4 rfl
      have c0_5 : ∀ w', Sp w bs4 w' → w'.cell? ⟨w.heap.size, 5, none⟩ = some (.bool a.b2) := by rw [hbs]; exact fun w' h => h.at 0 rfl 5 rfl
      have c0_6 : ∀ w', Sp w bs4 w' → w'.cell? ⟨w.heap.size, 6, none⟩ = some (.int .i64 a.bias) := by rw [hbs]; exact fun w' h => h.at 0 rfl 6 rfl
      have c0_7 : ∀ w', Sp w bs4 w' → w'.cell? ⟨w.heap.size, 7, none⟩ = some (.int .i64 a.change) := by rw [hbs]; exact fun w' h => h.at 0 rfl 7 rfl
      have c0_8 : ∀ w', Sp w bs4 w' → w'.cell? ⟨w.heap.size, 8, none⟩ = some (.int .i64 a.move) := by rw [hbs]; exact fun w' h => h.at 0 rfl 8 rfl
      have c0_9 : ∀ w', Sp w bs4 w' → w'.cell? ⟨w.heap.size, 9, none⟩ = some (.int .i64 a.most) := by rw [hbs]; exact fun w' h => h.at 0 rfl 9 rfl
      have c2_0 : ∀ w', Sp w bs4 w' → w'.cell? ⟨w.heap.size + 1 + 1, 0, none⟩ = some (.int .i64 x0) := by rw [hbs]; exact fun w' h => h.at 2 rfl 0 rfl
      have c2_1 : ∀ w', Sp w bs4 w' → w'.cell? ⟨w.heap.size + 1 + 1, 1, none⟩ = some (.int .i64 x1) := by rw [hbs]; exact fun w' h => h.at 2 rfl 1 rfl
      have c2_2 : ∀ w', Sp w bs4 w' → w'.cell? ⟨w.heap.size + 1 + 1, 2, none⟩ = some (.int .i64 x2) := by rw [hbs]; exact fun w' h => h.at 2 rfl 2 rfl
      have c3_0 : ∀ w', Sp w bs4 w' → w'.cell? ⟨w.heap.size + 1 + 1 + 1, 0, none⟩ = some (.bool t0) := by rw [hbs]; exact fun w' h => h.at 3 rfl 0 rfl
      have c3_1 : ∀ w', Sp w bs4 w' → w'.cell? ⟨w.heap.size + 1 + 1 + 1, 1, none⟩ = some (.bool t1) := by rw [hbs]; exact fun w' h => h.at 3 rfl 1 rfl
      have c3_2 : ∀ w', Sp w bs4 w' → w'.cell? ⟨w.heap.size + 1 + 1 + 1, 2, none⟩ = some (.bool t2) := by rw [hbs]; exact fun w' h => h.at 3 rfl 2 rfl
      have c5_0 : ∀ w', Sp w bs4 w' → w'.cell? ⟨wr.heap.size, 0, none⟩ = some (.int .i64 q.h3.vL) := by rw [hbs]; exact fun w' h => h.at 5 rfl 0 rfl
      have c5_1 : ∀ w', Sp w bs4 w' → w'.cell? ⟨wr.heap.size, 1, none⟩ = some (.int .i64 q.h3.vH) := by rw [hbs]; exact fun w' h => h.at 5 rfl 1 rfl
      have c5_2 : ∀ w', Sp w bs4 w' → w'.cell? ⟨wr.heap.size, 2, none⟩ = some (.int .i64 q.h3.bL) := by rw [hbs]; exact fun w' h => h.at 5 rfl 2 rfl
      have c5_3 : ∀ w', Sp w bs4 w' → w'.cell? ⟨wr.heap.size, 3, none⟩ = some (.int .i64 q.h3.bH) := by rw [hbs]; exact fun w' h => h.at 5 rfl 3 rfl
      have c5_4 : ∀ w', Sp w bs4 w' → w'.cell? ⟨wr.heap.size, 4, none⟩ = some (.bool q.h3.ref) := by rw [hbs]; exact fun w' h => h.at 5 rfl 4 rfl
      have o1_15 : ∀ w', Sp w bs4 w' → ∃ z, w'.cell? ⟨w.heap.size + 1, 15, none⟩ = some z ∧ w'.frozen? ⟨w.heap.size + 1, 15, none⟩ = false := by rw [hbs]; exact fun w' h => h.there 1 rfl 15 rfl
      have s1_15 : ∀ w' z, Sp w bs4 w' → Sp w bs4 (w'.setCell ⟨w.heap.size + 1, 15, none⟩ z) := by rw [hbs]; exact fun w' z h => h.hit 1 rfl 15 rfl z
      have o1_16 : ∀ w', Sp w bs4 w' → ∃ z, w'.cell? ⟨w.heap.size + 1, 16, none⟩ = some z ∧ w'.frozen? ⟨w.heap.size + 1, 16, none⟩ = false := by rw [hbs]; exact fun w' h => h.there 1 rfl 16 rfl
      have s1_16 : ∀ w' z, Sp w bs4 w' → Sp w bs4 (w'.setCell ⟨w.heap.size + 1, 16, none⟩ z) := by rw [hbs]; exact fun w' z h => h.hit 1 rfl 16 rfl z
      have o1_17 : ∀ w', Sp w bs4 w' → ∃ z, w'.cell? ⟨w.heap.size + 1, 17, none⟩ = some z ∧ w'.frozen? ⟨w.heap.size + 1, 17, none⟩ = false := by rw [hbs]; exact fun w' h => h.there 1 rfl 17 rfl
      have s1_17 : ∀ w' z, Sp w bs4 w' → Sp w bs4 (w'.setCell ⟨w.heap.size + 1, 17, none⟩ z) := by rw [hbs]; exact fun w' z h => h.hit 1 rfl 17 rfl z
      have o1_18 : ∀ w', Sp w bs4 w' → ∃ z, w'.cell? ⟨w.heap.size + 1, 18, none⟩ = some z ∧ w'.frozen? ⟨w.heap.size + 1, 18, none⟩ = false := by rw [hbs]; exact fun w' h => h.there 1 rfl 18 rfl
      have s1_18 : ∀ w' z, Sp w bs4 w' → Sp w bs4 (w'.setCell ⟨w.heap.size + 1, 18, none⟩ z) := by rw [hbs]; exact fun w' z h => h.hit 1 rfl 18 rfl z
      have o1_19 : ∀ w', Sp w bs4 w' → ∃ z, w'.cell? ⟨w.heap.size + 1, 19, none⟩ = some z ∧ w'.frozen? ⟨w.heap.size + 1, 19, none⟩ = false := by rw [hbs]; exact fun w' h => h.there 1 rfl 19 rfl
      have s1_19 : ∀ w' z, Sp w bs4 w' → Sp w bs4 (w'.setCell ⟨w.heap.size + 1, 19, none⟩ z) := by rw [hbs]; exact fun w' z h => h.hit 1 rfl 19 rfl z
      have nx : ∀ w', Sp w bs4 w' → Sp w [(w.heap.size, [some (.int .i64 a.e0), some (.int .i64 a.e1), some (.int .i64 a.e2), some (.bool a.b0), some (.bool a.b1), some (.bool a.b2), some (.int .i64 a.bias), some (.int .i64 a.change), some (.int .i64 a.move), some (.int .i64 a.most)]), (w.heap.size + 1, [some (.int .i64 s0.vL), some (.int .i64 s0.vH), some (.int .i64 s0.bL), some (.int .i64 s0.bH), some (.bool s0.ref), some (.int .i64 s1.vL), some (.int .i64 s1.vH), some (.int .i64 s1.bL), some (.int .i64 s1.bH), some (.bool s1.ref), some (.int .i64 s2.vL), some (.int .i64 s2.vH), some (.int .i64 s2.bL), some (.int .i64 s2.bH), some (.bool s2.ref), some (.int .i64 s3.vL), some (.int .i64 s3.vH), some (.int .i64 s3.bL), some (.int .i64 s3.bH), some (.bool s3.ref)]), (w.heap.size + 1 + 1, [some (.int .i64 x0), some (.int .i64 x1), some (.int .i64 x2)]), (w.heap.size + 1 + 1 + 1, [some (.bool t0), some (.bool t1), some (.bool t2)]), (w.heap.size + 1 + 1 + 1 + 1, [some (.int .i64 0), some (.int .i64 0), some (.int .i64 0), some (.int .i64 0), some (.bool false), some (.int .i64 0), some (.int .i64 0), some (.int .i64 0), some (.int .i64 0), some (.bool false), some (.int .i64 0), some (.int .i64 0), some (.int .i64 0), some (.int .i64 0), some (.bool false), some (.int .i64 0), some (.int .i64 0), some (.int .i64 0), some (.int .i64 0), some (.bool false)]), (wr.heap.size, [some (.int .i64 q.h3.vL), some (.int .i64 q.h3.vH), some (.int .i64 q.h3.bL), some (.int .i64 q.h3.bH), some (.bool q.h3.ref)])] (((((w'.setCell ⟨w.heap.size + 1, 15, none⟩ (.int .i64 s3.vL)).setCell ⟨w.heap.size + 1, 16, none⟩ (.int .i64 s3.vH)).setCell ⟨w.heap.size + 1, 17, none⟩ (.int .i64 s3.bL)).setCell ⟨w.heap.size + 1, 18, none⟩ (.int .i64 s3.bH)).setCell ⟨w.heap.size + 1, 19, none⟩ (.bool s3.ref)) := by rw [hbs]; exact fun w' h => (((((h.put 1 rfl 15 _).put 1 rfl 16 _).put 1 rfl 17 _).put 1 rfl 18 _).put 1 rfl 19 _)
      have kS : ∀ w1 w2, Sp w bs4 w1 → Below w1.heap.size w1 w2 → Sp w bs4 w2 := fun _ _ h hb => h.keep hb
      clear hbs HS11
      change (Code.region 4 tstep4 true).wp Tryd.prog _ _ _
      refine wp_region_noPanic ?_
      refine wp_region_held_drew (S := (Sp w bs4)) (by kernel_rfl) (hT.drew) (fun hHeld => ?_)
      refine wpAnyH_take (i := 0) (oi := ({ dst := some 16, op := .move (.tmp 9), type := 3, pos := "triple.go:27", after := #[], guard := none } : Oper)) (v := ?vs4_0) rfl tstep4_plain (by as_aux_lemma => kernel_rfl) (by as_aux_lemma => kernel_rfl) (fun _ _ _ h => h) (Or.inl ⟨by rfl, ?ys4_0⟩) (by assumption) ?rs4_0
      case ys4_0 => (intro w hSw; (try dsimp only at hSw); go_simp; try with_reducible rfl)
      try simp only [Act.put, List.setIfInBounds_toArray, List.set_cons_zero, List.set_cons_succ]
      refine wpAnyH_take (i := 1) (oi := ({ dst := some 17, op := .load 25 (.tmp 4), type := 25, pos := "triple.go:27", after := #[], guard := none } : Oper)) (v := ?vs4_1) rfl tstep4_plain (by as_aux_lemma => kernel_rfl) (by as_aux_lemma => kernel_rfl) (fun _ _ _ h => h) (Or.inl ⟨by rfl, ?ys4_1⟩) (by assumption) ?rs4_1
      case ys4_1 => (intro w hSw; (try dsimp only at hSw); go_simp; try with_reducible rfl)
      try simp only [Act.put, List.setIfInBounds_toArray, List.set_cons_zero, List.set_cons_succ]
      refine wpAnyH_take (i := 2) (oi := ({ dst := some 18, op := .load 34 (.tmp 10), type := 34, pos := "triple.go:27", after := #[], guard := none } : Oper)) (v := ?vs4_2) rfl tstep4_plain (by as_aux_lemma => kernel_rfl) (by as_aux_lemma => kernel_rfl) (fun _ _ _ h => h) (Or.inl ⟨by rfl, ?ys4_2⟩) (by assumption) ?rs4_2
      case ys4_2 => (intro w hSw; (try dsimp only at hSw); go_simp; try with_reducible rfl)
      try simp only [Act.put, List.setIfInBounds_toArray, List.set_cons_zero, List.set_cons_succ]
      refine wpAnyH_take (i := 3) (oi := ({ dst := some 19, op := .move (.tmp 9), type := 3, pos := "triple.go:27", after := #[], guard := none } : Oper)) (v := ?vs4_3) rfl tstep4_plain (by as_aux_lemma => kernel_rfl) (by as_aux_lemma => kernel_rfl) (fun _ _ _ h => h) (Or.inl ⟨by rfl, ?ys4_3⟩) (by assumption) ?rs4_3
      case ys4_3 => (intro w hSw; (try dsimp only at hSw); go_simp; try with_reducible rfl)
      try simp only [Act.put, List.setIfInBounds_toArray, List.set_cons_zero, List.set_cons_succ]
      refine wpAnyH_take (i := 5) (oi := ({ dst := some 21, op := .load 22 (.tmp 6), type := 22, pos := "triple.go:27", after := #[], guard := none } : Oper)) (v := ?vs4_5) rfl tstep4_plain (by as_aux_lemma => kernel_rfl) (by as_aux_lemma => kernel_rfl) (fun _ _ _ h => h) (Or.inl ⟨by rfl, ?ys4_5⟩) (by assumption) ?rs4_5
      case ys4_5 => (intro w hSw; (try dsimp only at hSw); go_simp; try with_reducible rfl)
      try simp only [Act.put, List.setIfInBounds_toArray, List.set_cons_zero, List.set_cons_succ]
      refine wpAnyH_take (i := 6) (oi := ({ dst := some 22, op := .load 23 (.tmp 7), type := 23, pos := "triple.go:27", after := #[], guard := none } : Oper)) (v := ?vs4_6) rfl tstep4_plain (by as_aux_lemma => kernel_rfl) (by as_aux_lemma => kernel_rfl) (fun _ _ _ h => h) (Or.inl ⟨by rfl, ?ys4_6⟩) (by assumption) ?rs4_6
      case ys4_6 => (intro w hSw; (try dsimp only at hSw); go_simp; try with_reducible rfl)
      try simp only [Act.put, List.setIfInBounds_toArray, List.set_cons_zero, List.set_cons_succ]
      refine wpAnyH_ready (rs := [4]) (by as_aux_lemma => kernel_rfl) (by simp) ?_
      refine AllReadyH.cons (o := ({ dst := some 20, op := .call { callee := .value (.func 24), args := #[.tmp 19], argTypes := #[3] }, type := 3, pos := "triple.go:27", after := #[{ on := 3, ground := .data }], guard := none } : Oper)) rfl (fun KK hK => ?_) AllReadyH.nil
      rw [if_pos (by rfl)]
      go_simp
      go_at_call 24; refine (B3.out _).mono ?_; rintro e w12 ⟨rfl, hb12⟩
      go_wp2_with fail
      refine hK.out _ _ ?_ (fun hHeld12 => ?_)
      · exact kS _ _ (by assumption) hb12
      clear hK KK hb12
      try simp only [Act.put, List.setIfInBounds_toArray, List.set_cons_zero, List.set_cons_succ]
      refine wpAnyH_ready (rs := [7]) (by as_aux_lemma => kernel_rfl) (by simp) ?_
      refine AllReadyH.cons (o := ({ dst := some 23, op := .call { callee := .value (.func 23), args := #[.tmp 17, .tmp 18, .tmp 20, .tmp 21, .tmp 22], argTypes := #[25, 34, 3, 22, 23] }, type := 34, pos := "triple.go:27", after := #[{ on := 1, ground := .data }, { on := 2, ground := .data }, { on := 4, ground := .data }, { on := 5, ground := .data }, { on := 6, ground := .data }, { on := 4, ground := .chain }], guard := none } : Oper)) rfl (fun KK hK => ?_) AllReadyH.nil
      rw [if_pos (by rfl)]
      go_simp
      go_at_call 23; refine (S3.out _ (Sp.below (by assumption))).mono ?_; rintro e w13 ⟨rfl, hb13⟩
      go_wp2_with fail
      refine hK.out _ _ ?_ (fun hHeld13 => ?_)
      · exact kS _ _ (by assumption) hb13
      clear hK KK hb13 hHeld12
      try simp only [Act.put, List.setIfInBounds_toArray, List.set_cons_zero, List.set_cons_succ]
      refine wpAnyH_take (i := 8) (oi := ({ dst := some 24, op := .indexAddr 35 (.tmp 5) (.tmp 16), type := 0, pos := "triple.go:27", after := #[{ on := 0, ground := .data }, { on := 0, ground := .phase }, { on := 1, ground := .phase }, { on := 2, ground := .phase }, { on := 3, ground := .phase }, { on := 4, ground := .phase }, { on := 5, ground := .phase }, { on := 6, ground := .phase }, { on := 7, ground := .phase }], guard := none } : Oper)) (v := ?vs4_8) rfl tstep4_plain (by as_aux_lemma => kernel_rfl) (by as_aux_lemma => kernel_rfl) (fun _ _ _ h => h) (Or.inl ⟨by rfl, ?ys4_8⟩) (by assumption) ?rs4_8
      case ys4_8 => (intro w hSw; (try dsimp only at hSw); go_simp; try with_reducible rfl)
      try simp only [Act.put, List.setIfInBounds_toArray, List.set_cons_zero, List.set_cons_succ]
      refine wpAnyH_ready (rs := [9]) (by as_aux_lemma => kernel_rfl) (by simp) ?_
      refine AllReadyH.cons (o := ({ dst := none, op := .store 34 (.tmp 24) (.tmp 23), type := 0, pos := "triple.go:27", after := #[{ on := 8, ground := .data }, { on := 7, ground := .data }, { on := 7, ground := .chain }, { on := 0, ground := .phase }, { on := 1, ground := .phase }, { on := 2, ground := .phase }, { on := 3, ground := .phase }, { on := 4, ground := .phase }, { on := 5, ground := .phase }, { on := 6, ground := .phase }, { on := 7, ground := .phase }], guard := none } : Oper)) rfl (fun KK hK => ?_) AllReadyH.nil
      rw [if_pos (by rfl)]
      obtain ⟨z1_15, k1_15, f1_15⟩ := o1_15 _ hHeld13
      obtain ⟨z1_16, k1_16, f1_16⟩ := o1_16 _ hHeld13
      obtain ⟨z1_17, k1_17, f1_17⟩ := o1_17 _ hHeld13
      obtain ⟨z1_18, k1_18, f1_18⟩ := o1_18 _ hHeld13
      obtain ⟨z1_19, k1_19, f1_19⟩ := o1_19 _ hHeld13
      have N1 := nx _ hHeld13
      go_simp
      refine hK.out _ _ ?_ (fun hHeldS0 => ?_)
      · exact (s1_19 _ _ (s1_18 _ _ (s1_17 _ _ (s1_16 _ _ (s1_15 _ _ hHeld13)))))
      clear hK KK
      try simp only [Act.put, List.setIfInBounds_toArray, List.set_cons_zero, List.set_cons_succ]
      refine wpAnyH_done (by as_aux_lemma => kernel_rfl) ?_ _
      refine NoPanic.normal ?_
      have HS12 := Lib.hid N1
      clear c0_0 c0_1 c0_2 c0_3 c0_4 c0_5 c0_6 c0_7 c0_8 c0_9 c2_0 c2_1 c2_2 c3_0 c3_1 c3_2 c5_0 c5_1 c5_2 c5_3 c5_4 o1_15 s1_15 o1_16 s1_16 o1_17 s1_17 o1_18 s1_18 o1_19 s1_19 nx kS hT N1 k1_15 f1_15 k1_16 f1_16 k1_17 f1_17 k1_18 f1_18 k1_19 f1_19
      have HF := Lib.hid (show Sp w [(w.heap.size, [some (.int .i64 a.e0), some (.int .i64 a.e1), some (.int .i64 a.e2), some (.bool a.b0), some (.bool a.b1), some (.bool a.b2), some (.int .i64 a.bias), some (.int .i64 a.change), some (.int .i64 a.move), some (.int .i64 a.most)]), (w.heap.size + 1, (qc (qstepF q s0 s1 s2 s3 4)).map some), (w.heap.size + 1 + 1, [some (.int .i64 x0), some (.int .i64 x1), some (.int .i64 x2)]), (w.heap.size + 1 + 1 + 1, [some (.bool t0), some (.bool t1), some (.bool t2)]), (w.heap.size + 1 + 1 + 1 + 1, [some (.int .i64 0), some (.int .i64 0), some (.int .i64 0), some (.int .i64 0), some (.bool false), some (.int .i64 0), some (.int .i64 0), some (.int .i64 0), some (.int .i64 0), some (.bool false), some (.int .i64 0), some (.int .i64 0), some (.int .i64 0), some (.int .i64 0), some (.bool false), some (.int .i64 0), some (.int .i64 0), some (.int .i64 0), some (.int .i64 0), some (.bool false)])] _ from (HS12.out).take 5)
      clear HS12
      go_wp2_with fail
      go_roundw
      case rel => first | exact ⟨4, by omega, rfl, HF.out⟩ | ((repeat apply Exists.intro); exact ⟨⟨4, by omega, rfl, HF.out⟩, rfl⟩)
      case measure => simp [intOf]
    · skip
      have HS4 := Lib.hid (show Sp w [(w.heap.size, [some (.int .i64 a.e0), some (.int .i64 a.e1), some (.int .i64 a.e2), some (.bool a.b0), some (.bool a.b1), some (.bool a.b2), some (.int .i64 a.bias), some (.int .i64 a.change), some (.int .i64 a.move), some (.int .i64 a.most)]), (w.heap.size + 1, [some (.int .i64 s0.vL), some (.int .i64 s0.vH), some (.int .i64 s0.bL), some (.int .i64 s0.bH), some (.bool s0.ref), some (.int .i64 s1.vL), some (.int .i64 s1.vH), some (.int .i64 s1.bL), some (.int .i64 s1.bH), some (.bool s1.ref), some (.int .i64 s2.vL), some (.int .i64 s2.vH), some (.int .i64 s2.bL), some (.int .i64 s2.bH), some (.bool s2.ref), some (.int .i64 s3.vL), some (.int .i64 s3.vH), some (.int .i64 s3.bL), some (.int .i64 s3.bH), some (.bool s3.ref)]), (w.heap.size + 1 + 1, [some (.int .i64 x0), some (.int .i64 x1), some (.int .i64 x2)]), (w.heap.size + 1 + 1 + 1, [some (.bool t0), some (.bool t1), some (.bool t2)]), (w.heap.size + 1 + 1 + 1 + 1, [some (.int .i64 0), some (.int .i64 0), some (.int .i64 0), some (.int .i64 0), some (.bool false), some (.int .i64 0), some (.int .i64 0), some (.int .i64 0), some (.int .i64 0), some (.bool false), some (.int .i64 0), some (.int .i64 0), some (.int .i64 0), some (.int .i64 0), some (.bool false), some (.int .i64 0), some (.int .i64 0), some (.int .i64 0), some (.int .i64 0), some (.bool false)])] _ from hS)
      clear hS hj
      have HA := Lib.hid ((HS4.out).range 1 (l := (qc ⟨s0, s1, s2, s3⟩)) rfl)
      have HT := Lib.hid ((HS4.out).free_row 4 rfl (n := 20) rfl)
      have HF := Lib.hid ((HS4.out).row 4 rfl (qc ⟨s0, s1, s2, s3⟩) rfl)
      have HR := Lib.hid (HF.out.range 4 (l := (qc ⟨s0, s1, s2, s3⟩)) rfl)
      have HB := Lib.hid HF.out.below
      clear HF HS4 IX B0 B1 B2 B3 S0 S1 S2 S3
      go_wp2_with (first | (refine list_load_any rfl 35 _ rfl _ 0 rfl (qa ⟨s0, s1, s2, s3⟩) _ HA.out Tryd.underlying35 rfl HJ.out ?_) | (refine wpList_store_mid rfl 35 _ _ rfl (w.heap.size + 1 + 1 + 1 + 1) 0 (qa ⟨s0, s1, s2, s3⟩) rfl rfl HT.out HJ.out H1.out ?_))
      exact bodyPost_ret (results_row (c := (qa ⟨s0, s1, s2, s3⟩)) rfl rfl HR.out Tryd.underlying35 rfl HJ.out) rfl ⟨rfl, HB.out⟩

theorem TStep_any (a : Ai) (q : Qd) (x0 x1 x2 : Int) (t0 t1 t2 : Bool) (w : World) (n : NoneAt w) (h : RA a) (k : QR q) (r0 : Sp.R6 x0) (r1 : Sp.R6 x1) (r2 : Sp.R6 x2) :
    Calls Tryd.prog 9 #[av a, qv q, .agg #[.int .i64 x0, .int .i64 x1, .int .i64 x2], .agg #[.bool t0, .bool t1, .bool t2]] w fun e w' => e = .returned (qv (qstep a q x0 x1 x2 t0 t1 t2)) ∧ Below w.heap.size w w' :=
  TStep_core a q x0 x1 x2 t0 t1 t2 _ _ _ _ w (Lib.hid (index_q q))
    (Lib.hid fun w' => blamed_any 0 (-1) (by decide) w') (Lib.hid fun w' B => Step_g a q.h0 (-1) x0 x1 x2 t0 t1 t2 w' (n.keep B) h k.h0 r0 r1 r2)
    (Lib.hid fun w' => blamed_any 1 0 (by decide) w') (Lib.hid fun w' B => Step_g a q.h1 0 x0 x1 x2 t0 t1 t2 w' (n.keep B) h k.h1 r0 r1 r2)
    (Lib.hid fun w' => blamed_any 2 1 (by decide) w') (Lib.hid fun w' B => Step_g a q.h2 1 x0 x1 x2 t0 t1 t2 w' (n.keep B) h k.h2 r0 r1 r2)
    (Lib.hid fun w' => blamed_any 3 2 (by decide) w') (Lib.hid fun w' B => Step_g a q.h3 2 x0 x1 x2 t0 t1 t2 w' (n.keep B) h k.h3 r0 r1 r2)
end Go.Proofs.YtkjkmnclnedfhaaDoor
