/- The landed triple's Blame, and the document's own. -/
import Derived.Test.YthhameambcplhaaDoorTrA
import Derived.Test.YthhameambcplhaaDoorSp
import Derived.BigRegion
namespace Go.Proofs.YthhameambcplhaaDoor
open Go.RowKit Obs

def Obs.b3F (y1 y2 y3 : Int) : Nat → List (Option Value)
  | 0 => [some (.int .i64 0), some (.int .i64 0), some (.int .i64 0)]
  | 1 => [some (.int .i64 0), some (.int .i64 0), some (.int .i64 0)]
  | 2 => [some (.int .i64 y1), some (.int .i64 0), some (.int .i64 0)]
  | 3 => [some (.int .i64 y1), some (.int .i64 y2), some (.int .i64 0)]
  | _ => [some (.int .i64 y1), some (.int .i64 y2), some (.int .i64 y3)]
set_option maxHeartbeats 40000000 in
set_option maxRecDepth 100000 in
theorem TBlame_core (q : Qd) (y1 y2 y3 : Int) (w : World)
    (IX : Hid (∀ j : Nat, j < 4 → ∀ w, (Instr.index 35 (.agg (qa q)) (.int .i64 (j : Int))).run Tryd.prog w = .ok (.agg #[.int .i64 (qget q j).vL, .int .i64 (qget q j).vH, .int .i64 (qget q j).bL, .int .i64 (qget q j).bH, .bool (qget q j).ref]) w))
    (B0 : Hid (∀ w', Calls Tryd.prog 26 #[.int .i64 0] w' fun e w'' => e = .returned (.int .i64 (-1)) ∧ Below w'.heap.size w' w''))
    (B1 : Hid (∀ w', Calls Tryd.prog 26 #[.int .i64 1] w' fun e w'' => e = .returned (.int .i64 (0)) ∧ Below w'.heap.size w' w''))
    (B2 : Hid (∀ w', Calls Tryd.prog 26 #[.int .i64 2] w' fun e w'' => e = .returned (.int .i64 (1)) ∧ Below w'.heap.size w' w''))
    (B3 : Hid (∀ w', Calls Tryd.prog 26 #[.int .i64 3] w' fun e w'' => e = .returned (.int .i64 (2)) ∧ Below w'.heap.size w' w''))
    (Yt1 : Hid (q.h1.ref = true → y1 = 0)) (Yf1 : Hid (q.h1.ref = false → y1 = 1))
    (Yt2 : Hid (q.h2.ref = true → y2 = 0)) (Yf2 : Hid (q.h2.ref = false → y2 = 1))
    (Yt3 : Hid (q.h3.ref = true → y3 = 0)) (Yf3 : Hid (q.h3.ref = false → y3 = 1))
    : Calls Tryd.prog 16 #[qv q] w fun e w' => e = .returned (.agg #[.int .i64 y1, .int .i64 y2, .int .i64 y3]) ∧ Below w.heap.size w w' := by
  have hS1 := (((Sp.none w).more [.int .i64 q.h0.vL, .int .i64 q.h0.vH, .int .i64 q.h0.bL, .int .i64 q.h0.bH, .bool q.h0.ref, .int .i64 q.h1.vL, .int .i64 q.h1.vH, .int .i64 q.h1.bL, .int .i64 q.h1.bH, .bool q.h1.ref, .int .i64 q.h2.vL, .int .i64 q.h2.vH, .int .i64 q.h2.bL, .int .i64 q.h2.bH, .bool q.h2.ref, .int .i64 q.h3.vL, .int .i64 q.h3.vH, .int .i64 q.h3.bL, .int .i64 q.h3.bH, .bool q.h3.ref] 35).more [.int .i64 0, .int .i64 0, .int .i64 0] 47).more [.int .i64 0, .int .i64 0, .int .i64 0] 47
  simp only [heap1] at hS1
  have HS1 := Lib.hid hS1
  clear hS1
  have hS2 := (show Sp w [(w.heap.size, [some (.int .i64 q.h0.vL), some (.int .i64 q.h0.vH), some (.int .i64 q.h0.bL), some (.int .i64 q.h0.bH), some (.bool q.h0.ref), some (.int .i64 q.h1.vL), some (.int .i64 q.h1.vH), some (.int .i64 q.h1.bL), some (.int .i64 q.h1.bH), some (.bool q.h1.ref), some (.int .i64 q.h2.vL), some (.int .i64 q.h2.vH), some (.int .i64 q.h2.bL), some (.int .i64 q.h2.bH), some (.bool q.h2.ref), some (.int .i64 q.h3.vL), some (.int .i64 q.h3.vH), some (.int .i64 q.h3.bL), some (.int .i64 q.h3.bH), some (.bool q.h3.ref)]), (w.heap.size + 1, [some (.int .i64 0), some (.int .i64 0), some (.int .i64 0)]), (w.heap.size + 1 + 1, [some (.int .i64 0), some (.int .i64 0), some (.int .i64 0)])] (((w.alloc (.cells (qa q) 35)).alloc (.cells #[.int .i64 0, .int .i64 0, .int .i64 0] 47)).alloc (.cells #[.int .i64 0, .int .i64 0, .int .i64 0] 47)) from HS1.out)
  have HS2 := Lib.hid hS2
  clear hS2 HS1
  have HI := Lib.hid (info_qa q)
  have HA := Lib.hid ((HS2.out).range 0 (l := qc q) rfl)
  go_enter Tryd.func16, Tryd.ntmps16
  go_upto_region 2 with fail
  obtain ⟨w1, hX, hS⟩ := (HS2.out).named
  rw [← hX]
  clear hX HS2
  have HS3 := Lib.hid hS
  clear hS
  replace HA := Lib.hid ((HS3.out).range 0 (l := qc q) rfl)
  go_wp2_with (refine list_load_any rfl 35 _ rfl _ 0 rfl (qa q) _ HA.out Tryd.underlying35 rfl HI.out ?_)
  clear HA HI
  go_loopw [8] (fun i wr => ∃ j : Nat, j ≤ 4 ∧ i = .int .i64 j ∧ Sp w [(w.heap.size, [some (.int .i64 q.h0.vL), some (.int .i64 q.h0.vH), some (.int .i64 q.h0.bL), some (.int .i64 q.h0.bH), some (.bool q.h0.ref), some (.int .i64 q.h1.vL), some (.int .i64 q.h1.vH), some (.int .i64 q.h1.bL), some (.int .i64 q.h1.bH), some (.bool q.h1.ref), some (.int .i64 q.h2.vL), some (.int .i64 q.h2.vH), some (.int .i64 q.h2.bL), some (.int .i64 q.h2.bH), some (.bool q.h2.ref), some (.int .i64 q.h3.vL), some (.int .i64 q.h3.vH), some (.int .i64 q.h3.bL), some (.int .i64 q.h3.bH), some (.bool q.h3.ref)]), (w.heap.size + 1, [some (.int .i64 0), some (.int .i64 0), some (.int .i64 0)]), (w.heap.size + 1 + 1, Obs.b3F y1 y2 y3 j)] wr) (fun i _ => 4 - (intOf i).toNat)
  case atStart => first | exact ⟨0, by omega, rfl, HS3.out⟩ | ((repeat apply Exists.intro); exact ⟨⟨0, by omega, rfl, HS3.out⟩, rfl⟩)
  case round =>
    clear HS3
    obtain ⟨j, hj, rfl, hS⟩ := hrel
    rcases (show j = 0 ∨ j = 1 ∨ j = 2 ∨ j = 3 ∨ j = 4 by omega) with rfl | rfl | rfl | rfl | rfl
    · skip
      have HS4 := Lib.hid (show Sp w [(w.heap.size, [some (.int .i64 q.h0.vL), some (.int .i64 q.h0.vH), some (.int .i64 q.h0.bL), some (.int .i64 q.h0.bH), some (.bool q.h0.ref), some (.int .i64 q.h1.vL), some (.int .i64 q.h1.vH), some (.int .i64 q.h1.bL), some (.int .i64 q.h1.bH), some (.bool q.h1.ref), some (.int .i64 q.h2.vL), some (.int .i64 q.h2.vH), some (.int .i64 q.h2.bL), some (.int .i64 q.h2.bH), some (.bool q.h2.ref), some (.int .i64 q.h3.vL), some (.int .i64 q.h3.vH), some (.int .i64 q.h3.bL), some (.int .i64 q.h3.bH), some (.bool q.h3.ref)]), (w.heap.size + 1, [some (.int .i64 0), some (.int .i64 0), some (.int .i64 0)]), (w.heap.size + 1 + 1, [some (.int .i64 0), some (.int .i64 0), some (.int .i64 0)])] _ from hS)
      clear hS hj
      have ix : ∀ w, (Instr.index 35 (.agg (qa q)) (.int .i64 (0 : Int))).run Tryd.prog w = .ok (.agg #[.int .i64 q.h0.vL, .int .i64 q.h0.vH, .int .i64 q.h0.bL, .int .i64 q.h0.bH, .bool q.h0.ref]) w := IX.out 0 (by decide)
      go_upto_region 5 with fail
      clear ix
      have hS5 := (HS4.out).more [.int .i64 q.h0.vL, .int .i64 q.h0.vH, .int .i64 q.h0.bL, .int .i64 q.h0.bH, .bool q.h0.ref] 34
      have HS5 := Lib.hid hS5
      clear hS5 HS4
      obtain ⟨w2, hX, hS⟩ := (HS5.out).named
      rw [← hX]
      clear hX HS5
      have HS6 := Lib.hid hS
      clear hS
      go_wp2_with fail
      refine (B0.out _).mono ?_; rintro e w3 ⟨rfl, hb3⟩
      have hS7 := (HS6.out).keep hb3
      have HS7 := Lib.hid hS7
      clear hS7 HS6
      clear hb3
      have k3_4 := (HS7.out).at 3 rfl 4 (v := .bool q.h0.ref) rfl
      have k2_0 := (HS7.out).at 2 rfl 0 (v := .int .i64 0) rfl
      have k2_1 := (HS7.out).at 2 rfl 1 (v := .int .i64 0) rfl
      have k2_2 := (HS7.out).at 2 rfl 2 (v := .int .i64 0) rfl
      have f2_0 := (HS7.out).free 2 rfl 0 rfl
      have f2_1 := (HS7.out).free 2 rfl 1 rfl
      have f2_2 := (HS7.out).free 2 rfl 2 rfl
      rcases Bool.eq_false_or_eq_true q.h0.ref with c1 | c1
      · skip
        rw [c1] at k3_4
        clear c1
        have HF := Lib.hid (show Sp w [(w.heap.size, [some (.int .i64 q.h0.vL), some (.int .i64 q.h0.vH), some (.int .i64 q.h0.bL), some (.int .i64 q.h0.bH), some (.bool q.h0.ref), some (.int .i64 q.h1.vL), some (.int .i64 q.h1.vH), some (.int .i64 q.h1.bL), some (.int .i64 q.h1.bH), some (.bool q.h1.ref), some (.int .i64 q.h2.vL), some (.int .i64 q.h2.vH), some (.int .i64 q.h2.bL), some (.int .i64 q.h2.bH), some (.bool q.h2.ref), some (.int .i64 q.h3.vL), some (.int .i64 q.h3.vH), some (.int .i64 q.h3.bL), some (.int .i64 q.h3.bH), some (.bool q.h3.ref)]), (w.heap.size + 1, [some (.int .i64 0), some (.int .i64 0), some (.int .i64 0)]), (w.heap.size + 1 + 1, Obs.b3F y1 y2 y3 1)] _ from (HS7.out).take 3)
        go_wp2_with fail
        go_roundw
        case rel => first | exact ⟨1, by omega, rfl, HF.out⟩ | ((repeat apply Exists.intro); exact ⟨⟨1, by omega, rfl, HF.out⟩, rfl⟩)
        case measure => simp [intOf]
      · skip
        rw [c1] at k3_4
        clear c1
        have HF := Lib.hid (show Sp w [(w.heap.size, [some (.int .i64 q.h0.vL), some (.int .i64 q.h0.vH), some (.int .i64 q.h0.bL), some (.int .i64 q.h0.bH), some (.bool q.h0.ref), some (.int .i64 q.h1.vL), some (.int .i64 q.h1.vH), some (.int .i64 q.h1.bL), some (.int .i64 q.h1.bH), some (.bool q.h1.ref), some (.int .i64 q.h2.vL), some (.int .i64 q.h2.vH), some (.int .i64 q.h2.bL), some (.int .i64 q.h2.bH), some (.bool q.h2.ref), some (.int .i64 q.h3.vL), some (.int .i64 q.h3.vH), some (.int .i64 q.h3.bL), some (.int .i64 q.h3.bH), some (.bool q.h3.ref)]), (w.heap.size + 1, [some (.int .i64 0), some (.int .i64 0), some (.int .i64 0)]), (w.heap.size + 1 + 1, Obs.b3F y1 y2 y3 1)] _ from (HS7.out).take 3)
        go_wp2_with fail
        go_roundw
        case rel => first | exact ⟨1, by omega, rfl, HF.out⟩ | ((repeat apply Exists.intro); exact ⟨⟨1, by omega, rfl, HF.out⟩, rfl⟩)
        case measure => simp [intOf]
    · skip
      have HS4 := Lib.hid (show Sp w [(w.heap.size, [some (.int .i64 q.h0.vL), some (.int .i64 q.h0.vH), some (.int .i64 q.h0.bL), some (.int .i64 q.h0.bH), some (.bool q.h0.ref), some (.int .i64 q.h1.vL), some (.int .i64 q.h1.vH), some (.int .i64 q.h1.bL), some (.int .i64 q.h1.bH), some (.bool q.h1.ref), some (.int .i64 q.h2.vL), some (.int .i64 q.h2.vH), some (.int .i64 q.h2.bL), some (.int .i64 q.h2.bH), some (.bool q.h2.ref), some (.int .i64 q.h3.vL), some (.int .i64 q.h3.vH), some (.int .i64 q.h3.bL), some (.int .i64 q.h3.bH), some (.bool q.h3.ref)]), (w.heap.size + 1, [some (.int .i64 0), some (.int .i64 0), some (.int .i64 0)]), (w.heap.size + 1 + 1, [some (.int .i64 0), some (.int .i64 0), some (.int .i64 0)])] _ from hS)
      clear hS hj
      have ix : ∀ w, (Instr.index 35 (.agg (qa q)) (.int .i64 (1 : Int))).run Tryd.prog w = .ok (.agg #[.int .i64 q.h1.vL, .int .i64 q.h1.vH, .int .i64 q.h1.bL, .int .i64 q.h1.bH, .bool q.h1.ref]) w := IX.out 1 (by decide)
      go_upto_region 5 with fail
      clear ix
      have hS5 := (HS4.out).more [.int .i64 q.h1.vL, .int .i64 q.h1.vH, .int .i64 q.h1.bL, .int .i64 q.h1.bH, .bool q.h1.ref] 34
      have HS5 := Lib.hid hS5
      clear hS5 HS4
      obtain ⟨w4, hX, hS⟩ := (HS5.out).named
      rw [← hX]
      clear hX HS5
      have HS6 := Lib.hid hS
      clear hS
      go_wp2_with fail
      refine (B1.out _).mono ?_; rintro e w5 ⟨rfl, hb5⟩
      have hS7 := (HS6.out).keep hb5
      have HS7 := Lib.hid hS7
      clear hS7 HS6
      clear hb5
      have k3_4 := (HS7.out).at 3 rfl 4 (v := .bool q.h1.ref) rfl
      have k2_0 := (HS7.out).at 2 rfl 0 (v := .int .i64 0) rfl
      have k2_1 := (HS7.out).at 2 rfl 1 (v := .int .i64 0) rfl
      have k2_2 := (HS7.out).at 2 rfl 2 (v := .int .i64 0) rfl
      have f2_0 := (HS7.out).free 2 rfl 0 rfl
      have f2_1 := (HS7.out).free 2 rfl 1 rfl
      have f2_2 := (HS7.out).free 2 rfl 2 rfl
      rcases Bool.eq_false_or_eq_true q.h1.ref with c1 | c1
      · skip
        rw [c1] at k3_4
        have hy := Yt1.out c1
        clear c1
        subst hy
        have HF := Lib.hid (show Sp w [(w.heap.size, [some (.int .i64 q.h0.vL), some (.int .i64 q.h0.vH), some (.int .i64 q.h0.bL), some (.int .i64 q.h0.bH), some (.bool q.h0.ref), some (.int .i64 q.h1.vL), some (.int .i64 q.h1.vH), some (.int .i64 q.h1.bL), some (.int .i64 q.h1.bH), some (.bool q.h1.ref), some (.int .i64 q.h2.vL), some (.int .i64 q.h2.vH), some (.int .i64 q.h2.bL), some (.int .i64 q.h2.bH), some (.bool q.h2.ref), some (.int .i64 q.h3.vL), some (.int .i64 q.h3.vH), some (.int .i64 q.h3.bL), some (.int .i64 q.h3.bH), some (.bool q.h3.ref)]), (w.heap.size + 1, [some (.int .i64 0), some (.int .i64 0), some (.int .i64 0)]), (w.heap.size + 1 + 1, Obs.b3F 0 y2 y3 2)] _ from (HS7.out).take 3)
        go_wp2_with fail
        go_roundw
        case rel => first | exact ⟨2, by omega, rfl, HF.out⟩ | ((repeat apply Exists.intro); exact ⟨⟨2, by omega, rfl, HF.out⟩, rfl⟩)
        case measure => simp [intOf]
      · skip
        rw [c1] at k3_4
        have hy := Yf1.out c1
        clear c1
        subst hy
        have HF := Lib.hid (show Sp w [(w.heap.size, [some (.int .i64 q.h0.vL), some (.int .i64 q.h0.vH), some (.int .i64 q.h0.bL), some (.int .i64 q.h0.bH), some (.bool q.h0.ref), some (.int .i64 q.h1.vL), some (.int .i64 q.h1.vH), some (.int .i64 q.h1.bL), some (.int .i64 q.h1.bH), some (.bool q.h1.ref), some (.int .i64 q.h2.vL), some (.int .i64 q.h2.vH), some (.int .i64 q.h2.bL), some (.int .i64 q.h2.bH), some (.bool q.h2.ref), some (.int .i64 q.h3.vL), some (.int .i64 q.h3.vH), some (.int .i64 q.h3.bL), some (.int .i64 q.h3.bH), some (.bool q.h3.ref)]), (w.heap.size + 1, [some (.int .i64 0), some (.int .i64 0), some (.int .i64 0)]), (w.heap.size + 1 + 1, Obs.b3F 1 y2 y3 2)] _ from ((HS7.out).put 2 rfl 0 (.int .i64 1)).take 3)
        go_wp2_with fail
        go_roundw
        case rel => first | exact ⟨2, by omega, rfl, HF.out⟩ | ((repeat apply Exists.intro); exact ⟨⟨2, by omega, rfl, HF.out⟩, rfl⟩)
        case measure => simp [intOf]
    · skip
      have HS4 := Lib.hid (show Sp w [(w.heap.size, [some (.int .i64 q.h0.vL), some (.int .i64 q.h0.vH), some (.int .i64 q.h0.bL), some (.int .i64 q.h0.bH), some (.bool q.h0.ref), some (.int .i64 q.h1.vL), some (.int .i64 q.h1.vH), some (.int .i64 q.h1.bL), some (.int .i64 q.h1.bH), some (.bool q.h1.ref), some (.int .i64 q.h2.vL), some (.int .i64 q.h2.vH), some (.int .i64 q.h2.bL), some (.int .i64 q.h2.bH), some (.bool q.h2.ref), some (.int .i64 q.h3.vL), some (.int .i64 q.h3.vH), some (.int .i64 q.h3.bL), some (.int .i64 q.h3.bH), some (.bool q.h3.ref)]), (w.heap.size + 1, [some (.int .i64 0), some (.int .i64 0), some (.int .i64 0)]), (w.heap.size + 1 + 1, [some (.int .i64 y1), some (.int .i64 0), some (.int .i64 0)])] _ from hS)
      clear hS hj
      have ix : ∀ w, (Instr.index 35 (.agg (qa q)) (.int .i64 (2 : Int))).run Tryd.prog w = .ok (.agg #[.int .i64 q.h2.vL, .int .i64 q.h2.vH, .int .i64 q.h2.bL, .int .i64 q.h2.bH, .bool q.h2.ref]) w := IX.out 2 (by decide)
      go_upto_region 5 with fail
      clear ix
      have hS5 := (HS4.out).more [.int .i64 q.h2.vL, .int .i64 q.h2.vH, .int .i64 q.h2.bL, .int .i64 q.h2.bH, .bool q.h2.ref] 34
      have HS5 := Lib.hid hS5
      clear hS5 HS4
      obtain ⟨w6, hX, hS⟩ := (HS5.out).named
      rw [← hX]
      clear hX HS5
      have HS6 := Lib.hid hS
      clear hS
      go_wp2_with fail
      refine (B2.out _).mono ?_; rintro e w7 ⟨rfl, hb7⟩
      have hS7 := (HS6.out).keep hb7
      have HS7 := Lib.hid hS7
      clear hS7 HS6
      clear hb7
      have k3_4 := (HS7.out).at 3 rfl 4 (v := .bool q.h2.ref) rfl
      have k2_0 := (HS7.out).at 2 rfl 0 (v := .int .i64 y1) rfl
      have k2_1 := (HS7.out).at 2 rfl 1 (v := .int .i64 0) rfl
      have k2_2 := (HS7.out).at 2 rfl 2 (v := .int .i64 0) rfl
      have f2_0 := (HS7.out).free 2 rfl 0 rfl
      have f2_1 := (HS7.out).free 2 rfl 1 rfl
      have f2_2 := (HS7.out).free 2 rfl 2 rfl
      rcases Bool.eq_false_or_eq_true q.h2.ref with c1 | c1
      · skip
        rw [c1] at k3_4
        have hy := Yt2.out c1
        clear c1
        subst hy
        have HF := Lib.hid (show Sp w [(w.heap.size, [some (.int .i64 q.h0.vL), some (.int .i64 q.h0.vH), some (.int .i64 q.h0.bL), some (.int .i64 q.h0.bH), some (.bool q.h0.ref), some (.int .i64 q.h1.vL), some (.int .i64 q.h1.vH), some (.int .i64 q.h1.bL), some (.int .i64 q.h1.bH), some (.bool q.h1.ref), some (.int .i64 q.h2.vL), some (.int .i64 q.h2.vH), some (.int .i64 q.h2.bL), some (.int .i64 q.h2.bH), some (.bool q.h2.ref), some (.int .i64 q.h3.vL), some (.int .i64 q.h3.vH), some (.int .i64 q.h3.bL), some (.int .i64 q.h3.bH), some (.bool q.h3.ref)]), (w.heap.size + 1, [some (.int .i64 0), some (.int .i64 0), some (.int .i64 0)]), (w.heap.size + 1 + 1, Obs.b3F y1 0 y3 3)] _ from (HS7.out).take 3)
        go_wp2_with fail
        go_roundw
        case rel => first | exact ⟨3, by omega, rfl, HF.out⟩ | ((repeat apply Exists.intro); exact ⟨⟨3, by omega, rfl, HF.out⟩, rfl⟩)
        case measure => simp [intOf]
      · skip
        rw [c1] at k3_4
        have hy := Yf2.out c1
        clear c1
        subst hy
        have HF := Lib.hid (show Sp w [(w.heap.size, [some (.int .i64 q.h0.vL), some (.int .i64 q.h0.vH), some (.int .i64 q.h0.bL), some (.int .i64 q.h0.bH), some (.bool q.h0.ref), some (.int .i64 q.h1.vL), some (.int .i64 q.h1.vH), some (.int .i64 q.h1.bL), some (.int .i64 q.h1.bH), some (.bool q.h1.ref), some (.int .i64 q.h2.vL), some (.int .i64 q.h2.vH), some (.int .i64 q.h2.bL), some (.int .i64 q.h2.bH), some (.bool q.h2.ref), some (.int .i64 q.h3.vL), some (.int .i64 q.h3.vH), some (.int .i64 q.h3.bL), some (.int .i64 q.h3.bH), some (.bool q.h3.ref)]), (w.heap.size + 1, [some (.int .i64 0), some (.int .i64 0), some (.int .i64 0)]), (w.heap.size + 1 + 1, Obs.b3F y1 1 y3 3)] _ from ((HS7.out).put 2 rfl 1 (.int .i64 1)).take 3)
        go_wp2_with fail
        go_roundw
        case rel => first | exact ⟨3, by omega, rfl, HF.out⟩ | ((repeat apply Exists.intro); exact ⟨⟨3, by omega, rfl, HF.out⟩, rfl⟩)
        case measure => simp [intOf]
    · skip
      have HS4 := Lib.hid (show Sp w [(w.heap.size, [some (.int .i64 q.h0.vL), some (.int .i64 q.h0.vH), some (.int .i64 q.h0.bL), some (.int .i64 q.h0.bH), some (.bool q.h0.ref), some (.int .i64 q.h1.vL), some (.int .i64 q.h1.vH), some (.int .i64 q.h1.bL), some (.int .i64 q.h1.bH), some (.bool q.h1.ref), some (.int .i64 q.h2.vL), some (.int .i64 q.h2.vH), some (.int .i64 q.h2.bL), some (.int .i64 q.h2.bH), some (.bool q.h2.ref), some (.int .i64 q.h3.vL), some (.int .i64 q.h3.vH), some (.int .i64 q.h3.bL), some (.int .i64 q.h3.bH), some (.bool q.h3.ref)]), (w.heap.size + 1, [some (.int .i64 0), some (.int .i64 0), some (.int .i64 0)]), (w.heap.size + 1 + 1, [some (.int .i64 y1), some (.int .i64 y2), some (.int .i64 0)])] _ from hS)
      clear hS hj
      have ix : ∀ w, (Instr.index 35 (.agg (qa q)) (.int .i64 (3 : Int))).run Tryd.prog w = .ok (.agg #[.int .i64 q.h3.vL, .int .i64 q.h3.vH, .int .i64 q.h3.bL, .int .i64 q.h3.bH, .bool q.h3.ref]) w := IX.out 3 (by decide)
      go_upto_region 5 with fail
      clear ix
      have hS5 := (HS4.out).more [.int .i64 q.h3.vL, .int .i64 q.h3.vH, .int .i64 q.h3.bL, .int .i64 q.h3.bH, .bool q.h3.ref] 34
      have HS5 := Lib.hid hS5
      clear hS5 HS4
      obtain ⟨w8, hX, hS⟩ := (HS5.out).named
      rw [← hX]
      clear hX HS5
      have HS6 := Lib.hid hS
      clear hS
      go_wp2_with fail
      refine (B3.out _).mono ?_; rintro e w9 ⟨rfl, hb9⟩
      have hS7 := (HS6.out).keep hb9
      have HS7 := Lib.hid hS7
      clear hS7 HS6
      clear hb9
      have k3_4 := (HS7.out).at 3 rfl 4 (v := .bool q.h3.ref) rfl
      have k2_0 := (HS7.out).at 2 rfl 0 (v := .int .i64 y1) rfl
      have k2_1 := (HS7.out).at 2 rfl 1 (v := .int .i64 y2) rfl
      have k2_2 := (HS7.out).at 2 rfl 2 (v := .int .i64 0) rfl
      have f2_0 := (HS7.out).free 2 rfl 0 rfl
      have f2_1 := (HS7.out).free 2 rfl 1 rfl
      have f2_2 := (HS7.out).free 2 rfl 2 rfl
      rcases Bool.eq_false_or_eq_true q.h3.ref with c1 | c1
      · skip
        rw [c1] at k3_4
        have hy := Yt3.out c1
        clear c1
        subst hy
        have HF := Lib.hid (show Sp w [(w.heap.size, [some (.int .i64 q.h0.vL), some (.int .i64 q.h0.vH), some (.int .i64 q.h0.bL), some (.int .i64 q.h0.bH), some (.bool q.h0.ref), some (.int .i64 q.h1.vL), some (.int .i64 q.h1.vH), some (.int .i64 q.h1.bL), some (.int .i64 q.h1.bH), some (.bool q.h1.ref), some (.int .i64 q.h2.vL), some (.int .i64 q.h2.vH), some (.int .i64 q.h2.bL), some (.int .i64 q.h2.bH), some (.bool q.h2.ref), some (.int .i64 q.h3.vL), some (.int .i64 q.h3.vH), some (.int .i64 q.h3.bL), some (.int .i64 q.h3.bH), some (.bool q.h3.ref)]), (w.heap.size + 1, [some (.int .i64 0), some (.int .i64 0), some (.int .i64 0)]), (w.heap.size + 1 + 1, Obs.b3F y1 y2 0 4)] _ from (HS7.out).take 3)
        go_wp2_with fail
        go_roundw
        case rel => first | exact ⟨4, by omega, rfl, HF.out⟩ | ((repeat apply Exists.intro); exact ⟨⟨4, by omega, rfl, HF.out⟩, rfl⟩)
        case measure => simp [intOf]
      · skip
        rw [c1] at k3_4
        have hy := Yf3.out c1
        clear c1
        subst hy
        have HF := Lib.hid (show Sp w [(w.heap.size, [some (.int .i64 q.h0.vL), some (.int .i64 q.h0.vH), some (.int .i64 q.h0.bL), some (.int .i64 q.h0.bH), some (.bool q.h0.ref), some (.int .i64 q.h1.vL), some (.int .i64 q.h1.vH), some (.int .i64 q.h1.bL), some (.int .i64 q.h1.bH), some (.bool q.h1.ref), some (.int .i64 q.h2.vL), some (.int .i64 q.h2.vH), some (.int .i64 q.h2.bL), some (.int .i64 q.h2.bH), some (.bool q.h2.ref), some (.int .i64 q.h3.vL), some (.int .i64 q.h3.vH), some (.int .i64 q.h3.bL), some (.int .i64 q.h3.bH), some (.bool q.h3.ref)]), (w.heap.size + 1, [some (.int .i64 0), some (.int .i64 0), some (.int .i64 0)]), (w.heap.size + 1 + 1, Obs.b3F y1 y2 1 4)] _ from ((HS7.out).put 2 rfl 2 (.int .i64 1)).take 3)
        go_wp2_with fail
        go_roundw
        case rel => first | exact ⟨4, by omega, rfl, HF.out⟩ | ((repeat apply Exists.intro); exact ⟨⟨4, by omega, rfl, HF.out⟩, rfl⟩)
        case measure => simp [intOf]
    · skip
      have HS4 := Lib.hid (show Sp w [(w.heap.size, [some (.int .i64 q.h0.vL), some (.int .i64 q.h0.vH), some (.int .i64 q.h0.bL), some (.int .i64 q.h0.bH), some (.bool q.h0.ref), some (.int .i64 q.h1.vL), some (.int .i64 q.h1.vH), some (.int .i64 q.h1.bL), some (.int .i64 q.h1.bH), some (.bool q.h1.ref), some (.int .i64 q.h2.vL), some (.int .i64 q.h2.vH), some (.int .i64 q.h2.bL), some (.int .i64 q.h2.bH), some (.bool q.h2.ref), some (.int .i64 q.h3.vL), some (.int .i64 q.h3.vH), some (.int .i64 q.h3.bL), some (.int .i64 q.h3.bH), some (.bool q.h3.ref)]), (w.heap.size + 1, [some (.int .i64 0), some (.int .i64 0), some (.int .i64 0)]), (w.heap.size + 1 + 1, [some (.int .i64 y1), some (.int .i64 y2), some (.int .i64 y3)])] _ from hS)
      clear hS hj
      have k2_0 := (HS4.out).at 2 rfl 0 (v := .int .i64 y1) rfl
      have k2_1 := (HS4.out).at 2 rfl 1 (v := .int .i64 y2) rfl
      have k2_2 := (HS4.out).at 2 rfl 2 (v := .int .i64 y3) rfl
      have r1_0 := (HS4.out).at 1 rfl 0 (v := .int .i64 0) rfl
      have r1_1 := (HS4.out).at 1 rfl 1 (v := .int .i64 0) rfl
      have r1_2 := (HS4.out).at 1 rfl 2 (v := .int .i64 0) rfl
      have rf1_0 := (HS4.out).free 1 rfl 0 rfl
      have rf1_1 := (HS4.out).free 1 rfl 1 rfl
      have rf1_2 := (HS4.out).free 1 rfl 2 rfl
      have BH := Lib.hid HS4.out.below
      clear HS4 IX
      go_wp2_with fail
      refine bodyPost_ret (v := .agg #[.int .i64 y1, .int .i64 y2, .int .i64 y3]) (by simp [results, Tryd.results16, go_sem, *]) rfl ⟨rfl, ?_⟩
      iterate 3 refine Below.setCell (p := ⟨w.heap.size + 1, _, none⟩) ?_ (show w.heap.size ≤ w.heap.size + 1 by omega) _
      exact BH.out

theorem TBlame_any (q : Qd) (w : World) :
    Calls Tryd.prog 16 #[qv q] w fun e w' => e = .returned (.agg #[.int .i64 (bl1 q.h1.ref), .int .i64 (bl1 q.h2.ref), .int .i64 (bl1 q.h3.ref)]) ∧ Below w.heap.size w w' :=
  TBlame_core q _ _ _ w (Lib.hid (index_q q)) (Lib.hid fun w' => blamed_any 0 (-1) (by decide) w') (Lib.hid fun w' => blamed_any 1 (0) (by decide) w') (Lib.hid fun w' => blamed_any 2 (1) (by decide) w') (Lib.hid fun w' => blamed_any 3 (2) (by decide) w') (Lib.hid fun h => by rw [h]; rfl) (Lib.hid fun h => by rw [h]; rfl) (Lib.hid fun h => by rw [h]; rfl) (Lib.hid fun h => by rw [h]; rfl) (Lib.hid fun h => by rw [h]; rfl) (Lib.hid fun h => by rw [h]; rfl)
set_option maxHeartbeats 40000000 in
set_option maxRecDepth 100000 in
theorem RBlame_core (q : Qd) (y1 y2 y3 : Int) (w : World)
    (IX : Hid (∀ j : Nat, j < 4 → ∀ w, (Instr.index 35 (.agg (qa q)) (.int .i64 (j : Int))).run Tryd.prog w = .ok (.agg #[.int .i64 (qget q j).vL, .int .i64 (qget q j).vH, .int .i64 (qget q j).bL, .int .i64 (qget q j).bH, .bool (qget q j).ref]) w))
    (Yt1 : Hid (q.h1.ref = true → y1 = 0)) (Yf1 : Hid (q.h1.ref = false → y1 = 1))
    (Yt2 : Hid (q.h2.ref = true → y2 = 0)) (Yf2 : Hid (q.h2.ref = false → y2 = 1))
    (Yt3 : Hid (q.h3.ref = true → y3 = 0)) (Yf3 : Hid (q.h3.ref = false → y3 = 1))
    : Calls Tryd.prog 17 #[qv q] w fun e w' => e = .returned (.agg #[.int .i64 y1, .int .i64 y2, .int .i64 y3]) ∧ Below w.heap.size w w' := by
  have hS1 := (((Sp.none w).more [.int .i64 q.h0.vL, .int .i64 q.h0.vH, .int .i64 q.h0.bL, .int .i64 q.h0.bH, .bool q.h0.ref, .int .i64 q.h1.vL, .int .i64 q.h1.vH, .int .i64 q.h1.bL, .int .i64 q.h1.bH, .bool q.h1.ref, .int .i64 q.h2.vL, .int .i64 q.h2.vH, .int .i64 q.h2.bL, .int .i64 q.h2.bH, .bool q.h2.ref, .int .i64 q.h3.vL, .int .i64 q.h3.vH, .int .i64 q.h3.bL, .int .i64 q.h3.bH, .bool q.h3.ref] 35).more [.int .i64 0, .int .i64 0, .int .i64 0] 47).more [.int .i64 0, .int .i64 0, .int .i64 0] 47
  simp only [heap1] at hS1
  have HS1 := Lib.hid hS1
  clear hS1
  have hS2 := (show Sp w [(w.heap.size, [some (.int .i64 q.h0.vL), some (.int .i64 q.h0.vH), some (.int .i64 q.h0.bL), some (.int .i64 q.h0.bH), some (.bool q.h0.ref), some (.int .i64 q.h1.vL), some (.int .i64 q.h1.vH), some (.int .i64 q.h1.bL), some (.int .i64 q.h1.bH), some (.bool q.h1.ref), some (.int .i64 q.h2.vL), some (.int .i64 q.h2.vH), some (.int .i64 q.h2.bL), some (.int .i64 q.h2.bH), some (.bool q.h2.ref), some (.int .i64 q.h3.vL), some (.int .i64 q.h3.vH), some (.int .i64 q.h3.bL), some (.int .i64 q.h3.bH), some (.bool q.h3.ref)]), (w.heap.size + 1, [some (.int .i64 0), some (.int .i64 0), some (.int .i64 0)]), (w.heap.size + 1 + 1, [some (.int .i64 0), some (.int .i64 0), some (.int .i64 0)])] (((w.alloc (.cells (qa q) 35)).alloc (.cells #[.int .i64 0, .int .i64 0, .int .i64 0] 47)).alloc (.cells #[.int .i64 0, .int .i64 0, .int .i64 0] 47)) from HS1.out)
  have HS2 := Lib.hid hS2
  clear hS2 HS1
  have HI := Lib.hid (info_qa q)
  have HA := Lib.hid ((HS2.out).range 0 (l := qc q) rfl)
  go_enter Tryd.func17, Tryd.ntmps17
  go_upto_region 2 with fail
  obtain ⟨w1, hX, hS⟩ := (HS2.out).named
  rw [← hX]
  clear hX HS2
  have HS3 := Lib.hid hS
  clear hS
  replace HA := Lib.hid ((HS3.out).range 0 (l := qc q) rfl)
  go_wp2_with (refine list_load_any rfl 35 _ rfl _ 0 rfl (qa q) _ HA.out Tryd.underlying35 rfl HI.out ?_)
  clear HA HI
  go_loopw [7] (fun i wr => ∃ j : Nat, j ≤ 4 ∧ i = .int .i64 j ∧ Sp w [(w.heap.size, [some (.int .i64 q.h0.vL), some (.int .i64 q.h0.vH), some (.int .i64 q.h0.bL), some (.int .i64 q.h0.bH), some (.bool q.h0.ref), some (.int .i64 q.h1.vL), some (.int .i64 q.h1.vH), some (.int .i64 q.h1.bL), some (.int .i64 q.h1.bH), some (.bool q.h1.ref), some (.int .i64 q.h2.vL), some (.int .i64 q.h2.vH), some (.int .i64 q.h2.bL), some (.int .i64 q.h2.bH), some (.bool q.h2.ref), some (.int .i64 q.h3.vL), some (.int .i64 q.h3.vH), some (.int .i64 q.h3.bL), some (.int .i64 q.h3.bH), some (.bool q.h3.ref)]), (w.heap.size + 1, [some (.int .i64 0), some (.int .i64 0), some (.int .i64 0)]), (w.heap.size + 1 + 1, Obs.b3F y1 y2 y3 j)] wr) (fun i _ => 4 - (intOf i).toNat)
  case atStart => first | exact ⟨0, by omega, rfl, HS3.out⟩ | ((repeat apply Exists.intro); exact ⟨⟨0, by omega, rfl, HS3.out⟩, rfl⟩)
  case round =>
    clear HS3
    obtain ⟨j, hj, rfl, hS⟩ := hrel
    rcases (show j = 0 ∨ j = 1 ∨ j = 2 ∨ j = 3 ∨ j = 4 by omega) with rfl | rfl | rfl | rfl | rfl
    · skip
      have HS4 := Lib.hid (show Sp w [(w.heap.size, [some (.int .i64 q.h0.vL), some (.int .i64 q.h0.vH), some (.int .i64 q.h0.bL), some (.int .i64 q.h0.bH), some (.bool q.h0.ref), some (.int .i64 q.h1.vL), some (.int .i64 q.h1.vH), some (.int .i64 q.h1.bL), some (.int .i64 q.h1.bH), some (.bool q.h1.ref), some (.int .i64 q.h2.vL), some (.int .i64 q.h2.vH), some (.int .i64 q.h2.bL), some (.int .i64 q.h2.bH), some (.bool q.h2.ref), some (.int .i64 q.h3.vL), some (.int .i64 q.h3.vH), some (.int .i64 q.h3.bL), some (.int .i64 q.h3.bH), some (.bool q.h3.ref)]), (w.heap.size + 1, [some (.int .i64 0), some (.int .i64 0), some (.int .i64 0)]), (w.heap.size + 1 + 1, [some (.int .i64 0), some (.int .i64 0), some (.int .i64 0)])] _ from hS)
      clear hS hj
      have ix : ∀ w, (Instr.index 35 (.agg (qa q)) (.int .i64 (0 : Int))).run Tryd.prog w = .ok (.agg #[.int .i64 q.h0.vL, .int .i64 q.h0.vH, .int .i64 q.h0.bL, .int .i64 q.h0.bH, .bool q.h0.ref]) w := IX.out 0 (by decide)
      go_upto_region 5 with fail
      clear ix
      have hS5 := (HS4.out).more [.int .i64 q.h0.vL, .int .i64 q.h0.vH, .int .i64 q.h0.bL, .int .i64 q.h0.bH, .bool q.h0.ref] 34
      have HS5 := Lib.hid hS5
      clear hS5 HS4
      obtain ⟨w2, hX, hS⟩ := (HS5.out).named
      rw [← hX]
      clear hX HS5
      have HS6 := Lib.hid hS
      clear hS
      have k3_4 := (HS6.out).at 3 rfl 4 (v := .bool q.h0.ref) rfl
      have k2_0 := (HS6.out).at 2 rfl 0 (v := .int .i64 0) rfl
      have k2_1 := (HS6.out).at 2 rfl 1 (v := .int .i64 0) rfl
      have k2_2 := (HS6.out).at 2 rfl 2 (v := .int .i64 0) rfl
      have f2_0 := (HS6.out).free 2 rfl 0 rfl
      have f2_1 := (HS6.out).free 2 rfl 1 rfl
      have f2_2 := (HS6.out).free 2 rfl 2 rfl
      rcases Bool.eq_false_or_eq_true q.h0.ref with c1 | c1
      · skip
        rw [c1] at k3_4
        clear c1
        have HF := Lib.hid (show Sp w [(w.heap.size, [some (.int .i64 q.h0.vL), some (.int .i64 q.h0.vH), some (.int .i64 q.h0.bL), some (.int .i64 q.h0.bH), some (.bool q.h0.ref), some (.int .i64 q.h1.vL), some (.int .i64 q.h1.vH), some (.int .i64 q.h1.bL), some (.int .i64 q.h1.bH), some (.bool q.h1.ref), some (.int .i64 q.h2.vL), some (.int .i64 q.h2.vH), some (.int .i64 q.h2.bL), some (.int .i64 q.h2.bH), some (.bool q.h2.ref), some (.int .i64 q.h3.vL), some (.int .i64 q.h3.vH), some (.int .i64 q.h3.bL), some (.int .i64 q.h3.bH), some (.bool q.h3.ref)]), (w.heap.size + 1, [some (.int .i64 0), some (.int .i64 0), some (.int .i64 0)]), (w.heap.size + 1 + 1, Obs.b3F y1 y2 y3 1)] _ from (HS6.out).take 3)
        go_wp2_with fail
        go_roundw
        case rel => first | exact ⟨1, by omega, rfl, HF.out⟩ | ((repeat apply Exists.intro); exact ⟨⟨1, by omega, rfl, HF.out⟩, rfl⟩)
        case measure => simp [intOf]
      · skip
        rw [c1] at k3_4
        clear c1
        have HF := Lib.hid (show Sp w [(w.heap.size, [some (.int .i64 q.h0.vL), some (.int .i64 q.h0.vH), some (.int .i64 q.h0.bL), some (.int .i64 q.h0.bH), some (.bool q.h0.ref), some (.int .i64 q.h1.vL), some (.int .i64 q.h1.vH), some (.int .i64 q.h1.bL), some (.int .i64 q.h1.bH), some (.bool q.h1.ref), some (.int .i64 q.h2.vL), some (.int .i64 q.h2.vH), some (.int .i64 q.h2.bL), some (.int .i64 q.h2.bH), some (.bool q.h2.ref), some (.int .i64 q.h3.vL), some (.int .i64 q.h3.vH), some (.int .i64 q.h3.bL), some (.int .i64 q.h3.bH), some (.bool q.h3.ref)]), (w.heap.size + 1, [some (.int .i64 0), some (.int .i64 0), some (.int .i64 0)]), (w.heap.size + 1 + 1, Obs.b3F y1 y2 y3 1)] _ from (HS6.out).take 3)
        go_wp2_with fail
        go_roundw
        case rel => first | exact ⟨1, by omega, rfl, HF.out⟩ | ((repeat apply Exists.intro); exact ⟨⟨1, by omega, rfl, HF.out⟩, rfl⟩)
        case measure => simp [intOf]
    · skip
      have HS4 := Lib.hid (show Sp w [(w.heap.size, [some (.int .i64 q.h0.vL), some (.int .i64 q.h0.vH), some (.int .i64 q.h0.bL), some (.int .i64 q.h0.bH), some (.bool q.h0.ref), some (.int .i64 q.h1.vL), some (.int .i64 q.h1.vH), some (.int .i64 q.h1.bL), some (.int .i64 q.h1.bH), some (.bool q.h1.ref), some (.int .i64 q.h2.vL), some (.int .i64 q.h2.vH), some (.int .i64 q.h2.bL), some (.int .i64 q.h2.bH), some (.bool q.h2.ref), some (.int .i64 q.h3.vL), some (.int .i64 q.h3.vH), some (.int .i64 q.h3.bL), some (.int .i64 q.h3.bH), some (.bool q.h3.ref)]), (w.heap.size + 1, [some (.int .i64 0), some (.int .i64 0), some (.int .i64 0)]), (w.heap.size + 1 + 1, [some (.int .i64 0), some (.int .i64 0), some (.int .i64 0)])] _ from hS)
      clear hS hj
      have ix : ∀ w, (Instr.index 35 (.agg (qa q)) (.int .i64 (1 : Int))).run Tryd.prog w = .ok (.agg #[.int .i64 q.h1.vL, .int .i64 q.h1.vH, .int .i64 q.h1.bL, .int .i64 q.h1.bH, .bool q.h1.ref]) w := IX.out 1 (by decide)
      go_upto_region 5 with fail
      clear ix
      have hS5 := (HS4.out).more [.int .i64 q.h1.vL, .int .i64 q.h1.vH, .int .i64 q.h1.bL, .int .i64 q.h1.bH, .bool q.h1.ref] 34
      have HS5 := Lib.hid hS5
      clear hS5 HS4
      obtain ⟨w3, hX, hS⟩ := (HS5.out).named
      rw [← hX]
      clear hX HS5
      have HS6 := Lib.hid hS
      clear hS
      have k3_4 := (HS6.out).at 3 rfl 4 (v := .bool q.h1.ref) rfl
      have k2_0 := (HS6.out).at 2 rfl 0 (v := .int .i64 0) rfl
      have k2_1 := (HS6.out).at 2 rfl 1 (v := .int .i64 0) rfl
      have k2_2 := (HS6.out).at 2 rfl 2 (v := .int .i64 0) rfl
      have f2_0 := (HS6.out).free 2 rfl 0 rfl
      have f2_1 := (HS6.out).free 2 rfl 1 rfl
      have f2_2 := (HS6.out).free 2 rfl 2 rfl
      rcases Bool.eq_false_or_eq_true q.h1.ref with c1 | c1
      · skip
        rw [c1] at k3_4
        have hy := Yt1.out c1
        clear c1
        subst hy
        have HF := Lib.hid (show Sp w [(w.heap.size, [some (.int .i64 q.h0.vL), some (.int .i64 q.h0.vH), some (.int .i64 q.h0.bL), some (.int .i64 q.h0.bH), some (.bool q.h0.ref), some (.int .i64 q.h1.vL), some (.int .i64 q.h1.vH), some (.int .i64 q.h1.bL), some (.int .i64 q.h1.bH), some (.bool q.h1.ref), some (.int .i64 q.h2.vL), some (.int .i64 q.h2.vH), some (.int .i64 q.h2.bL), some (.int .i64 q.h2.bH), some (.bool q.h2.ref), some (.int .i64 q.h3.vL), some (.int .i64 q.h3.vH), some (.int .i64 q.h3.bL), some (.int .i64 q.h3.bH), some (.bool q.h3.ref)]), (w.heap.size + 1, [some (.int .i64 0), some (.int .i64 0), some (.int .i64 0)]), (w.heap.size + 1 + 1, Obs.b3F 0 y2 y3 2)] _ from (HS6.out).take 3)
        go_wp2_with fail
        go_roundw
        case rel => first | exact ⟨2, by omega, rfl, HF.out⟩ | ((repeat apply Exists.intro); exact ⟨⟨2, by omega, rfl, HF.out⟩, rfl⟩)
        case measure => simp [intOf]
      · skip
        rw [c1] at k3_4
        have hy := Yf1.out c1
        clear c1
        subst hy
        have HF := Lib.hid (show Sp w [(w.heap.size, [some (.int .i64 q.h0.vL), some (.int .i64 q.h0.vH), some (.int .i64 q.h0.bL), some (.int .i64 q.h0.bH), some (.bool q.h0.ref), some (.int .i64 q.h1.vL), some (.int .i64 q.h1.vH), some (.int .i64 q.h1.bL), some (.int .i64 q.h1.bH), some (.bool q.h1.ref), some (.int .i64 q.h2.vL), some (.int .i64 q.h2.vH), some (.int .i64 q.h2.bL), some (.int .i64 q.h2.bH), some (.bool q.h2.ref), some (.int .i64 q.h3.vL), some (.int .i64 q.h3.vH), some (.int .i64 q.h3.bL), some (.int .i64 q.h3.bH), some (.bool q.h3.ref)]), (w.heap.size + 1, [some (.int .i64 0), some (.int .i64 0), some (.int .i64 0)]), (w.heap.size + 1 + 1, Obs.b3F 1 y2 y3 2)] _ from ((HS6.out).put 2 rfl 0 (.int .i64 1)).take 3)
        go_wp2_with fail
        go_roundw
        case rel => first | exact ⟨2, by omega, rfl, HF.out⟩ | ((repeat apply Exists.intro); exact ⟨⟨2, by omega, rfl, HF.out⟩, rfl⟩)
        case measure => simp [intOf]
    · skip
      have HS4 := Lib.hid (show Sp w [(w.heap.size, [some (.int .i64 q.h0.vL), some (.int .i64 q.h0.vH), some (.int .i64 q.h0.bL), some (.int .i64 q.h0.bH), some (.bool q.h0.ref), some (.int .i64 q.h1.vL), some (.int .i64 q.h1.vH), some (.int .i64 q.h1.bL), some (.int .i64 q.h1.bH), some (.bool q.h1.ref), some (.int .i64 q.h2.vL), some (.int .i64 q.h2.vH), some (.int .i64 q.h2.bL), some (.int .i64 q.h2.bH), some (.bool q.h2.ref), some (.int .i64 q.h3.vL), some (.int .i64 q.h3.vH), some (.int .i64 q.h3.bL), some (.int .i64 q.h3.bH), some (.bool q.h3.ref)]), (w.heap.size + 1, [some (.int .i64 0), some (.int .i64 0), some (.int .i64 0)]), (w.heap.size + 1 + 1, [some (.int .i64 y1), some (.int .i64 0), some (.int .i64 0)])] _ from hS)
      clear hS hj
      have ix : ∀ w, (Instr.index 35 (.agg (qa q)) (.int .i64 (2 : Int))).run Tryd.prog w = .ok (.agg #[.int .i64 q.h2.vL, .int .i64 q.h2.vH, .int .i64 q.h2.bL, .int .i64 q.h2.bH, .bool q.h2.ref]) w := IX.out 2 (by decide)
      go_upto_region 5 with fail
      clear ix
      have hS5 := (HS4.out).more [.int .i64 q.h2.vL, .int .i64 q.h2.vH, .int .i64 q.h2.bL, .int .i64 q.h2.bH, .bool q.h2.ref] 34
      have HS5 := Lib.hid hS5
      clear hS5 HS4
      obtain ⟨w4, hX, hS⟩ := (HS5.out).named
      rw [← hX]
      clear hX HS5
      have HS6 := Lib.hid hS
      clear hS
      have k3_4 := (HS6.out).at 3 rfl 4 (v := .bool q.h2.ref) rfl
      have k2_0 := (HS6.out).at 2 rfl 0 (v := .int .i64 y1) rfl
      have k2_1 := (HS6.out).at 2 rfl 1 (v := .int .i64 0) rfl
      have k2_2 := (HS6.out).at 2 rfl 2 (v := .int .i64 0) rfl
      have f2_0 := (HS6.out).free 2 rfl 0 rfl
      have f2_1 := (HS6.out).free 2 rfl 1 rfl
      have f2_2 := (HS6.out).free 2 rfl 2 rfl
      rcases Bool.eq_false_or_eq_true q.h2.ref with c1 | c1
      · skip
        rw [c1] at k3_4
        have hy := Yt2.out c1
        clear c1
        subst hy
        have HF := Lib.hid (show Sp w [(w.heap.size, [some (.int .i64 q.h0.vL), some (.int .i64 q.h0.vH), some (.int .i64 q.h0.bL), some (.int .i64 q.h0.bH), some (.bool q.h0.ref), some (.int .i64 q.h1.vL), some (.int .i64 q.h1.vH), some (.int .i64 q.h1.bL), some (.int .i64 q.h1.bH), some (.bool q.h1.ref), some (.int .i64 q.h2.vL), some (.int .i64 q.h2.vH), some (.int .i64 q.h2.bL), some (.int .i64 q.h2.bH), some (.bool q.h2.ref), some (.int .i64 q.h3.vL), some (.int .i64 q.h3.vH), some (.int .i64 q.h3.bL), some (.int .i64 q.h3.bH), some (.bool q.h3.ref)]), (w.heap.size + 1, [some (.int .i64 0), some (.int .i64 0), some (.int .i64 0)]), (w.heap.size + 1 + 1, Obs.b3F y1 0 y3 3)] _ from (HS6.out).take 3)
        go_wp2_with fail
        go_roundw
        case rel => first | exact ⟨3, by omega, rfl, HF.out⟩ | ((repeat apply Exists.intro); exact ⟨⟨3, by omega, rfl, HF.out⟩, rfl⟩)
        case measure => simp [intOf]
      · skip
        rw [c1] at k3_4
        have hy := Yf2.out c1
        clear c1
        subst hy
        have HF := Lib.hid (show Sp w [(w.heap.size, [some (.int .i64 q.h0.vL), some (.int .i64 q.h0.vH), some (.int .i64 q.h0.bL), some (.int .i64 q.h0.bH), some (.bool q.h0.ref), some (.int .i64 q.h1.vL), some (.int .i64 q.h1.vH), some (.int .i64 q.h1.bL), some (.int .i64 q.h1.bH), some (.bool q.h1.ref), some (.int .i64 q.h2.vL), some (.int .i64 q.h2.vH), some (.int .i64 q.h2.bL), some (.int .i64 q.h2.bH), some (.bool q.h2.ref), some (.int .i64 q.h3.vL), some (.int .i64 q.h3.vH), some (.int .i64 q.h3.bL), some (.int .i64 q.h3.bH), some (.bool q.h3.ref)]), (w.heap.size + 1, [some (.int .i64 0), some (.int .i64 0), some (.int .i64 0)]), (w.heap.size + 1 + 1, Obs.b3F y1 1 y3 3)] _ from ((HS6.out).put 2 rfl 1 (.int .i64 1)).take 3)
        go_wp2_with fail
        go_roundw
        case rel => first | exact ⟨3, by omega, rfl, HF.out⟩ | ((repeat apply Exists.intro); exact ⟨⟨3, by omega, rfl, HF.out⟩, rfl⟩)
        case measure => simp [intOf]
    · skip
      have HS4 := Lib.hid (show Sp w [(w.heap.size, [some (.int .i64 q.h0.vL), some (.int .i64 q.h0.vH), some (.int .i64 q.h0.bL), some (.int .i64 q.h0.bH), some (.bool q.h0.ref), some (.int .i64 q.h1.vL), some (.int .i64 q.h1.vH), some (.int .i64 q.h1.bL), some (.int .i64 q.h1.bH), some (.bool q.h1.ref), some (.int .i64 q.h2.vL), some (.int .i64 q.h2.vH), some (.int .i64 q.h2.bL), some (.int .i64 q.h2.bH), some (.bool q.h2.ref), some (.int .i64 q.h3.vL), some (.int .i64 q.h3.vH), some (.int .i64 q.h3.bL), some (.int .i64 q.h3.bH), some (.bool q.h3.ref)]), (w.heap.size + 1, [some (.int .i64 0), some (.int .i64 0), some (.int .i64 0)]), (w.heap.size + 1 + 1, [some (.int .i64 y1), some (.int .i64 y2), some (.int .i64 0)])] _ from hS)
      clear hS hj
      have ix : ∀ w, (Instr.index 35 (.agg (qa q)) (.int .i64 (3 : Int))).run Tryd.prog w = .ok (.agg #[.int .i64 q.h3.vL, .int .i64 q.h3.vH, .int .i64 q.h3.bL, .int .i64 q.h3.bH, .bool q.h3.ref]) w := IX.out 3 (by decide)
      go_upto_region 5 with fail
      clear ix
      have hS5 := (HS4.out).more [.int .i64 q.h3.vL, .int .i64 q.h3.vH, .int .i64 q.h3.bL, .int .i64 q.h3.bH, .bool q.h3.ref] 34
      have HS5 := Lib.hid hS5
      clear hS5 HS4
      obtain ⟨w5, hX, hS⟩ := (HS5.out).named
      rw [← hX]
      clear hX HS5
      have HS6 := Lib.hid hS
      clear hS
      have k3_4 := (HS6.out).at 3 rfl 4 (v := .bool q.h3.ref) rfl
      have k2_0 := (HS6.out).at 2 rfl 0 (v := .int .i64 y1) rfl
      have k2_1 := (HS6.out).at 2 rfl 1 (v := .int .i64 y2) rfl
      have k2_2 := (HS6.out).at 2 rfl 2 (v := .int .i64 0) rfl
      have f2_0 := (HS6.out).free 2 rfl 0 rfl
      have f2_1 := (HS6.out).free 2 rfl 1 rfl
      have f2_2 := (HS6.out).free 2 rfl 2 rfl
      rcases Bool.eq_false_or_eq_true q.h3.ref with c1 | c1
      · skip
        rw [c1] at k3_4
        have hy := Yt3.out c1
        clear c1
        subst hy
        have HF := Lib.hid (show Sp w [(w.heap.size, [some (.int .i64 q.h0.vL), some (.int .i64 q.h0.vH), some (.int .i64 q.h0.bL), some (.int .i64 q.h0.bH), some (.bool q.h0.ref), some (.int .i64 q.h1.vL), some (.int .i64 q.h1.vH), some (.int .i64 q.h1.bL), some (.int .i64 q.h1.bH), some (.bool q.h1.ref), some (.int .i64 q.h2.vL), some (.int .i64 q.h2.vH), some (.int .i64 q.h2.bL), some (.int .i64 q.h2.bH), some (.bool q.h2.ref), some (.int .i64 q.h3.vL), some (.int .i64 q.h3.vH), some (.int .i64 q.h3.bL), some (.int .i64 q.h3.bH), some (.bool q.h3.ref)]), (w.heap.size + 1, [some (.int .i64 0), some (.int .i64 0), some (.int .i64 0)]), (w.heap.size + 1 + 1, Obs.b3F y1 y2 0 4)] _ from (HS6.out).take 3)
        go_wp2_with fail
        go_roundw
        case rel => first | exact ⟨4, by omega, rfl, HF.out⟩ | ((repeat apply Exists.intro); exact ⟨⟨4, by omega, rfl, HF.out⟩, rfl⟩)
        case measure => simp [intOf]
      · skip
        rw [c1] at k3_4
        have hy := Yf3.out c1
        clear c1
        subst hy
        have HF := Lib.hid (show Sp w [(w.heap.size, [some (.int .i64 q.h0.vL), some (.int .i64 q.h0.vH), some (.int .i64 q.h0.bL), some (.int .i64 q.h0.bH), some (.bool q.h0.ref), some (.int .i64 q.h1.vL), some (.int .i64 q.h1.vH), some (.int .i64 q.h1.bL), some (.int .i64 q.h1.bH), some (.bool q.h1.ref), some (.int .i64 q.h2.vL), some (.int .i64 q.h2.vH), some (.int .i64 q.h2.bL), some (.int .i64 q.h2.bH), some (.bool q.h2.ref), some (.int .i64 q.h3.vL), some (.int .i64 q.h3.vH), some (.int .i64 q.h3.bL), some (.int .i64 q.h3.bH), some (.bool q.h3.ref)]), (w.heap.size + 1, [some (.int .i64 0), some (.int .i64 0), some (.int .i64 0)]), (w.heap.size + 1 + 1, Obs.b3F y1 y2 1 4)] _ from ((HS6.out).put 2 rfl 2 (.int .i64 1)).take 3)
        go_wp2_with fail
        go_roundw
        case rel => first | exact ⟨4, by omega, rfl, HF.out⟩ | ((repeat apply Exists.intro); exact ⟨⟨4, by omega, rfl, HF.out⟩, rfl⟩)
        case measure => simp [intOf]
    · skip
      have HS4 := Lib.hid (show Sp w [(w.heap.size, [some (.int .i64 q.h0.vL), some (.int .i64 q.h0.vH), some (.int .i64 q.h0.bL), some (.int .i64 q.h0.bH), some (.bool q.h0.ref), some (.int .i64 q.h1.vL), some (.int .i64 q.h1.vH), some (.int .i64 q.h1.bL), some (.int .i64 q.h1.bH), some (.bool q.h1.ref), some (.int .i64 q.h2.vL), some (.int .i64 q.h2.vH), some (.int .i64 q.h2.bL), some (.int .i64 q.h2.bH), some (.bool q.h2.ref), some (.int .i64 q.h3.vL), some (.int .i64 q.h3.vH), some (.int .i64 q.h3.bL), some (.int .i64 q.h3.bH), some (.bool q.h3.ref)]), (w.heap.size + 1, [some (.int .i64 0), some (.int .i64 0), some (.int .i64 0)]), (w.heap.size + 1 + 1, [some (.int .i64 y1), some (.int .i64 y2), some (.int .i64 y3)])] _ from hS)
      clear hS hj
      have k2_0 := (HS4.out).at 2 rfl 0 (v := .int .i64 y1) rfl
      have k2_1 := (HS4.out).at 2 rfl 1 (v := .int .i64 y2) rfl
      have k2_2 := (HS4.out).at 2 rfl 2 (v := .int .i64 y3) rfl
      have r1_0 := (HS4.out).at 1 rfl 0 (v := .int .i64 0) rfl
      have r1_1 := (HS4.out).at 1 rfl 1 (v := .int .i64 0) rfl
      have r1_2 := (HS4.out).at 1 rfl 2 (v := .int .i64 0) rfl
      have rf1_0 := (HS4.out).free 1 rfl 0 rfl
      have rf1_1 := (HS4.out).free 1 rfl 1 rfl
      have rf1_2 := (HS4.out).free 1 rfl 2 rfl
      have BH := Lib.hid HS4.out.below
      clear HS4 IX
      go_wp2_with fail
      refine bodyPost_ret (v := .agg #[.int .i64 y1, .int .i64 y2, .int .i64 y3]) (by simp [results, Tryd.results17, go_sem, *]) rfl ⟨rfl, ?_⟩
      iterate 3 refine Below.setCell (p := ⟨w.heap.size + 1, _, none⟩) ?_ (show w.heap.size ≤ w.heap.size + 1 by omega) _
      exact BH.out

theorem RBlame_any (q : Qd) (w : World) :
    Calls Tryd.prog 17 #[qv q] w fun e w' => e = .returned (.agg #[.int .i64 (bl1 q.h1.ref), .int .i64 (bl1 q.h2.ref), .int .i64 (bl1 q.h3.ref)]) ∧ Below w.heap.size w w' :=
  RBlame_core q _ _ _ w (Lib.hid (index_q q)) (Lib.hid fun h => by rw [h]; rfl) (Lib.hid fun h => by rw [h]; rfl) (Lib.hid fun h => by rw [h]; rfl) (Lib.hid fun h => by rw [h]; rfl) (Lib.hid fun h => by rw [h]; rfl) (Lib.hid fun h => by rw [h]; rfl)
end Go.Proofs.YthhameambcplhaaDoor
