/- The landed triple's Hull, Blame. -/
import Derived.Test.YtkjkmnclnedfhaaDoorAiTrA
import Derived.Test.YtkjkmnclnedfhaaDoorSp
namespace Go.Proofs.YtkjkmnclnedfhaaDoor
open Go.RowKit Obs

set_option maxHeartbeats 8000000 in
theorem Hull_any (a b c d : Int) (w : World) (n : NoneAt w) :
    Calls Tryd.prog 25 #[.agg #[.int .i64 a, .int .i64 b], .agg #[.int .i64 c, .int .i64 d]] w fun e w' => e = .returned (.agg #[.int .i64 (Sp.hullL a b c d), .int .i64 (Sp.hullH a b c d)]) ∧ Below w.heap.size w w' := by
  have O : Hid (∀ w', Below w.heap.size w w' → Calls Tryd.prog 36 #[.int .i64 (min a c), .int .i64 (max b d)] w' fun e w'' => e = .returned (.agg #[.int .i64 (Sp.oL (min a c) (max b d)), .int .i64 (Sp.oH (min a c) (max b d))]) ∧ Below w'.heap.size w' w'') :=
    Lib.hid fun w' B => of_any _ _ w' (n.keep B)
  have E1 := Lib.hid (Empty_any a b)
  have E2 := Lib.hid (Empty_any c d)
  unfold Sp.hullL Sp.hullH
  by_cases h1 : b < a
  · rw [if_pos h1, if_pos h1]
    rw [decide_eq_true h1] at E1
    clear O E2 h1 n
    go_enter Tryd.func25, Tryd.ntmps25
    go_wp2_with fail
    refine (E1.out _).mono ?_; rintro e w1 ⟨rfl, hb1⟩
    have B1 := belowT (below3 w _ _ _) hb1
    have X1 := (own2c w _ _ _ _ _).keep hb1; have X1a := X1.c0; have X1b := X1.c1; have X1c := X1.f0; have X1d := X1.f1; have X1l := X1.lt
    have Y1 := ((own2b w _ _ _ _).more _).keep hb1; have Y1a := Y1.c0; have Y1b := Y1.c1; have Y1c := Y1.f0; have Y1d := Y1.f1; have Y1l := Y1.lt
    go_wp2_with fail
    exact bodyPost_ret (v := .agg #[.int .i64 c, .int .i64 d]) (by simp [results, Tryd.results25, go_sem, *]) rfl ⟨rfl, (B1.setCell (by simp; omega) _).setCell (by simp; omega) _⟩
  · rw [if_neg h1, if_neg h1]
    rw [decide_eq_false h1] at E1
    by_cases h2 : d < c
    · rw [if_pos h2, if_pos h2]
      rw [decide_eq_true h2] at E2
      clear O h1 h2 n
      go_enter Tryd.func25, Tryd.ntmps25
      go_wp2_with fail
      refine (E1.out _).mono ?_; rintro e w1 ⟨rfl, hb1⟩
      have B1 := belowT (below3 w _ _ _) hb1
      have X1 := (own2c w _ _ _ _ _).keep hb1; have X1a := X1.c0; have X1b := X1.c1; have X1c := X1.f0; have X1d := X1.f1; have X1l := X1.lt
      have Y1 := ((own2b w _ _ _ _).more _).keep hb1; have Y1a := Y1.c0; have Y1b := Y1.c1; have Y1c := Y1.f0; have Y1d := Y1.f1; have Y1l := Y1.lt
      have Z1 := (((own2 w _ _ _).more _).more _).keep hb1; have Z1a := Z1.c0; have Z1b := Z1.c1; have Z1c := Z1.f0; have Z1d := Z1.f1; have Z1l := Z1.lt
      go_wp2_with fail
      refine (E2.out _).mono ?_; rintro e w2 ⟨rfl, hb2⟩
      have B2 := belowT (B1) hb2
      have X2 := (X1).keep hb2; have X2a := X2.c0; have X2b := X2.c1; have X2c := X2.f0; have X2d := X2.f1; have X2l := X2.lt
      have Y2 := (Y1).keep hb2; have Y2a := Y2.c0; have Y2b := Y2.c1; have Y2c := Y2.f0; have Y2d := Y2.f1; have Y2l := Y2.lt
      have Z2 := (Z1).keep hb2; have Z2a := Z2.c0; have Z2b := Z2.c1; have Z2c := Z2.f0; have Z2d := Z2.f1; have Z2l := Z2.lt
      go_wp2_with fail
      exact bodyPost_ret (v := .agg #[.int .i64 a, .int .i64 b]) (by simp [results, Tryd.results25, go_sem, *]) rfl ⟨rfl, (B2.setCell (by simp; omega) _).setCell (by simp; omega) _⟩
    · rw [if_neg h2, if_neg h2]
      rw [decide_eq_false h2] at E2
      generalize Sp.oL (min a c) (max b d) = L at *
      generalize Sp.oH (min a c) (max b d) = H at *
      clear h1 h2 n
      go_enter Tryd.func25, Tryd.ntmps25
      go_wp2_with fail
      refine (E1.out _).mono ?_; rintro e w1 ⟨rfl, hb1⟩
      have B1 := belowT (below3 w _ _ _) hb1
      have X1 := (own2c w _ _ _ _ _).keep hb1; have X1a := X1.c0; have X1b := X1.c1; have X1c := X1.f0; have X1d := X1.f1; have X1l := X1.lt
      have Y1 := ((own2b w _ _ _ _).more _).keep hb1; have Y1a := Y1.c0; have Y1b := Y1.c1; have Y1c := Y1.f0; have Y1d := Y1.f1; have Y1l := Y1.lt
      have Z1 := (((own2 w _ _ _).more _).more _).keep hb1; have Z1a := Z1.c0; have Z1b := Z1.c1; have Z1c := Z1.f0; have Z1d := Z1.f1; have Z1l := Z1.lt
      go_wp2_with fail
      refine (E2.out _).mono ?_; rintro e w2 ⟨rfl, hb2⟩
      have B2 := belowT (B1) hb2
      have X2 := (X1).keep hb2; have X2a := X2.c0; have X2b := X2.c1; have X2c := X2.f0; have X2d := X2.f1; have X2l := X2.lt
      have Y2 := (Y1).keep hb2; have Y2a := Y2.c0; have Y2b := Y2.c1; have Y2c := Y2.f0; have Y2d := Y2.f1; have Y2l := Y2.lt
      have Z2 := (Z1).keep hb2; have Z2a := Z2.c0; have Z2b := Z2.c1; have Z2c := Z2.f0; have Z2d := Z2.f1; have Z2l := Z2.lt
      go_wp2_with fail
      refine (O.out _ B2).mono ?_; rintro e w3 ⟨rfl, hb3⟩
      have B3 := belowT (B2) hb3
      have X3 := (X2).keep hb3; have X3a := X3.c0; have X3b := X3.c1; have X3c := X3.f0; have X3d := X3.f1; have X3l := X3.lt
      have Y3 := (Y2).keep hb3; have Y3a := Y3.c0; have Y3b := Y3.c1; have Y3c := Y3.f0; have Y3d := Y3.f1; have Y3l := Y3.lt
      have Z3 := (Z2).keep hb3; have Z3a := Z3.c0; have Z3b := Z3.c1; have Z3c := Z3.f0; have Z3d := Z3.f1; have Z3l := Z3.lt
      go_wp2_with fail
      exact bodyPost_ret (v := .agg #[.int .i64 L, .int .i64 H]) (by simp [results, Tryd.results25, go_sem, *]) rfl ⟨rfl, (B3.setCell (by simp; omega) _).setCell (by simp; omega) _⟩

/-- The operations of a drawn region, as the translation has them. -/
def thull6 : Array Oper := #[
  { dst := some 14, op := .load 32 (.tmp 3), type := 32, pos := "triple.go:74", after := #[], guard := none },
  { dst := some 15, op := .fieldAddr 34 (.tmp 5) 0, type := 0, pos := "triple.go:74", after := #[], guard := none },
  { dst := some 16, op := .load 32 (.tmp 15), type := 32, pos := "triple.go:74", after := #[{ on := 1, ground := .data }], guard := none },
  { dst := some 17, op := .call { callee := .value (.func 25), args := #[.tmp 14, .tmp 16], argTypes := #[32, 32] }, type := 32, pos := "triple.go:74", after := #[{ on := 0, ground := .data }, { on := 2, ground := .data }], guard := none },
  { dst := none, op := .store 32 (.tmp 3) (.tmp 17), type := 0, pos := "triple.go:74", after := #[{ on := 3, ground := .data }, { on := 3, ground := .chain }, { on := 0, ground := .phase }, { on := 1, ground := .phase }, { on := 2, ground := .phase }, { on := 3, ground := .phase }], guard := none }]
theorem thull6_plain : Region.noSelect thull6 = true := by kernel_rfl

set_option maxHeartbeats 4000000 in
set_option maxRecDepth 100000 in
theorem HullQ_core (arr : Array Value) (o : Nat → Ob) (l h : Nat → Int) (w : World)
    (hi : (Tryd.prog.info? 35).map (·.size) = some arr.size)
    (IX : Hid (∀ j : Nat, j < 4 → ∀ w, (Instr.index 35 (.agg arr) (.int .i64 (j : Int))).run Tryd.prog w = .ok (.agg #[.int .i64 (o j).vL, .int .i64 (o j).vH, .int .i64 (o j).bL, .int .i64 (o j).bH, .bool (o j).ref]) w))
    (C0 : Hid (l 0 = 1)) (D0 : Hid (h 0 = 0)) (CT : Hid (∀ j, j < 4 → (o j).ref = true → l (j + 1) = l j ∧ h (j + 1) = h j))
    (HU : Hid (∀ j, j < 4 → (o j).ref = false → ∀ w', Below w.heap.size w w' → Calls Tryd.prog 25 #[sv (l j) (h j), sv (o j).vL (o j).vH] w' fun e w'' => e = .returned (sv (l (j + 1)) (h (j + 1))) ∧ Below w'.heap.size w' w'')) :
    Calls Tryd.prog 10 #[.agg arr] w fun e w' => e = .returned (sv (l 4) (h 4)) ∧ Below w.heap.size w w' := by
  have HA := range_keep (range_new w arr 35) (below2 (w.alloc (.cells arr 35)) (.cells #[.int .i64 0, .int .i64 0] 32) (.cells #[.int .i64 1, .int .i64 0] 32))
  have hS1 := (((Sp.none w).more arr.toList 35).more [.int .i64 0, .int .i64 0] 32).more [.int .i64 1, .int .i64 0] 32
  simp only [heap1] at hS1
  have HS1 := Lib.hid (show Sp w [(w.heap.size, arr.toList.map some), (w.heap.size + 1, [some (.int .i64 0), some (.int .i64 0)]), (w.heap.size + 1 + 1, [some (.int .i64 1), some (.int .i64 0)])] (((w.alloc (.cells arr 35)).alloc (.cells #[.int .i64 0, .int .i64 0] 32)).alloc (.cells #[.int .i64 1, .int .i64 0] 32)) from hS1)
  clear hS1
  go_enter Tryd.func10, Tryd.ntmps10
  go_wp2_with (refine list_load_any rfl 35 _ rfl _ 0 rfl arr _ HA Tryd.underlying35 rfl hi ?_)
  clear HA hi
  go_loopw [8] (fun i wr => ∃ j : Nat, j ≤ 4 ∧ i = .int .i64 j ∧ Sp w [(w.heap.size, arr.toList.map some), (w.heap.size + 1, [some (.int .i64 0), some (.int .i64 0)]), (w.heap.size + 1 + 1, [some (.int .i64 (l j)), some (.int .i64 (h j))])] wr) (fun i _ => 4 - (intOf i).toNat)
  case atStart => exact ⟨0, by omega, rfl, by rw [C0.out, D0.out]; exact HS1.out⟩
  case round =>
    obtain ⟨j, hj, rfl, hS⟩ := hrel
    have HS := Lib.hid hS
    clear hS HS1
    by_cases hc : (j : Int) < 4
    · have ix := IX.out j (by omega)
      have HS2 := Lib.hid ((HS.out).more [.int .i64 (o j).vL, .int .i64 (o j).vH, .int .i64 (o j).bL, .int .i64 (o j).bH, .bool (o j).ref] 34)
      rcases Bool.eq_false_or_eq_true (o j).ref with c1 | c1
      · obtain ⟨n1, n2⟩ := CT.out j (by omega) c1
        have HN := Lib.hid n1
        have HM := Lib.hid n2
        rw [c1] at ix HS2
        clear c1 n1 n2
        have HF := Lib.hid ((HS2.out).take 3)
        go_wp2_with fail
        go_roundw
        case rel => first | exact ⟨j + 1, by omega, rfl, by rw [HN.out, HM.out]; exact HF.out⟩ | ((repeat apply Exists.intro); exact ⟨⟨j + 1, by omega, rfl, by rw [HN.out, HM.out]; exact HF.out⟩, rfl⟩)
        case measure => simp [intOf]; omega
      · have HC := Lib.hid (HU.out j (by omega) c1)
        rw [c1] at ix HS2
        clear c1
        have k0 := (HS2.out).at 2 rfl 0 (v := .int .i64 (l j)) rfl
        have k1 := (HS2.out).at 2 rfl 1 (v := .int .i64 (h j)) rfl
        go_wp2_with fail
        refine (HC.out _ HS2.out.below).mono ?_; rintro e w2 ⟨rfl, hb2⟩
        have HS3 := Lib.hid (HS2.out.keep hb2)
        have f0 := (HS3.out).free 2 rfl 0 rfl
        have f1 := (HS3.out).free 2 rfl 1 rfl
        have m0 := (HS3.out).at 2 rfl 0 (v := .int .i64 (l j)) rfl
        have m1 := (HS3.out).at 2 rfl 1 (v := .int .i64 (h j)) rfl
        have HF := Lib.hid ((((HS3.out).put 2 rfl 0 (.int .i64 (l (j + 1)))).put 2 rfl 1 (.int .i64 (h (j + 1)))).take 3)
        clear hb2 HC k0 k1 HS2 HS HS3
        go_wp2_with fail
        go_roundw
        case rel => first | exact ⟨j + 1, by omega, rfl, HF.out⟩ | ((repeat apply Exists.intro); exact ⟨⟨j + 1, by omega, rfl, HF.out⟩, rfl⟩)
        case measure => simp [intOf]; omega
    · obtain rfl : j = 4 := by omega
      have k0 := (HS.out).at 2 rfl 0 (v := .int .i64 (l 4)) rfl
      have k1 := (HS.out).at 2 rfl 1 (v := .int .i64 (h 4)) rfl
      have r0 := (HS.out).at 1 rfl 0 (v := .int .i64 0) rfl
      have r1 := (HS.out).at 1 rfl 1 (v := .int .i64 0) rfl
      have f0 := (HS.out).free 1 rfl 0 rfl
      have f1 := (HS.out).free 1 rfl 1 rfl
      have BH := Lib.hid HS.out.below
      clear HS hc hj IX C0 D0 CT HU
      go_wp2_with fail
      exact bodyPost_ret (v := sv (l 4) (h 4)) (by simp [results, Tryd.results10, go_sem, *]) rfl ⟨rfl, (BH.out.setCell (p := ⟨w.heap.size + 1, 0, none⟩) (by simp) _).setCell (p := ⟨w.heap.size + 1, 1, none⟩) (by simp) _⟩

namespace Obs
def huF (q : Qd) : Nat → Int × Int
  | 0 => (1, 0)
  | 1 => hu (1, 0) q.h0
  | 2 => hu (hu (1, 0) q.h0) q.h1
  | 3 => hu (hu (hu (1, 0) q.h0) q.h1) q.h2
  | _ => hullQ q
theorem huF_next (q : Qd) : ∀ j, j < 4 → huF q (j + 1) = hu (huF q j) (qget q j)
  | 0, _ => rfl
  | 1, _ => rfl
  | 2, _ => rfl
  | 3, _ => rfl
  | n + 4, k => absurd k (by omega)
theorem hu_t {s : Int × Int} {o : Ob} (h : o.ref = true) : hu s o = s := by unfold hu; rw [h]; rfl
theorem hu_f {s : Int × Int} {o : Ob} (h : o.ref = false) : hu s o = (Sp.hullL s.1 s.2 o.vL o.vH, Sp.hullH s.1 s.2 o.vL o.vH) := by unfold hu; rw [h]; rfl
end Obs
theorem HullQ_any (q : Qd) (w : World) (n : NoneAt w) :
    Calls Tryd.prog 10 #[qv q] w fun e w' => e = .returned (sv (hullQ q).1 (hullQ q).2) ∧ Below w.heap.size w w' := by
  refine HullQ_core (qa q) (qget q) (fun j => (huF q j).1) (fun j => (huF q j).2) w (info_qa q) (Lib.hid (index_q q)) (Lib.hid rfl) (Lib.hid rfl) (Lib.hid fun j hj h => ?_) (Lib.hid fun j hj h w' B => ?_)
  · rw [huF_next q j hj, hu_t h]; exact ⟨rfl, rfl⟩
  · rw [huF_next q j hj, hu_f h]; exact Hull_any _ _ _ _ w' (n.keep B)
end Go.Proofs.YtkjkmnclnedfhaaDoor
