/- The landed span's Add, the landed air's Bias, Trend. -/
import Derived.Test.YtkjkmnclnedfhaaDoorAiNum
import Derived.Test.YtkjkmnclnedfhaaDoorObSpanC
import Derived.Test.YtkjkmnclnedfhaaDoorAiTrB
import Derived.Test.YtkjkmnclnedfhaaDoorObLanA
import Derived.Test.YtkjkmnclnedfhaaDoorSps
import Derived.Test.YtkjkmnclnedfhaaDoorAiA
import Derived.Lib.MinMax
import Derived.BigRegion
namespace Go.Proofs.YtkjkmnclnedfhaaDoor
open Go.RowKit Obs



set_option maxHeartbeats 1000000 in
theorem Add_core (a b c d l h L H : Int) (w : World) (E1 : Hid (∀ w, Calls Tryd.prog 35 #[.agg #[.int .i64 a, .int .i64 b]] w fun e w' => e = .returned (.bool false) ∧ Below w.heap.size w w'))
    (E2 : Hid (∀ w, Calls Tryd.prog 35 #[.agg #[.int .i64 c, .int .i64 d]] w fun e w' => e = .returned (.bool false) ∧ Below w.heap.size w w'))
    (S1 : Hid (∀ w, Calls Tryd.prog 38 #[.int .i64 a, .int .i64 c] w fun e w' => e = .returned (.int .i64 l) ∧ Below w.heap.size w w'))
    (S2 : Hid (∀ w, Calls Tryd.prog 38 #[.int .i64 b, .int .i64 d] w fun e w' => e = .returned (.int .i64 h) ∧ Below w.heap.size w w'))
    (O : Hid (∀ w', Below w.heap.size w w' → Calls Tryd.prog 36 #[.int .i64 l, .int .i64 h] w' fun e w'' => e = .returned (.agg #[.int .i64 L, .int .i64 H]) ∧ Below w'.heap.size w' w'')) :
    Calls Tryd.prog 28 #[.agg #[.int .i64 a, .int .i64 b], .agg #[.int .i64 c, .int .i64 d]] w fun e w' => e = .returned (.agg #[.int .i64 L, .int .i64 H]) ∧ Below w.heap.size w w' := by
  go_enter Tryd.func28, Tryd.ntmps28
  go_wp2_with fail
  refine (E1.out _).mono ?_; rintro e w1 ⟨rfl, hb1⟩
  have B1 := belowT (below3 w _ _ _) hb1
  have X1 := (own2c w _ _ _ _ _).keep hb1; have X1a := X1.c0; have X1b := X1.c1; have X1c := X1.f0; have X1d := X1.f1; have X1l := X1.lt
  have Y1 := ((own2b w _ _ _ _).more _).keep hb1; have Y1a := Y1.c0; have Y1b := Y1.c1; have Y1c := Y1.f0; have Y1d := Y1.f1; have Y1l := Y1.lt
  have Z1 := (((own2 w _ _ _).more _).more _).keep hb1; have Z1a := Z1.c0; have Z1b := Z1.c1; have Z1c := Z1.f0; have Z1d := Z1.f1; have Z1l := Z1.lt
  go_wp2_with fail
  refine (E2.out _).mono ?_; rintro e w2 ⟨rfl, hb2⟩
  have B2 := belowT (B1) hb2
  have X2 := (X1).keep hb2; have X2a := X2.c0; have X2b := X2.c1; have X2c := X2.f0; have X2d := X2.f1; have X2l := X2.lt
  have Y2 := (Y1).keep hb2; have Y2a := Y2.c0; have Y2b := Y2.c1; have Y2c := Y2.f0; have Y2d := Y2.f1; have Y2l := Y2.lt
  have Z2 := (Z1).keep hb2; have Z2a := Z2.c0; have Z2b := Z2.c1; have Z2c := Z2.f0; have Z2d := Z2.f1; have Z2l := Z2.lt
  go_wp2_with fail
  go_region_held3 (fun w' => w'.cell? ⟨w.heap.size, 0, none⟩ = some (.int .i64 a) ∧ w'.cell? ⟨w.heap.size, 1, none⟩ = some (.int .i64 b) ∧ w'.cell? ⟨w.heap.size + 1, 0, none⟩ = some (.int .i64 c) ∧ w'.cell? ⟨w.heap.size + 1, 1, none⟩ = some (.int .i64 d))
    (first
      | (go_split_ands; refine ⟨?_, ?_, ?_, ?_⟩ <;> first | exact keepc hb5 (by assumption) | exact keepc hb4 (by assumption) | exact keepc hb3 (by assumption))
      | (go_split_ands; refine ⟨?_, ?_, ?_, ?_⟩ <;> exact keeps (by omega) (keeps (by omega) (by assumption)))
      | go_keep)
    (first
      | (go_at_call 36; have _t := B4; clear _t; (with_reducible refine (O.out _ B4).mono ?_); rintro e w5 ⟨rfl, hb5⟩; have B5 := belowT B4 hb5; have R5 := (R4).keep hb5; obtain ⟨g0, g1, g2, g3⟩ := R5)
      | (go_at_call 38; have _t := B3; clear _t; (with_reducible refine (S2.out _).mono ?_); rintro e w4 ⟨rfl, hb4⟩; have B4 := belowT B3 hb4; have R4 := (R3).keep hb4)
      | (go_at_call 38; (with_reducible refine (S1.out _).mono ?_); rintro e w3 ⟨rfl, hb3⟩; have B3 := belowT (B2).drew hb3; have R3 := ((X2).drew).keep hb3))
  all_goals
    go_wp2_with fail
    exact bodyPost_ret (v := .agg #[.int .i64 L, .int .i64 H]) (by simp [results, Tryd.results28, go_sem, *]) rfl ⟨rfl, (B5.setCell (by simp; omega) _).setCell (by simp; omega) _⟩

theorem Add_none1 (a b c d : Int) (w : World) (n0 : w.cell? ⟨0, 0, none⟩ = some (.int .i64 1)) (n1 : w.cell? ⟨0, 1, none⟩ = some (.int .i64 0))
    (E1 : Hid (∀ w, Calls Tryd.prog 35 #[.agg #[.int .i64 a, .int .i64 b]] w fun e w' => e = .returned (.bool true) ∧ Below w.heap.size w w')) :
    Calls Tryd.prog 28 #[.agg #[.int .i64 a, .int .i64 b], .agg #[.int .i64 c, .int .i64 d]] w fun e w' => e = .returned (.agg #[.int .i64 1, .int .i64 0]) ∧ Below w.heap.size w w' := by
  go_enter Tryd.func28, Tryd.ntmps28
  go_wp2_with fail
  refine (E1.out _).mono ?_; rintro e w1 ⟨rfl, hb1⟩
  have B1 := belowT (below3 w _ _ _) hb1
  have X1 := (own2c w _ _ _ _ _).keep hb1; have X1a := X1.c0; have X1b := X1.c1; have X1c := X1.f0; have X1d := X1.f1; have X1l := X1.lt
  have Y1 := ((own2b w _ _ _ _).more _).keep hb1; have Y1a := Y1.c0; have Y1b := Y1.c1; have Y1c := Y1.f0; have Y1d := Y1.f1; have Y1l := Y1.lt
  have m0 := keepc B1 n0
  have m1 := keepc B1 n1
  go_wp2_with fail
  exact bodyPost_ret (v := .agg #[.int .i64 1, .int .i64 0]) (by simp [results, Tryd.results28, go_sem, *]) rfl ⟨rfl, (B1.setCell (by simp; omega) _).setCell (by simp; omega) _⟩

theorem Add_none2 (a b c d : Int) (w : World) (n0 : w.cell? ⟨0, 0, none⟩ = some (.int .i64 1)) (n1 : w.cell? ⟨0, 1, none⟩ = some (.int .i64 0))
    (E1 : Hid (∀ w, Calls Tryd.prog 35 #[.agg #[.int .i64 a, .int .i64 b]] w fun e w' => e = .returned (.bool false) ∧ Below w.heap.size w w'))
    (E2 : Hid (∀ w, Calls Tryd.prog 35 #[.agg #[.int .i64 c, .int .i64 d]] w fun e w' => e = .returned (.bool true) ∧ Below w.heap.size w w')) :
    Calls Tryd.prog 28 #[.agg #[.int .i64 a, .int .i64 b], .agg #[.int .i64 c, .int .i64 d]] w fun e w' => e = .returned (.agg #[.int .i64 1, .int .i64 0]) ∧ Below w.heap.size w w' := by
  go_enter Tryd.func28, Tryd.ntmps28
  go_wp2_with fail
  refine (E1.out _).mono ?_; rintro e w1 ⟨rfl, hb1⟩
  have B1 := belowT (below3 w _ _ _) hb1
  have X1 := (own2c w _ _ _ _ _).keep hb1; have X1a := X1.c0; have X1b := X1.c1; have X1c := X1.f0; have X1d := X1.f1; have X1l := X1.lt
  have Y1 := ((own2b w _ _ _ _).more _).keep hb1; have Y1a := Y1.c0; have Y1b := Y1.c1; have Y1c := Y1.f0; have Y1d := Y1.f1; have Y1l := Y1.lt
  go_wp2_with fail
  refine (E2.out _).mono ?_; rintro e w2 ⟨rfl, hb2⟩
  have B2 := belowT (B1) hb2
  have X2 := (X1).keep hb2; have X2a := X2.c0; have X2b := X2.c1; have X2c := X2.f0; have X2d := X2.f1; have X2l := X2.lt
  have m0 := keepc B2 n0
  have m1 := keepc B2 n1
  go_wp2_with fail
  exact bodyPost_ret (v := .agg #[.int .i64 1, .int .i64 0]) (by simp [results, Tryd.results28, go_sem, *]) rfl ⟨rfl, (B2.setCell (by simp; omega) _).setCell (by simp; omega) _⟩

theorem sAdd (a b c d : Int) (w : World) (n : NoneAt w) (ra : Fix.Room a) (rb : Fix.Room b) (rc : Fix.Room c) (rd : Fix.Room d) :
    Calls Tryd.prog 28 #[.agg #[.int .i64 a, .int .i64 b], .agg #[.int .i64 c, .int .i64 d]] w fun e w' => e = .returned (.agg #[.int .i64 (Sp.sel a b c d 1 (Sp.oL (Sp.sat (a + c)) (Sp.sat (b + d)))), .int .i64 (Sp.sel a b c d 0 (Sp.oH (Sp.sat (a + c)) (Sp.sat (b + d))))]) ∧ Below w.heap.size w w' := by
  have E1 := Lib.hid (Empty_any a b)
  have E2 := Lib.hid (Empty_any c d)
  by_cases h1 : b < a
  · rw [Sp.sel_a h1, Sp.sel_a h1]
    rw [decide_eq_true h1] at E1
    exact Add_none1 a b c d w n.c0 n.c1 E1
  · rw [decide_eq_false h1] at E1
    by_cases h2 : d < c
    · rw [Sp.sel_b h2, Sp.sel_b h2]
      rw [decide_eq_true h2] at E2
      exact Add_none2 a b c d w n.c0 n.c1 E1 E2
    · rw [Sp.sel_in h1 h2, Sp.sel_in h1 h2]
      rw [decide_eq_false h2] at E2
      exact Add_core a b c d _ _ _ _ w E1 E2 (Lib.hid fun w => Sat_b a c w ra rc) (Lib.hid fun w => Sat_b b d w rb rd) (Lib.hid fun w' B => of_any _ _ w' (n.keep B))



/-- The operations of a drawn region, as the translation has them. -/
def abias6 : Array Oper := #[
  { dst := some 14, op := .load 32 (.tmp 3), type := 32, pos := "air.go:79", after := #[], guard := none },
  { dst := some 15, op := .fieldAddr 34 (.tmp 5) 1, type := 0, pos := "air.go:79", after := #[], guard := none },
  { dst := some 16, op := .load 32 (.tmp 15), type := 32, pos := "air.go:79", after := #[{ on := 1, ground := .data }], guard := none },
  { dst := some 17, op := .call { callee := .value (.func 25), args := #[.tmp 14, .tmp 16], argTypes := #[32, 32] }, type := 32, pos := "air.go:79", after := #[{ on := 0, ground := .data }, { on := 2, ground := .data }], guard := none },
  { dst := none, op := .store 32 (.tmp 3) (.tmp 17), type := 0, pos := "air.go:79", after := #[{ on := 3, ground := .data }, { on := 3, ground := .chain }, { on := 0, ground := .phase }, { on := 1, ground := .phase }, { on := 2, ground := .phase }, { on := 3, ground := .phase }], guard := none }]
theorem abias6_plain : Region.noSelect abias6 = true := by kernel_rfl

set_option maxHeartbeats 4000000 in
set_option maxRecDepth 100000 in
theorem BiasQ_core (arr : Array Value) (o : Nat → Ob) (l h : Nat → Int) (w : World)
    (hi : (Tryd.prog.info? 35).map (·.size) = some arr.size)
    (IX : Hid (∀ j : Nat, j < 4 → ∀ w, (Instr.index 35 (.agg arr) (.int .i64 (j : Int))).run Tryd.prog w = .ok (.agg #[.int .i64 (o j).vL, .int .i64 (o j).vH, .int .i64 (o j).bL, .int .i64 (o j).bH, .bool (o j).ref]) w))
    (C0 : Hid (l 0 = 1)) (D0 : Hid (h 0 = 0)) (CT : Hid (∀ j, j < 4 → (o j).ref = true → l (j + 1) = l j ∧ h (j + 1) = h j))
    (HU : Hid (∀ j, j < 4 → (o j).ref = false → ∀ w', Below w.heap.size w w' → Calls Tryd.prog 25 #[sv (l j) (h j), sv (o j).bL (o j).bH] w' fun e w'' => e = .returned (sv (l (j + 1)) (h (j + 1))) ∧ Below w'.heap.size w' w'')) :
    Calls Tryd.prog 13 #[.agg arr] w fun e w' => e = .returned (sv (l 4) (h 4)) ∧ Below w.heap.size w w' := by
  have HA := range_keep (range_new w arr 35) (below2 (w.alloc (.cells arr 35)) (.cells #[.int .i64 0, .int .i64 0] 32) (.cells #[.int .i64 1, .int .i64 0] 32))
  have hS1 := (((Sp.none w).more arr.toList 35).more [.int .i64 0, .int .i64 0] 32).more [.int .i64 1, .int .i64 0] 32
  simp only [heap1] at hS1
  have HS1 := Lib.hid (show Sp w [(w.heap.size, arr.toList.map some), (w.heap.size + 1, [some (.int .i64 0), some (.int .i64 0)]), (w.heap.size + 1 + 1, [some (.int .i64 1), some (.int .i64 0)])] (((w.alloc (.cells arr 35)).alloc (.cells #[.int .i64 0, .int .i64 0] 32)).alloc (.cells #[.int .i64 1, .int .i64 0] 32)) from hS1)
  clear hS1
  go_enter Tryd.func13, Tryd.ntmps13
  go_wp2_with (refine list_load_any rfl 35 _ rfl _ 0 rfl arr _ HA Tryd.underlying35 rfl hi ?_)
  clear HA hi
  go_loopw [8] (fun i wr => ∃ j : Nat, j ≤ 4 ∧ i = .int .i64 j ∧ Sp w [(w.heap.size, arr.toList.map some), (w.heap.size + 1, [some (.int .i64 0), some (.int .i64 0)]), (w.heap.size + 1 + 1, [some (.int .i64 (l j)), some (.int .i64 (h j))])] wr) (fun i _ => 4 - (intOf i).toNat)
  case atStart => exact ⟨0, by omega, rfl, by rw [C0.out, D0.out]; exact HS1.out⟩
  case round =>
    obtain ⟨j, hj, rfl, hS⟩ := hrel
    have HS := Lib.hid hS
    clear hS HS1
    by_cases hc : (j : Int) < 4
    · have ix := IX.out j (by omega)
      have HS2 := Lib.hid ((HS.out).more [.int .i64 (o j).vL, .int .i64 (o j).vH, .int .i64 (o j).bL, .int .i64 (o j).bH, .bool (o j).ref] 34)
      rcases Bool.eq_false_or_eq_true (o j).ref with c1 | c1
      · obtain ⟨n1, n2⟩ := CT.out j (by omega) c1
        have HN := Lib.hid n1
        have HM := Lib.hid n2
        rw [c1] at ix HS2
        clear c1 n1 n2
        have HF := Lib.hid ((HS2.out).take 3)
        go_wp2_with fail
        go_roundw
        case rel => first | exact ⟨j + 1, by omega, rfl, by rw [HN.out, HM.out]; exact HF.out⟩ | ((repeat apply Exists.intro); exact ⟨⟨j + 1, by omega, rfl, by rw [HN.out, HM.out]; exact HF.out⟩, rfl⟩)
        case measure => simp [intOf]; omega
      · have HC := Lib.hid (HU.out j (by omega) c1)
        rw [c1] at ix HS2
        clear c1
        have k0 := (HS2.out).at 2 rfl 0 (v := .int .i64 (l j)) rfl
        have k1 := (HS2.out).at 2 rfl 1 (v := .int .i64 (h j)) rfl
        go_wp2_with fail
        refine (HC.out _ HS2.out.below).mono ?_; rintro e w2 ⟨rfl, hb2⟩
        have HS3 := Lib.hid (HS2.out.keep hb2)
        have f0 := (HS3.out).free 2 rfl 0 rfl
        have f1 := (HS3.out).free 2 rfl 1 rfl
        have m0 := (HS3.out).at 2 rfl 0 (v := .int .i64 (l j)) rfl
        have m1 := (HS3.out).at 2 rfl 1 (v := .int .i64 (h j)) rfl
        have HF := Lib.hid ((((HS3.out).put 2 rfl 0 (.int .i64 (l (j + 1)))).put 2 rfl 1 (.int .i64 (h (j + 1)))).take 3)
        clear hb2 HC k0 k1 HS2 HS HS3
        go_wp2_with fail
        go_roundw
        case rel => first | exact ⟨j + 1, by omega, rfl, HF.out⟩ | ((repeat apply Exists.intro); exact ⟨⟨j + 1, by omega, rfl, HF.out⟩, rfl⟩)
        case measure => simp [intOf]; omega
    · obtain rfl : j = 4 := by omega
      have k0 := (HS.out).at 2 rfl 0 (v := .int .i64 (l 4)) rfl
      have k1 := (HS.out).at 2 rfl 1 (v := .int .i64 (h 4)) rfl
      have r0 := (HS.out).at 1 rfl 0 (v := .int .i64 0) rfl
      have r1 := (HS.out).at 1 rfl 1 (v := .int .i64 0) rfl
      have f0 := (HS.out).free 1 rfl 0 rfl
      have f1 := (HS.out).free 1 rfl 1 rfl
      have BH := Lib.hid HS.out.below
      clear HS hc hj IX C0 D0 CT HU
      go_wp2_with fail
      exact bodyPost_ret (v := sv (l 4) (h 4)) (by simp [results, Tryd.results13, go_sem, *]) rfl ⟨rfl, (BH.out.setCell (p := ⟨w.heap.size + 1, 0, none⟩) (by simp) _).setCell (p := ⟨w.heap.size + 1, 1, none⟩) (by simp) _⟩

namespace Obs
def hbF (q : Qd) : Nat → Int × Int
  | 0 => (1, 0)
  | 1 => hb (1, 0) q.h0
  | 2 => hb (hb (1, 0) q.h0) q.h1
  | 3 => hb (hb (hb (1, 0) q.h0) q.h1) q.h2
  | _ => biasQ q
theorem hbF_next (q : Qd) : ∀ j, j < 4 → hbF q (j + 1) = hb (hbF q j) (qget q j)
  | 0, _ => rfl
  | 1, _ => rfl
  | 2, _ => rfl
  | 3, _ => rfl
  | n + 4, k => absurd k (by omega)
theorem hb_t {s : Int × Int} {o : Ob} (h : o.ref = true) : hb s o = s := by unfold hb; rw [h]; rfl
theorem hb_f {s : Int × Int} {o : Ob} (h : o.ref = false) : hb s o = (Sp.hullL s.1 s.2 o.bL o.bH, Sp.hullH s.1 s.2 o.bL o.bH) := by unfold hb; rw [h]; rfl
end Obs
theorem BiasQ_any (q : Qd) (w : World) (n : NoneAt w) :
    Calls Tryd.prog 13 #[qv q] w fun e w' => e = .returned (sv (biasQ q).1 (biasQ q).2) ∧ Below w.heap.size w w' := by
  refine BiasQ_core (qa q) (qget q) (fun j => (hbF q j).1) (fun j => (hbF q j).2) w (info_qa q) (Lib.hid (index_q q)) (Lib.hid rfl) (Lib.hid rfl) (Lib.hid fun j hj h => ?_) (Lib.hid fun j hj h w' B => ?_)
  · rw [hbF_next q j hj, hb_t h]; exact ⟨rfl, rfl⟩
  · rw [hbF_next q j hj, hb_f h]; exact Hull_any _ _ _ _ w' (n.keep B)
/-- The operations of a drawn region, as the translation has them. -/
def trd7 : Array Oper := #[
  { dst := some 26, op := .load 32 (.tmp 6), type := 32, pos := "air.go:92", after := #[], guard := none },
  { dst := some 27, op := .move (.tmp 0), type := 37, pos := "air.go:92", after := #[], guard := none },
  { dst := some 28, op := .move (.tmp 7), type := 3, pos := "air.go:92", after := #[], guard := none },
  { dst := some 29, op := .indexAddr 37 (.tmp 27) (.tmp 28), type := 0, pos := "air.go:92", after := #[{ on := 1, ground := .data }, { on := 2, ground := .data }], guard := none },
  { dst := some 30, op := .load 32 (.tmp 29), type := 32, pos := "air.go:92", after := #[{ on := 3, ground := .data }], guard := none },
  { dst := some 31, op := .load 32 (.tmp 8), type := 32, pos := "air.go:92", after := #[], guard := none },
  { dst := some 32, op := .move (.tmp 1), type := 2, pos := "air.go:92", after := #[], guard := none },
  { dst := some 33, op := .call { callee := .value (.func 12), args := #[.tmp 30, .tmp 31, .tmp 32], argTypes := #[32, 32, 2] }, type := 32, pos := "air.go:92", after := #[{ on := 4, ground := .data }, { on := 5, ground := .data }, { on := 6, ground := .data }], guard := none },
  { dst := some 34, op := .call { callee := .value (.func 28), args := #[.tmp 26, .tmp 33], argTypes := #[32, 32] }, type := 32, pos := "air.go:92", after := #[{ on := 0, ground := .data }, { on := 7, ground := .data }, { on := 7, ground := .chain }], guard := none },
  { dst := none, op := .store 32 (.tmp 6) (.tmp 34), type := 0, pos := "air.go:92", after := #[{ on := 8, ground := .data }, { on := 8, ground := .chain }, { on := 0, ground := .phase }, { on := 1, ground := .phase }, { on := 2, ground := .phase }, { on := 3, ground := .phase }, { on := 4, ground := .phase }, { on := 5, ground := .phase }, { on := 6, ground := .phase }, { on := 7, ground := .phase }, { on := 8, ground := .phase }], guard := none }]
theorem trd7_plain : Region.noSelect trd7 = true := by kernel_rfl

set_option maxHeartbeats 40000000 in
set_option maxRecDepth 100000 in
theorem Trend_core (n m cap cap2 b o : Nat) (mv : Int) (S T C : Nat → Int × Int) (w : World)
    (h1 : 1 ≤ n) (h2 : m ≤ 1000) (HM : Hid (m = n + 1))
    (LS : Hid (∀ j, j ≤ n → ∀ w', Below w.heap.size w w' → w'.cell? ⟨b, o + j * 2, none⟩ = some (.int .i64 (S j).1) ∧ w'.cell? ⟨b, o + j * 2 + 1, none⟩ = some (.int .i64 (S j).2)))
    (SL : Hid (∀ W, (Instr.sliceAt 37 (.slice (some ⟨b, o, none⟩) m cap) (some (.int .i64 1)) none none).run Tryd.prog W = .ok (.slice (some ⟨b, o + 2, none⟩) n cap2) W))
    (T0 : Hid (T 0 = (0, 0)))
    (CL : Hid (∀ j, j < n → ∀ w', Below w.heap.size w w' → Calls Tryd.prog 12 #[sv (S j).1 (S j).2, sv (S (j + 1)).1 (S (j + 1)).2, .int .i64 mv] w' fun e w'' => e = .returned (sv (C j).1 (C j).2) ∧ Below w'.heap.size w' w''))
    (AD : Hid (∀ j, j < n → ∀ w', Below w.heap.size w w' → Calls Tryd.prog 28 #[sv (T j).1 (T j).2, sv (C j).1 (C j).2] w' fun e w'' => e = .returned (sv (T (j + 1)).1 (T (j + 1)).2) ∧ Below w'.heap.size w' w''))
    : Calls Tryd.prog 14 #[.slice (some ⟨b, o, none⟩) m cap, .int .i64 mv] w fun e w' => e = .returned (.tuple #[sv (T n).1 (T n).2, .int .i64 0]) ∧ Below w.heap.size w w' := by
  have hm := HM.out
  have d2 : decide ((m : Int) < 2) = false := decide_eq_false (by omega)
  have d1 : decide ((1000 : Int) < m) = false := decide_eq_false (by omega)
  have H1 := Lib.hid h1
  have H2 := Lib.hid h2
  clear hm h1 h2
  have hS1 := ((Sp.none w).more [.int .i64 0, .int .i64 0] 32).more [.int .i64 0, .int .i64 0] 32
  simp only [heap1] at hS1
  have HS1 := Lib.hid hS1
  clear hS1
  have sl := SL.out
  clear SL
  go_enter Tryd.func14, Tryd.ntmps14
  go_upto_region 4 with fail
  obtain ⟨w1, hX, hS⟩ := (HS1.out).named
  rw [← hX]
  clear hX HS1
  have HS2 := Lib.hid hS
  clear hS
  go_wp2_with fail
  clear sl d1 d2
  go_loopw [21] (fun i wr => ∃ j : Nat, j ≤ n ∧ i = .int .i64 j ∧ Sp w [(w.heap.size, [some (.int .i64 0), some (.int .i64 0)]), (w.heap.size + 1, [some (.int .i64 (T j).1), some (.int .i64 (T j).2)])] wr) (fun i _ => n - (intOf i).toNat)
  case atStart => exact ⟨0, by omega, rfl, by rw [T0.out]; exact HS2.out⟩
  case round =>
    clear HS2 T0
    obtain ⟨j, hj, rfl, hS⟩ := hrel
    by_cases hc : (j : Int) < n
    · skip
      have CJ := Lib.hid (CL.out j (by omega))
      have AJ := Lib.hid (AD.out j (by omega))
      have LJ := Lib.hid (LS.out j (by omega))
      obtain ⟨e0, e1⟩ := LS.out (j + 1) (by omega) _ hS.below
      rw [show o + (j + 1) * 2 = o + 2 + j * 2 by omega] at e0 e1
      have hjm : (j : Int) < m := by have := HM.out; omega
      have hnb : (n : Int) ≤ 1000 := by have := HM.out; have := H2.out; omega
      have hj0 : (0 : Int) ≤ j := by omega
      obtain ⟨t1, ht1⟩ : ∃ z, z = (T (j + 1)).1 := ⟨_, rfl⟩
      obtain ⟨t2, ht2⟩ : ∃ z, z = (T (j + 1)).2 := ⟨_, rfl⟩
      rw [← ht1, ← ht2] at AJ
      have HT1 := Lib.hid ht1
      have HT2 := Lib.hid ht2
      clear ht1 ht2
      generalize (S j).1 = s1 at *
      generalize (S j).2 = s2 at *
      generalize (S (j + 1)).1 = n1 at *
      generalize (S (j + 1)).2 = n2 at *
      generalize (C j).1 = c1 at *
      generalize (C j).2 = c2 at *
      generalize (T j).1 = a1 at *
      generalize (T j).2 = a2 at *
      have HS3 := Lib.hid (show Sp w [(w.heap.size, [some (.int .i64 0), some (.int .i64 0)]), (w.heap.size + 1, [some (.int .i64 a1), some (.int .i64 a2)])] _ from hS)
      clear hS CL AD LS hj
      go_upto_region 7 with fail
      clear e0 e1
      have hS4 := (HS3.out).more [.int .i64 n1, .int .i64 n2] 32
      have HS4 := Lib.hid hS4
      clear hS4 HS3
      obtain ⟨w2, hX, HK⟩ := (HS4.out).named
      rw [← hX]
      clear hX
      have hT := ((HK).forget 1 rfl 0).forget 1 rfl 1
      obtain ⟨bs1, hbs⟩ : ∃ bs : List (Nat × List (Option Value)), bs = [(w.heap.size, [some (.int .i64 0), some (.int .i64 0)]), (w.heap.size + 1, [none, none]), (wr.heap.size, [some (.int .i64 n1), some (.int .i64 n2)])] := ⟨_, rfl⟩
      replace hT : Sp w bs1 w2 := hbs ▸ hT
      have c2_0 : ∀ w', Sp w bs1 w' → w'.cell? ⟨wr.heap.size, 0, none⟩ = some (.int .i64 n1) := by rw [hbs]; exact fun w' h => h.at 2 rfl 0 rfl
      have c2_1 : ∀ w', Sp w bs1 w' → w'.cell? ⟨wr.heap.size, 1, none⟩ = some (.int .i64 n2) := by rw [hbs]; exact fun w' h => h.at 2 rfl 1 rfl
      have cs0 : ∀ w', Sp w bs1 w' → w'.cell? ⟨b, o + j * 2, none⟩ = some (.int .i64 s1) := fun w' h => (LJ.out _ h.below).1
      have cs1 : ∀ w', Sp w bs1 w' → w'.cell? ⟨b, o + j * 2 + 1, none⟩ = some (.int .i64 s2) := fun w' h => (LJ.out _ h.below).2
      have kS : ∀ w1 w2, Sp w bs1 w1 → Below w1.heap.size w1 w2 → Sp w bs1 w2 := fun _ _ h hb => h.keep hb
      have s1_0 : ∀ w' z, Sp w bs1 w' → Sp w bs1 (w'.setCell ⟨w.heap.size + 1, 0, none⟩ z) := by rw [hbs]; exact fun w' z h => h.hit 1 rfl 0 rfl z
      have s1_1 : ∀ w' z, Sp w bs1 w' → Sp w bs1 (w'.setCell ⟨w.heap.size + 1, 1, none⟩ z) := by rw [hbs]; exact fun w' z h => h.hit 1 rfl 1 rfl z
      have nx : ∀ w', Sp w [(w.heap.size, [some (.int .i64 0), some (.int .i64 0)]), (w.heap.size + 1, [some (.int .i64 a1), some (.int .i64 a2)]), (wr.heap.size, [some (.int .i64 n1), some (.int .i64 n2)])] w' → Sp w [(w.heap.size, [some (.int .i64 0), some (.int .i64 0)]), (w.heap.size + 1, [some (.int .i64 t1), some (.int .i64 t2)]), (wr.heap.size, [some (.int .i64 n1), some (.int .i64 n2)])] ((w'.setCell ⟨w.heap.size + 1, 0, none⟩ (.int .i64 t1)).setCell ⟨w.heap.size + 1, 1, none⟩ (.int .i64 t2)) := fun w' h => ((h.put 1 rfl 0 _).put 1 rfl 1 _)
      clear hbs HS4
      change (Code.region 7 trd7 true).wp Tryd.prog _ _ _
      refine wp_region_noPanic ?_
      refine wp_region_held_drew (S := (Sp w bs1)) (by kernel_rfl) (hT.drew) (fun hHeld => ?_)
      obtain ⟨w3, hX⟩ : ∃ x, x = w2.drew := ⟨_, rfl⟩
      have hb : Below w2.heap.size w2 w3 := hX ▸ (Below.refl _ _).drew
      rw [← hX] at hHeld ⊢
      have HB := hHeld; clear hHeld
      replace HK := HK.keep hb
      clear hb hX
      refine wpAnyH_take (i := 1) (oi := ({ dst := some 27, op := .move (.tmp 0), type := 37, pos := "air.go:92", after := #[], guard := none } : Oper)) (v := ?vt1_1_) rfl trd7_plain (by as_aux_lemma => kernel_rfl) (by as_aux_lemma => kernel_rfl) (fun _ _ _ h => h) (Or.inl ⟨by rfl, ?yt1_1_⟩) HB ?rt1_1_
      case yt1_1_ => (intro w hSw; (try dsimp only at hSw); go_simp; try with_reducible rfl)
      try simp only [Act.put, List.setIfInBounds_toArray, List.set_cons_zero, List.set_cons_succ]
      refine wpAnyH_take (i := 2) (oi := ({ dst := some 28, op := .move (.tmp 7), type := 3, pos := "air.go:92", after := #[], guard := none } : Oper)) (v := ?vt1_2_) rfl trd7_plain (by as_aux_lemma => kernel_rfl) (by as_aux_lemma => kernel_rfl) (fun _ _ _ h => h) (Or.inl ⟨by rfl, ?yt1_2_⟩) HB ?rt1_2_
      case yt1_2_ => (intro w hSw; (try dsimp only at hSw); go_simp; try with_reducible rfl)
      try simp only [Act.put, List.setIfInBounds_toArray, List.set_cons_zero, List.set_cons_succ]
      refine wpAnyH_take (i := 3) (oi := ({ dst := some 29, op := .indexAddr 37 (.tmp 27) (.tmp 28), type := 0, pos := "air.go:92", after := #[{ on := 1, ground := .data }, { on := 2, ground := .data }], guard := none } : Oper)) (v := ?vt1_3_) rfl trd7_plain (by as_aux_lemma => kernel_rfl) (by as_aux_lemma => kernel_rfl) (fun _ _ _ h => h) (Or.inl ⟨by rfl, ?yt1_3_⟩) HB ?rt1_3_
      case yt1_3_ => (intro w hSw; (try dsimp only at hSw); go_simp; try with_reducible rfl)
      try simp only [Act.put, List.setIfInBounds_toArray, List.set_cons_zero, List.set_cons_succ]
      refine wpAnyH_take (i := 4) (oi := ({ dst := some 30, op := .load 32 (.tmp 29), type := 32, pos := "air.go:92", after := #[{ on := 3, ground := .data }], guard := none } : Oper)) (v := ?vt1_4_) rfl trd7_plain (by as_aux_lemma => kernel_rfl) (by as_aux_lemma => kernel_rfl) (fun _ _ _ h => h) (Or.inl ⟨by rfl, ?yt1_4_⟩) HB ?rt1_4_
      case yt1_4_ => (intro w hSw; (try dsimp only at hSw); go_simp; try with_reducible rfl)
      try simp only [Act.put, List.setIfInBounds_toArray, List.set_cons_zero, List.set_cons_succ]
      refine wpAnyH_take (i := 5) (oi := ({ dst := some 31, op := .load 32 (.tmp 8), type := 32, pos := "air.go:92", after := #[], guard := none } : Oper)) (v := ?vt1_5_) rfl trd7_plain (by as_aux_lemma => kernel_rfl) (by as_aux_lemma => kernel_rfl) (fun _ _ _ h => h) (Or.inl ⟨by rfl, ?yt1_5_⟩) HB ?rt1_5_
      case yt1_5_ => (intro w hSw; (try dsimp only at hSw); go_simp; try with_reducible rfl)
      try simp only [Act.put, List.setIfInBounds_toArray, List.set_cons_zero, List.set_cons_succ]
      refine wpAnyH_take (i := 6) (oi := ({ dst := some 32, op := .move (.tmp 1), type := 2, pos := "air.go:92", after := #[], guard := none } : Oper)) (v := ?vt1_6_) rfl trd7_plain (by as_aux_lemma => kernel_rfl) (by as_aux_lemma => kernel_rfl) (fun _ _ _ h => h) (Or.inl ⟨by rfl, ?yt1_6_⟩) HB ?rt1_6_
      case yt1_6_ => (intro w hSw; (try dsimp only at hSw); go_simp; try with_reducible rfl)
      try simp only [Act.put, List.setIfInBounds_toArray, List.set_cons_zero, List.set_cons_succ]
      refine wpAnyH_ready (rs := [0, 7]) (by as_aux_lemma => kernel_rfl) (by simp) ?_
      refine AllReadyH.cons (o := ({ dst := some 26, op := .load 32 (.tmp 6), type := 32, pos := "air.go:92", after := #[], guard := none } : Oper)) rfl (fun KK hK => ?_) (AllReadyH.cons (o := ({ dst := some 33, op := .call { callee := .value (.func 12), args := #[.tmp 30, .tmp 31, .tmp 32], argTypes := #[32, 32, 2] }, type := 32, pos := "air.go:92", after := #[{ on := 4, ground := .data }, { on := 5, ground := .data }, { on := 6, ground := .data }], guard := none } : Oper)) rfl (fun KK hK => ?_) AllReadyH.nil)
      · skip
        rw [if_pos (by rfl)]
        have ld0 := HK.at 1 rfl 0 (v := .int .i64 a1) rfl
        have ld1 := HK.at 1 rfl 1 (v := .int .i64 a2) rfl
        go_simp
        obtain ⟨w4, hX⟩ : ∃ x, x = w3 := ⟨_, rfl⟩
        have hb : Below w3.heap.size w3 w4 := (show w3 = w4 from hX.symm) ▸ Below.refl _ _
        rw [← hX]
        clear hX ld0 ld1
        refine hK.out _ _ ?_ (fun hHeld => ?_)
        · exact kS _ _ HB hb
        replace HB := hHeld; clear hHeld hK KK
        replace HK := HK.keep hb
        clear hb
        try simp only [Act.put, List.setIfInBounds_toArray, List.set_cons_zero, List.set_cons_succ]
        refine wpAnyH_ready (rs := [7]) (by as_aux_lemma => kernel_rfl) (by simp) ?_
        refine AllReadyH.cons (o := ({ dst := some 33, op := .call { callee := .value (.func 12), args := #[.tmp 30, .tmp 31, .tmp 32], argTypes := #[32, 32, 2] }, type := 32, pos := "air.go:92", after := #[{ on := 4, ground := .data }, { on := 5, ground := .data }, { on := 6, ground := .data }], guard := none } : Oper)) rfl (fun KK hK => ?_) AllReadyH.nil
        rw [if_pos (by rfl)]
        go_simp
        go_at_call 12; refine (CJ.out _ HK.below).mono ?_; rintro e w5 ⟨rfl, hb⟩
        go_wp2_with fail
        refine hK.out _ _ ?_ (fun hHeld => ?_)
        · exact kS _ _ HB hb
        replace HB := hHeld; clear hHeld hK KK
        replace HK := HK.keep hb
        clear hb
        try simp only [Act.put, List.setIfInBounds_toArray, List.set_cons_zero, List.set_cons_succ]
        refine wpAnyH_ready (rs := [8]) (by as_aux_lemma => kernel_rfl) (by simp) ?_
        refine AllReadyH.cons (o := ({ dst := some 34, op := .call { callee := .value (.func 28), args := #[.tmp 26, .tmp 33], argTypes := #[32, 32] }, type := 32, pos := "air.go:92", after := #[{ on := 0, ground := .data }, { on := 7, ground := .data }, { on := 7, ground := .chain }], guard := none } : Oper)) rfl (fun KK hK => ?_) AllReadyH.nil
        rw [if_pos (by rfl)]
        go_simp
        go_at_call 28; refine (AJ.out _ HK.below).mono ?_; rintro e w6 ⟨rfl, hb⟩
        go_wp2_with fail
        refine hK.out _ _ ?_ (fun hHeld => ?_)
        · exact kS _ _ HB hb
        replace HB := hHeld; clear hHeld hK KK
        replace HK := HK.keep hb
        clear hb
        try simp only [Act.put, List.setIfInBounds_toArray, List.set_cons_zero, List.set_cons_succ]
        refine wpAnyH_ready (rs := [9]) (by as_aux_lemma => kernel_rfl) (by simp) ?_
        refine AllReadyH.cons (o := ({ dst := none, op := .store 32 (.tmp 6) (.tmp 34), type := 0, pos := "air.go:92", after := #[{ on := 8, ground := .data }, { on := 8, ground := .chain }, { on := 0, ground := .phase }, { on := 1, ground := .phase }, { on := 2, ground := .phase }, { on := 3, ground := .phase }, { on := 4, ground := .phase }, { on := 5, ground := .phase }, { on := 6, ground := .phase }, { on := 7, ground := .phase }, { on := 8, ground := .phase }], guard := none } : Oper)) rfl (fun KK hK => ?_) AllReadyH.nil
        rw [if_pos (by rfl)]
        obtain ⟨z1_0, l1_0, f1_0⟩ := HK.there 1 rfl 0 rfl
        obtain ⟨z1_1, l1_1, f1_1⟩ := HK.there 1 rfl 1 rfl
        have N1 := nx _ HK
        have HN := (s1_1 _ (.int .i64 t2) (s1_0 _ (.int .i64 t1) HB))
        go_simp
        obtain ⟨w7, hX⟩ : ∃ x, x = ((w6.setCell ⟨w.heap.size + 1, 0, none⟩ (.int .i64 t1)).setCell ⟨w.heap.size + 1, 1, none⟩ (.int .i64 t2)) := ⟨_, rfl⟩
        rw [← hX] at HN N1 ⊢
        clear hX HK l1_0 f1_0 l1_1 f1_1
        refine hK.out _ _ ?_ (fun hHeld => ?_)
        · exact HN
        replace HB := hHeld; clear hHeld hK KK HN
        try simp only [Act.put]
        refine wpAnyH_done (by as_aux_lemma => kernel_rfl) ?_ _
        refine NoPanic.normal ?_
        go_wp2_with fail
        go_roundw
        have HF := N1.take 2
        rw [HT1.out, HT2.out] at HF
        case rel => first | exact ⟨j + 1, by omega, rfl, HF⟩ | ((repeat apply Exists.intro); exact ⟨⟨j + 1, by omega, rfl, HF⟩, rfl⟩)
        case measure => simp [intOf]; omega
      · skip
        rw [if_pos (by rfl)]
        go_simp
        go_at_call 12; refine (CJ.out _ HK.below).mono ?_; rintro e w4 ⟨rfl, hb⟩
        go_wp2_with fail
        refine hK.out _ _ ?_ (fun hHeld => ?_)
        · exact kS _ _ HB hb
        replace HB := hHeld; clear hHeld hK KK
        replace HK := HK.keep hb
        clear hb
        try simp only [Act.put, List.setIfInBounds_toArray, List.set_cons_zero, List.set_cons_succ]
        refine wpAnyH_ready (rs := [0]) (by as_aux_lemma => kernel_rfl) (by simp) ?_
        refine AllReadyH.cons (o := ({ dst := some 26, op := .load 32 (.tmp 6), type := 32, pos := "air.go:92", after := #[], guard := none } : Oper)) rfl (fun KK hK => ?_) AllReadyH.nil
        rw [if_pos (by rfl)]
        have ld0 := HK.at 1 rfl 0 (v := .int .i64 a1) rfl
        have ld1 := HK.at 1 rfl 1 (v := .int .i64 a2) rfl
        go_simp
        obtain ⟨w5, hX⟩ : ∃ x, x = w4 := ⟨_, rfl⟩
        have hb : Below w4.heap.size w4 w5 := (show w4 = w5 from hX.symm) ▸ Below.refl _ _
        rw [← hX]
        clear hX ld0 ld1
        refine hK.out _ _ ?_ (fun hHeld => ?_)
        · exact kS _ _ HB hb
        replace HB := hHeld; clear hHeld hK KK
        replace HK := HK.keep hb
        clear hb
        try simp only [Act.put, List.setIfInBounds_toArray, List.set_cons_zero, List.set_cons_succ]
        refine wpAnyH_ready (rs := [8]) (by as_aux_lemma => kernel_rfl) (by simp) ?_
        refine AllReadyH.cons (o := ({ dst := some 34, op := .call { callee := .value (.func 28), args := #[.tmp 26, .tmp 33], argTypes := #[32, 32] }, type := 32, pos := "air.go:92", after := #[{ on := 0, ground := .data }, { on := 7, ground := .data }, { on := 7, ground := .chain }], guard := none } : Oper)) rfl (fun KK hK => ?_) AllReadyH.nil
        rw [if_pos (by rfl)]
        go_simp
        go_at_call 28; refine (AJ.out _ HK.below).mono ?_; rintro e w6 ⟨rfl, hb⟩
        go_wp2_with fail
        refine hK.out _ _ ?_ (fun hHeld => ?_)
        · exact kS _ _ HB hb
        replace HB := hHeld; clear hHeld hK KK
        replace HK := HK.keep hb
        clear hb
        try simp only [Act.put, List.setIfInBounds_toArray, List.set_cons_zero, List.set_cons_succ]
        refine wpAnyH_ready (rs := [9]) (by as_aux_lemma => kernel_rfl) (by simp) ?_
        refine AllReadyH.cons (o := ({ dst := none, op := .store 32 (.tmp 6) (.tmp 34), type := 0, pos := "air.go:92", after := #[{ on := 8, ground := .data }, { on := 8, ground := .chain }, { on := 0, ground := .phase }, { on := 1, ground := .phase }, { on := 2, ground := .phase }, { on := 3, ground := .phase }, { on := 4, ground := .phase }, { on := 5, ground := .phase }, { on := 6, ground := .phase }, { on := 7, ground := .phase }, { on := 8, ground := .phase }], guard := none } : Oper)) rfl (fun KK hK => ?_) AllReadyH.nil
        rw [if_pos (by rfl)]
        obtain ⟨z1_0, l1_0, f1_0⟩ := HK.there 1 rfl 0 rfl
        obtain ⟨z1_1, l1_1, f1_1⟩ := HK.there 1 rfl 1 rfl
        have N1 := nx _ HK
        have HN := (s1_1 _ (.int .i64 t2) (s1_0 _ (.int .i64 t1) HB))
        go_simp
        obtain ⟨w7, hX⟩ : ∃ x, x = ((w6.setCell ⟨w.heap.size + 1, 0, none⟩ (.int .i64 t1)).setCell ⟨w.heap.size + 1, 1, none⟩ (.int .i64 t2)) := ⟨_, rfl⟩
        rw [← hX] at HN N1 ⊢
        clear hX HK l1_0 f1_0 l1_1 f1_1
        refine hK.out _ _ ?_ (fun hHeld => ?_)
        · exact HN
        replace HB := hHeld; clear hHeld hK KK HN
        try simp only [Act.put]
        refine wpAnyH_done (by as_aux_lemma => kernel_rfl) ?_ _
        refine NoPanic.normal ?_
        go_wp2_with fail
        go_roundw
        have HF := N1.take 2
        rw [HT1.out, HT2.out] at HF
        case rel => first | exact ⟨j + 1, by omega, rfl, HF⟩ | ((repeat apply Exists.intro); exact ⟨⟨j + 1, by omega, rfl, HF⟩, rfl⟩)
        case measure => simp [intOf]; omega
    · obtain rfl : j = n := by omega
      have HS5 := Lib.hid (show Sp w [(w.heap.size, [some (.int .i64 0), some (.int .i64 0)]), (w.heap.size + 1, [some (.int .i64 (T j).1), some (.int .i64 (T j).2)])] _ from hS)
      clear hS CL AD LS hj
      have k1_0 := (HS5.out).at 1 rfl 0 (v := .int .i64 (T j).1) rfl
      have k1_1 := (HS5.out).at 1 rfl 1 (v := .int .i64 (T j).2) rfl
      have r0_0 := (HS5.out).at 0 rfl 0 (v := .int .i64 0) rfl
      have r0_1 := (HS5.out).at 0 rfl 1 (v := .int .i64 0) rfl
      have rf0_0 := (HS5.out).free 0 rfl 0 rfl
      have rf0_1 := (HS5.out).free 0 rfl 1 rfl
      have BH := Lib.hid HS5.out.below
      go_wp2_with fail
      refine bodyPost_ret (v := .tuple #[sv (T j).1 (T j).2, .int .i64 0]) (by simp [results, Tryd.results14, go_sem, *]) rfl ⟨rfl, ?_⟩
      iterate 2 refine Below.setCell (p := ⟨w.heap.size, _, none⟩) ?_ (show w.heap.size ≤ w.heap.size by omega) _
      exact BH.out

set_option maxHeartbeats 4000000 in
theorem Trend_few (ba : Option Addr) (n cap : Nat) (mv : Int) (w : World) (h : n < 2) :
    Calls Tryd.prog 14 #[.slice ba n cap, .int .i64 mv] w fun e w' => e = .returned (.tuple #[sv 0 0, .int .i64 1]) ∧ Below w.heap.size w w' := by
  have d2 : decide ((n : Int) < 2) = true := decide_eq_true (by omega)
  clear h
  go_enter Tryd.func14, Tryd.ntmps14
  go_wp2_with fail
  exact bodyPost_ret (v := .tuple #[sv 0 0, .int .i64 1]) (by simp [results, Tryd.results14, go_sem, *]) rfl ⟨rfl, below1 w _⟩
theorem slice_one (b o n cap : Nat) (h : 1 ≤ n) (hc : n + 1 ≤ cap) (W : World) : (Instr.sliceAt 37 (.slice (some ⟨b, o, none⟩) (n + 1) cap) (some (.int .i64 1)) none none).run Tryd.prog W = .ok (.slice (some ⟨b, o + 2, none⟩) n (cap - 1)) W := by
  have hu : Tryd.prog.underlying 37 = some (.slice (Tryd.prog.elem 37)) := Tryd.underlying37
  have hs : ∀ W, (sizeOf (Tryd.prog.elem 37)).run Tryd.prog W = .ok 2 W := fun W => by kernel_rfl
  rw [run_sliceAt_slice (h := hu), run_slice_l (ht := hu) (h0 := by omega) (h1 := by omega), hs]
  show Result.ok (sliced (some ⟨b, o, none⟩) (1 : Int).toNat (n + 1) cap 2) W = _
  unfold sliced
  rw [if_neg (by show ¬ cap = 1; omega)]
  rfl
theorem Trend_any {w : World} {b o cap n : Nat} {l : List (Int × Int)} (L : LiesSp w b o l) (hl : l.length = n + 1) (hc : l.length ≤ cap) (h1 : 1 ≤ n) (h2 : n < 1000) (mv : Int) (h0 : 0 ≤ mv) (hv : mv ≤ 9223372036854775807) (z : NoneAt w) (r : ∀ j, j ≤ n → SR (l.getD j (0, 0))) :
    Calls Tryd.prog 14 #[.slice (some ⟨b, o, none⟩) l.length cap, .int .i64 mv] w fun e w' => e = .returned (.tuple #[sv (trendS mv l n).1 (trendS mv l n).2, .int .i64 0]) ∧ Below w.heap.size w w' := by
  rw [hl] at hc ⊢
  exact Trend_core n (n + 1) cap (cap - 1) b o mv (fun j => l.getD j (0, 0)) (trendS mv l) (fun j => climbS mv (l.getD j (0, 0)) (l.getD (j + 1) (0, 0))) w h1 (by omega) (Lib.hid rfl)
    (Lib.hid fun j hj w' B => (L.keep B).at j (by omega)) (Lib.hid (slice_one b o n cap h1 hc)) (Lib.hid rfl)
    (Lib.hid fun j hj w' B => Climb_any mv _ _ w' (z.keep B) h0 hv (r j (by omega)) (r (j + 1) (by omega)))
    (Lib.hid fun j hj w' B => sAdd _ _ _ _ w' (z.keep B) (trend_r6 mv l j).1 (trend_r6 mv l j).2 (climb_r6 h0 hv _ _).1 (climb_r6 h0 hv _ _).2)
end Go.Proofs.YtkjkmnclnedfhaaDoor
