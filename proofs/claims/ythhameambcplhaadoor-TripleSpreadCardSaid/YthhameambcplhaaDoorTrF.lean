/- The document's own Spread: the walk. -/
import Derived.Test.YthhameambcplhaaDoorTrA
import Derived.Test.YthhameambcplhaaDoorSp
import Derived.BigRegion
namespace Go.Proofs.YthhameambcplhaaDoor
open Go.RowKit Obs

namespace Obs
def oR : Nat → Nat
  | 0 => 0
  | 1 => 0
  | 2 => 1
  | 3 => 3
  | _ => 6
end Obs
set_option maxHeartbeats 40000000 in
set_option maxRecDepth 100000 in
theorem RSpread_core (q : Qd) (F g : Nat → Int) (w : World)
    (IX : Hid (∀ j : Nat, j < 4 → ∀ w, (Instr.index 35 (.agg (qa q)) (.int .i64 (j : Int))).run Tryd.prog w = .ok (.agg #[.int .i64 (qget q j).vL, .int .i64 (qget q j).vH, .int .i64 (qget q j).bL, .int .i64 (qget q j).bH, .bool (qget q j).ref]) w))
    (F0 : Hid (F 0 = 0))
    (G0 : Hid (∀ w', Below w.heap.size w w' → Calls Tryd.prog 29 #[sv q.h1.vL q.h1.vH, sv q.h0.vL q.h0.vH] w' fun e w'' => e = .returned (.int .i64 (g 0)) ∧ Below w'.heap.size w' w''))
    (PT0 : Hid (q.h1.ref = false → q.h0.ref = false → max (F 0) (g 0) = F 1)) (PA0 : Hid (q.h1.ref = true → F 1 = F 0)) (PB0 : Hid (q.h0.ref = true → F 1 = F 0))
    (G1 : Hid (∀ w', Below w.heap.size w w' → Calls Tryd.prog 29 #[sv q.h2.vL q.h2.vH, sv q.h0.vL q.h0.vH] w' fun e w'' => e = .returned (.int .i64 (g 1)) ∧ Below w'.heap.size w' w''))
    (PT1 : Hid (q.h2.ref = false → q.h0.ref = false → max (F 1) (g 1) = F 2)) (PA1 : Hid (q.h2.ref = true → F 2 = F 1)) (PB1 : Hid (q.h0.ref = true → F 2 = F 1))
    (G2 : Hid (∀ w', Below w.heap.size w w' → Calls Tryd.prog 29 #[sv q.h2.vL q.h2.vH, sv q.h1.vL q.h1.vH] w' fun e w'' => e = .returned (.int .i64 (g 2)) ∧ Below w'.heap.size w' w''))
    (PT2 : Hid (q.h2.ref = false → q.h1.ref = false → max (F 2) (g 2) = F 3)) (PA2 : Hid (q.h2.ref = true → F 3 = F 2)) (PB2 : Hid (q.h1.ref = true → F 3 = F 2))
    (G3 : Hid (∀ w', Below w.heap.size w w' → Calls Tryd.prog 29 #[sv q.h3.vL q.h3.vH, sv q.h0.vL q.h0.vH] w' fun e w'' => e = .returned (.int .i64 (g 3)) ∧ Below w'.heap.size w' w''))
    (PT3 : Hid (q.h3.ref = false → q.h0.ref = false → max (F 3) (g 3) = F 4)) (PA3 : Hid (q.h3.ref = true → F 4 = F 3)) (PB3 : Hid (q.h0.ref = true → F 4 = F 3))
    (G4 : Hid (∀ w', Below w.heap.size w w' → Calls Tryd.prog 29 #[sv q.h3.vL q.h3.vH, sv q.h1.vL q.h1.vH] w' fun e w'' => e = .returned (.int .i64 (g 4)) ∧ Below w'.heap.size w' w''))
    (PT4 : Hid (q.h3.ref = false → q.h1.ref = false → max (F 4) (g 4) = F 5)) (PA4 : Hid (q.h3.ref = true → F 5 = F 4)) (PB4 : Hid (q.h1.ref = true → F 5 = F 4))
    (G5 : Hid (∀ w', Below w.heap.size w w' → Calls Tryd.prog 29 #[sv q.h3.vL q.h3.vH, sv q.h2.vL q.h2.vH] w' fun e w'' => e = .returned (.int .i64 (g 5)) ∧ Below w'.heap.size w' w''))
    (PT5 : Hid (q.h3.ref = false → q.h2.ref = false → max (F 5) (g 5) = F 6)) (PA5 : Hid (q.h3.ref = true → F 6 = F 5)) (PB5 : Hid (q.h2.ref = true → F 6 = F 5))
    : Calls Tryd.prog 19 #[qv q] w fun e w' => e = .returned (.int .i64 (F 6)) ∧ Below w.heap.size w w' := by
  have hS1 := (Sp.none w).more [.int .i64 q.h0.vL, .int .i64 q.h0.vH, .int .i64 q.h0.bL, .int .i64 q.h0.bH, .bool q.h0.ref, .int .i64 q.h1.vL, .int .i64 q.h1.vH, .int .i64 q.h1.bL, .int .i64 q.h1.bH, .bool q.h1.ref, .int .i64 q.h2.vL, .int .i64 q.h2.vH, .int .i64 q.h2.bL, .int .i64 q.h2.bH, .bool q.h2.ref, .int .i64 q.h3.vL, .int .i64 q.h3.vH, .int .i64 q.h3.bL, .int .i64 q.h3.bH, .bool q.h3.ref] 35
  have HS1 := Lib.hid hS1
  clear hS1
  have hS2 := (show Sp w [(w.heap.size, [some (.int .i64 q.h0.vL), some (.int .i64 q.h0.vH), some (.int .i64 q.h0.bL), some (.int .i64 q.h0.bH), some (.bool q.h0.ref), some (.int .i64 q.h1.vL), some (.int .i64 q.h1.vH), some (.int .i64 q.h1.bL), some (.int .i64 q.h1.bH), some (.bool q.h1.ref), some (.int .i64 q.h2.vL), some (.int .i64 q.h2.vH), some (.int .i64 q.h2.bL), some (.int .i64 q.h2.bH), some (.bool q.h2.ref), some (.int .i64 q.h3.vL), some (.int .i64 q.h3.vH), some (.int .i64 q.h3.bL), some (.int .i64 q.h3.bH), some (.bool q.h3.ref)])] (w.alloc (.cells (qa q) 35)) from HS1.out)
  have HS2 := Lib.hid hS2
  clear hS2 HS1
  have HI := Lib.hid (info_qa q)
  have HA := Lib.hid ((HS2.out).range 0 (l := qc q) rfl)
  go_enter Tryd.func19, Tryd.ntmps19
  go_upto_region 1 with fail
  go_wp2_with (refine list_load_any rfl 35 _ rfl _ 0 rfl (qa q) _ HA.out Tryd.underlying35 rfl HI.out ?_)
  clear HA HI
  go_loopw [3, 9] (fun n i wr => ∃ j : Nat, j ≤ 4 ∧ i = .int .i64 j ∧ n = .int .i64 (F (Obs.oR j)) ∧ Sp w [(w.heap.size, [some (.int .i64 q.h0.vL), some (.int .i64 q.h0.vH), some (.int .i64 q.h0.bL), some (.int .i64 q.h0.bH), some (.bool q.h0.ref), some (.int .i64 q.h1.vL), some (.int .i64 q.h1.vH), some (.int .i64 q.h1.bL), some (.int .i64 q.h1.bH), some (.bool q.h1.ref), some (.int .i64 q.h2.vL), some (.int .i64 q.h2.vH), some (.int .i64 q.h2.bL), some (.int .i64 q.h2.bH), some (.bool q.h2.ref), some (.int .i64 q.h3.vL), some (.int .i64 q.h3.vH), some (.int .i64 q.h3.bL), some (.int .i64 q.h3.bH), some (.bool q.h3.ref)])] wr) (fun _ i _ => 4 - (intOf i).toNat)
  case atStart => exact ⟨0, by omega, rfl, by rw [show Obs.oR 0 = 0 from rfl, F0.out], HS2.out⟩
  case round =>
    clear HS2
    obtain ⟨j, hj, rfl, rfl, hS⟩ := hrel
    rcases (show j = 0 ∨ j = 1 ∨ j = 2 ∨ j = 3 ∨ j = 4 by omega) with rfl | rfl | rfl | rfl | rfl
    · skip
      have HS3 := Lib.hid hS
      clear hS hj
      skip
      have ix : ∀ w, (Instr.index 35 (.agg (qa q)) (.int .i64 (0 : Int))).run Tryd.prog w = .ok (.agg #[.int .i64 q.h0.vL, .int .i64 q.h0.vH, .int .i64 q.h0.bL, .int .i64 q.h0.bH, .bool q.h0.ref]) w := IX.out 0 (by decide)
      go_upto_region 5 with fail
      clear ix
      have hS4 := (HS3.out).more [.int .i64 q.h0.vL, .int .i64 q.h0.vH, .int .i64 q.h0.bL, .int .i64 q.h0.bH, .bool q.h0.ref] 34
      have HS4 := Lib.hid hS4
      clear hS4 HS3
      obtain ⟨w1, hX, hS⟩ := (HS4.out).named
      rw [← hX]
      clear hX HS4
      have HS5 := Lib.hid hS
      clear hS
      go_wp2_with fail
      go_loopw [3, 16] (fun n i wx => ∃ k : Nat, k ≤ 0 ∧ i = .int .i64 k ∧ n = .int .i64 (F (0 + k)) ∧ Sp w [(w.heap.size, [some (.int .i64 q.h0.vL), some (.int .i64 q.h0.vH), some (.int .i64 q.h0.bL), some (.int .i64 q.h0.bH), some (.bool q.h0.ref), some (.int .i64 q.h1.vL), some (.int .i64 q.h1.vH), some (.int .i64 q.h1.bL), some (.int .i64 q.h1.bH), some (.bool q.h1.ref), some (.int .i64 q.h2.vL), some (.int .i64 q.h2.vH), some (.int .i64 q.h2.bL), some (.int .i64 q.h2.bH), some (.bool q.h2.ref), some (.int .i64 q.h3.vL), some (.int .i64 q.h3.vH), some (.int .i64 q.h3.bL), some (.int .i64 q.h3.bH), some (.bool q.h3.ref)]), (wr.heap.size, [some (.int .i64 q.h0.vL), some (.int .i64 q.h0.vH), some (.int .i64 q.h0.bL), some (.int .i64 q.h0.bH), some (.bool q.h0.ref)])] wx) (fun _ i _ => 0 - (intOf i).toNat)
      case atStart => first | exact ⟨0, by omega, rfl, rfl, HS5.out⟩ | ((repeat apply Exists.intro); exact ⟨⟨0, by omega, rfl, rfl, HS5.out⟩, rfl⟩)
      case round =>
        clear HS5
        obtain ⟨k, hk, rfl, rfl, hT⟩ := hrel
        obtain rfl : k = 0 := by omega
        have HF := Lib.hid (hT.take 1)
        clear hT hk
        go_wp2_with fail
        go_roundw
        case rel => first | exact ⟨1, by omega, rfl, rfl, HF.out⟩ | ((repeat apply Exists.intro); exact ⟨⟨1, by omega, rfl, rfl, HF.out⟩, rfl⟩)
        case measure => simp [intOf]
    · skip
      have HS3 := Lib.hid hS
      clear hS hj
      skip
      have ix : ∀ w, (Instr.index 35 (.agg (qa q)) (.int .i64 (1 : Int))).run Tryd.prog w = .ok (.agg #[.int .i64 q.h1.vL, .int .i64 q.h1.vH, .int .i64 q.h1.bL, .int .i64 q.h1.bH, .bool q.h1.ref]) w := IX.out 1 (by decide)
      go_upto_region 5 with fail
      clear ix
      have hS4 := (HS3.out).more [.int .i64 q.h1.vL, .int .i64 q.h1.vH, .int .i64 q.h1.bL, .int .i64 q.h1.bH, .bool q.h1.ref] 34
      have HS4 := Lib.hid hS4
      clear hS4 HS3
      obtain ⟨w2, hX, hS⟩ := (HS4.out).named
      rw [← hX]
      clear hX HS4
      have HS5 := Lib.hid hS
      clear hS
      go_wp2_with fail
      go_loopw [3, 16] (fun n i wx => ∃ k : Nat, k ≤ 1 ∧ i = .int .i64 k ∧ n = .int .i64 (F (0 + k)) ∧ Sp w [(w.heap.size, [some (.int .i64 q.h0.vL), some (.int .i64 q.h0.vH), some (.int .i64 q.h0.bL), some (.int .i64 q.h0.bH), some (.bool q.h0.ref), some (.int .i64 q.h1.vL), some (.int .i64 q.h1.vH), some (.int .i64 q.h1.bL), some (.int .i64 q.h1.bH), some (.bool q.h1.ref), some (.int .i64 q.h2.vL), some (.int .i64 q.h2.vH), some (.int .i64 q.h2.bL), some (.int .i64 q.h2.bH), some (.bool q.h2.ref), some (.int .i64 q.h3.vL), some (.int .i64 q.h3.vH), some (.int .i64 q.h3.bL), some (.int .i64 q.h3.bH), some (.bool q.h3.ref)]), (wr.heap.size, [some (.int .i64 q.h1.vL), some (.int .i64 q.h1.vH), some (.int .i64 q.h1.bL), some (.int .i64 q.h1.bH), some (.bool q.h1.ref)])] wx) (fun _ i _ => 1 - (intOf i).toNat)
      case atStart => first | exact ⟨0, by omega, rfl, rfl, HS5.out⟩ | ((repeat apply Exists.intro); exact ⟨⟨0, by omega, rfl, rfl, HS5.out⟩, rfl⟩)
      case round =>
        clear HS5
        obtain ⟨k, hk, rfl, rfl, hT⟩ := hrel
        rcases (show k = 0 ∨ k = 1 by omega) with rfl | rfl
        · skip
          have HS6 := Lib.hid hT
          clear hT hk
          have k0_0 := (HS6.out).at 0 rfl 0 (v := .int .i64 q.h0.vL) rfl
          have k0_1 := (HS6.out).at 0 rfl 1 (v := .int .i64 q.h0.vH) rfl
          have k0_2 := (HS6.out).at 0 rfl 2 (v := .int .i64 q.h0.bL) rfl
          have k0_3 := (HS6.out).at 0 rfl 3 (v := .int .i64 q.h0.bH) rfl
          have k0_4 := (HS6.out).at 0 rfl 4 (v := .bool q.h0.ref) rfl
          go_upto_region 8 with fail
          clear k0_0 k0_1 k0_2 k0_3 k0_4
          have hS7 := (HS6.out).more [.int .i64 q.h0.vL, .int .i64 q.h0.vH, .int .i64 q.h0.bL, .int .i64 q.h0.bH, .bool q.h0.ref] 34
          have HS7 := Lib.hid hS7
          clear hS7 HS6
          obtain ⟨w3, hX, hS⟩ := (HS7.out).named
          rw [← hX]
          clear hX HS7
          have HS8 := Lib.hid hS
          clear hS
          have k1_0 := (HS8.out).at 1 rfl 0 (v := .int .i64 q.h1.vL) rfl
          have k1_1 := (HS8.out).at 1 rfl 1 (v := .int .i64 q.h1.vH) rfl
          have k1_4 := (HS8.out).at 1 rfl 4 (v := .bool q.h1.ref) rfl
          have k2_0 := (HS8.out).at 2 rfl 0 (v := .int .i64 q.h0.vL) rfl
          have k2_1 := (HS8.out).at 2 rfl 1 (v := .int .i64 q.h0.vH) rfl
          have k2_4 := (HS8.out).at 2 rfl 4 (v := .bool q.h0.ref) rfl
          have HT1 := Lib.hid ((HS8.out).take 2)
          clear HS8
          rcases Bool.eq_false_or_eq_true q.h1.ref with cA | cA
          · skip
            have HE := Lib.hid (PA0.out cA)
            rw [cA] at k1_4
            clear cA
            go_wp2_with fail
            go_roundw
            case rel => first | exact ⟨1, by omega, rfl, by rw [show 0 + 1 = 1 from rfl, HE.out], HT1.out⟩ | ((repeat apply Exists.intro); exact ⟨⟨1, by omega, rfl, by rw [show 0 + 1 = 1 from rfl, HE.out], HT1.out⟩, rfl⟩)
            case measure => simp [intOf]
          · skip
            rcases Bool.eq_false_or_eq_true q.h0.ref with cB | cB
            · skip
              have HE := Lib.hid (PB0.out cB)
              rw [cA] at k1_4
              rw [cB] at k2_4
              clear cA cB
              go_wp2_with fail
              go_roundw
              case rel => first | exact ⟨1, by omega, rfl, by rw [show 0 + 1 = 1 from rfl, HE.out], HT1.out⟩ | ((repeat apply Exists.intro); exact ⟨⟨1, by omega, rfl, by rw [show 0 + 1 = 1 from rfl, HE.out], HT1.out⟩, rfl⟩)
              case measure => simp [intOf]
            · skip
              have HE := Lib.hid (PT0.out cA cB)
              rw [cA] at k1_4
              rw [cB] at k2_4
              clear cA cB
              go_wp2_with fail
              refine (G0.out _ HT1.out.below).mono ?_; rintro e wz ⟨rfl, hbz⟩
              have HF := Lib.hid (HT1.out.keep hbz)
              clear hbz
              go_wp2_with fail
              go_roundw
              case rel => first | exact ⟨1, by omega, rfl, by rw [show 0 + 1 = 1 from rfl, HE.out], HF.out⟩ | ((repeat apply Exists.intro); exact ⟨⟨1, by omega, rfl, by rw [show 0 + 1 = 1 from rfl, HE.out], HF.out⟩, rfl⟩)
              case measure => simp [intOf]
        · skip
          have HF := Lib.hid (hT.take 1)
          clear hT hk
          go_wp2_with fail
          go_roundw
          case rel => first | exact ⟨2, by omega, rfl, rfl, HF.out⟩ | ((repeat apply Exists.intro); exact ⟨⟨2, by omega, rfl, rfl, HF.out⟩, rfl⟩)
          case measure => simp [intOf]
    · skip
      have HS3 := Lib.hid hS
      clear hS hj
      skip
      have ix : ∀ w, (Instr.index 35 (.agg (qa q)) (.int .i64 (2 : Int))).run Tryd.prog w = .ok (.agg #[.int .i64 q.h2.vL, .int .i64 q.h2.vH, .int .i64 q.h2.bL, .int .i64 q.h2.bH, .bool q.h2.ref]) w := IX.out 2 (by decide)
      go_upto_region 5 with fail
      clear ix
      have hS4 := (HS3.out).more [.int .i64 q.h2.vL, .int .i64 q.h2.vH, .int .i64 q.h2.bL, .int .i64 q.h2.bH, .bool q.h2.ref] 34
      have HS4 := Lib.hid hS4
      clear hS4 HS3
      obtain ⟨w4, hX, hS⟩ := (HS4.out).named
      rw [← hX]
      clear hX HS4
      have HS5 := Lib.hid hS
      clear hS
      go_wp2_with fail
      go_loopw [3, 16] (fun n i wx => ∃ k : Nat, k ≤ 2 ∧ i = .int .i64 k ∧ n = .int .i64 (F (1 + k)) ∧ Sp w [(w.heap.size, [some (.int .i64 q.h0.vL), some (.int .i64 q.h0.vH), some (.int .i64 q.h0.bL), some (.int .i64 q.h0.bH), some (.bool q.h0.ref), some (.int .i64 q.h1.vL), some (.int .i64 q.h1.vH), some (.int .i64 q.h1.bL), some (.int .i64 q.h1.bH), some (.bool q.h1.ref), some (.int .i64 q.h2.vL), some (.int .i64 q.h2.vH), some (.int .i64 q.h2.bL), some (.int .i64 q.h2.bH), some (.bool q.h2.ref), some (.int .i64 q.h3.vL), some (.int .i64 q.h3.vH), some (.int .i64 q.h3.bL), some (.int .i64 q.h3.bH), some (.bool q.h3.ref)]), (wr.heap.size, [some (.int .i64 q.h2.vL), some (.int .i64 q.h2.vH), some (.int .i64 q.h2.bL), some (.int .i64 q.h2.bH), some (.bool q.h2.ref)])] wx) (fun _ i _ => 2 - (intOf i).toNat)
      case atStart => first | exact ⟨0, by omega, rfl, rfl, HS5.out⟩ | ((repeat apply Exists.intro); exact ⟨⟨0, by omega, rfl, rfl, HS5.out⟩, rfl⟩)
      case round =>
        clear HS5
        obtain ⟨k, hk, rfl, rfl, hT⟩ := hrel
        rcases (show k = 0 ∨ k = 1 ∨ k = 2 by omega) with rfl | rfl | rfl
        · skip
          have HS6 := Lib.hid hT
          clear hT hk
          have k0_0 := (HS6.out).at 0 rfl 0 (v := .int .i64 q.h0.vL) rfl
          have k0_1 := (HS6.out).at 0 rfl 1 (v := .int .i64 q.h0.vH) rfl
          have k0_2 := (HS6.out).at 0 rfl 2 (v := .int .i64 q.h0.bL) rfl
          have k0_3 := (HS6.out).at 0 rfl 3 (v := .int .i64 q.h0.bH) rfl
          have k0_4 := (HS6.out).at 0 rfl 4 (v := .bool q.h0.ref) rfl
          go_upto_region 8 with fail
          clear k0_0 k0_1 k0_2 k0_3 k0_4
          have hS7 := (HS6.out).more [.int .i64 q.h0.vL, .int .i64 q.h0.vH, .int .i64 q.h0.bL, .int .i64 q.h0.bH, .bool q.h0.ref] 34
          have HS7 := Lib.hid hS7
          clear hS7 HS6
          obtain ⟨w5, hX, hS⟩ := (HS7.out).named
          rw [← hX]
          clear hX HS7
          have HS8 := Lib.hid hS
          clear hS
          have k1_0 := (HS8.out).at 1 rfl 0 (v := .int .i64 q.h2.vL) rfl
          have k1_1 := (HS8.out).at 1 rfl 1 (v := .int .i64 q.h2.vH) rfl
          have k1_4 := (HS8.out).at 1 rfl 4 (v := .bool q.h2.ref) rfl
          have k2_0 := (HS8.out).at 2 rfl 0 (v := .int .i64 q.h0.vL) rfl
          have k2_1 := (HS8.out).at 2 rfl 1 (v := .int .i64 q.h0.vH) rfl
          have k2_4 := (HS8.out).at 2 rfl 4 (v := .bool q.h0.ref) rfl
          have HT1 := Lib.hid ((HS8.out).take 2)
          clear HS8
          rcases Bool.eq_false_or_eq_true q.h2.ref with cA | cA
          · skip
            have HE := Lib.hid (PA1.out cA)
            rw [cA] at k1_4
            clear cA
            go_wp2_with fail
            go_roundw
            case rel => first | exact ⟨1, by omega, rfl, by rw [show 1 + 1 = 2 from rfl, HE.out], HT1.out⟩ | ((repeat apply Exists.intro); exact ⟨⟨1, by omega, rfl, by rw [show 1 + 1 = 2 from rfl, HE.out], HT1.out⟩, rfl⟩)
            case measure => simp [intOf]
          · skip
            rcases Bool.eq_false_or_eq_true q.h0.ref with cB | cB
            · skip
              have HE := Lib.hid (PB1.out cB)
              rw [cA] at k1_4
              rw [cB] at k2_4
              clear cA cB
              go_wp2_with fail
              go_roundw
              case rel => first | exact ⟨1, by omega, rfl, by rw [show 1 + 1 = 2 from rfl, HE.out], HT1.out⟩ | ((repeat apply Exists.intro); exact ⟨⟨1, by omega, rfl, by rw [show 1 + 1 = 2 from rfl, HE.out], HT1.out⟩, rfl⟩)
              case measure => simp [intOf]
            · skip
              have HE := Lib.hid (PT1.out cA cB)
              rw [cA] at k1_4
              rw [cB] at k2_4
              clear cA cB
              go_wp2_with fail
              refine (G1.out _ HT1.out.below).mono ?_; rintro e wz ⟨rfl, hbz⟩
              have HF := Lib.hid (HT1.out.keep hbz)
              clear hbz
              go_wp2_with fail
              go_roundw
              case rel => first | exact ⟨1, by omega, rfl, by rw [show 1 + 1 = 2 from rfl, HE.out], HF.out⟩ | ((repeat apply Exists.intro); exact ⟨⟨1, by omega, rfl, by rw [show 1 + 1 = 2 from rfl, HE.out], HF.out⟩, rfl⟩)
              case measure => simp [intOf]
        · skip
          have HS6 := Lib.hid hT
          clear hT hk
          have k0_5 := (HS6.out).at 0 rfl 5 (v := .int .i64 q.h1.vL) rfl
          have k0_6 := (HS6.out).at 0 rfl 6 (v := .int .i64 q.h1.vH) rfl
          have k0_7 := (HS6.out).at 0 rfl 7 (v := .int .i64 q.h1.bL) rfl
          have k0_8 := (HS6.out).at 0 rfl 8 (v := .int .i64 q.h1.bH) rfl
          have k0_9 := (HS6.out).at 0 rfl 9 (v := .bool q.h1.ref) rfl
          go_upto_region 8 with fail
          clear k0_5 k0_6 k0_7 k0_8 k0_9
          have hS7 := (HS6.out).more [.int .i64 q.h1.vL, .int .i64 q.h1.vH, .int .i64 q.h1.bL, .int .i64 q.h1.bH, .bool q.h1.ref] 34
          have HS7 := Lib.hid hS7
          clear hS7 HS6
          obtain ⟨w6, hX, hS⟩ := (HS7.out).named
          rw [← hX]
          clear hX HS7
          have HS8 := Lib.hid hS
          clear hS
          have k1_0 := (HS8.out).at 1 rfl 0 (v := .int .i64 q.h2.vL) rfl
          have k1_1 := (HS8.out).at 1 rfl 1 (v := .int .i64 q.h2.vH) rfl
          have k1_4 := (HS8.out).at 1 rfl 4 (v := .bool q.h2.ref) rfl
          have k2_0 := (HS8.out).at 2 rfl 0 (v := .int .i64 q.h1.vL) rfl
          have k2_1 := (HS8.out).at 2 rfl 1 (v := .int .i64 q.h1.vH) rfl
          have k2_4 := (HS8.out).at 2 rfl 4 (v := .bool q.h1.ref) rfl
          have HT1 := Lib.hid ((HS8.out).take 2)
          clear HS8
          rcases Bool.eq_false_or_eq_true q.h2.ref with cA | cA
          · skip
            have HE := Lib.hid (PA2.out cA)
            rw [cA] at k1_4
            clear cA
            go_wp2_with fail
            go_roundw
            case rel => first | exact ⟨2, by omega, rfl, by rw [show 1 + 2 = 3 from rfl, HE.out], HT1.out⟩ | ((repeat apply Exists.intro); exact ⟨⟨2, by omega, rfl, by rw [show 1 + 2 = 3 from rfl, HE.out], HT1.out⟩, rfl⟩)
            case measure => simp [intOf]
          · skip
            rcases Bool.eq_false_or_eq_true q.h1.ref with cB | cB
            · skip
              have HE := Lib.hid (PB2.out cB)
              rw [cA] at k1_4
              rw [cB] at k2_4
              clear cA cB
              go_wp2_with fail
              go_roundw
              case rel => first | exact ⟨2, by omega, rfl, by rw [show 1 + 2 = 3 from rfl, HE.out], HT1.out⟩ | ((repeat apply Exists.intro); exact ⟨⟨2, by omega, rfl, by rw [show 1 + 2 = 3 from rfl, HE.out], HT1.out⟩, rfl⟩)
              case measure => simp [intOf]
            · skip
              have HE := Lib.hid (PT2.out cA cB)
              rw [cA] at k1_4
              rw [cB] at k2_4
              clear cA cB
              go_wp2_with fail
              refine (G2.out _ HT1.out.below).mono ?_; rintro e wz ⟨rfl, hbz⟩
              have HF := Lib.hid (HT1.out.keep hbz)
              clear hbz
              go_wp2_with fail
              go_roundw
              case rel => first | exact ⟨2, by omega, rfl, by rw [show 1 + 2 = 3 from rfl, HE.out], HF.out⟩ | ((repeat apply Exists.intro); exact ⟨⟨2, by omega, rfl, by rw [show 1 + 2 = 3 from rfl, HE.out], HF.out⟩, rfl⟩)
              case measure => simp [intOf]
        · skip
          have HF := Lib.hid (hT.take 1)
          clear hT hk
          go_wp2_with fail
          go_roundw
          case rel => first | exact ⟨3, by omega, rfl, rfl, HF.out⟩ | ((repeat apply Exists.intro); exact ⟨⟨3, by omega, rfl, rfl, HF.out⟩, rfl⟩)
          case measure => simp [intOf]
    · skip
      have HS3 := Lib.hid hS
      clear hS hj
      skip
      have ix : ∀ w, (Instr.index 35 (.agg (qa q)) (.int .i64 (3 : Int))).run Tryd.prog w = .ok (.agg #[.int .i64 q.h3.vL, .int .i64 q.h3.vH, .int .i64 q.h3.bL, .int .i64 q.h3.bH, .bool q.h3.ref]) w := IX.out 3 (by decide)
      go_upto_region 5 with fail
      clear ix
      have hS4 := (HS3.out).more [.int .i64 q.h3.vL, .int .i64 q.h3.vH, .int .i64 q.h3.bL, .int .i64 q.h3.bH, .bool q.h3.ref] 34
      have HS4 := Lib.hid hS4
      clear hS4 HS3
      obtain ⟨w7, hX, hS⟩ := (HS4.out).named
      rw [← hX]
      clear hX HS4
      have HS5 := Lib.hid hS
      clear hS
      go_wp2_with fail
      go_loopw [3, 16] (fun n i wx => ∃ k : Nat, k ≤ 3 ∧ i = .int .i64 k ∧ n = .int .i64 (F (3 + k)) ∧ Sp w [(w.heap.size, [some (.int .i64 q.h0.vL), some (.int .i64 q.h0.vH), some (.int .i64 q.h0.bL), some (.int .i64 q.h0.bH), some (.bool q.h0.ref), some (.int .i64 q.h1.vL), some (.int .i64 q.h1.vH), some (.int .i64 q.h1.bL), some (.int .i64 q.h1.bH), some (.bool q.h1.ref), some (.int .i64 q.h2.vL), some (.int .i64 q.h2.vH), some (.int .i64 q.h2.bL), some (.int .i64 q.h2.bH), some (.bool q.h2.ref), some (.int .i64 q.h3.vL), some (.int .i64 q.h3.vH), some (.int .i64 q.h3.bL), some (.int .i64 q.h3.bH), some (.bool q.h3.ref)]), (wr.heap.size, [some (.int .i64 q.h3.vL), some (.int .i64 q.h3.vH), some (.int .i64 q.h3.bL), some (.int .i64 q.h3.bH), some (.bool q.h3.ref)])] wx) (fun _ i _ => 3 - (intOf i).toNat)
      case atStart => first | exact ⟨0, by omega, rfl, rfl, HS5.out⟩ | ((repeat apply Exists.intro); exact ⟨⟨0, by omega, rfl, rfl, HS5.out⟩, rfl⟩)
      case round =>
        clear HS5
        obtain ⟨k, hk, rfl, rfl, hT⟩ := hrel
        rcases (show k = 0 ∨ k = 1 ∨ k = 2 ∨ k = 3 by omega) with rfl | rfl | rfl | rfl
        · skip
          have HS6 := Lib.hid hT
          clear hT hk
          have k0_0 := (HS6.out).at 0 rfl 0 (v := .int .i64 q.h0.vL) rfl
          have k0_1 := (HS6.out).at 0 rfl 1 (v := .int .i64 q.h0.vH) rfl
          have k0_2 := (HS6.out).at 0 rfl 2 (v := .int .i64 q.h0.bL) rfl
          have k0_3 := (HS6.out).at 0 rfl 3 (v := .int .i64 q.h0.bH) rfl
          have k0_4 := (HS6.out).at 0 rfl 4 (v := .bool q.h0.ref) rfl
          go_upto_region 8 with fail
          clear k0_0 k0_1 k0_2 k0_3 k0_4
          have hS7 := (HS6.out).more [.int .i64 q.h0.vL, .int .i64 q.h0.vH, .int .i64 q.h0.bL, .int .i64 q.h0.bH, .bool q.h0.ref] 34
          have HS7 := Lib.hid hS7
          clear hS7 HS6
          obtain ⟨w8, hX, hS⟩ := (HS7.out).named
          rw [← hX]
          clear hX HS7
          have HS8 := Lib.hid hS
          clear hS
          have k1_0 := (HS8.out).at 1 rfl 0 (v := .int .i64 q.h3.vL) rfl
          have k1_1 := (HS8.out).at 1 rfl 1 (v := .int .i64 q.h3.vH) rfl
          have k1_4 := (HS8.out).at 1 rfl 4 (v := .bool q.h3.ref) rfl
          have k2_0 := (HS8.out).at 2 rfl 0 (v := .int .i64 q.h0.vL) rfl
          have k2_1 := (HS8.out).at 2 rfl 1 (v := .int .i64 q.h0.vH) rfl
          have k2_4 := (HS8.out).at 2 rfl 4 (v := .bool q.h0.ref) rfl
          have HT1 := Lib.hid ((HS8.out).take 2)
          clear HS8
          rcases Bool.eq_false_or_eq_true q.h3.ref with cA | cA
          · skip
            have HE := Lib.hid (PA3.out cA)
            rw [cA] at k1_4
            clear cA
            go_wp2_with fail
            go_roundw
            case rel => first | exact ⟨1, by omega, rfl, by rw [show 3 + 1 = 4 from rfl, HE.out], HT1.out⟩ | ((repeat apply Exists.intro); exact ⟨⟨1, by omega, rfl, by rw [show 3 + 1 = 4 from rfl, HE.out], HT1.out⟩, rfl⟩)
            case measure => simp [intOf]
          · skip
            rcases Bool.eq_false_or_eq_true q.h0.ref with cB | cB
            · skip
              have HE := Lib.hid (PB3.out cB)
              rw [cA] at k1_4
              rw [cB] at k2_4
              clear cA cB
              go_wp2_with fail
              go_roundw
              case rel => first | exact ⟨1, by omega, rfl, by rw [show 3 + 1 = 4 from rfl, HE.out], HT1.out⟩ | ((repeat apply Exists.intro); exact ⟨⟨1, by omega, rfl, by rw [show 3 + 1 = 4 from rfl, HE.out], HT1.out⟩, rfl⟩)
              case measure => simp [intOf]
            · skip
              have HE := Lib.hid (PT3.out cA cB)
              rw [cA] at k1_4
              rw [cB] at k2_4
              clear cA cB
              go_wp2_with fail
              refine (G3.out _ HT1.out.below).mono ?_; rintro e wz ⟨rfl, hbz⟩
              have HF := Lib.hid (HT1.out.keep hbz)
              clear hbz
              go_wp2_with fail
              go_roundw
              case rel => first | exact ⟨1, by omega, rfl, by rw [show 3 + 1 = 4 from rfl, HE.out], HF.out⟩ | ((repeat apply Exists.intro); exact ⟨⟨1, by omega, rfl, by rw [show 3 + 1 = 4 from rfl, HE.out], HF.out⟩, rfl⟩)
              case measure => simp [intOf]
        · skip
          have HS6 := Lib.hid hT
          clear hT hk
          have k0_5 := (HS6.out).at 0 rfl 5 (v := .int .i64 q.h1.vL) rfl
          have k0_6 := (HS6.out).at 0 rfl 6 (v := .int .i64 q.h1.vH) rfl
          have k0_7 := (HS6.out).at 0 rfl 7 (v := .int .i64 q.h1.bL) rfl
          have k0_8 := (HS6.out).at 0 rfl 8 (v := .int .i64 q.h1.bH) rfl
          have k0_9 := (HS6.out).at 0 rfl 9 (v := .bool q.h1.ref) rfl
          go_upto_region 8 with fail
          clear k0_5 k0_6 k0_7 k0_8 k0_9
          have hS7 := (HS6.out).more [.int .i64 q.h1.vL, .int .i64 q.h1.vH, .int .i64 q.h1.bL, .int .i64 q.h1.bH, .bool q.h1.ref] 34
          have HS7 := Lib.hid hS7
          clear hS7 HS6
          obtain ⟨w9, hX, hS⟩ := (HS7.out).named
          rw [← hX]
          clear hX HS7
          have HS8 := Lib.hid hS
          clear hS
          have k1_0 := (HS8.out).at 1 rfl 0 (v := .int .i64 q.h3.vL) rfl
          have k1_1 := (HS8.out).at 1 rfl 1 (v := .int .i64 q.h3.vH) rfl
          have k1_4 := (HS8.out).at 1 rfl 4 (v := .bool q.h3.ref) rfl
          have k2_0 := (HS8.out).at 2 rfl 0 (v := .int .i64 q.h1.vL) rfl
          have k2_1 := (HS8.out).at 2 rfl 1 (v := .int .i64 q.h1.vH) rfl
          have k2_4 := (HS8.out).at 2 rfl 4 (v := .bool q.h1.ref) rfl
          have HT1 := Lib.hid ((HS8.out).take 2)
          clear HS8
          rcases Bool.eq_false_or_eq_true q.h3.ref with cA | cA
          · skip
            have HE := Lib.hid (PA4.out cA)
            rw [cA] at k1_4
            clear cA
            go_wp2_with fail
            go_roundw
            case rel => first | exact ⟨2, by omega, rfl, by rw [show 3 + 2 = 5 from rfl, HE.out], HT1.out⟩ | ((repeat apply Exists.intro); exact ⟨⟨2, by omega, rfl, by rw [show 3 + 2 = 5 from rfl, HE.out], HT1.out⟩, rfl⟩)
            case measure => simp [intOf]
          · skip
            rcases Bool.eq_false_or_eq_true q.h1.ref with cB | cB
            · skip
              have HE := Lib.hid (PB4.out cB)
              rw [cA] at k1_4
              rw [cB] at k2_4
              clear cA cB
              go_wp2_with fail
              go_roundw
              case rel => first | exact ⟨2, by omega, rfl, by rw [show 3 + 2 = 5 from rfl, HE.out], HT1.out⟩ | ((repeat apply Exists.intro); exact ⟨⟨2, by omega, rfl, by rw [show 3 + 2 = 5 from rfl, HE.out], HT1.out⟩, rfl⟩)
              case measure => simp [intOf]
            · skip
              have HE := Lib.hid (PT4.out cA cB)
              rw [cA] at k1_4
              rw [cB] at k2_4
              clear cA cB
              go_wp2_with fail
              refine (G4.out _ HT1.out.below).mono ?_; rintro e wz ⟨rfl, hbz⟩
              have HF := Lib.hid (HT1.out.keep hbz)
              clear hbz
              go_wp2_with fail
              go_roundw
              case rel => first | exact ⟨2, by omega, rfl, by rw [show 3 + 2 = 5 from rfl, HE.out], HF.out⟩ | ((repeat apply Exists.intro); exact ⟨⟨2, by omega, rfl, by rw [show 3 + 2 = 5 from rfl, HE.out], HF.out⟩, rfl⟩)
              case measure => simp [intOf]
        · skip
          have HS6 := Lib.hid hT
          clear hT hk
          have k0_10 := (HS6.out).at 0 rfl 10 (v := .int .i64 q.h2.vL) rfl
          have k0_11 := (HS6.out).at 0 rfl 11 (v := .int .i64 q.h2.vH) rfl
          have k0_12 := (HS6.out).at 0 rfl 12 (v := .int .i64 q.h2.bL) rfl
          have k0_13 := (HS6.out).at 0 rfl 13 (v := .int .i64 q.h2.bH) rfl
          have k0_14 := (HS6.out).at 0 rfl 14 (v := .bool q.h2.ref) rfl
          go_upto_region 8 with fail
          clear k0_10 k0_11 k0_12 k0_13 k0_14
          have hS7 := (HS6.out).more [.int .i64 q.h2.vL, .int .i64 q.h2.vH, .int .i64 q.h2.bL, .int .i64 q.h2.bH, .bool q.h2.ref] 34
          have HS7 := Lib.hid hS7
          clear hS7 HS6
          obtain ⟨w10, hX, hS⟩ := (HS7.out).named
          rw [← hX]
          clear hX HS7
          have HS8 := Lib.hid hS
          clear hS
          have k1_0 := (HS8.out).at 1 rfl 0 (v := .int .i64 q.h3.vL) rfl
          have k1_1 := (HS8.out).at 1 rfl 1 (v := .int .i64 q.h3.vH) rfl
          have k1_4 := (HS8.out).at 1 rfl 4 (v := .bool q.h3.ref) rfl
          have k2_0 := (HS8.out).at 2 rfl 0 (v := .int .i64 q.h2.vL) rfl
          have k2_1 := (HS8.out).at 2 rfl 1 (v := .int .i64 q.h2.vH) rfl
          have k2_4 := (HS8.out).at 2 rfl 4 (v := .bool q.h2.ref) rfl
          have HT1 := Lib.hid ((HS8.out).take 2)
          clear HS8
          rcases Bool.eq_false_or_eq_true q.h3.ref with cA | cA
          · skip
            have HE := Lib.hid (PA5.out cA)
            rw [cA] at k1_4
            clear cA
            go_wp2_with fail
            go_roundw
            case rel => first | exact ⟨3, by omega, rfl, by rw [show 3 + 3 = 6 from rfl, HE.out], HT1.out⟩ | ((repeat apply Exists.intro); exact ⟨⟨3, by omega, rfl, by rw [show 3 + 3 = 6 from rfl, HE.out], HT1.out⟩, rfl⟩)
            case measure => simp [intOf]
          · skip
            rcases Bool.eq_false_or_eq_true q.h2.ref with cB | cB
            · skip
              have HE := Lib.hid (PB5.out cB)
              rw [cA] at k1_4
              rw [cB] at k2_4
              clear cA cB
              go_wp2_with fail
              go_roundw
              case rel => first | exact ⟨3, by omega, rfl, by rw [show 3 + 3 = 6 from rfl, HE.out], HT1.out⟩ | ((repeat apply Exists.intro); exact ⟨⟨3, by omega, rfl, by rw [show 3 + 3 = 6 from rfl, HE.out], HT1.out⟩, rfl⟩)
              case measure => simp [intOf]
            · skip
              have HE := Lib.hid (PT5.out cA cB)
              rw [cA] at k1_4
              rw [cB] at k2_4
              clear cA cB
              go_wp2_with fail
              refine (G5.out _ HT1.out.below).mono ?_; rintro e wz ⟨rfl, hbz⟩
              have HF := Lib.hid (HT1.out.keep hbz)
              clear hbz
              go_wp2_with fail
              go_roundw
              case rel => first | exact ⟨3, by omega, rfl, by rw [show 3 + 3 = 6 from rfl, HE.out], HF.out⟩ | ((repeat apply Exists.intro); exact ⟨⟨3, by omega, rfl, by rw [show 3 + 3 = 6 from rfl, HE.out], HF.out⟩, rfl⟩)
              case measure => simp [intOf]
        · skip
          have HF := Lib.hid (hT.take 1)
          clear hT hk
          go_wp2_with fail
          go_roundw
          case rel => first | exact ⟨4, by omega, rfl, rfl, HF.out⟩ | ((repeat apply Exists.intro); exact ⟨⟨4, by omega, rfl, rfl, HF.out⟩, rfl⟩)
          case measure => simp [intOf]
    · skip
      have HB := Lib.hid hS.below
      clear hS hj
      go_wp2_with fail
      go_ret
      exact ⟨rfl, HB.out⟩

end Go.Proofs.YthhameambcplhaaDoor
