/- The law's own example: it is true. -/
import Derived.Test.YtkjkmnclnedfhaaDoorAiW
namespace Go.Proofs.YtkjkmnclnedfhaaDoor
open Go.RowKit Obs

namespace Obs
theorem ar_alt : AR alt0 := ⟨by decide, by decide, by decide, by decide, by decide, by decide, by decide⟩
theorem ar_speed : AR speed0 := ⟨by decide, by decide, by decide, by decide, by decide, by decide, by decide⟩
end Obs
theorem field_conf8 (w : World) : (Instr.field 61 (.agg confCells) 8).run Tryd.prog w = .ok (av alt0) w := by kernel_rfl
set_option maxHeartbeats 2000000 in
theorem awake_any (w : World) (n : NoneAt w) (c : ConeAt w) :
    Calls Tryd.prog 5 #[] w fun e w' => e = .returned (.bool true) ∧ Below w.heap.size w w' := by
  have rA := ra_of ar_alt
  have rS := ra_of ar_speed
  have eA : hullQ (runQ alt0 6 [rdF 12, rdF 12]) = (800, 1209) := by decide +kernel
  have eS : hullQ (runQ speed0 9 [rdF 12, rdF 12]) = (96, 105) := by decide +kernel
  have e1 : Sp.has 800 1209 1000 = true := by decide +kernel
  have e2 : Sp.has 96 105 100 = true := by decide +kernel
  have e3 : decide ((stepR alt0 6 (qstart alt0) (rdF 12)).h0.bH < 50) = true := by decide +kernel
  have e4 : (stepR speed0 9 (qstart speed0) (rdF 12)).h0.ref = false := by decide +kernel
  have w1 : IntKind.i64.wrap (1209 - 800) = 409 := by decide +kernel
  have w2 : IntKind.i64.wrap (105 - 96) = 9 := by decide +kernel
  have f1 := fun w => Has_any 800 1209 1000 w
  have f2 := fun w => Has_any 96 105 100 w
  rw [e1] at f1
  rw [e2] at f2
  have AL := fun w' (B : Below w.heap.size w w') => Alt_any (qstart alt0) (rdF 12) w' (n.keep B) rA (qstart_r6 rA)
  have SP := fun w' (B : Below w.heap.size w w') => Speed_any (qstart speed0) (rdF 12) w' (n.keep B) rS (qstart_r6 rS)
  have S1 := fun w' (_ : Below w.heap.size w w') => TStart_any alt0 w' rA
  have S2 := fun w' (_ : Below w.heap.size w w') => TStart_any speed0 w' rS
  have P9 := fun w' => Part_any9 (rdF 12) w'
  have P10 := fun w' => Part_none (ra (rdF 12)) 10 w' (by decide)
  have BO : ∀ w' ba, Below w.heap.size w w' → CameRd w' ba 2 [rdF 12, rdF 12] → Calls Tryd.prog 16 #[.agg confCells, .slice ba 2 2] w' fun e w'' => e = .returned (.tuple #[sv 800 1209, sv 96 105]) ∧ Below w'.heap.size w' w'' := fun w' ba B C => by
    have := Both_any C (n.keep B) rA rS
    rw [eA, eS] at this
    exact this
  obtain ⟨qA, hqA⟩ : ∃ q, q = qstart alt0 := ⟨_, rfl⟩
  obtain ⟨qS, hqS⟩ : ∃ q, q = qstart speed0 := ⟨_, rfl⟩
  rw [← hqA] at AL S1 e3
  rw [← hqS] at SP S2 e4
  obtain ⟨gA, hgA⟩ : ∃ q, q = stepR alt0 6 qA (rdF 12) := ⟨_, rfl⟩
  obtain ⟨gS, hgS⟩ : ∃ q, q = stepR speed0 9 qS (rdF 12) := ⟨_, rfl⟩
  rw [← hgA] at AL e3
  rw [← hgS] at SP e4
  clear hqA hqS hgA hgS eA eS e1 e2
  have iA : ∀ w, (Instr.index 35 (.agg (qa gA)) (.int .i64 0)).run Tryd.prog w = .ok (.agg #[.int .i64 gA.h0.vL, .int .i64 gA.h0.vH, .int .i64 gA.h0.bL, .int .i64 gA.h0.bH, .bool gA.h0.ref]) w := fun w => index_q gA 0 (by decide) w
  have iS : ∀ w, (Instr.index 35 (.agg (qa gS)) (.int .i64 0)).run Tryd.prog w = .ok (.agg #[.int .i64 gS.h0.vL, .int .i64 gS.h0.vH, .int .i64 gS.h0.bL, .int .i64 gS.h0.bH, .bool false]) w := fun w => by
    rw [← e4]
    exact index_q gS 0 (by decide) w
  have US := fun w' (B : Below w.heap.size w w') => Usual_any w' (c.keep B)
  have F8 := field_conf8
  have F9 := field_conf
  generalize confCells = cf at *
  generalize alt0 = a at *
  generalize speed0 = b at *
  exact awake_core cf a b 800 1209 96 105 409 9 gA.h0.vL gA.h0.vH gA.h0.bL gA.h0.bH gS.h0.vL gS.h0.vH gS.h0.bL gS.h0.bH gA.h0.ref qA gA qS gS w
    (Lib.hid US) (Lib.hid BO) (Lib.hid P9) (Lib.hid P10) (Lib.hid f1) (Lib.hid f2) (Lib.hid S1) (Lib.hid AL) (Lib.hid S2) (Lib.hid SP) (Lib.hid F8) (Lib.hid F9) (Lib.hid iA) (Lib.hid iS) (Lib.hid w1) (Lib.hid (by decide)) (Lib.hid w2) (Lib.hid (by decide)) (Lib.hid e3)
end Go.Proofs.YtkjkmnclnedfhaaDoor
