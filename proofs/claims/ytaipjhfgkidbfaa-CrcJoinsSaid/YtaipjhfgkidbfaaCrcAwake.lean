/- Layer 6's own examples: awake, over the contracts of crc's calls (namespace Own6). -/
import Derived.Test.YtaipjhfgkidbfaaCrcOwn
import Derived.Lib.SlBytesConst
namespace Go.Proofs.Ytaipjhfgkidbfaa
open Go.RowKit

theorem came_alloc (w : World) (l : List UInt8) (t : TypeId) (hl : l.length ≤ 1024) : Came (w.alloc (.cells (vals l).toArray t)) (some ⟨w.heap.size, 0, none⟩) l.length l :=
  ⟨Nat.le_refl _, by unfold maxLen; omega, fun e => (by cases e), fun _ => ⟨_, _, rfl, lies_alloc w l t⟩⟩
theorem came_nil (w : World) : Came w none 0 [] := ⟨Nat.le_refl _, Nat.zero_le _, fun _ => ⟨rfl, rfl⟩, fun h => absurd h (by decide)⟩

theorem came_mark (w : World) (l : List UInt8) (t : TypeId) (fr : Nat × Nat) (hl : l.length ≤ 1024) : Came (w.alloc (.cells (vals l).toArray t fr)) (some ⟨w.heap.size, 0, none⟩) l.length l :=
  ⟨Nat.le_refl _, by unfold maxLen; omega, fun e => (by cases e), fun _ => ⟨_, _, rfl, fun j hj => by
    rw [World.cell?_alloc_mark]
    simp [vals, List.getD, hj]⟩⟩
theorem conv_lit (w : World) (l : List UInt8) : (convert 23 23 (.slice (some ⟨w.heap.size, 0, none⟩) l.length l.length)).run Try.prog (w.alloc (.cells (vals l).toArray 5)) = .ok (.slice (some ⟨w.heap.size, 0, none⟩) l.length l.length) (w.alloc (.cells (vals l).toArray 5 (l.length, l.length + 1))) := by
  have h := Lib.run_convert_bytes_const (P := Try.prog) w 23 5 (vals l).toArray l.length l.length Try.underlying23 Try.underlying5
  have e : (vals l).toArray.size = l.length := by simp [vals]
  rw [e] at h
  exact h

namespace Aw6
def t9 : List UInt8 := [49, 50, 51, 52, 53, 54, 55, 56, 57]
def t11 : List UInt8 := [49, 50, 51, 52, 53, 54, 55, 56, 57, 41, 177]
theorem a1 (w : World) (g : Nat) (C : Came w (some ⟨g, 0, none⟩) 9 t9) : Calls Try.prog 15 #[.slice (some ⟨g, 0, none⟩) 9 9] w fun e w' => e = .returned (.int .u16 10673) ∧ Below w.heap.size w w' := by
  have r := Own6.Of_came C (by decide)
  rw [show Crc.sum (bv t9) = 10673#16 by decide +kernel] at r
  exact r
theorem a2 (w : World) (g : Nat) (C : Came w (some ⟨g, 0, none⟩) 11 t11) : Calls Try.prog 17 #[.slice (some ⟨g, 0, none⟩) 11 11] w fun e w' => e = .returned (.bool true) ∧ Below w.heap.size w w' := by
  have r := Own6.Fits_came C (by decide)
  rw [show fitsB t11 = true by decide +kernel] at r
  exact r
theorem a3 (w : World) (g : Nat) (C : Came w (some ⟨g, 0, none⟩) 1 [49]) : Calls Try.prog 17 #[.slice (some ⟨g, 0, none⟩) 1 1] w fun e w' => e = .returned (.bool false) ∧ Below w.heap.size w w' := by
  have r := Own6.Fits_came C (by decide)
  rw [show fitsB [49] = false by decide +kernel] at r
  exact r
theorem a4 (w : World) : Calls Try.prog 9 #[.int .u16 32768] w fun e w' => e = .returned (.int .u16 4129) ∧ Below w.heap.size w w' := by
  have r := Own6.Step_any 32768#16 w
  rw [show Crc.step 32768#16 = 4129#16 by decide] at r
  exact r
theorem a5 (w : World) : Calls Try.prog 11 #[.int .u16 0, .int .u8 1] w fun e w' => e = .returned (.int .u16 4129) ∧ Below w.heap.size w w' := by
  have r := Own6.Byte_any 0#16 1 w
  rw [show Crc.byte 0#16 (1 : UInt8).toBitVec = 4129#16 by decide] at r
  exact r
theorem a6 (w : World) : Calls Try.prog 13 #[.int .u16 5, .slice none 0 0] w fun e w' => e = .returned (.int .u16 5) ∧ Below w.heap.size w w' :=
  Own6.More_came (came_nil w) (by decide) 5#16

set_option maxHeartbeats 4000000 in
set_option maxRecDepth 100000 in
theorem awake_any (w : World) : Calls Try.prog 8 #[] w fun e w' => e = .returned (.bool true) ∧ Below w.heap.size w w' := by
  have A1 := Lib.hid a1; have A2 := Lib.hid a2; have A3 := Lib.hid a3; have A4 := Lib.hid a4; have A5 := Lib.hid a5; have A6 := Lib.hid a6
  have cv1 : (convert 23 23 (.slice (some ⟨w.heap.size, 0, none⟩) 9 9)).run Try.prog (w.alloc (.cells #[.int .u8 49, .int .u8 50, .int .u8 51, .int .u8 52, .int .u8 53, .int .u8 54, .int .u8 55, .int .u8 56, .int .u8 57] 5)) = .ok (.slice (some ⟨w.heap.size, 0, none⟩) 9 9) (w.alloc (.cells #[.int .u8 49, .int .u8 50, .int .u8 51, .int .u8 52, .int .u8 53, .int .u8 54, .int .u8 55, .int .u8 56, .int .u8 57] 5 (9, 10))) := conv_lit w Aw6.t9
  have C1 : Came (w.alloc (.cells #[.int .u8 49, .int .u8 50, .int .u8 51, .int .u8 52, .int .u8 53, .int .u8 54, .int .u8 55, .int .u8 56, .int .u8 57] 5 (9, 10))) (some ⟨w.heap.size, 0, none⟩) 9 t9 := came_mark w t9 _ _ (by decide)
  go_enter Try.func8, Try.ntmps8
  go_wp2_with fail
  refine (A1.out _ _ C1).mono ?_; rintro e w1 ⟨rfl, hb1⟩
  have B1 := belowT (below1 w _) hb1
  have cv2 : (convert 23 23 (.slice (some ⟨w1.heap.size, 0, none⟩) 11 11)).run Try.prog (w1.alloc (.cells #[.int .u8 49, .int .u8 50, .int .u8 51, .int .u8 52, .int .u8 53, .int .u8 54, .int .u8 55, .int .u8 56, .int .u8 57, .int .u8 41, .int .u8 177] 5)) = .ok (.slice (some ⟨w1.heap.size, 0, none⟩) 11 11) (w1.alloc (.cells #[.int .u8 49, .int .u8 50, .int .u8 51, .int .u8 52, .int .u8 53, .int .u8 54, .int .u8 55, .int .u8 56, .int .u8 57, .int .u8 41, .int .u8 177] 5 (11, 12))) := conv_lit w1 Aw6.t11
  have C2 : Came (w1.alloc (.cells #[.int .u8 49, .int .u8 50, .int .u8 51, .int .u8 52, .int .u8 53, .int .u8 54, .int .u8 55, .int .u8 56, .int .u8 57, .int .u8 41, .int .u8 177] 5 (11, 12))) (some ⟨w1.heap.size, 0, none⟩) 11 t11 := came_mark w1 t11 _ _ (by decide)
  clear C1 cv1
  go_wp2_with fail
  refine (A2.out _ _ C2).mono ?_; rintro e w2 ⟨rfl, hb2⟩
  have B2 := belowT B1 (belowT (below1 w1 _) hb2)
  have cv3 : (convert 23 23 (.slice (some ⟨w2.heap.size, 0, none⟩) 1 1)).run Try.prog (w2.alloc (.cells #[.int .u8 49] 5)) = .ok (.slice (some ⟨w2.heap.size, 0, none⟩) 1 1) (w2.alloc (.cells #[.int .u8 49] 5 (1, 2))) := conv_lit w2 [49]
  have C3 : Came (w2.alloc (.cells #[.int .u8 49] 5 (1, 2))) (some ⟨w2.heap.size, 0, none⟩) 1 [49] := came_mark w2 [49] _ _ (by decide)
  clear C2 cv2
  go_wp2_with fail
  refine (A3.out _ _ C3).mono ?_; rintro e w3 ⟨rfl, hb3⟩
  have B3 := belowT B2 (belowT (below1 w2 _) hb3)
  clear C3 cv3
  go_wp2_with fail
  refine (A4.out _).mono ?_; rintro e w4 ⟨rfl, hb4⟩
  have B4 := belowT B3 hb4
  go_wp2_with fail
  refine (A5.out _).mono ?_; rintro e w5 ⟨rfl, hb5⟩
  have B5 := belowT B4 hb5
  go_wp2_with fail
  refine (A6.out _).mono ?_; rintro e w6 ⟨rfl, hb6⟩
  have B6 := belowT B5 hb6
  go_wp2_with fail
  go_ret
  exact ⟨rfl, B6⟩
end Aw6
end Go.Proofs.Ytaipjhfgkidbfaa
