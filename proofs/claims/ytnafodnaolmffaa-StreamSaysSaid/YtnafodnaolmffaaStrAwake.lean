/- What the landed stream must answer (Own15); the laws' own example, layer 15. -/
import Derived.Test.YtnafodnaolmffaaStrGap
import Derived.Test.YtnafodnaolmffaaPrs
import Derived.Test.YtnafodnaolmffaaV64
namespace Go.Proofs.Ytnafodnaolmffaa
open Go.RowKit

/-- the landed stream answers so, and the landed frame's Bytes -/
structure Own15 : Prop where
  bytes : ∀ (f : Fr) (w : World), rightF f = true → Calls Try.prog 15 #[fv f] w fun e w' => ∃ u, e = .returned (.tuple #[u, .int .i64 0]) ∧ Bytes0 w.heap.size w w' u (frameF f)
  no : ∀ (f : Fr) (w : World), rightF f = false → Calls Try.prog 15 #[fv f] w fun e w' => e = .returned (.tuple #[.slice none 0 0, .int .i64 1]) ∧ Below w.heap.size w w'
  split : ∀ (w : World) (ba : Option Addr) (cap : Nat) (l : List UInt8), Came w ba cap l → l.length ≤ 4000 → Calls Try.prog 8 #[.slice ba l.length cap] w fun e w' =>
    ∃ va vc, e = .returned (.tuple #[.slice va (splitF l).1.length vc, .int .i64 (splitF l).2.1, .int .i64 (splitF l).2.2]) ∧ CameFr w' va vc (splitF l).1 ∧ Below w.heap.size w w'
  feed : ∀ (w : World) (ba bb : Option Addr) (ca cb : Nat) (p l : List UInt8), Came w ba ca p → Came w bb cb l → p.length + l.length ≤ 4000 → Calls Try.prog 10 #[.slice ba p.length ca, .slice bb l.length cb] w fun e w' =>
    ∃ va vc ua uc, e = .returned (.tuple #[.slice va (splitF (p ++ l)).1.length vc, .slice ua ((p ++ l).drop (splitF (p ++ l)).2.1).length uc, .int .i64 (splitF (p ++ l)).2.2]) ∧
      CameFr w' va vc (splitF (p ++ l)).1 ∧ Came w' ua uc ((p ++ l).drop (splitF (p ++ l)).2.1) ∧ Below w.heap.size w w' ∧ (∀ a, ua = some a → w.heap.size ≤ a.block)
  lost : ∀ (w : World) (ba : Option Addr) (cap : Nat) (l : List UInt8), Came w ba cap l → l.length ≤ 4000 → Calls Try.prog 13 #[.slice ba l.length cap] w fun e w' => e = .returned (.int .i64 (splitF l).2.2) ∧ Below w.heap.size w w'
  many : ∀ (w : World) (ba : Option Addr) (cap : Nat) (l : List Fr), CameFr w ba cap l → l.length ≤ 100 → (∀ j, j < l.length → -9223372036854775808 ≤ (l.getD j fr0).val ∧ (l.getD j fr0).val ≤ 9223372036854775807) → Calls Try.prog 16 #[.slice ba l.length cap] w fun e w' =>
    ∃ ua uc, e = .returned (.tuple #[.slice ua (manyF l).1.length uc, .int .i64 (manyF l).2]) ∧ Came w' ua uc (manyF l).1 ∧ Below w.heap.size w w'
  gaps : ∀ (w : World) (ba : Option Addr) (cap : Nat) (l : List UInt8), Came w ba cap l → l.length ≤ 4000 → Calls Try.prog 18 #[.slice ba l.length cap] w fun e w' =>
    ∃ va vc, e = .returned (.slice va (gapsF l).length vc) ∧ CameP w' va vc (gapsF l) ∧ Below w.heap.size w w'

/-- bytes that a literal lays -/
theorem lit_bytes (w : World) (l : List UInt8) (h : l.length ≤ maxLen) : Bytes w.heap.size w (w.alloc (.cells (vals l).toArray 5)) (.slice (some ⟨w.heap.size, 0, none⟩) l.length l.length) l :=
  ⟨⟨by simp [vals], Or.inr ⟨w.heap.size, l.length, (vals l).toArray, (0, 0), rfl, Nat.le_refl _, heap_alloc_last w _, Nat.zero_le _, Nat.le_refl _, h, by simp [vals], by rw [Nat.mul_one]; exact List.take_of_length_le (by simp [vals])⟩⟩, below1 w _, by simp⟩
theorem lit_came (w : World) (l : List UInt8) (h : l.length ≤ maxLen) : Came (w.alloc (.cells (vals l).toArray 5)) (some ⟨w.heap.size, 0, none⟩) l.length l := by
  obtain ⟨ba, cap, e, C⟩ := (lit_bytes w l h).came
  injection e with e1 _ e2
  rw [e1, e2]
  exact C

theorem some_any (O : Own15) (w : World) :
    Calls Try.prog 20 #[] w fun e w' => ∃ u, e = .returned u ∧ Bytes w.heap.size w w' u (frameF someF) := by
  have OB := Lib.hid fun w => O.bytes someF w some_right
  simp only [fv, someF] at OB
  go_enter Try.func20, Try.ntmps20
  go_wp2_with fail
  refine (OB.out w).mono ?_; rintro e w1 ⟨u, rfl, hu⟩
  have HU := Lib.hid hu.bytes
  clear OB hu
  go_wp2
  go_ret
  exact ⟨_, rfl, HU.out⟩

set_option maxHeartbeats 8000000 in
set_option maxRecDepth 100000 in
theorem awake_any (O : Own15) (w : World) :
    Calls Try.prog 7 #[] w fun e w' => e = .returned (.bool true) ∧ Below w.heap.size w w' := by
  obtain ⟨x, y, hF⟩ := some_frame
  have HSM := Lib.hid (some_any O)
  have sA := split_awake
  have sF := split_feed
  rw [hF] at HSM sA sF
  replace sA : splitF [1, 2, 165, 90, 3, 7, 1, 255, 255, 255, 254, x, y, 165] = ([someF], 13, 2) := sA
  have SA := Lib.hid sA
  have SF := Lib.hid sF
  clear sA sF hF
  go_enter Try.func7, Try.ntmps7
  go_wp2_with fail
  refine (HSM.out w).mono ?_; rintro e w1 ⟨u1, rfl, hu1⟩
  have HB1 := Lib.hid hu1.below
  obtain ⟨a1, c1, rfl, _⟩ := hu1.came
  clear hu1
  go_wp2_with fail
  refine (HSM.out _).mono ?_; rintro e w2 ⟨u2, rfl, hu2⟩
  obtain ⟨a2, c2, rfl, C2⟩ := hu2.came
  have b2 : Bytes w1.heap.size w1 w2 (.slice (some ⟨w1.heap.size, 0, none⟩) 2 2) [1, 2] := (lit_bytes w1 [1, 2] (by decide)).keep hu2.below
  clear hu2
  go_wp2_with (at_builtin; refine list_append_came (v := .slice (some ⟨w1.heap.size, 0, none⟩) 2 2) (ba := a2) (c := c2) rfl rfl rfl b2 rfl C2 (by simp) ?_)
  intro v3 w3 hv3
  have C3 : Came (w3.alloc (.cells #[.int .u8 165] 5)) (some ⟨w3.heap.size, 0, none⟩) 1 [165] := lit_came w3 [165] (by decide)
  have hv3a := hv3.alloc (.cells #[.int .u8 165] 5)
  clear b2 C2 hv3
  go_wp2_with (at_builtin; refine list_append_came (v := v3) (ba := some ⟨w3.heap.size, 0, none⟩) (c := 1) rfl rfl rfl hv3a rfl C3 (by simp) ?_)
  intro v4 w4 hv4
  obtain ⟨a4, c4, rfl, C4⟩ := hv4.came
  have HB4 := Lib.hid (belowT HB1.out hv4.below)
  have SP := O.split w4 a4 c4 _ C4 (by simp)
  rw [SA.out] at SP
  clear hv4 hv3a C3 C4 HB1 SA
  go_wp2_with fail
  refine SP.mono ?_; rintro e w5 ⟨va, vc, rfl, hfr, hb5⟩
  have HB5 := Lib.hid (belowT HB4.out hb5)
  have HF := Lib.hid hfr
  clear SP hb5 hfr HB4
  go_wp2_with fail
  refine (HSM.out _).mono ?_; rintro e w6 ⟨u6, rfl, hu6⟩
  obtain ⟨a6, c6, rfl, C6⟩ := hu6.came
  obtain ⟨b7, c7, hsl0, C7⟩ := came_tail C6 1 (by simp)
  have hsl : ∀ W, (Instr.sliceAt 22 (.slice a6 11 c6) (some (.int .i64 1)) none none).run Try.prog W = .ok (.slice b7 10 c7) W := hsl0
  clear hsl0
  have C5 : Came w6 (some ⟨w5.heap.size, 0, none⟩) 1 [165] := (lit_came w5 [165] (by decide)).keep hu6.below
  have HB6 := Lib.hid (belowT (belowT HB5.out (below1 w5 (.cells #[.int .u8 165] 5))) hu6.below)
  have HF6 := Lib.hid (HF.out.keep (belowT (below1 w5 (.cells #[.int .u8 165] 5)) hu6.below))
  have FD := O.feed w6 _ _ _ _ _ _ C5 C7 (by simp)
  have eF : ∀ q : List UInt8, q = [165, 90, 3, 7, 1, 255, 255, 255, 254, x, y] → splitF q = ([someF], 11, 0) := fun q h => by rw [h]; exact SF.out
  rw [eF ([165] ++ List.drop 1 [165, 90, 3, 7, 1, 255, 255, 255, 254, x, y]) rfl] at FD
  clear hu6 C6 C5 C7 eF SF HB5 HF HSM
  go_wp2_with fail
  refine FD.mono ?_; rintro e w7 ⟨v7, c7', u7, d7, rfl, _, _, hb7, _⟩
  have HB7 := Lib.hid (belowT HB6.out hb7)
  obtain ⟨b, o, rfl, L⟩ := (HF6.out.keep hb7).lies (by decide)
  have k3 : w7.cell? ⟨b, o + 3, none⟩ = some (.int .i64 (-2)) := (L.at 0 (by decide)).2.2.2
  have C7 : Came (w7.alloc (.cells #[.int .u8 165] 5)) (some ⟨w7.heap.size, 0, none⟩) 1 [165] := lit_came w7 [165] (by decide)
  have L1 := O.lost _ _ _ _ C7 (by simp)
  rw [split_a5] at L1
  clear FD HF6 hb7 L C7 hsl
  go_wp2_with fail
  refine L1.mono ?_; rintro e w8 ⟨rfl, hb8⟩
  have HB8 := Lib.hid (belowT (belowT HB7.out (below1 w7 (.cells #[.int .u8 165] 5))) hb8)
  have C8 : Came (w8.alloc (.cells #[.int .u8 165, .int .u8 1] 5)) (some ⟨w8.heap.size, 0, none⟩) 2 [165, 1] := lit_came w8 [165, 1] (by decide)
  have L2 := O.lost _ _ _ _ C8 (by simp)
  rw [split_two] at L2
  clear L1 hb8 k3 C8 HB7
  go_wp2_with fail
  refine L2.mono ?_; rintro e w9 ⟨rfl, hb9⟩
  have HB9 := Lib.hid (belowT (belowT HB8.out (below1 w8 (.cells #[.int .u8 165, .int .u8 1] 5))) hb9)
  clear L2 hb9 HB8
  go_wp2
  go_ret
  exact ⟨rfl, HB9.out⟩
end Go.Proofs.Ytnafodnaolmffaa
