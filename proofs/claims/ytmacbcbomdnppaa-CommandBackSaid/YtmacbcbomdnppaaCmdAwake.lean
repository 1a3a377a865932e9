/- The laws' own example, layer 34; what the law's 'back' answers. -/
import Derived.Test.YtmacbcbomdnppaaCmdLanC
import Derived.Test.YtmacbcbomdnppaaCmdLanE
namespace Go.Proofs.Ytmacbcbomdnppaa
open Go.RowKit

namespace Law34
theorem bytes_ok {c : Cm} (h : rightC c = true) : bytesC c = (cmdC c, 0) := by unfold bytesC; rw [if_pos h]
theorem torn_read : readC [195, 3, 3, 0, 0] = (cm0, 5) := by
  have h : fitsB [195, 3, 3, 0, 0] = false := by decide +kernel
  unfold readC
  rw [if_neg (by decide), if_neg (by decide), if_pos h]

set_option maxHeartbeats 4000000 in
set_option maxRecDepth 100000 in
theorem awake_any (w : World) : Calls Try.prog 6 #[] w fun e w' => e = .returned (.bool true) ∧ Below w.heap.size w w' := by
  have r3 : rightC ⟨3, 3⟩ = true := by decide
  have OB : Hid (∀ w, Calls Try.prog 7 #[.agg #[.int .i64 3, .int .i64 3]] w fun e w' => ∃ ba cap, e = .returned (.tuple #[.slice ba 5 cap, .int .i64 0]) ∧ Came w' ba cap (cmdC ⟨3, 3⟩) ∧ Below w.heap.size w w') := Lib.hid fun w => by
    have k := Lan34.Bytes_any ⟨3, 3⟩ w
    rw [bytes_ok r3] at k
    exact k
  have RD : Hid (∀ w ba cap, Came w ba cap (cmdC ⟨3, 3⟩) → Calls Try.prog 9 #[.slice ba 5 cap] w fun e w' => e = .returned (.tuple #[.agg #[.int .i64 3, .int .i64 3], .int .i64 0]) ∧ Below w.heap.size w w') := Lib.hid fun w ba cap C => by
    have k := Lan34.Read_came C
    rw [read_cmd ⟨3, 3⟩ r3] at k
    exact k
  have RT : Hid (∀ w ba cap, Came w ba cap [195, 3, 3, 0, 0] → Calls Try.prog 9 #[.slice ba 5 cap] w fun e w' => e = .returned (.tuple #[.agg #[.int .i64 0, .int .i64 0], .int .i64 5]) ∧ Below w.heap.size w w') := Lib.hid fun w ba cap C => by
    have k := Lan34.Read_came C
    rw [torn_read] at k
    exact k
  have OA : Hid (∀ w, Calls Try.prog 13 #[.iface 40 (.agg #[.int .i64 2])] w fun e w' => e = .returned (.tuple #[.agg #[.int .i64 4, .int .i64 2], .int .i64 0]) ∧ Below w.heap.size w w') := Lib.hid fun w => Lan34.Of_admit 2 w
  have OI : Hid (∀ w, Calls Try.prog 13 #[.iface 3 (.int .i64 7)] w fun e w' => e = .returned (.tuple #[.agg #[.int .i64 0, .int .i64 0], .int .i64 1]) ∧ Below w.heap.size w w') := Lib.hid fun w => Lan34.Of_other 3 (.int .i64 7) w (by decide) (by decide) (by decide) (by decide)
  have AN : Hid (∀ w, Calls Try.prog 15 #[.agg #[.int .i64 5, .int .i64 0]] w fun e w' => e = .returned (.tuple #[.nilIface, .int .i64 1]) ∧ Below w.heap.size w w') := Lib.hid fun w => Lan34.As_no ⟨5, 0⟩ w (by decide)
  have RR : Hid (∀ w, Calls Try.prog 11 #[.agg #[.int .i64 3, .int .i64 3]] w fun e w' => e = .returned (.bool true) ∧ Below w.heap.size w w') := Lib.hid fun w => by
    have k := Lan34.Right_any ⟨3, 3⟩ w
    rw [r3] at k
    exact k
  generalize cmdC ⟨3, 3⟩ = L at *
  clear r3
  go_enter Try.func6, Try.ntmps6
  go_wp2_with fail
  refine (OB.out _).mono ?_; rintro e w1 ⟨b1, c1, rfl, C1, hb1⟩
  have HB1 := Lib.hid hb1
  have RD1 := Lib.hid (RD.out w1 b1 c1 C1)
  clear OB RD C1 hb1
  go_wp2_with fail
  refine RD1.out.mono ?_; rintro e w2 ⟨rfl, hb2⟩
  have HB2 := Lib.hid (belowT (belowT HB1.out hb2) (below1 w2 (.cells #[.int .i64 3, .int .i64 3] 23)))
  have K2 := Lib.hid (hasl w2 [.int .i64 3, .int .i64 3] 23)
  have LL := Lib.hid (lies_alloc (w2.alloc (.cells #[.int .i64 3, .int .i64 3] 23)) [195, 3, 3, 0, 0] 5)
  rw [heap1] at LL
  clear RD1 HB1 hb2
  go_wp2_with fail
  refine (RT.out _ _ _ ?c3).mono ?_
  case c3 => exact ⟨by simp, by decide, fun h => (by cases h), fun _ => ⟨_, _, rfl, LL.out⟩⟩
  rintro e w3 ⟨rfl, hb3⟩
  have hb3a := belowT (below1 (w2.alloc (.cells #[.int .i64 3, .int .i64 3] 23)) _) hb3
  have HB3 := Lib.hid (belowT HB2.out hb3a)
  have K3 := Lib.hid (K2.out.keep hb3a)
  clear RT LL HB2 K2 hb3 hb3a
  go_wp2_with fail
  refine (OA.out _).mono ?_; rintro e w4 ⟨rfl, hb4⟩
  have hb4a := belowT (below1 w3 (.cells #[.int .i64 0, .int .i64 0] 23)) hb4
  have HB4 := Lib.hid (belowT HB3.out hb4a)
  have K4 := Lib.hid (K3.out.keep hb4a)
  have M4 := Lib.hid (hasl w4 [.int .i64 4, .int .i64 2] 23)
  clear OA HB3 K3 hb4 hb4a
  go_wp2_with fail
  refine (OI.out _).mono ?_; rintro e w5 ⟨rfl, hb5⟩
  have hb5b := belowT (below1 w4 (.cells #[.int .i64 4, .int .i64 2] 23)) hb5
  have HB5 := Lib.hid (belowT HB4.out hb5b)
  have K5 := Lib.hid (K4.out.keep hb5b)
  have M5 := Lib.hid (M4.out.keep hb5)
  clear OI HB4 K4 M4 hb5 hb5b
  go_wp2_with fail
  refine (AN.out _).mono ?_; rintro e w6 ⟨rfl, hb6⟩
  have hb6a := belowT (below1 w5 (.cells #[.int .i64 0, .int .i64 0] 23)) hb6
  have HB6 := Lib.hid (belowT HB5.out hb6a)
  have K6 := K5.out.keep hb6a
  have M6 := M5.out.keep hb6a
  have k0 := K6.at 0 rfl
  have k1 := K6.at 1 rfl
  have m0 := M6.at 0 rfl
  have m1 := M6.at 1 rfl
  clear AN HB5 K5 M5 hb6 hb6a K6 M6
  go_wp2_with fail
  refine (RR.out _).mono ?_; rintro e w7 ⟨rfl, hb7⟩
  have HB7 := Lib.hid (belowT HB6.out hb7)
  clear RR HB6 hb7 k0 k1 m0 m1
  go_wp2
  go_ret
  exact ⟨rfl, HB7.out⟩
end Law34
end Go.Proofs.Ytmacbcbomdnppaa
