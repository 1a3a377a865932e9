/- CommandValues. -/
import Derived.Test.YtmacbcbomdnppaaCmdBk
import Derived.Test.YtmacbcbomdnppaaCmdAwake
namespace Go.Proofs.Ytmacbcbomdnppaa
open Go.RowKit

namespace Law34
set_option maxHeartbeats 8000000 in
set_option maxRecDepth 100000 in
theorem values_right (on : Bool) (g n : Int) (s : ByteArray) (w : World) (h0 : 0 ≤ g) (h6 : g < 6)
    (O0 : Hid (∀ w, Calls Try.prog 13 #[.iface 35 (.agg #[.bool on])] w fun e w' => e = .returned (.tuple #[.agg #[.int .i64 1, .int .i64 n], .int .i64 0]) ∧ Below w.heap.size w w'))
    (O1 : Hid (∀ w, Calls Try.prog 13 #[.iface 37 (.agg #[])] w fun e w' => e = .returned (.tuple #[.agg #[.int .i64 2, .int .i64 0], .int .i64 0]) ∧ Below w.heap.size w w'))
    (O2 : Hid (∀ w, Calls Try.prog 13 #[.iface 39 (.agg #[.int .i64 g])] w fun e w' => e = .returned (.tuple #[.agg #[.int .i64 3, .int .i64 g], .int .i64 0]) ∧ Below w.heap.size w w'))
    (O3 : Hid (∀ w, Calls Try.prog 13 #[.iface 40 (.agg #[.int .i64 g])] w fun e w' => e = .returned (.tuple #[.agg #[.int .i64 4, .int .i64 g], .int .i64 0]) ∧ Below w.heap.size w w'))
    (O4 : Hid (∀ w, Calls Try.prog 13 #[.iface 9 (.string s)] w fun e w' => e = .returned (.tuple #[.agg #[.int .i64 0, .int .i64 0], .int .i64 1]) ∧ Below w.heap.size w w'))
    (O5 : Hid (∀ w, Calls Try.prog 13 #[.nilIface] w fun e w' => e = .returned (.tuple #[.agg #[.int .i64 0, .int .i64 0], .int .i64 1]) ∧ Below w.heap.size w w'))
    (K0 : Hid (∀ w, Calls Try.prog 14 #[.agg #[.int .i64 1, .int .i64 n], .iface 35 (.agg #[.bool on])] w fun e w' => e = .returned (.bool true) ∧ Below w.heap.size w w'))
    (K1 : Hid (∀ w, Calls Try.prog 14 #[.agg #[.int .i64 2, .int .i64 0], .iface 37 (.agg #[])] w fun e w' => e = .returned (.bool true) ∧ Below w.heap.size w w'))
    (K2 : Hid (∀ w, Calls Try.prog 14 #[.agg #[.int .i64 3, .int .i64 g], .iface 39 (.agg #[.int .i64 g])] w fun e w' => e = .returned (.bool true) ∧ Below w.heap.size w w'))
    (K3 : Hid (∀ w, Calls Try.prog 14 #[.agg #[.int .i64 4, .int .i64 g], .iface 40 (.agg #[.int .i64 g])] w fun e w' => e = .returned (.bool true) ∧ Below w.heap.size w w'))
    (AW : Hid (∀ w, Calls Try.prog 6 #[] w fun e w' => e = .returned (.bool true) ∧ Below w.heap.size w w')) :
    Calls Try.prog 4 #[.bool on, .int .i64 g, .string s] w fun e w' => e = .returned (.bool true) ∧ Below w.heap.size w w' := by
  have d0 : decide (0 ≤ g) = true := decide_eq_true h0
  have d6 : decide (g < 6) = true := decide_eq_true h6
  go_enter Try.func4, Try.ntmps4
  go_wp2_with fail
  refine (O0.out _).mono ?_; rintro e w1 ⟨rfl, hb⟩
  have HB1 := Lib.hid hb
  have M0_1 := Lib.hid (hasl w1 [.int .i64 1, .int .i64 n] 23)
  clear O0 hb
  go_wp2_with fail
  refine (O1.out _).mono ?_; rintro e w2 ⟨rfl, hb⟩
  have hba := belowT (below1 w1 (.cells #[.int .i64 1, .int .i64 n] 23)) hb
  have HB2 := Lib.hid (belowT HB1.out hba)
  have M0_2 := Lib.hid (M0_1.out.keep hb)
  have M1_2 := Lib.hid (hasl w2 [.int .i64 2, .int .i64 0] 23)
  clear O1 hb hba HB1 M0_1
  go_wp2_with fail
  refine (O2.out _).mono ?_; rintro e w3 ⟨rfl, hb⟩
  have hba := belowT (below1 w2 (.cells #[.int .i64 2, .int .i64 0] 23)) hb
  have HB3 := Lib.hid (belowT HB2.out hba)
  have M0_3 := Lib.hid (M0_2.out.keep hba)
  have M1_3 := Lib.hid (M1_2.out.keep hb)
  have M2_3 := Lib.hid (hasl w3 [.int .i64 3, .int .i64 g] 23)
  clear O2 hb hba HB2 M0_2 M1_2
  go_wp2_with fail
  refine (O3.out _).mono ?_; rintro e w4 ⟨rfl, hb⟩
  have hba := belowT (below1 w3 (.cells #[.int .i64 3, .int .i64 g] 23)) hb
  have HB4 := Lib.hid (belowT HB3.out hba)
  have M0_4 := Lib.hid (M0_3.out.keep hba)
  have M1_4 := Lib.hid (M1_3.out.keep hba)
  have M2_4 := Lib.hid (M2_3.out.keep hb)
  have M3_4 := Lib.hid (hasl w4 [.int .i64 4, .int .i64 g] 23)
  clear O3 hb hba HB3 M0_3 M1_3 M2_3
  go_wp2_with fail
  refine (O4.out _).mono ?_; rintro e w5 ⟨rfl, hb⟩
  have hba := belowT (below1 w4 (.cells #[.int .i64 4, .int .i64 g] 23)) hb
  have HB5 := Lib.hid (belowT HB4.out hba)
  have M0_5 := Lib.hid (M0_4.out.keep hba)
  have M1_5 := Lib.hid (M1_4.out.keep hba)
  have M2_5 := Lib.hid (M2_4.out.keep hba)
  have M3_5 := Lib.hid (M3_4.out.keep hb)
  clear O4 hb hba HB4 M0_4 M1_4 M2_4 M3_4
  go_wp2_with fail
  refine (O5.out _).mono ?_; rintro e w6 ⟨rfl, hb⟩
  have hba := belowT (below1 w5 (.cells #[.int .i64 0, .int .i64 0] 23)) hb
  have HB6 := Lib.hid (belowT HB5.out hba)
  have M0_6 := Lib.hid (M0_5.out.keep hba)
  have M1_6 := Lib.hid (M1_5.out.keep hba)
  have M2_6 := Lib.hid (M2_5.out.keep hba)
  have M3_6 := Lib.hid (M3_5.out.keep hba)
  clear O5 hb hba HB5 M0_5 M1_5 M2_5 M3_5
  have hba := below1 w6 (.cells #[.int .i64 0, .int .i64 0] 23)
  have HB7 := Lib.hid (belowT HB6.out hba)
  have M0_7 := Lib.hid (M0_6.out.keep hba)
  have M1_7 := Lib.hid (M1_6.out.keep hba)
  have M2_7 := Lib.hid (M2_6.out.keep hba)
  have M3_7 := Lib.hid (M3_6.out.keep hba)
  clear hba HB6 M0_6 M1_6 M2_6 M3_6
  have q0 := M0_7.out.at 0 rfl
  have q1 := M0_7.out.at 1 rfl
  go_wp2_with fail
  refine (K0.out _).mono ?_; rintro e w8 ⟨rfl, hb⟩
  have HB8 := Lib.hid (belowT HB7.out hb)
  have M1_8 := Lib.hid (M1_7.out.keep hb)
  have M2_8 := Lib.hid (M2_7.out.keep hb)
  have M3_8 := Lib.hid (M3_7.out.keep hb)
  clear K0 hb HB7 q0 q1 M0_7 M1_7 M2_7 M3_7
  have q0 := M1_8.out.at 0 rfl
  have q1 := M1_8.out.at 1 rfl
  go_wp2_with fail
  refine (K1.out _).mono ?_; rintro e w9 ⟨rfl, hb⟩
  have HB9 := Lib.hid (belowT HB8.out hb)
  have M2_9 := Lib.hid (M2_8.out.keep hb)
  have M3_9 := Lib.hid (M3_8.out.keep hb)
  clear K1 hb HB8 q0 q1 M1_8 M2_8 M3_8
  have q0 := M2_9.out.at 0 rfl
  have q1 := M2_9.out.at 1 rfl
  go_wp2_with fail
  refine (K2.out _).mono ?_; rintro e w10 ⟨rfl, hb⟩
  have HB10 := Lib.hid (belowT HB9.out hb)
  have M3_10 := Lib.hid (M3_9.out.keep hb)
  clear K2 hb HB9 q0 q1 M2_9 M3_9
  have q0 := M3_10.out.at 0 rfl
  have q1 := M3_10.out.at 1 rfl
  go_wp2_with fail
  refine (K3.out _).mono ?_; rintro e w11 ⟨rfl, hb⟩
  have HB11 := Lib.hid (belowT HB10.out hb)
  clear K3 hb HB10 q0 q1 M3_10
  go_wp2_with fail
  refine (AW.out _).mono ?_; rintro e w12 ⟨rfl, hb⟩
  have HB12 := Lib.hid (belowT HB11.out hb)
  clear AW hb HB11
  go_wp2
  go_ret
  exact ⟨rfl, HB12.out⟩

set_option maxHeartbeats 8000000 in
set_option maxRecDepth 100000 in
theorem values_wrong (on : Bool) (g n : Int) (s : ByteArray) (w : World) (hg : decide (0 ≤ g) = false ∨ decide (0 ≤ g) = true ∧ decide (g < 6) = false)
    (O0 : Hid (∀ w, Calls Try.prog 13 #[.iface 35 (.agg #[.bool on])] w fun e w' => e = .returned (.tuple #[.agg #[.int .i64 1, .int .i64 n], .int .i64 0]) ∧ Below w.heap.size w w'))
    (O1 : Hid (∀ w, Calls Try.prog 13 #[.iface 37 (.agg #[])] w fun e w' => e = .returned (.tuple #[.agg #[.int .i64 2, .int .i64 0], .int .i64 0]) ∧ Below w.heap.size w w'))
    (O2 : Hid (∀ w, Calls Try.prog 13 #[.iface 39 (.agg #[.int .i64 g])] w fun e w' => e = .returned (.tuple #[.agg #[.int .i64 0, .int .i64 0], .int .i64 1]) ∧ Below w.heap.size w w'))
    (O3 : Hid (∀ w, Calls Try.prog 13 #[.iface 40 (.agg #[.int .i64 g])] w fun e w' => e = .returned (.tuple #[.agg #[.int .i64 0, .int .i64 0], .int .i64 1]) ∧ Below w.heap.size w w'))
    (O4 : Hid (∀ w, Calls Try.prog 13 #[.iface 9 (.string s)] w fun e w' => e = .returned (.tuple #[.agg #[.int .i64 0, .int .i64 0], .int .i64 1]) ∧ Below w.heap.size w w'))
    (O5 : Hid (∀ w, Calls Try.prog 13 #[.nilIface] w fun e w' => e = .returned (.tuple #[.agg #[.int .i64 0, .int .i64 0], .int .i64 1]) ∧ Below w.heap.size w w'))
    (K0 : Hid (∀ w, Calls Try.prog 14 #[.agg #[.int .i64 1, .int .i64 n], .iface 35 (.agg #[.bool on])] w fun e w' => e = .returned (.bool true) ∧ Below w.heap.size w w'))
    (K1 : Hid (∀ w, Calls Try.prog 14 #[.agg #[.int .i64 2, .int .i64 0], .iface 37 (.agg #[])] w fun e w' => e = .returned (.bool true) ∧ Below w.heap.size w w'))
    (AW : Hid (∀ w, Calls Try.prog 6 #[] w fun e w' => e = .returned (.bool true) ∧ Below w.heap.size w w')) :
    Calls Try.prog 4 #[.bool on, .int .i64 g, .string s] w fun e w' => e = .returned (.bool true) ∧ Below w.heap.size w w' := by
  rcases hg with d0 | ⟨d0, d6⟩
  all_goals
    go_enter Try.func4, Try.ntmps4
    go_wp2_with fail
    refine (O0.out _).mono ?_; rintro e w1 ⟨rfl, hb⟩
    have HB1 := Lib.hid hb
    have M0_1 := Lib.hid (hasl w1 [.int .i64 1, .int .i64 n] 23)
    clear O0 hb
    go_wp2_with fail
    refine (O1.out _).mono ?_; rintro e w2 ⟨rfl, hb⟩
    have hba := belowT (below1 w1 (.cells #[.int .i64 1, .int .i64 n] 23)) hb
    have HB2 := Lib.hid (belowT HB1.out hba)
    have M0_2 := Lib.hid (M0_1.out.keep hb)
    have M1_2 := Lib.hid (hasl w2 [.int .i64 2, .int .i64 0] 23)
    clear O1 hb hba HB1 M0_1
    go_wp2_with fail
    refine (O2.out _).mono ?_; rintro e w3 ⟨rfl, hb⟩
    have hba := belowT (below1 w2 (.cells #[.int .i64 2, .int .i64 0] 23)) hb
    have HB3 := Lib.hid (belowT HB2.out hba)
    have M0_3 := Lib.hid (M0_2.out.keep hba)
    have M1_3 := Lib.hid (M1_2.out.keep hb)
    clear O2 hb hba HB2 M0_2 M1_2
    go_wp2_with fail
    refine (O3.out _).mono ?_; rintro e w4 ⟨rfl, hb⟩
    have hba := belowT (below1 w3 (.cells #[.int .i64 0, .int .i64 0] 23)) hb
    have HB4 := Lib.hid (belowT HB3.out hba)
    have M0_4 := Lib.hid (M0_3.out.keep hba)
    have M1_4 := Lib.hid (M1_3.out.keep hba)
    clear O3 hb hba HB3 M0_3 M1_3
    go_wp2_with fail
    refine (O4.out _).mono ?_; rintro e w5 ⟨rfl, hb⟩
    have hba := belowT (below1 w4 (.cells #[.int .i64 0, .int .i64 0] 23)) hb
    have HB5 := Lib.hid (belowT HB4.out hba)
    have M0_5 := Lib.hid (M0_4.out.keep hba)
    have M1_5 := Lib.hid (M1_4.out.keep hba)
    clear O4 hb hba HB4 M0_4 M1_4
    go_wp2_with fail
    refine (O5.out _).mono ?_; rintro e w6 ⟨rfl, hb⟩
    have hba := belowT (below1 w5 (.cells #[.int .i64 0, .int .i64 0] 23)) hb
    have HB6 := Lib.hid (belowT HB5.out hba)
    have M0_6 := Lib.hid (M0_5.out.keep hba)
    have M1_6 := Lib.hid (M1_5.out.keep hba)
    clear O5 hb hba HB5 M0_5 M1_5
    have hba := below1 w6 (.cells #[.int .i64 0, .int .i64 0] 23)
    have HB7 := Lib.hid (belowT HB6.out hba)
    have M0_7 := Lib.hid (M0_6.out.keep hba)
    have M1_7 := Lib.hid (M1_6.out.keep hba)
    clear hba HB6 M0_6 M1_6
    have q0 := M0_7.out.at 0 rfl
    have q1 := M0_7.out.at 1 rfl
    go_wp2_with fail
    refine (K0.out _).mono ?_; rintro e w8 ⟨rfl, hb⟩
    have HB8 := Lib.hid (belowT HB7.out hb)
    have M1_8 := Lib.hid (M1_7.out.keep hb)
    clear K0 hb HB7 q0 q1 M0_7 M1_7
    have q0 := M1_8.out.at 0 rfl
    have q1 := M1_8.out.at 1 rfl
    go_wp2_with fail
    refine (K1.out _).mono ?_; rintro e w9 ⟨rfl, hb⟩
    have HB9 := Lib.hid (belowT HB8.out hb)
    clear K1 hb HB8 q0 q1 M1_8
    go_wp2_with fail
    refine (AW.out _).mono ?_; rintro e w10 ⟨rfl, hb⟩
    have HB10 := Lib.hid (belowT HB9.out hb)
    clear AW hb HB9
    go_wp2
    go_ret
    exact ⟨rfl, HB10.out⟩

theorem Values34_all (on : Bool) (g : Int) (s : ByteArray) (w : World) : Calls Try.prog 4 #[.bool on, .int .i64 g, .string s] w fun e w' => e = .returned (.bool true) ∧ Below w.heap.size w w' := by
  have O4 := Lib.hid fun w => Lan34.Of_other 9 (.string s) w (by decide) (by decide) (by decide) (by decide)
  by_cases h : 0 ≤ g ∧ g < 6
  · have r3 : rightC ⟨3, g⟩ = true := (rightC_iff _).2 (.inr (.inr ⟨.inl rfl, h⟩))
    have r4 : rightC ⟨4, g⟩ = true := (rightC_iff _).2 (.inr (.inr ⟨.inr rfl, h⟩))
    have e3 : ofNum 3 g = (⟨3, g⟩, 0) := by unfold ofNum; rw [if_pos r3]
    have e4 : ofNum 4 g = (⟨4, g⟩, 0) := by unfold ofNum; rw [if_pos r4]
    have O2 := Lib.hid fun w => Lan34.Of_inhibit g w
    have O3 := Lib.hid fun w => Lan34.Of_admit g w
    rw [e3] at O2
    rw [e4] at O3
    exact values_right on g (b01 on) s w h.1 h.2 (Lib.hid fun w => Lan34.Of_ground on w) (Lib.hid fun w => Lan34.Of_reset w) O2 O3 O4 (Lib.hid fun w => Lan34.Of_nil w)
      (Lib.hid fun w => back_ground on w) (Lib.hid fun w => back_reset w) (Lib.hid fun w => back_inhibit g w r3) (Lib.hid fun w => back_admit g w r4) (Lib.hid fun w => awake_any w)
  · have n3 : ¬ rightC ⟨3, g⟩ = true := fun k => by have := (rightC_iff _).1 k; simp only at this; omega
    have n4 : ¬ rightC ⟨4, g⟩ = true := fun k => by have := (rightC_iff _).1 k; simp only at this; omega
    have e3 : ofNum 3 g = (cm0, 1) := by unfold ofNum; rw [if_neg n3]
    have e4 : ofNum 4 g = (cm0, 1) := by unfold ofNum; rw [if_neg n4]
    have O2 := Lib.hid fun w => Lan34.Of_inhibit g w
    have O3 := Lib.hid fun w => Lan34.Of_admit g w
    rw [e3] at O2
    rw [e4] at O3
    refine values_wrong on g (b01 on) s w ?_ (Lib.hid fun w => Lan34.Of_ground on w) (Lib.hid fun w => Lan34.Of_reset w) O2 O3 O4 (Lib.hid fun w => Lan34.Of_nil w)
      (Lib.hid fun w => back_ground on w) (Lib.hid fun w => back_reset w) (Lib.hid fun w => awake_any w)
    by_cases h0 : 0 ≤ g
    · exact .inr ⟨decide_eq_true h0, decide_eq_false (by omega)⟩
    · exact .inl (decide_eq_false h0)
end Law34
end Go.Proofs.Ytmacbcbomdnppaa
