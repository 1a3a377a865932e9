/- The landed package cusum: Step, Steps, rise, Reach, Ticks. -/
import Derived.Test.YtlfpmeflddimfaaFxCeil
import Derived.Test.YtlfpmeflddimfaaFxSat
import Derived.Test.YtlfpmeflddimfaaSlI
import Derived.Test.YtlfpmeflddimfaaCus
import Derived.LoopTactic
namespace Go.Proofs.Ytlfpmeflddimfaa
open Go.RowKit

theorem max_low {k m : Int} (h : k < 0) (e : m = max k 0) : m = 0 := by omega
theorem max_high {k m : Int} (h : ¬ k < 0) (e : m = max k 0) : m = k := by omega

namespace Lan21
theorem Step_any (c e k : Int) (w : World) (hc : Fix.Room c) (he : Fix.Room e) :
    Calls Try.prog 10 #[.int .i64 c, .int .i64 e, .int .i64 k] w fun x w' => x = .returned (.int .i64 (Cus.step c e k)) ∧ w = w' := by
  have S := Lib.hid fun w => Sat_any c e w hc he
  unfold Cus.step
  obtain ⟨s, hs⟩ : ∃ s, s = Fix.sat c e := ⟨_, rfl⟩
  rw [← hs] at S ⊢
  obtain ⟨m, hm⟩ : ∃ m, m = max k 0 := ⟨_, rfl⟩
  rw [← hm]
  have C := Lib.hid fun w => Clamp_any s 0 m w
  clear hs hc he
  by_cases h : k < 0
  · replace hm := max_low h hm
    subst hm
    go_enter Try.func10, Try.ntmps10
    go_wp2_with (first | (go_at_call 16; refine (S.out _).mono ?_; rintro e w' ⟨rfl, rfl⟩) | (go_at_call 19; refine (C.out _).mono ?_; rintro e w' ⟨rfl, rfl⟩))
    go_ret
    exact ⟨rfl, rfl⟩
  · replace hm := max_high h hm
    subst hm
    have h0 : 0 ≤ m := by omega
    go_enter Try.func10, Try.ntmps10
    go_wp2_with (first | (go_at_call 16; refine (S.out _).mono ?_; rintro e w' ⟨rfl, rfl⟩) | (go_at_call 19; refine (C.out _).mono ?_; rintro e w' ⟨rfl, rfl⟩))
    go_ret
    exact ⟨rfl, rfl⟩

set_option maxHeartbeats 1000000 in
theorem Steps_came {w : World} {ba : Option Addr} {cap : Nat} {l : List Int} (C : Came6 w ba cap l) (c k : Int) (hc : Fix.Room c) :
    Calls Try.prog 12 #[.int .i64 c, .int .i64 k, .slice ba l.length cap] w fun e w' => e = .returned (.int .i64 (Cus.steps c k l)) ∧ w = w' := by
  have hm := C.max
  have hle := C.le
  unfold maxLen at hm
  have hl : (l.length : Int) ≤ 9223372036854775807 := by omega
  have CH := Lib.hid C
  have ST := Lib.hid fun c e w hc he => Step_any c e k w hc he
  clear C hm hle
  obtain ⟨f, hf0, hf1, hf2, hf3⟩ : ∃ f : Nat → Int, f 0 = c ∧ (∀ j, j < l.length → f (j + 1) = Cus.step (f j) (l.getD j 0) k) ∧ f l.length = Cus.steps c k l ∧ (∀ j, Fix.Room (f j)) :=
    ⟨fun j => Cus.steps c k (l.take j), rfl, fun j h => Cus.steps_take c k l j h, by show Cus.steps c k (l.take l.length) = _; rw [List.take_length], fun j => Cus.steps_room k c _ hc⟩
  rw [← hf2, ← hf0]
  have HF := Lib.hid hf1
  have HR := Lib.hid hf3
  clear hf0 hf1 hf2 hf3 hc
  go_enter Try.func12, Try.ntmps12
  go_wp2
  go_loop [0, 11] (fun s i => ∃ j : Nat, j ≤ l.length ∧ s = .int .i64 (f j) ∧ i = .int .i64 j) (fun _ i => l.length - (intOf i).toNat)
  case atStart => exact ⟨0, Nat.zero_le _, rfl, rfl⟩
  case round =>
    obtain ⟨j, hj, rfl, rfl⟩ := hrel
    by_cases hc : (j : Int) < l.length
    · obtain ⟨b, o, rfl, L⟩ := CH.out.lies (by omega)
      have hcell := L j (by omega)
      have hp := HF.out j (by omega)
      have hr := CH.out.room.at j (by omega)
      obtain ⟨x, hx⟩ : ∃ x, x = l.getD j 0 := ⟨_, rfl⟩
      rw [← hx] at hcell hp hr
      have STj := Lib.hid fun w => ST.out (f j) x w (HR.out j) hr
      rw [← hp] at STj
      have hend : ∃ j' : Nat, j' ≤ l.length ∧ Value.int .i64 (f (j + 1)) = .int .i64 (f j') ∧ Value.int .i64 ((j : Int) + 1) = .int .i64 j' := ⟨j + 1, by omega, rfl, rfl⟩
      generalize f (j + 1) = y1 at *
      generalize f j = y0 at *
      clear hx L hp hr HF HR ST
      go_wp2_with fail
      refine (STj.out _).mono ?_; rintro e w1 ⟨rfl, rfl⟩
      go_wp2_with fail
      exact ⟨hend, by simp [intOf]; omega⟩
    · obtain rfl : j = l.length := by omega
      go_wp2
      go_ret
      exact ⟨rfl, rfl⟩

set_option maxHeartbeats 1000000 in
theorem rise_came {w : World} {ba : Option Addr} {cap : Nat} {l : List Int} (C : Came6 w ba cap l) (lim k : Int) :
    Calls Try.prog 22 #[.int .i64 lim, .int .i64 k, .slice ba l.length cap] w fun e w' => (∃ o : Int, e = .returned (.tuple #[.int .i64 o, .int .i64 (Cus.reach lim k 0 0 l)])) ∧ w = w' := by
  have hm := C.max
  have hle := C.le
  unfold maxLen at hm
  have hl : (l.length : Int) ≤ 9223372036854775807 := by omega
  have CH := Lib.hid C
  have ST := Lib.hid fun c e w hc he => Step_any c e k w hc he
  clear C hm hle
  obtain ⟨f, r, hf0, hf1, hf3, hr0, hr1, hr2⟩ : ∃ (f : Nat → Int) (r : Nat → Int), f 0 = 0 ∧ (∀ j, j < l.length → f (j + 1) = Cus.step (f j) (l.getD j 0) k) ∧ (∀ j, Fix.Room (f j))
      ∧ r 0 = Cus.reach lim k 0 0 l ∧ (∀ j, j < l.length → r j = if lim ≤ f (j + 1) then (j : Int) else r (j + 1)) ∧ r l.length = -1 :=
    ⟨fun j => Cus.steps 0 k (l.take j), fun j => Cus.reach lim k (Cus.steps 0 k (l.take j)) j (l.drop j), rfl, fun j h => Cus.steps_take 0 k l j h, fun j => Cus.steps_room k 0 _ ⟨by decide, by decide⟩, rfl, fun j h => Cus.reach_round lim k 0 l j h, Cus.reach_end ..⟩
  rw [← hr0]
  clear hr0
  obtain ⟨r0, hr0⟩ : ∃ r0, r0 = r 0 := ⟨_, rfl⟩
  rw [← hr0]
  have R0 := Lib.hid hr0
  have HF := Lib.hid hf1
  have HR := Lib.hid hf3
  have RR := Lib.hid hr1
  have RE := Lib.hid hr2
  have F0 := Lib.hid hf0
  clear hf0 hf1 hf3 hr0 hr1 hr2
  go_enter Try.func22, Try.ntmps22
  go_wp2
  go_loop [8, 9, 14] (fun s o i => ∃ (j : Nat) (q : Int), j ≤ l.length ∧ s = .int .i64 (f j) ∧ o = .int .i64 q ∧ i = .int .i64 j ∧ r0 = r j) (fun _ _ i => l.length - (intOf i).toNat)
  case atStart => exact ⟨0, -1, Nat.zero_le _, by rw [F0.out], rfl, rfl, R0.out⟩
  case round =>
    obtain ⟨j, q, hj, rfl, rfl, rfl, hrj⟩ := hrel
    by_cases hc : (j : Int) < l.length
    · obtain ⟨b, o, rfl, L⟩ := CH.out.lies (by omega)
      have hcell := L j (by omega)
      have hp := HF.out j (by omega)
      have hr := CH.out.room.at j (by omega)
      have hq := RR.out j (by omega)
      obtain ⟨x, hx⟩ : ∃ x, x = l.getD j 0 := ⟨_, rfl⟩
      rw [← hx] at hcell hp hr
      have STj := Lib.hid fun w => ST.out (f j) x w (HR.out j) hr
      rw [← hp] at STj
      have hend : r0 = r (j + 1) → ∀ q : Int, ∃ (j' : Nat) (q' : Int), j' ≤ l.length ∧ Value.int .i64 (f (j + 1)) = .int .i64 (f j') ∧ Value.int .i64 q = .int .i64 q' ∧ Value.int .i64 ((j : Int) + 1) = .int .i64 j' ∧ r0 = r j' := fun h q => ⟨j + 1, q, by omega, rfl, rfl, rfl, h⟩
      rw [← hrj] at hq
      have HE := Lib.hid hend
      have HQ := Lib.hid hq
      clear hend hq hrj
      generalize r (j + 1) = r1 at *
      generalize f (j + 1) = y1 at *
      generalize f j = y0 at *
      clear hx L hp hr HF HR ST
      by_cases hz : y0 = 0
      · have hz1 : (y0 == 0) = true := by rw [beq_iff_eq]; exact hz
        clear hz
        by_cases hy : lim ≤ y1
        · have e := HQ.out
          rw [if_pos hy] at e
          have E := Lib.hid e
          clear e
          go_wp2_with fail
          refine (STj.out _).mono ?_; rintro e w1 ⟨rfl, rfl⟩
          go_wp2_with fail
          go_ret2
          exact ⟨⟨_, by rw [E.out]; rfl⟩, rfl⟩
        · have e := HQ.out
          rw [if_neg hy] at e
          have E := Lib.hid e
          have hy1 : decide (lim ≤ y1) = false := decide_eq_false hy
          clear e hy
          go_wp2_with fail
          refine (STj.out _).mono ?_; rintro e w1 ⟨rfl, rfl⟩
          go_wp2_with fail
          exact ⟨HE.out E.out _, by simp [intOf]; omega⟩
      · have hz1 : (y0 == 0) = false := by rw [beq_eq_false_iff_ne]; exact hz
        clear hz
        by_cases hy : lim ≤ y1
        · have e := HQ.out
          rw [if_pos hy] at e
          have E := Lib.hid e
          clear e
          go_wp2_with fail
          refine (STj.out _).mono ?_; rintro e w1 ⟨rfl, rfl⟩
          go_wp2_with fail
          go_ret2
          exact ⟨⟨_, by rw [E.out]; rfl⟩, rfl⟩
        · have e := HQ.out
          rw [if_neg hy] at e
          have E := Lib.hid e
          have hy1 : decide (lim ≤ y1) = false := decide_eq_false hy
          clear e hy
          go_wp2_with fail
          refine (STj.out _).mono ?_; rintro e w1 ⟨rfl, rfl⟩
          go_wp2_with fail
          exact ⟨HE.out E.out _, by simp [intOf]; omega⟩
    · obtain rfl : j = l.length := by omega
      have E := Lib.hid (hrj.trans RE.out)
      clear hrj
      go_wp2
      go_ret2
      exact ⟨⟨_, by rw [E.out]; rfl⟩, rfl⟩

theorem Reach_came {w : World} {ba : Option Addr} {cap : Nat} {l : List Int} (C : Came6 w ba cap l) (lim k : Int) :
    Calls Try.prog 14 #[.int .i64 lim, .int .i64 k, .slice ba l.length cap] w fun e w' => e = .returned (.int .i64 (Cus.reach lim k 0 0 l)) ∧ w = w' := by
  have R := Lib.hid (rise_came C lim k)
  clear C
  go_enter Try.func14, Try.ntmps14
  go_wp2_with fail
  refine R.out.mono ?_; rintro e w1 ⟨⟨o, rfl⟩, rfl⟩
  go_wp2_with fail
  go_ret
  exact ⟨rfl, rfl⟩

/-- what Ticks answers -/
def tickV (lim by_ : Int) : Int := if lim < 0 ∨ by_ < 1 then 0 else Fix.ceilV lim by_
def tickE (lim by_ : Int) : Int := if lim < 0 ∨ by_ < 1 then 1 else Fix.ceilE lim by_
theorem Ticks_any (lim b : Int) (w : World) (hl : Fix.Room lim) (hb : Fix.Room b) :
    Calls Try.prog 8 #[.int .i64 lim, .int .i64 b] w fun e w' => e = .returned (.tuple #[.int .i64 (tickV lim b), .int .i64 (tickE lim b)]) ∧ ∃ n, w' = w.drewN n := by
  unfold tickV tickE
  by_cases h : lim < 0
  · rw [if_pos (Or.inl h), if_pos (Or.inl h)]
    go_enter Try.func8, Try.ntmps8
    go_wp2
    go_ret2
    exact ⟨rfl, 0, rfl⟩
  · have d : decide (lim < 0) = false := decide_eq_false h
    by_cases g : b < 1
    · rw [if_pos (Or.inr g), if_pos (Or.inr g)]
      go_enter Try.func8, Try.ntmps8
      go_wp2
      go_ret2
      exact ⟨rfl, 0, rfl⟩
    · have d2 : decide (b < 1) = false := decide_eq_false g
      rw [if_neg (by omega), if_neg (by omega)]
      have CE := Lib.hid fun w => Ceil_any lim b w hl hb
      generalize Fix.ceilV lim b = V at *
      generalize Fix.ceilE lim b = E at *
      clear h g hl hb
      go_enter Try.func8, Try.ntmps8
      go_wp2_with fail
      refine (CE.out _).mono ?_; rintro e w1 ⟨rfl, n, rfl⟩
      go_wp2_with fail
      go_ret2
      exact ⟨rfl, n, rfl⟩
end Lan21
end Go.Proofs.Ytlfpmeflddimfaa
