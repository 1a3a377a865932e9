/- The document's own answers for layer 21, and what they call of layer 1's: Add, Sat, Clamp, Ceil; Step, Steps, Ticks, Reach. -/
import Derived.Test.YtlfpmeflddimfaaCusLan
namespace Go.Proofs.Ytlfpmeflddimfaa
open Go.RowKit

namespace Ref1
theorem Add_any (a b : Int) (w : World) (ha : Fix.Room a) (hb : Fix.Room b) :
    Calls Try.prog 25 #[.int .i64 a, .int .i64 b] w fun e w' => e = .returned (.tuple #[.int .i64 (Fix.okV (a + b)), .int .i64 (Fix.okE (a + b))]) ∧ w = w' := by
  obtain ⟨ha1, ha2⟩ := ha; obtain ⟨hb1, hb2⟩ := hb
  by_cases p : 0 < b
  · by_cases q : 9223372036854775807 - b < a
    all_goals
      go_enter Try.func25, Try.ntmps25
      go_wp2
      go_ret2
      first
        | exact ⟨two (Fix.okV_in (by omega)) (Fix.okE_in (by omega)), rfl⟩
        | exact ⟨two (Fix.okV_out (by omega)) (Fix.okE_out (by omega)), rfl⟩
  · by_cases p2 : b < 0
    · by_cases q : a < -9223372036854775808 - b
      all_goals
        go_enter Try.func25, Try.ntmps25
        go_wp2
        go_ret2
        first
          | exact ⟨two (Fix.okV_in (by omega)) (Fix.okE_in (by omega)), rfl⟩
          | exact ⟨two (Fix.okV_out (by omega)) (Fix.okE_out (by omega)), rfl⟩
    · go_enter Try.func25, Try.ntmps25
      go_wp2
      go_ret2
      exact ⟨two (Fix.okV_in (by omega)) (Fix.okE_in (by omega)), rfl⟩

theorem Sat_any (a b : Int) (w : World) (ha : Fix.Room a) (hb : Fix.Room b) :
    Calls Try.prog 21 #[.int .i64 a, .int .i64 b] w fun e w' => e = .returned (.int .i64 (Fix.sat a b)) ∧ w = w' := by
  have A := Lib.hid fun w => Add_any a b w ha hb
  obtain ⟨ha1, ha2⟩ := ha; obtain ⟨hb1, hb2⟩ := hb
  rcases Fix.okE_cases (a + b) with ⟨e1, e2, e3⟩ | ⟨e1, e2, e3⟩
  · rw [e1, e2] at A
    obtain ⟨r1, r2⟩ := e3
    have hs : Fix.sat a b = a + b := by unfold Fix.sat; rw [if_neg (by omega), if_neg (by omega)]
    rw [hs]
    clear e1 e2 hs
    go_enter Try.func21, Try.ntmps21
    go_wp2_with (go_at_call 25; refine (A.out _).mono ?_; rintro e w' ⟨rfl, rfl⟩)
    go_ret
    exact ⟨rfl, rfl⟩
  · rw [e1, e2] at A
    by_cases hb0 : 0 < b
    · have hs : Fix.sat a b = 9223372036854775807 := by
        unfold Fix.sat; rw [if_pos (by unfold Fix.Room at e3; omega)]
      rw [hs]
      clear e1 e2 hs e3
      go_enter Try.func21, Try.ntmps21
      go_wp2_with (go_at_call 25; refine (A.out _).mono ?_; rintro e w' ⟨rfl, rfl⟩)
      go_ret
      exact ⟨rfl, rfl⟩
    · have hs : Fix.sat a b = -9223372036854775808 := by
        unfold Fix.sat; rw [if_neg (by omega), if_pos (by unfold Fix.Room at e3; omega)]
      rw [hs]
      clear e1 e2 hs e3
      go_enter Try.func21, Try.ntmps21
      go_wp2_with (go_at_call 25; refine (A.out _).mono ?_; rintro e w' ⟨rfl, rfl⟩)
      go_ret
      exact ⟨rfl, rfl⟩

theorem Clamp_any (a low high : Int) (w : World) :
    Calls Try.prog 20 #[.int .i64 a, .int .i64 low, .int .i64 high] w fun e w' => e = .returned (.int .i64 (Fix.clamp a low high)) ∧ w = w' := by
  unfold Fix.clamp
  by_cases h1 : high < a
  · by_cases h2 : high < low
    all_goals
      go_enter Try.func20, Try.ntmps20
      go_wp2
      go_ret
      exact ⟨one (by omega), rfl⟩
  · by_cases h2 : a < low
    all_goals
      go_enter Try.func20, Try.ntmps20
      go_wp2
      go_ret
      exact ⟨one (by omega), rfl⟩

set_option maxHeartbeats 1000000 in
theorem Ceil_core (a b t m : Int) (w : World) (h0 : b ≠ 0) (hb : (b == 0) = false) (h1 : (a == -9223372036854775808) = false ∨ (a == -9223372036854775808) = true ∧ (b == -1) = false)
    (eT : a.tdiv b = t) (eM : a.tmod b = m) (ht : -9223372036854775808 ≤ t) (ht2 : t ≤ 9223372036854775807) (ht3 : m ≠ 0 → t ≤ 4611686018427387904) :
    Calls Try.prog 18 #[.int .i64 a, .int .i64 b] w fun e w' => e = .returned (.tuple #[.int .i64 (if m ≠ 0 ∧ (decide (a < 0) == decide (b < 0)) = true then t + 1 else t), .int .i64 0]) ∧ ∃ n, w' = w.drewN n := by
  by_cases h : m = 0
  · rw [if_neg (fun h' => h'.1 h)]
    have d : (m != 0) = false := by simp [h]
    clear h ht3
    rcases h1 with h1 | ⟨h1, h2⟩
    all_goals
      go_enter Try.func18, Try.ntmps18
      go_wp2
      go_ret2
      exact ⟨rfl, 0, rfl⟩
  · have d : (m != 0) = true := by simp [h]
    have ht4 := ht3 h
    by_cases g : (decide (a < 0) == decide (b < 0)) = true
    · rw [if_pos ⟨h, g⟩]
      clear h ht3
      rcases h1 with h1 | ⟨h1, h2⟩
      all_goals
        go_enter Try.func18, Try.ntmps18
        go_wp2
        go_ret2
        exact ⟨rfl, 0, rfl⟩
    · rw [if_neg (fun h' => g h'.2)]
      replace g : (decide (a < 0) == decide (b < 0)) = false := by simpa using g
      clear h ht3
      rcases h1 with h1 | ⟨h1, h2⟩
      all_goals
        go_enter Try.func18, Try.ntmps18
        go_wp2
        go_ret2
        exact ⟨rfl, 0, rfl⟩

theorem Ceil_any (a b : Int) (w : World) (ha : Fix.Room a) (hb : Fix.Room b) :
    Calls Try.prog 18 #[.int .i64 a, .int .i64 b] w fun e w' => e = .returned (.tuple #[.int .i64 (Fix.ceilV a b), .int .i64 (Fix.ceilE a b)]) ∧ ∃ n, w' = w.drewN n := by
  unfold Fix.ceilV Fix.ceilE
  by_cases h0 : b = 0
  · subst h0
    rw [if_pos rfl, if_pos rfl]
    go_enter Try.func18, Try.ntmps18
    go_wp2
    go_ret2
    exact ⟨rfl, 0, rfl⟩
  · rw [if_neg h0, if_neg h0, Fix.ceil_eq a b h0]
    by_cases h1 : a = -9223372036854775808 ∧ b = -1
    · obtain ⟨rfl, rfl⟩ := h1
      rw [Fix.flr_over]
      go_enter Try.func18, Try.ntmps18
      go_wp2
      go_ret2
      exact ⟨rfl, 0, rfl⟩
    · have q := Fix.quo a b ha h0
      have e1 : (a == -9223372036854775808) = false ∨ (a == -9223372036854775808) = true ∧ (b == -1) = false := by
        by_cases e : a = -9223372036854775808
        · exact Or.inr ⟨by rw [beq_iff_eq]; exact e, by rw [beq_eq_false_iff_ne]; exact fun n => h1 ⟨e, n⟩⟩
        · exact Or.inl (by rw [beq_eq_false_iff_ne]; exact e)
      obtain ⟨r1, r2⟩ := q.room' h1
      have r3 := q.room
      have c := Ceil_core a b (a.tdiv b) (a.tmod b) w h0 (by rw [beq_eq_false_iff_ne]; exact h0) e1 rfl rfl r1 r2 (fun h => (r3 h).2)
      have v : (if a - Fix.flr a b * b = 0 then Fix.flr a b else Fix.flr a b + 1) = (if a.tmod b ≠ 0 ∧ (decide (a < 0) == decide (b < 0)) = true then a.tdiv b + 1 else a.tdiv b) := by
        have hl := q.left
        have s0 := q.side
        have s1 := q.side'
        have hz : a.tmod b ≠ 0 → ((decide (a < 0) == decide (b < 0)) = true ↔ (a.tmod b < 0 ↔ b < 0)) := fun hn => by
          rw [beq_iff_eq, decide_eq_decide]
          generalize a.tmod b = m at *
          clear hl r1 r2 r3 c e1 h1
          by_cases ha0 : a < 0 <;> by_cases hb0 : b < 0 <;> by_cases hm0 : m < 0 <;> omega
        by_cases h : a.tmod b = 0 ∨ (a.tmod b < 0 ↔ b < 0)
        · obtain ⟨e1, e2⟩ := q.same h h0
          rw [e2, e1]
          by_cases z : a.tmod b = 0
          · rw [if_pos z, if_neg (fun h => h.1 z)]
          · rw [if_neg z, if_pos ⟨z, (hz z).2 (h.resolve_left z)⟩]
        · obtain ⟨e1, e2⟩ := q.less h h0
          have z : a.tmod b ≠ 0 := fun z => h (Or.inl z)
          rw [e2, e1, if_neg (by omega), if_neg (fun k => h (Or.inr ((hz z).1 k.2)))]
          omega
      have rr : -9223372036854775808 ≤ (if a - Fix.flr a b * b = 0 then Fix.flr a b else Fix.flr a b + 1) ∧ (if a - Fix.flr a b * b = 0 then Fix.flr a b else Fix.flr a b + 1) ≤ 9223372036854775807 := by
        rw [v]
        split
        · rename_i k
          have := r3 k.1
          omega
        · exact ⟨r1, r2⟩
      rw [Fix.okV_in rr, Fix.okE_in rr, v]
      exact c
end Ref1

namespace Ref21
theorem Step_any (c e k : Int) (w : World) (hc : Fix.Room c) (he : Fix.Room e) :
    Calls Try.prog 11 #[.int .i64 c, .int .i64 e, .int .i64 k] w fun x w' => x = .returned (.int .i64 (Cus.step c e k)) ∧ w = w' := by
  have S := Lib.hid fun w => Ref1.Sat_any c e w hc he
  unfold Cus.step
  obtain ⟨s, hs⟩ : ∃ s, s = Fix.sat c e := ⟨_, rfl⟩
  rw [← hs] at S ⊢
  obtain ⟨m, hm⟩ : ∃ m, m = max k 0 := ⟨_, rfl⟩
  rw [← hm]
  have C := Lib.hid fun w => Ref1.Clamp_any s 0 m w
  clear hs hc he
  by_cases h : k < 0
  · replace hm := max_low h hm
    subst hm
    go_enter Try.func11, Try.ntmps11
    go_wp2_with (first | (go_at_call 21; refine (S.out _).mono ?_; rintro e w' ⟨rfl, rfl⟩) | (go_at_call 20; refine (C.out _).mono ?_; rintro e w' ⟨rfl, rfl⟩))
    go_ret
    exact ⟨rfl, rfl⟩
  · replace hm := max_high h hm
    subst hm
    by_cases h0 : m = 0
    · subst h0
      clear h
      go_enter Try.func11, Try.ntmps11
      go_wp2_with (first | (go_at_call 21; refine (S.out _).mono ?_; rintro e w' ⟨rfl, rfl⟩) | (go_at_call 20; refine (C.out _).mono ?_; rintro e w' ⟨rfl, rfl⟩))
      go_ret
      exact ⟨rfl, rfl⟩
    · have h1 : 0 < m := by omega
      clear h h0
      go_enter Try.func11, Try.ntmps11
      go_wp2_with (first | (go_at_call 21; refine (S.out _).mono ?_; rintro e w' ⟨rfl, rfl⟩) | (go_at_call 20; refine (C.out _).mono ?_; rintro e w' ⟨rfl, rfl⟩))
      go_ret
      exact ⟨rfl, rfl⟩

set_option maxHeartbeats 1000000 in
theorem Steps_came {w : World} {ba : Option Addr} {cap : Nat} {l : List Int} (C : Came6 w ba cap l) (c k : Int) (hc : Fix.Room c) :
    Calls Try.prog 13 #[.int .i64 c, .int .i64 k, .slice ba l.length cap] w fun e w' => e = .returned (.int .i64 (Cus.steps c k l)) ∧ w = w' := by
  have hm := C.max
  have hle := C.le
  unfold maxLen at hm
  have hl : (l.length : Int) ≤ 9223372036854775807 := by omega
  have CH := Lib.hid C
  have ST := Lib.hid fun c e w hc he => Step_any c e k w hc he
  clear C hm hle
  obtain ⟨f, hf0, hf1, hf2, hf3⟩ : ∃ f : Nat → Int, f 0 = c ∧ (∀ j, j < l.length → f (j + 1) = Cus.step (f j) (l.getD j 0) k) ∧ f l.length = Cus.steps c k l ∧ (∀ j, Fix.Room (f j)) :=
    ⟨fun j => Cus.steps c k (l.take j), rfl, fun j h => Cus.steps_take c k l j h, by show Cus.steps c k (l.take l.length) = _; rw [List.take_length], fun j => Cus.steps_room k c _ hc⟩
  rw [← hf2, ← hf0]
  have HF := Lib.hid hf1
  have HR := Lib.hid hf3
  clear hf0 hf1 hf2 hf3 hc
  go_enter Try.func13, Try.ntmps13
  go_wp2
  go_loop [0, 11] (fun s i => ∃ j : Nat, j ≤ l.length ∧ s = .int .i64 (f j) ∧ i = .int .i64 j) (fun _ i => l.length - (intOf i).toNat)
  case atStart => exact ⟨0, Nat.zero_le _, rfl, rfl⟩
  case round =>
    obtain ⟨j, hj, rfl, rfl⟩ := hrel
    by_cases hc : (j : Int) < l.length
    · obtain ⟨b, o, rfl, L⟩ := CH.out.lies (by omega)
      have hcell := L j (by omega)
      have hp := HF.out j (by omega)
      have hr := CH.out.room.at j (by omega)
      obtain ⟨x, hx⟩ : ∃ x, x = l.getD j 0 := ⟨_, rfl⟩
      rw [← hx] at hcell hp hr
      have STj := Lib.hid fun w => ST.out (f j) x w (HR.out j) hr
      rw [← hp] at STj
      have hend : ∃ j' : Nat, j' ≤ l.length ∧ Value.int .i64 (f (j + 1)) = .int .i64 (f j') ∧ Value.int .i64 ((j : Int) + 1) = .int .i64 j' := ⟨j + 1, by omega, rfl, rfl⟩
      generalize f (j + 1) = y1 at *
      generalize f j = y0 at *
      clear hx L hp hr HF HR ST
      go_wp2_with fail
      refine (STj.out _).mono ?_; rintro e w1 ⟨rfl, rfl⟩
      go_wp2_with fail
      exact ⟨hend, by simp [intOf]; omega⟩
    · obtain rfl : j = l.length := by omega
      go_wp2
      go_ret
      exact ⟨rfl, rfl⟩

set_option maxHeartbeats 1000000 in
theorem Reach_came {w : World} {ba : Option Addr} {cap : Nat} {l : List Int} (C : Came6 w ba cap l) (lim k : Int) :
    Calls Try.prog 15 #[.int .i64 lim, .int .i64 k, .slice ba l.length cap] w fun e w' => e = .returned (.int .i64 (Cus.reach lim k 0 0 l)) ∧ w = w' := by
  have hm := C.max
  have hle := C.le
  unfold maxLen at hm
  have hl : (l.length : Int) ≤ 9223372036854775807 := by omega
  have CH := Lib.hid C
  have ST := Lib.hid fun c e w hc he => Step_any c e k w hc he
  clear C hm hle
  obtain ⟨f, r, hf0, hf1, hf3, hr0, hr1, hr2⟩ : ∃ (f : Nat → Int) (r : Nat → Int), f 0 = 0 ∧ (∀ j, j < l.length → f (j + 1) = Cus.step (f j) (l.getD j 0) k) ∧ (∀ j, Fix.Room (f j))
      ∧ r 0 = Cus.reach lim k 0 0 l ∧ (∀ j, j < l.length → r j = if lim ≤ f (j + 1) then (j : Int) else r (j + 1)) ∧ r l.length = -1 :=
    ⟨fun j => Cus.steps 0 k (l.take j), fun j => Cus.reach lim k (Cus.steps 0 k (l.take j)) j (l.drop j), rfl, fun j h => Cus.steps_take 0 k l j h, fun j => Cus.steps_room k 0 _ ⟨by decide, by decide⟩, rfl, fun j h => Cus.reach_round lim k 0 l j h, Cus.reach_end ..⟩
  rw [← hr0]
  clear hr0
  obtain ⟨r0, hr0⟩ : ∃ r0, r0 = r 0 := ⟨_, rfl⟩
  rw [← hr0]
  have R0 := Lib.hid hr0
  have HF := Lib.hid hf1
  have HR := Lib.hid hf3
  have RR := Lib.hid hr1
  have RE := Lib.hid hr2
  have F0 := Lib.hid hf0
  clear hf0 hf1 hf3 hr0 hr1 hr2
  go_enter Try.func15, Try.ntmps15
  go_wp2
  go_loop [7, 12] (fun s i => ∃ (j : Nat), j ≤ l.length ∧ s = .int .i64 (f j) ∧ i = .int .i64 j ∧ r0 = r j) (fun _ i => l.length - (intOf i).toNat)
  case atStart => exact ⟨0, Nat.zero_le _, by rw [F0.out], rfl, R0.out⟩
  case round =>
    obtain ⟨j, hj, rfl, rfl, hrj⟩ := hrel
    by_cases hc : (j : Int) < l.length
    · obtain ⟨b, o, rfl, L⟩ := CH.out.lies (by omega)
      have hcell := L j (by omega)
      have hp := HF.out j (by omega)
      have hr := CH.out.room.at j (by omega)
      have hq := RR.out j (by omega)
      obtain ⟨x, hx⟩ : ∃ x, x = l.getD j 0 := ⟨_, rfl⟩
      rw [← hx] at hcell hp hr
      have STj := Lib.hid fun w => ST.out (f j) x w (HR.out j) hr
      rw [← hp] at STj
      have hend : r0 = r (j + 1) → ∃ (j' : Nat), j' ≤ l.length ∧ Value.int .i64 (f (j + 1)) = .int .i64 (f j') ∧ Value.int .i64 ((j : Int) + 1) = .int .i64 j' ∧ r0 = r j' := fun h => ⟨j + 1, by omega, rfl, rfl, h⟩
      rw [← hrj] at hq
      have HE := Lib.hid hend
      have HQ := Lib.hid hq
      clear hend hq hrj
      generalize r (j + 1) = r1 at *
      generalize f (j + 1) = y1 at *
      generalize f j = y0 at *
      clear hx L hp hr HF HR ST
      by_cases hy : lim ≤ y1
      · have e := HQ.out
        rw [if_pos hy] at e
        have E := Lib.hid e
        clear e
        go_wp2_with fail
        refine (STj.out _).mono ?_; rintro e w1 ⟨rfl, rfl⟩
        go_wp2_with fail
        go_ret
        exact ⟨by rw [E.out]; rfl, rfl⟩
      · have e := HQ.out
        rw [if_neg hy] at e
        have E := Lib.hid e
        have hy1 : decide (lim ≤ y1) = false := decide_eq_false hy
        clear e hy
        go_wp2_with fail
        refine (STj.out _).mono ?_; rintro e w1 ⟨rfl, rfl⟩
        go_wp2_with fail
        exact ⟨HE.out E.out, by simp [intOf]; omega⟩
    · obtain rfl : j = l.length := by omega
      have E := Lib.hid (hrj.trans RE.out)
      clear hrj
      go_wp2
      go_ret
      exact ⟨by rw [E.out]; rfl, rfl⟩

theorem Ticks_any (lim b : Int) (w : World) (hl : Fix.Room lim) (hb : Fix.Room b) :
    Calls Try.prog 9 #[.int .i64 lim, .int .i64 b] w fun e w' => e = .returned (.tuple #[.int .i64 (Lan21.tickV lim b), .int .i64 (Lan21.tickE lim b)]) ∧ ∃ n, w' = w.drewN n := by
  unfold Lan21.tickV Lan21.tickE
  by_cases h : lim < 0
  · rw [if_pos (Or.inl h), if_pos (Or.inl h)]
    go_enter Try.func9, Try.ntmps9
    go_wp2
    go_ret2
    exact ⟨rfl, 0, rfl⟩
  · have d : decide (lim < 0) = false := decide_eq_false h
    by_cases g : b < 1
    · rw [if_pos (Or.inr g), if_pos (Or.inr g)]
      go_enter Try.func9, Try.ntmps9
      go_wp2
      go_ret2
      exact ⟨rfl, 0, rfl⟩
    · have d2 : decide (b < 1) = false := decide_eq_false g
      rw [if_neg (by omega), if_neg (by omega)]
      have CE := Lib.hid fun w => Ref1.Ceil_any lim b w hl hb
      generalize Fix.ceilV lim b = V at *
      generalize Fix.ceilE lim b = E at *
      clear h g hl hb
      go_enter Try.func9, Try.ntmps9
      go_wp2_with fail
      refine (CE.out _).mono ?_; rintro e w1 ⟨rfl, n, rfl⟩
      go_wp2_with fail
      go_ret2
      exact ⟨rfl, n, rfl⟩
end Ref21
end Go.Proofs.Ytlfpmeflddimfaa
