/- CusumHolds. -/
import Derived.Test.YtlfpmeflddimfaaCusAwake
namespace Go.Proofs.Ytlfpmeflddimfaa
open Go.RowKit

theorem holds_long (ba : Option Addr) (cap n : Nat) (k : Int) (w : World) (h : (200 : Int) < n) :
    Calls Try.prog 4 #[.slice ba n cap, .int .i64 k] w fun e w' => e = .returned (.bool true) ∧ Below w.heap.size w w' := by
  have AW := Lib.hid awake_any
  go_enter Try.func4, Try.ntmps4
  go_wp2_with fail
  refine (AW.out _).mono ?_; rintro e w1 ⟨rfl, hb1⟩
  go_wp2_with fail
  go_ret
  exact ⟨rfl, hb1⟩

/-- what is left of each number, if that is not above 0 -/
def lows (l : List Int) : List Int := l.map fun x => min x 0
theorem lows_take (l : List Int) (j : Nat) (h : j < l.length) : lows (l.take (j + 1)) = lows (l.take j) ++ [min (l.getD j 0) 0] := by
  rw [List.take_succ_eq_append_getElem h, show l.getD j 0 = l[j] by simp [List.getD, List.getElem?_eq_getElem h]]
  simp only [lows, List.map_append, List.map_cons, List.map_nil]
theorem lows_length (l : List Int) : (lows l).length = l.length := by simp [lows]
theorem lows_rooms {l : List Int} (h : Rooms l) : Rooms (lows l) := fun x hx => by
  simp only [lows, List.mem_map] at hx
  obtain ⟨y, hy, rfl⟩ := hx
  obtain ⟨h1, h2⟩ := h y hy
  exact ⟨by omega, by omega⟩
theorem lows_low (l : List Int) : ∀ x ∈ lows l, x ≤ 0 := fun x hx => by
  simp only [lows, List.mem_map] at hx
  obtain ⟨y, hy, rfl⟩ := hx
  omega

set_option maxHeartbeats 8000000 in
set_option maxRecDepth 100000 in
theorem holds_core {w : World} {ba : Option Addr} {cap : Nat} {l : List Int} (C : Came6 w ba cap l) (k M : Int) (hM : k < 0 ∧ M = 0 ∨ k = 0 ∧ M = 0 ∨ 0 < k ∧ M = k) (h : ¬ (200 : Int) < l.length) :
    Calls Try.prog 4 #[.slice ba l.length cap, .int .i64 k] w fun e w' => e = .returned (.bool true) ∧ Below w.heap.size w w' := by
  have AW := Lib.hid awake_any
  have ST := Lib.hid fun c e w hc he => Lan21.Step_any c e k w hc he
  have CH := Lib.hid C
  have hn : (l.length : Int) ≤ 200 := by omega
  have d200 : decide ((200 : Int) < l.length) = false := decide_eq_false h
  obtain ⟨f, g, hf0, hf1, hf2, hf3, hf4, hg0, hg1, hg2⟩ : ∃ (f : Nat → Int) (g : Nat → List Int), f 0 = 0 ∧ (∀ j, j < l.length → f (j + 1) = Cus.step (f j) (l.getD j 0) k) ∧ f l.length = Cus.steps 0 k l ∧ (∀ j, Fix.Room (f j)) ∧ (∀ j, 0 ≤ f j ∧ f j ≤ M)
      ∧ g 0 = [] ∧ (∀ j, j < l.length → g (j + 1) = g j ++ [min (l.getD j 0) 0] ∧ (g j).length = j) ∧ g l.length = lows l :=
    ⟨fun j => Cus.steps 0 k (l.take j), fun j => lows (l.take j), rfl, fun j h => Cus.steps_take 0 k l j h, by show Cus.steps 0 k (l.take l.length) = _; rw [List.take_length], fun j => Cus.steps_room k 0 _ ⟨by decide, by decide⟩,
      fun j => by have := Cus.steps_bounds k 0 (l.take j) (by omega) (by omega); show 0 ≤ Cus.steps 0 k (l.take j) ∧ Cus.steps 0 k (l.take j) ≤ M; omega, rfl, fun j h => ⟨lows_take l j h, by rw [lows_length, List.length_take]; omega⟩, by show lows (l.take l.length) = _; rw [List.take_length]⟩
  have LS := Lib.hid fun (w' : World) (bl : Option Addr) (cl : Nat) (CL : Came6 w' bl cl (lows l)) => (by
    have h := Lan21.Steps_came CL 0 k ⟨by decide, by decide⟩
    rw [Cus.steps_none k _ (lows_low l)] at h
    exact h : Calls Try.prog 12 #[.int .i64 0, .int .i64 k, .slice bl (lows l).length cl] w' fun e w'' => e = .returned (.int .i64 0) ∧ w' = w'')
  have LR := Lib.hid fun (w' : World) (bl : Option Addr) (cl : Nat) (CL : Came6 w' bl cl (lows l)) => (by
    have h := Lan21.Reach_came CL 1 k
    rw [Cus.reach_none k _ 0 (lows_low l)] at h
    exact h : Calls Try.prog 14 #[.int .i64 1, .int .i64 k, .slice bl (lows l).length cl] w' fun e w'' => e = .returned (.int .i64 (-1)) ∧ w' = w'')
  have LW := Lib.hid fun (w' : World) (CL : Came6 w' ba cap l) => (by
    have h := Lan21.Steps_came CL 0 k ⟨by decide, by decide⟩
    rw [← hf2] at h
    exact h : Calls Try.prog 12 #[.int .i64 0, .int .i64 k, .slice ba l.length cap] w' fun e w'' => e = .returned (.int .i64 (f l.length)) ∧ w' = w'')
  have F0 := Lib.hid hf0
  have HF := Lib.hid hf1
  have HR := Lib.hid hf3
  have HB := Lib.hid hf4
  have G0 := Lib.hid hg0
  have HG := Lib.hid hg1
  have GL := Lib.hid hg2
  clear hf0 hf1 hf2 hf3 hf4 hg0 hg1 hg2 h C
  rcases hM with ⟨hk, rfl⟩ | ⟨rfl, rfl⟩ | ⟨hk, rfl⟩
  all_goals
    go_enter Try.func4, Try.ntmps4
    go_wp2
    go_loopw [5, 6, 15] (fun s c i wr => ∃ (j : Nat), j ≤ l.length ∧ Own6s w.heap.size w wr s (g j) ∧ c = .int .i64 (f j) ∧ i = .int .i64 j) (fun _ _ i _ => l.length - (intOf i).toNat)
    case atStart => exact ⟨0, Nat.zero_le _, by rw [G0.out]; exact Own6s.nil w, by rw [F0.out], rfl⟩
    case round =>
      obtain ⟨j, hj, hown, rfl, rfl⟩ := hrel
      by_cases hc : (j : Int) < l.length
      · have CW := CH.out.keep hown.below
        obtain ⟨b, o, rfl, L⟩ := CW.lies (by omega)
        have hcell := L j (by omega)
        have hr := CH.out.room.at j (by omega)
        have hp := HF.out j (by omega)
        obtain ⟨hg, hgl⟩ := HG.out j (by omega)
        obtain ⟨hy0, hy1⟩ := HB.out (j + 1)
        obtain ⟨x, hx⟩ : ∃ x, x = l.getD j 0 := ⟨_, rfl⟩
        rw [← hx] at hcell hr hp hg
        have STj := Lib.hid fun w => ST.out (f j) x w (HR.out j) hr
        rw [← hp] at STj
        obtain ⟨z, hz⟩ : ∃ z, z = min x 0 := ⟨_, rfl⟩
        rw [← hz] at hg
        have hroom : (g j).length + 1 ≤ 10000000000000 := by omega
        have d1 : decide (f (j + 1) < 0) = false := decide_eq_false (by omega)
        have HE := Lib.hid (fun (v : Value) (wr : World) (ho : Own6s w.heap.size w wr v (g (j + 1))) => (⟨j + 1, by omega, ho, rfl, rfl⟩ : ∃ (j' : Nat), j' ≤ l.length ∧ Own6s w.heap.size w wr v (g j') ∧ Value.int .i64 (f (j + 1)) = .int .i64 (f j') ∧ Value.int .i64 ((j : Int) + 1) = .int .i64 j'))
        rw [hg] at HE
        have HO := Lib.hid hown
        have HM := Lib.hid hroom
        clear hown CW L hr hp hg hgl hx hroom
        generalize f (j + 1) = y1 at *
        generalize f j = y0 at *
        generalize g j = gj at *
        clear HF HR HB HG ST F0 G0 GL LS LR LW
        have hzc : x < 0 ∧ z = x ∨ x = 0 ∧ z = 0 ∨ 0 < x ∧ z = 0 := by omega
        clear hz
        rcases hzc with ⟨hx0, rfl⟩ | ⟨rfl, rfl⟩ | ⟨hx0, rfl⟩
        all_goals
          go_wp2_with (at_builtin; refine list_append_64 rfl _ _ rfl (w0 := wr) (v := u5) rfl _ HO.out rfl HM.out ?_)
          intro v' w' ho
          go_wp2_with fail
          refine (STj.out _).mono ?_; rintro e w1 ⟨rfl, rfl⟩
          go_wp2
          go_roundw
          case rel => exact HE.out _ _ ho
          case measure => simp [intOf]; omega
      · obtain rfl : j = l.length := by omega
        rw [GL.out] at hown
        obtain ⟨bl, cl, rfl, CL⟩ := hown.came (lows_rooms CH.out.room)
        have CW := CH.out.keep hown.below
        have S1 := Lib.hid (LS.out _ _ _ CL)
        have R1 := Lib.hid (LR.out _ _ _ CL)
        have S2 := Lib.hid (LW.out _ CW)
        have HB := Lib.hid hown.below
        clear hown CL CW LS LR LW
        generalize f l.length = y at *
        go_wp2_with fail
        refine S1.out.mono ?_; rintro e w1 ⟨rfl, rfl⟩
        go_wp2_with fail
        refine R1.out.mono ?_; rintro e w1 ⟨rfl, rfl⟩
        go_wp2_with fail
        refine S2.out.mono ?_; rintro e w1 ⟨rfl, rfl⟩
        go_wp2_with fail
        refine (AW.out _).mono ?_; rintro e w1 ⟨rfl, hb1⟩
        go_wp2_with fail
        go_ret
        exact ⟨rfl, belowT HB.out hb1⟩

theorem Holds_all {w : World} {ba : Option Addr} {cap : Nat} {l : List Int} (k : Int) (C : Came6 w ba cap l) :
    Calls Try.prog 4 #[.slice ba l.length cap, .int .i64 k] w fun e w' => e = .returned (.bool true) ∧ Below w.heap.size w w' := by
  by_cases h : (200 : Int) < l.length
  · exact holds_long ba cap l.length k w h
  · exact holds_core C k (max k 0) (by omega) h
end Go.Proofs.Ytlfpmeflddimfaa
