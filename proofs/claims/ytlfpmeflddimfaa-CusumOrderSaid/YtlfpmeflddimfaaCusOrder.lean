/- CusumOrder. -/
import Derived.Test.YtlfpmeflddimfaaCusAwake
namespace Go.Proofs.Ytlfpmeflddimfaa
open Go.RowKit

theorem order_long (ba bb : Option Addr) (cap n cb nb : Nat) (k : Int) (w : World) (h : (200 : Int) < n) :
    Calls Try.prog 6 #[.slice ba n cap, .slice bb nb cb, .int .i64 k] w fun e w' => e = .returned (.bool true) ∧ Below w.heap.size w w' := by
  have AW := Lib.hid awake_any
  go_enter Try.func6, Try.ntmps6
  go_wp2_with fail
  refine (AW.out _).mono ?_; rintro e w1 ⟨rfl, hb1⟩
  go_wp2_with fail
  go_ret
  exact ⟨rfl, hb1⟩

/-- the numbers of l, each with as much more as x says -/
def ups (l : List Int) (x : Nat → Int) : Nat → List Int
  | 0 => []
  | j + 1 => ups l x j ++ [Fix.sat (l.getD j 0) (x j)]
theorem ups_length (l : List Int) (x : Nat → Int) : ∀ j, (ups l x j).length = j
  | 0 => rfl
  | j + 1 => by rw [ups, List.length_append, ups_length l x j]; rfl
theorem ups_rooms (l : List Int) (x : Nat → Int) : ∀ j, Rooms (ups l x j)
  | 0 => Rooms.nil
  | j + 1 => (ups_rooms l x j).app (Rooms.one sat_room)
theorem ups_more (l : List Int) (x : Nat → Int) (k : Int) (hl : Rooms l) (hx : ∀ j, 0 ≤ x j) : ∀ j, j ≤ l.length → Cus.steps 0 k (l.take j) ≤ Cus.steps 0 k (ups l x j)
  | 0, _ => Int.le_refl _
  | j + 1, h => by
    have ih := ups_more l x k hl hx j (by omega)
    rw [Cus.steps_take 0 k l j (by omega), ups, Cus.steps_app]
    refine Cus.step_mono k ih ?_
    have r := hl.at j (by omega)
    have := hx j
    obtain ⟨r1, r2⟩ := r
    unfold Fix.sat
    repeat' split
    all_goals omega

set_option maxHeartbeats 8000000 in
set_option maxRecDepth 100000 in
theorem order_core {w : World} {ba bb : Option Addr} {cap cb : Nat} {l m : List Int} (C : Came6 w ba cap l) (D : Came6 w bb cb m) (k : Int) (h : ¬ (200 : Int) < l.length) :
    Calls Try.prog 6 #[.slice ba l.length cap, .slice bb m.length cb, .int .i64 k] w fun e w' => e = .returned (.bool true) ∧ Below w.heap.size w w' := by
  have AW := Lib.hid awake_any
  have ST := Lib.hid fun a b w ha hb => Sat_any a b w ha hb
  have CH := Lib.hid C
  have DH := Lib.hid D
  have hn : (l.length : Int) ≤ 200 := by omega
  have hm0 := D.max
  have hm1 := D.le
  unfold maxLen at hm0
  have hm : (m.length : Int) ≤ 9223372036854775807 := by omega
  have d200 : decide ((200 : Int) < l.length) = false := decide_eq_false h
  obtain ⟨x, hx0, hx1, hx2⟩ : ∃ x : Nat → Int, (∀ j, 0 ≤ x j ∧ x j < 1000000) ∧ (∀ j, j < m.length → x j = md 1000000 (m.getD j 0)) ∧ (∀ j, ¬ j < m.length → x j = 0) :=
    ⟨fun j => if j < m.length then md 1000000 (m.getD j 0) else 0, fun j => by
      show 0 ≤ (if j < m.length then md 1000000 (m.getD j 0) else 0) ∧ (if j < m.length then md 1000000 (m.getD j 0) else 0) < 1000000
      split
      · exact md_rng _ _ (by decide)
      · omega, fun j h => if_pos h, fun j h => if_neg h⟩
  obtain ⟨g, hg0, hg1, hg2, hg3, hg4⟩ : ∃ g : Nat → List Int, g 0 = [] ∧ (∀ j, g (j + 1) = g j ++ [Fix.sat (l.getD j 0) (x j)]) ∧ (∀ j, (g j).length = j) ∧ (∀ j, Rooms (g j)) ∧ Cus.steps 0 k l ≤ Cus.steps 0 k (g l.length) :=
    ⟨ups l x, rfl, fun _ => rfl, ups_length l x, ups_rooms l x, by
      have := ups_more l x k C.room (fun j => (hx0 j).1) l.length (Nat.le_refl _)
      rw [List.take_length] at this
      exact this⟩
  have X0 := Lib.hid hx0
  have X1 := Lib.hid hx1
  have X2 := Lib.hid hx2
  have G0 := Lib.hid hg0
  have HG := Lib.hid hg1
  have GL := Lib.hid hg2
  have GR := Lib.hid hg3
  have GE := Lib.hid hg4
  clear hx0 hx1 hx2 hg0 hg1 hg2 hg3 hg4 h C D hm0 hm1
  go_enter Try.func6, Try.ntmps6
  go_wp2
  go_loopw [7, 17] (fun s i wr => ∃ (j : Nat), j ≤ l.length ∧ Own6s w.heap.size w wr s (g j) ∧ i = .int .i64 j) (fun _ i _ => l.length - (intOf i).toNat)
  case atStart => exact ⟨0, Nat.zero_le _, by rw [G0.out]; exact Own6s.nil w, rfl⟩
  case round =>
    obtain ⟨j, hj, hown, rfl⟩ := hrel
    by_cases hc : (j : Int) < l.length
    · have CW := CH.out.keep hown.below
      obtain ⟨b, o, rfl, L⟩ := CW.lies (by omega)
      have hcell := L j (by omega)
      have hr := CH.out.room.at j (by omega)
      have hg := HG.out j
      have hgl := GL.out j
      obtain ⟨hx0, hx1⟩ := X0.out j
      obtain ⟨e, he⟩ : ∃ e, e = l.getD j 0 := ⟨_, rfl⟩
      rw [← he] at hcell hr hg
      have STj := Lib.hid fun w => ST.out e (x j) w hr ⟨by omega, by omega⟩
      obtain ⟨z, hz⟩ : ∃ z, z = Fix.sat e (x j) := ⟨_, rfl⟩
      rw [← hz] at hg STj
      have hroom : (g j).length + 1 ≤ 10000000000000 := by omega
      have HE := Lib.hid (fun (v : Value) (wr : World) (ho : Own6s w.heap.size w wr v (g (j + 1))) => (⟨j + 1, by omega, ho, rfl⟩ : ∃ (j' : Nat), j' ≤ l.length ∧ Own6s w.heap.size w wr v (g j') ∧ Value.int .i64 ((j : Int) + 1) = .int .i64 j'))
      rw [hg] at HE
      have HO := Lib.hid hown
      have HM := Lib.hid hroom
      have DW := Lib.hid (DH.out.keep hown.below)
      by_cases hjm : (j : Int) < m.length
      · obtain ⟨b2, o2, rfl, L2⟩ := DW.out.lies (by omega)
        have hcell2 := L2 j (by omega)
        have hxx := X1.out j (by omega)
        obtain ⟨y, hy⟩ : ∃ y, y = m.getD j 0 := ⟨_, rfl⟩
        rw [← hy] at hcell2 hxx
        unfold md at hxx
        obtain ⟨u, hu⟩ : ∃ u, u = IntKind.u64.wrap y := ⟨_, rfl⟩
        rw [← hu] at hxx
        replace hu := hu.symm
        replace hxx := hxx.symm
        clear hown CW L L2 hr hg hgl he hz hy hroom DW
        generalize x j = xj at *
        generalize g j = gj at *
        clear HG ST G0 GL GR GE X0 X1 X2
        go_wp2_with fail
        refine (STj.out _).mono ?_; rintro e w1 ⟨rfl, rfl⟩
        go_wp2_with (at_builtin; refine list_append_64 rfl _ _ rfl (w0 := wr) (v := u7) rfl _ HO.out rfl HM.out ?_)
        intro v' w' ho
        go_wp2
        go_roundw
        case rel => exact HE.out _ _ ho
        case measure => simp [intOf]; omega
      · have hxx := X2.out j (by omega)
        have dj : decide ((j : Int) < m.length) = false := decide_eq_false hjm
        rw [hxx] at STj
        clear hown CW L hr hg hgl he hz hroom DW hxx hx0 hx1
        generalize g j = gj at *
        clear HG ST G0 GL GR GE X0 X1 X2
        go_wp2_with fail
        refine (STj.out _).mono ?_; rintro e w1 ⟨rfl, rfl⟩
        go_wp2_with (at_builtin; refine list_append_64 rfl _ _ rfl (w0 := wr) (v := u7) rfl _ HO.out rfl HM.out ?_)
        intro v' w' ho
        go_wp2
        go_roundw
        case rel => exact HE.out _ _ ho
        case measure => simp [intOf]; omega
    · obtain rfl : j = l.length := by omega
      obtain ⟨bl, cl, rfl, CL⟩ := hown.came (GR.out _)
      have CW := CH.out.keep hown.below
      have S1 := Lib.hid (Lan21.Steps_came CW 0 k ⟨by decide, by decide⟩)
      have S2 := Lib.hid (Lan21.Steps_came CL 0 k ⟨by decide, by decide⟩)
      have hle := GE.out
      have HB := Lib.hid hown.below
      clear hown CL CW GE
      generalize Cus.steps 0 k l = A1 at *
      generalize Cus.steps 0 k (g l.length) = A2 at *
      go_wp2_with fail
      refine S1.out.mono ?_; rintro e w1 ⟨rfl, rfl⟩
      go_wp2_with fail
      refine S2.out.mono ?_; rintro e w1 ⟨rfl, rfl⟩
      go_wp2_with fail
      refine (AW.out _).mono ?_; rintro e w1 ⟨rfl, hb1⟩
      go_wp2_with fail
      go_ret
      exact ⟨rfl, belowT HB.out hb1⟩

theorem Order_all {w : World} {ba bb : Option Addr} {cap cb : Nat} {l m : List Int} (k : Int) (C : Came6 w ba cap l) (D : Came6 w bb cb m) :
    Calls Try.prog 6 #[.slice ba l.length cap, .slice bb m.length cb, .int .i64 k] w fun e w' => e = .returned (.bool true) ∧ Below w.heap.size w w' := by
  by_cases h : (200 : Int) < l.length
  · exact order_long ba bb cap l.length cb m.length k w h
  · exact order_core C D k h
end Go.Proofs.Ytlfpmeflddimfaa
