
/- The landed triple's blamed, Alive, Bad, Status, Hull, Blame. -/
import Derived.Test.YtldbkompebefmaaDoorLtQ
import Derived.Test.YtldbkompebefmaaDoorLdNum
namespace Go.Proofs.YtldbkompebefmaaDoor
open Go.RowKit Obs

set_option maxHeartbeats 4000000 in
set_option maxRecDepth 100000 in
theorem Alive_core (arr : Array Value) (o : Nat → Ob) (c : Nat → Int) (w : World)
    (hi : (Tryd.prog.info? 30).map (·.size) = some arr.size)
    (IX : Hid (∀ j : Nat, j < 4 → ∀ w, (Instr.index 30 (.agg arr) (.int .i64 (j : Int))).run Tryd.prog w = .ok (.agg #[.int .i64 (o j).vL, .int .i64 (o j).vH, .int .i64 (o j).bL, .int .i64 (o j).bH, .bool (o j).ref]) w))
    (C0 : Hid (c 0 = 0)) (CT : Hid (∀ j, j < 4 → (o j).ref = true → c (j + 1) = c j)) (CF : Hid (∀ j, j < 4 → (o j).ref = false → IntKind.i64.wrap (c j + 1) = c (j + 1))) :
    Calls Tryd.prog 38 #[.agg arr] w fun e w' => e = .returned (.int .i64 (c 4)) ∧ Below w.heap.size w w' := by
  have HA := range_new w arr 30
  have HW := Lib.hid (below1 w (.cells arr 30))
  go_enter Tryd.func38, Tryd.ntmps38
  go_wp2_with (refine list_load_any rfl 30 _ rfl _ 0 rfl arr _ HA Tryd.underlying30 rfl hi ?_)
  clear HA hi
  go_loopw [3, 7] (fun n i wr => ∃ j : Nat, j ≤ 4 ∧ i = .int .i64 j ∧ n = .int .i64 (c j) ∧ Below w.heap.size w wr) (fun _ i _ => 4 - (intOf i).toNat)
  case atStart => exact ⟨0, by omega, rfl, by rw [C0.out], HW.out⟩
  case round =>
    obtain ⟨j, hj, rfl, rfl, hB⟩ := hrel
    have HB := Lib.hid hB
    clear hB HW
    by_cases hc : (j : Int) < 4
    · have ix := IX.out j (by omega)
      rcases Bool.eq_false_or_eq_true (o j).ref with c1 | c1
      · have HN := Lib.hid (CT.out j (by omega) c1)
        rw [c1] at ix
        clear c1
        go_wp2_with fail
        go_roundw
        case rel => first | exact ⟨j + 1, by omega, rfl, by rw [HN.out], belowT HB.out (below1 _ _)⟩ | ((repeat apply Exists.intro); exact ⟨⟨j + 1, by omega, rfl, by rw [HN.out], belowT HB.out (below1 _ _)⟩, rfl⟩)
        case measure => simp [intOf]; omega
      · have hn := CF.out j (by omega) c1
        rw [c1] at ix
        clear c1
        go_wp2_with fail
        go_roundw
        case rel => first | exact ⟨j + 1, by omega, rfl, rfl, belowT HB.out (below1 _ _)⟩ | ((repeat apply Exists.intro); exact ⟨⟨j + 1, by omega, rfl, rfl, belowT HB.out (below1 _ _)⟩, rfl⟩)
        case measure => simp [intOf]; omega
    · obtain rfl : j = 4 := by omega
      go_wp2_with fail
      go_ret
      exact ⟨rfl, HB.out⟩

namespace Obs
def cntF (q : Qd) : Nat → Int
  | 0 => 0
  | 1 => up1 0 q.h0.ref
  | 2 => up1 (up1 0 q.h0.ref) q.h1.ref
  | 3 => up1 (up1 (up1 0 q.h0.ref) q.h1.ref) q.h2.ref
  | _ => alive q
theorem up1_t {n : Int} {r : Bool} (h : r = true) : up1 n r = n := by rw [h]; rfl
theorem up1_f {n : Int} {r : Bool} (h : r = false) : up1 n r = n + 1 := by rw [h]; rfl
theorem cnt_room (q : Qd) (j : Nat) : 0 ≤ cntF q j ∧ cntF q j ≤ 4 := by
  have h : ∀ n r, n ≤ up1 n r ∧ up1 n r ≤ n + 1 := fun n r => by unfold up1; split <;> omega
  have a0 := h 0 q.h0.ref
  have a1 := h (up1 0 q.h0.ref) q.h1.ref
  have a2 := h (up1 (up1 0 q.h0.ref) q.h1.ref) q.h2.ref
  have a3 := alive_room q
  match j with
  | 0 => show (0 : Int) ≤ 0 ∧ (0 : Int) ≤ 4; decide
  | 1 => show 0 ≤ up1 0 q.h0.ref ∧ up1 0 q.h0.ref ≤ 4; omega
  | 2 => show 0 ≤ up1 (up1 0 q.h0.ref) q.h1.ref ∧ up1 (up1 0 q.h0.ref) q.h1.ref ≤ 4; omega
  | 3 => show 0 ≤ up1 (up1 (up1 0 q.h0.ref) q.h1.ref) q.h2.ref ∧ up1 (up1 (up1 0 q.h0.ref) q.h1.ref) q.h2.ref ≤ 4; omega
  | n + 4 => exact a3
theorem cnt_t (q : Qd) : ∀ j, j < 4 → (qget q j).ref = true → cntF q (j + 1) = cntF q j
  | 0, _, h => up1_t h
  | 1, _, h => up1_t h
  | 2, _, h => up1_t h
  | 3, _, h => up1_t h
  | n + 4, k, _ => absurd k (by omega)
theorem cnt_f (q : Qd) : ∀ j, j < 4 → (qget q j).ref = false → cntF q j + 1 = cntF q (j + 1)
  | 0, _, h => (up1_f h).symm
  | 1, _, h => (up1_f h).symm
  | 2, _, h => (up1_f h).symm
  | 3, _, h => (up1_f h).symm
  | n + 4, k, _ => absurd k (by omega)
end Obs
theorem Alive_any (q : Qd) (w : World) :
    Calls Tryd.prog 38 #[qv q] w fun e w' => e = .returned (.int .i64 (alive q)) ∧ Below w.heap.size w w' :=
  Alive_core (qa q) (qget q) (cntF q) w (info_qa q) (Lib.hid (index_q q)) (Lib.hid rfl) (Lib.hid (cnt_t q)) (Lib.hid fun j hj h => by
    have := cnt_room q j
    rw [wrap_i64, cnt_f q j hj h]
    have := cnt_room q (j + 1)
    omega)

namespace Obs
end Obs
set_option maxHeartbeats 4000000 in
set_option maxRecDepth 100000 in
theorem Status_core (arr : Array Value) (r : Bool) (n s : Int) (w : World)
    (hi : (Tryd.prog.info? 30).map (·.size) = some arr.size) (h4 : arr.toList[4]? = some (.bool r))
    (AL : Hid (∀ w, Calls Tryd.prog 38 #[.agg arr] w fun e w' => e = .returned (.int .i64 n) ∧ Below w.heap.size w w'))
    (c : r = false ∧ s = 0 ∨ r = true ∧ 0 < n ∧ s = 1 ∨ r = true ∧ decide (0 < n) = false ∧ s = 2) :
    Calls Tryd.prog 23 #[.agg arr] w fun e w' => e = .returned (.int .i64 s) ∧ Below w.heap.size w w' := by
  have HA := range_new w arr 30
  have k4 := HA 4 _ h4
  have HW := Lib.hid (below1 w (.cells arr 30))
  rw [Nat.zero_add] at k4
  clear h4
  rcases c with ⟨rfl, rfl⟩ | ⟨rfl, c2, rfl⟩ | ⟨rfl, c2, rfl⟩
  · go_enter Tryd.func23, Tryd.ntmps23
    go_wp2_with fail
    go_ret
    exact ⟨rfl, HW.out⟩
  all_goals
    go_enter Tryd.func23, Tryd.ntmps23
    go_wp2_with (refine list_load_any rfl 30 _ rfl _ 0 rfl arr _ HA Tryd.underlying30 rfl hi ?_)
    refine (AL.out _).mono ?_; rintro e w1 ⟨rfl, hb1⟩
    have HB := Lib.hid (belowT HW.out hb1)
    clear HA hb1
    go_wp2_with fail
    go_ret
    exact ⟨rfl, HB.out⟩
theorem Status_any (q : Qd) (w : World) :
    Calls Tryd.prog 23 #[qv q] w fun e w' => e = .returned (.int .i64 (status q)) ∧ Below w.heap.size w w' := by
  refine Status_core (qa q) q.h0.ref _ _ w (info_qa q) rfl (Lib.hid (Alive_any q)) ?_
  unfold status
  rcases Bool.eq_false_or_eq_true q.h0.ref with c1 | c1
  · rw [c1]
    by_cases h : 0 < alive q
    · exact Or.inr (Or.inl ⟨rfl, h, by rw [if_neg (by decide), if_pos h]⟩)
    · exact Or.inr (Or.inr ⟨rfl, decide_eq_false h, by rw [if_neg (by decide), if_neg h]⟩)
  · rw [c1]
    exact Or.inl ⟨rfl, rfl⟩
end Go.Proofs.YtldbkompebefmaaDoor
