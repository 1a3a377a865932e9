
/- Has, Members, Count of the document's own answers for layer 11. -/
import Derived.Test.YtldbkompebefmaaDoorSub
import Derived.Test.YtldbkompebefmaaDoorInts
import Derived.LoopTactic
namespace Go.Proofs.YtldbkompebefmaaDoor
open Go.RowKit

/-- is gyro i in the set x -/
def hasI (x i : Int) : Bool := decide (0 ≤ i) && decide (i < 6) && Sub.has (Sub.low x) i.toNat
theorem hasI_nat (x : Int) (i : Nat) (h : i < 6) : hasI x (i : Int) = Sub.has (Sub.low x) i := by
  unfold hasI
  rw [decide_eq_true (by omega), decide_eq_true (by omega), Int.toNat_natCast]; rfl
theorem bit_eq (x : Int) (n : Nat) (hn : n < 6) : (x / 2 ^ n % 2 == 1) = Sub.has (Sub.low x) n := by
  have h := Sub.has_at x n hn
  cases g : Sub.has (Sub.low x) n
  · have k : ¬ x / 2 ^ n % 2 = 1 := fun k => by rw [h.1 k] at g; cases g
    simpa using k
  · simpa using h.2 g
/-- members, as ints -/
def memI (x : Int) : List Int := (Sub.mem (Sub.low x)).map Int.ofNat
theorem memI_len (x : Int) : (memI x).length = Sub.cnt (Sub.low x) := by unfold memI Sub.cnt; rw [List.length_map]
/-- members below j -/
def upTo (x : Int) (j : Nat) : List Int := ((List.range j).filter (Sub.has (Sub.low x))).map Int.ofNat
theorem upTo_six (x : Int) : upTo x 6 = memI x := rfl
theorem upTo_one (x : Int) (j : Nat) (h : Sub.has (Sub.low x) j = true) : upTo x (j + 1) = upTo x j ++ [(j : Int)] := by
  unfold upTo
  rw [List.range_succ, List.filter_append, List.map_append]
  simp [h]
theorem upTo_same (x : Int) (j : Nat) (h : Sub.has (Sub.low x) j = false) : upTo x (j + 1) = upTo x j := by
  unfold upTo
  rw [List.range_succ, List.filter_append, List.map_append]
  simp [h]
theorem upTo_len (x : Int) (j : Nat) : (upTo x j).length ≤ j := by
  unfold upTo
  rw [List.length_map]
  have := List.length_filter_le (Sub.has (Sub.low x)) (List.range j)
  rw [List.length_range] at this
  exact this

namespace Ref11
set_option maxRecDepth 100000 in
theorem Has_any (x i : Int) (w : World) :
    Calls Tryd.prog 48 #[.int .i64 x, .int .i64 i] w fun e w' => e = .returned (.bool (hasI x i)) ∧ w' = w := by
  by_cases h0 : i ≥ 0
  · by_cases h6 : i < 6
    · obtain ⟨n, rfl⟩ : ∃ n : Nat, i = (n : Int) := ⟨i.toNat, by omega⟩
      have hn : n < 6 := by omega
      rw [hasI_nat x n hn]
      have e0 : IntKind.u64.wrap (n : Int) = n := by rw [IntKind.wrap_u64]; omega
      have e1 : min n 64 = n := by omega
      have e2 := Sub.and1 (x / 2 ^ n)
      have e3 := bit_eq x n hn
      go_enter Tryd.func48, Tryd.ntmps48
      go_wp2
      go_ret
      exact ⟨rfl, rfl⟩
    · have e : hasI x i = false := by unfold hasI; rw [decide_eq_false h6]; simp
      rw [e]
      go_enter Tryd.func48, Tryd.ntmps48
      go_wp2
      go_ret
      exact ⟨rfl, rfl⟩
  · have e : hasI x i = false := by unfold hasI; rw [decide_eq_false (show ¬ 0 ≤ i by omega)]; simp
    rw [e]
    go_enter Tryd.func48, Tryd.ntmps48
    go_wp2
    go_ret
    exact ⟨rfl, rfl⟩

set_option maxHeartbeats 2000000 in
set_option maxRecDepth 100000 in
theorem Members_any (x : Int) (w : World) :
    Calls Tryd.prog 43 #[.int .i64 x] w fun e w' => ∃ v, e = .returned v ∧ Ints w.heap.size w w' v (memI x) := by
  go_enter Tryd.func43, Tryd.ntmps43
  go_wp2
  go_loopw [3, 5] (fun v i wr => ∃ (j : Nat), j ≤ 6 ∧ i = .int .i64 j ∧ Ints w.heap.size w wr v (upTo x j)) (fun _ i _ => 6 - (intOf i).toNat)
  case atStart => exact ⟨0, by omega, rfl, Ints.nil w⟩
  case round =>
    obtain ⟨j, hj, rfl, hb⟩ := hrel
    by_cases h6 : (j : Int) < 6
    · go_wp2_with fail
      refine (Has_any x j wr).mono ?_
      rintro e w1 ⟨rfl, rfl⟩
      rw [hasI_nat x j (by omega)]
      have hl : (upTo x j).length + 1 ≤ 10000000000000 := by have := upTo_len x j; omega
      cases hh : Sub.has (Sub.low x) j
      · have hs := upTo_same x j hh
        clear hl
        go_wp2
        go_roundw
        case rel => exact ⟨j + 1, by omega, rfl, by rw [hs]; exact hb⟩
        case measure => simp [intOf]; omega
      · have hs := upTo_one x j hh
        go_wp2_with (at_builtin; refine list_append_int rfl _ _ rfl (w0 := w1) (v := u3) rfl (j : Int) hb rfl hl ?_)
        intro v' w' hb'
        go_wp2
        go_roundw
        case rel => exact ⟨j + 1, by omega, rfl, by rw [hs]; exact hb'⟩
        case measure => simp [intOf]; omega
    · obtain rfl : j = 6 := by omega
      rw [upTo_six] at hb
      go_wp2
      go_ret
      exact ⟨u3, rfl, hb⟩

theorem Count_any (x : Int) (w : World) :
    Calls Tryd.prog 30 #[.int .i64 x] w fun e w' => e = .returned (.int .i64 (Sub.cnt (Sub.low x) : Int)) ∧ Below w.heap.size w w' := by
  go_enter Tryd.func30, Tryd.ntmps30
  go_wp2_with fail
  refine (Members_any x w).mono ?_
  rintro e w1 ⟨v, rfl, hb⟩
  obtain ⟨ba, cap, rfl, _, _, _⟩ := hb.lies
  have hB := hb.below
  rw [memI_len]
  clear hb
  have HB := Lib.hid hB
  clear hB
  go_wp2
  go_ret
  exact ⟨rfl, HB.out⟩
end Ref11
end Go.Proofs.YtldbkompebefmaaDoor
