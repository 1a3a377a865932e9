/- Layer 21's own example. -/
import Derived.Test.YtlfpmeflddimfaaCusLan
namespace Go.Proofs.Ytlfpmeflddimfaa
open Go.RowKit

/-- a number, taken without its sign bit's meaning, by n: what is left -/
def md (n z : Int) : Int := (IntKind.u64.wrap z).tmod n
theorem md_rng (n z : Int) (h : 0 < n) : 0 ≤ md n z ∧ md n z < n := by
  have h0 : 0 ≤ IntKind.u64.wrap z := by rw [IntKind.wrap_u64]; omega
  unfold md
  rw [Int.tmod_eq_emod_of_nonneg h0]
  exact ⟨Int.emod_nonneg _ (by omega), Int.emod_lt_of_pos _ h⟩

theorem came_lit {w : World} {l : List Int} (hr : Rooms l) (hl : l.length ≤ 1024) : Came6 (w.alloc (.cells (c64 l).toArray 2)) (some ⟨w.heap.size, 0, none⟩) l.length l := came6_lit w l _ hr hl
theorem rooms4 : Rooms [4, -1, 9, -3] := fun x hx => by
  simp only [List.mem_cons, List.not_mem_nil, or_false] at hx
  unfold Fix.Room; omega
theorem rooms3 : Rooms [4, 1, 0] := fun x hx => by
  simp only [List.mem_cons, List.not_mem_nil, or_false] at hx
  unfold Fix.Room; omega
theorem rooms2 : Rooms [9, 9] := fun x hx => by
  simp only [List.mem_cons, List.not_mem_nil, or_false] at hx
  unfold Fix.Room; omega

set_option maxHeartbeats 2000000 in
set_option maxRecDepth 100000 in
theorem awake_any (w : World) :
    Calls Try.prog 7 #[] w fun e w' => e = .returned (.bool true) ∧ Below w.heap.size w w' := by
  have T1 := Lib.hid fun w => Lan21.Ticks_any 7 2 w ⟨by decide, by decide⟩ ⟨by decide, by decide⟩
  have T2 := Lib.hid fun w => Lan21.Ticks_any 7 0 w ⟨by decide, by decide⟩ ⟨by decide, by decide⟩
  rw [show Lan21.tickV 7 2 = 4 by decide, show Lan21.tickE 7 2 = 0 by decide] at T1
  rw [show Lan21.tickV 7 0 = 0 by decide, show Lan21.tickE 7 0 = 1 by decide] at T2
  have S1 := Lib.hid fun (w : World) => Lan21.Steps_came (w := w.alloc (.cells (c64 [4, -1, 9, -3]).toArray 2)) (came_lit rooms4 (by decide)) 0 10 ⟨by decide, by decide⟩
  have S2 := Lib.hid fun w => Lan21.Step_any 3 (-9) 10 w ⟨by decide, by decide⟩ ⟨by decide, by decide⟩
  have R1 := Lib.hid fun (w : World) => Lan21.Reach_came (w := w.alloc (.cells (c64 [4, 1, 0]).toArray 2)) (came_lit rooms3 (by decide)) 5 10
  have R2 := Lib.hid fun (w : World) => Lan21.Reach_came (w := w.alloc (.cells (c64 [9, 9]).toArray 2)) (came_lit rooms2 (by decide)) 5 4
  rw [show Cus.steps 0 10 [4, -1, 9, -3] = 7 by decide] at S1
  rw [show Cus.step 3 (-9) 10 = 0 by decide] at S2
  rw [show Cus.reach 5 10 0 0 [4, 1, 0] = 1 by decide] at R1
  rw [show Cus.reach 5 4 0 0 [9, 9] = -1 by decide] at R2
  simp only [c64, List.map_cons, List.map_nil, List.length_cons, List.length_nil] at S1 R1 R2
  go_enter Try.func7, Try.ntmps7
  go_wp2_with fail
  refine (T1.out _).mono ?_; rintro e w1 ⟨rfl, n1, hw⟩
  have B1 : Below w.heap.size w w1 := by rw [hw]; exact belowN (Below.refl _ _) _
  clear hw
  go_wp2_with fail
  refine (T2.out _).mono ?_; rintro e w2 ⟨rfl, n2, hw⟩
  have B2 : Below w.heap.size w w2 := by rw [hw]; exact belowN B1 _
  clear hw B1
  go_wp2_with fail
  refine (S1.out w2).mono ?_; rintro e w3 ⟨rfl, hw⟩
  have B3 : Below w.heap.size w w3 := by rw [← hw]; exact B2.alloc B2.size _
  clear hw B2
  go_wp2_with fail
  refine (S2.out _).mono ?_; rintro e w4 ⟨rfl, rfl⟩
  go_wp2_with fail
  refine (R1.out w3).mono ?_; rintro e w5 ⟨rfl, hw⟩
  have B5 : Below w.heap.size w w5 := by rw [← hw]; exact B3.alloc B3.size _
  clear hw B3
  go_wp2_with fail
  refine (R2.out w5).mono ?_; rintro e w6 ⟨rfl, hw⟩
  have B6 : Below w.heap.size w w6 := by rw [← hw]; exact B5.alloc B5.size _
  clear hw B5
  go_wp2_with fail
  go_ret
  exact ⟨rfl, B6⟩
end Go.Proofs.Ytlfpmeflddimfaa
