
/- The document's own answer for Narrow. -/
import Derived.Test.YtkjnjhdanbjmpaaRgRA
namespace Go.Proofs.Ytkjnjhdanbjmpaa.Ref
open Go.RowKit Go.Proofs.Ytkjnjhdanbjmpaa

set_option maxHeartbeats 400000 in
theorem Narrow_same (h l n : Int) (w : World) (en2 : IntKind.i64.wrap l = n) 
    (O : Hid (∀ w, Calls Try.prog 20 #[.int .i64 n] w fun e w' => e = .returned (.agg #[.int .i64 h, .int .u64 l]) ∧ Below w.heap.size w w')) :
    Calls Try.prog 23 #[.agg #[.int .i64 h, .int .u64 l]] w fun e w' => e = .returned (.tuple #[.int .i64 n, .int .i64 0]) ∧ Below w.heap.size w w' := by
  go_enter Try.func23, Try.ntmps23
  go_wp2_with fail
  go_region_held3 (fun w' => w'.cell? ⟨w.heap.size, 0, none⟩ = some (.int .i64 h) ∧ w'.cell? ⟨w.heap.size, 1, none⟩ = some (.int .u64 l))
    (first
      | (go_split_ands; refine ⟨?_, ?_⟩ <;> first | exact keepc hb4 (by assumption))
      | go_keep)
    (first
      | (go_at_call 20; (with_reducible refine (O.out _).mono ?_); rintro e w4 ⟨rfl, hb4⟩; have B4 := belowT (below1 w _).drew hb4))
  all_goals
    (try go_split_ands)
    go_wp2_with fail
    go_ret2
    exact ⟨rfl, B4⟩

set_option maxHeartbeats 400000 in
theorem Narrow_hi (h l n h2 l2 : Int) (w : World) (en2 : IntKind.i64.wrap l = n) (q : (h == h2) = false)
    (O : Hid (∀ w, Calls Try.prog 20 #[.int .i64 n] w fun e w' => e = .returned (.agg #[.int .i64 h2, .int .u64 l2]) ∧ Below w.heap.size w w')) :
    Calls Try.prog 23 #[.agg #[.int .i64 h, .int .u64 l]] w fun e w' => e = .returned (.tuple #[.int .i64 0, .int .i64 8]) ∧ Below w.heap.size w w' := by
  go_enter Try.func23, Try.ntmps23
  go_wp2_with fail
  go_region_held3 (fun w' => w'.cell? ⟨w.heap.size, 0, none⟩ = some (.int .i64 h) ∧ w'.cell? ⟨w.heap.size, 1, none⟩ = some (.int .u64 l))
    (first
      | (go_split_ands; refine ⟨?_, ?_⟩ <;> first | exact keepc hb4 (by assumption))
      | go_keep)
    (first
      | (go_at_call 20; (with_reducible refine (O.out _).mono ?_); rintro e w4 ⟨rfl, hb4⟩; have B4 := belowT (below1 w _).drew hb4))
  all_goals
    (try go_split_ands)
    go_wp2_with fail
    go_ret2
    exact ⟨rfl, B4⟩

set_option maxHeartbeats 400000 in
theorem Narrow_lo (h l n l2 : Int) (w : World) (en2 : IntKind.i64.wrap l = n) (q : (l == l2) = false)
    (O : Hid (∀ w, Calls Try.prog 20 #[.int .i64 n] w fun e w' => e = .returned (.agg #[.int .i64 h, .int .u64 l2]) ∧ Below w.heap.size w w')) :
    Calls Try.prog 23 #[.agg #[.int .i64 h, .int .u64 l]] w fun e w' => e = .returned (.tuple #[.int .i64 0, .int .i64 8]) ∧ Below w.heap.size w w' := by
  go_enter Try.func23, Try.ntmps23
  go_wp2_with fail
  go_region_held3 (fun w' => w'.cell? ⟨w.heap.size, 0, none⟩ = some (.int .i64 h) ∧ w'.cell? ⟨w.heap.size, 1, none⟩ = some (.int .u64 l))
    (first
      | (go_split_ands; refine ⟨?_, ?_⟩ <;> first | exact keepc hb4 (by assumption))
      | go_keep)
    (first
      | (go_at_call 20; (with_reducible refine (O.out _).mono ?_); rintro e w4 ⟨rfl, hb4⟩; have B4 := belowT (below1 w _).drew hb4))
  all_goals
    (try go_split_ands)
    go_wp2_with fail
    go_ret2
    exact ⟨rfl, B4⟩

theorem wrap_two (l : Int) : IntKind.i64.wrap l = wrap64 l := by rw [IntKind.wrap_i64, wrap_i]

theorem Narrow_in (x : Int) (w : World) (r : Wd.R6 x) :
    Calls Try.prog 23 #[.agg #[.int .i64 (Wd.hi x), .int .u64 (Wd.lo x)]] w fun e w' => e = .returned (.tuple #[.int .i64 x, .int .i64 0]) ∧ Below w.heap.size w w' := by
  have e : wrap64 (Wd.lo x) = x := by rw [wrap_i]; unfold Wd.lo Wd.R6 at *; omega
  exact Narrow_same _ _ x w ((wrap_two _).trans e) (Lib.hid fun w => Of_any x w r)

theorem Narrow_out (x : Int) (w : World) (rx : Wd.Rm x) (r : ¬ Wd.R6 x) :
    Calls Try.prog 23 #[.agg #[.int .i64 (Wd.hi x), .int .u64 (Wd.lo x)]] w fun e w' => e = .returned (.tuple #[.int .i64 0, .int .i64 8]) ∧ Below w.heap.size w w' := by
  have r2 : Wd.R6 (wrap64 (Wd.lo x)) := by rw [wrap_i]; unfold Wd.R6; omega
  have O := Lib.hid fun w => Of_any (wrap64 (Wd.lo x)) w r2
  have ne : x ≠ wrap64 (Wd.lo x) := fun e => r (e ▸ r2)
  by_cases h : Wd.hi x = Wd.hi (wrap64 (Wd.lo x))
  · have l : Wd.lo x ≠ Wd.lo (wrap64 (Wd.lo x)) := fun l => ne (Wd.same_iff rx (Wd.rm_of r2) h l)
    rw [← h] at O
    exact Narrow_lo _ _ _ _ w (wrap_two _) (by rw [beq_eq_false_iff_ne]; exact l) O
  · exact Narrow_hi _ _ _ _ _ w (wrap_two _) (by rw [beq_eq_false_iff_ne]; exact h) O

end Go.Proofs.Ytkjnjhdanbjmpaa.Ref
