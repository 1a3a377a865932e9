
/- The landed octet's Put, and what it asks of places and widths, over XBuf (for seats that know crc too). -/
import Derived.Test.YtmacbcbomdnppaaRefPut
namespace Go.Proofs.Ytmacbcbomdnppaa
open Go.RowKit

namespace Own

set_option maxHeartbeats 4000000 in
theorem put0 (n : Nat) (width : Int) (w : World) (_h1 : (n : Int) ≤ 18446744073709551615) (hk : min (max width 0) 8 = 0) :
    Calls Try.prog 16 #[.int .u64 n, .int .i64 width] w fun e w' => e = .returned (.slice (some ⟨w.heap.size, 0, none⟩) 0 0) ∧ w' = w.alloc (.cells #[] 5) := by
  have hmk : ∀ w : World, (Instr.makeSlice 24 (.int .i64 0) (.int .i64 0)).run Try.prog w = .ok (.slice (some ⟨w.heap.size, 0, none⟩) 0 0) (w.alloc (.cells #[] 5)) := fun _ => by kernel_rfl
  go_enter Try.func16, Try.ntmps16
  go_wp2
  refine wp_loop_rounds 1 ?_
  iterate 1 (rw [rounds_succ]; go_wp2)
  go_ret
  exact ⟨rfl, rfl⟩

set_option maxHeartbeats 4000000 in
theorem put1 (n : Nat) (width : Int) (w : World) (_h1 : (n : Int) ≤ 18446744073709551615) (hk : min (max width 0) 8 = 1) :
    Calls Try.prog 16 #[.int .u64 n, .int .i64 width] w fun e w' => e = .returned (.slice (some ⟨w.heap.size, 0, none⟩) 1 1) ∧ w' = w.alloc (.cells #[.int .u8 ((n : Int) % 256)] 5) := by
  have hmk : ∀ w : World, (Instr.makeSlice 24 (.int .i64 1) (.int .i64 1)).run Try.prog w = .ok (.slice (some ⟨w.heap.size, 0, none⟩) 1 1) (w.alloc (.cells #[.int .u8 0] 5)) := fun _ => by kernel_rfl
  go_enter Try.func16, Try.ntmps16
  go_wp2
  refine wp_loop_rounds 2 ?_
  iterate 2 (rw [rounds_succ]; go_wp2)
  go_ret
  exact ⟨rfl, rfl⟩

set_option maxHeartbeats 4000000 in
theorem put2 (n : Nat) (width : Int) (w : World) (_h1 : (n : Int) ≤ 18446744073709551615) (hk : min (max width 0) 8 = 2) :
    Calls Try.prog 16 #[.int .u64 n, .int .i64 width] w fun e w' => e = .returned (.slice (some ⟨w.heap.size, 0, none⟩) 2 2) ∧ w' = w.alloc (.cells #[.int .u8 ((n : Int) / 256 % 256), .int .u8 ((n : Int) % 256)] 5) := by
  have hmk : ∀ w : World, (Instr.makeSlice 24 (.int .i64 2) (.int .i64 2)).run Try.prog w = .ok (.slice (some ⟨w.heap.size, 0, none⟩) 2 2) (w.alloc (.cells #[.int .u8 0, .int .u8 0] 5)) := fun _ => by kernel_rfl
  go_enter Try.func16, Try.ntmps16
  go_wp2
  refine wp_loop_rounds 3 ?_
  iterate 3 (rw [rounds_succ]; go_wp2)
  go_ret
  exact ⟨rfl, rfl⟩

set_option maxHeartbeats 4000000 in
theorem put3 (n : Nat) (width : Int) (w : World) (_h1 : (n : Int) ≤ 18446744073709551615) (hk : min (max width 0) 8 = 3) :
    Calls Try.prog 16 #[.int .u64 n, .int .i64 width] w fun e w' => e = .returned (.slice (some ⟨w.heap.size, 0, none⟩) 3 3) ∧ w' = w.alloc (.cells #[.int .u8 ((n : Int) / 256 / 256 % 256), .int .u8 ((n : Int) / 256 % 256), .int .u8 ((n : Int) % 256)] 5) := by
  have hmk : ∀ w : World, (Instr.makeSlice 24 (.int .i64 3) (.int .i64 3)).run Try.prog w = .ok (.slice (some ⟨w.heap.size, 0, none⟩) 3 3) (w.alloc (.cells #[.int .u8 0, .int .u8 0, .int .u8 0] 5)) := fun _ => by kernel_rfl
  go_enter Try.func16, Try.ntmps16
  go_wp2
  refine wp_loop_rounds 4 ?_
  iterate 4 (rw [rounds_succ]; go_wp2)
  go_ret
  exact ⟨rfl, rfl⟩

set_option maxHeartbeats 4000000 in
theorem put4 (n : Nat) (width : Int) (w : World) (_h1 : (n : Int) ≤ 18446744073709551615) (hk : min (max width 0) 8 = 4) :
    Calls Try.prog 16 #[.int .u64 n, .int .i64 width] w fun e w' => e = .returned (.slice (some ⟨w.heap.size, 0, none⟩) 4 4) ∧ w' = w.alloc (.cells #[.int .u8 ((n : Int) / 256 / 256 / 256 % 256), .int .u8 ((n : Int) / 256 / 256 % 256), .int .u8 ((n : Int) / 256 % 256), .int .u8 ((n : Int) % 256)] 5) := by
  have hmk : ∀ w : World, (Instr.makeSlice 24 (.int .i64 4) (.int .i64 4)).run Try.prog w = .ok (.slice (some ⟨w.heap.size, 0, none⟩) 4 4) (w.alloc (.cells #[.int .u8 0, .int .u8 0, .int .u8 0, .int .u8 0] 5)) := fun _ => by kernel_rfl
  go_enter Try.func16, Try.ntmps16
  go_wp2
  refine wp_loop_rounds 5 ?_
  iterate 5 (rw [rounds_succ]; go_wp2)
  go_ret
  exact ⟨rfl, rfl⟩

set_option maxHeartbeats 4000000 in
theorem put5 (n : Nat) (width : Int) (w : World) (_h1 : (n : Int) ≤ 18446744073709551615) (hk : min (max width 0) 8 = 5) :
    Calls Try.prog 16 #[.int .u64 n, .int .i64 width] w fun e w' => e = .returned (.slice (some ⟨w.heap.size, 0, none⟩) 5 5) ∧ w' = w.alloc (.cells #[.int .u8 ((n : Int) / 256 / 256 / 256 / 256 % 256), .int .u8 ((n : Int) / 256 / 256 / 256 % 256), .int .u8 ((n : Int) / 256 / 256 % 256), .int .u8 ((n : Int) / 256 % 256), .int .u8 ((n : Int) % 256)] 5) := by
  have hmk : ∀ w : World, (Instr.makeSlice 24 (.int .i64 5) (.int .i64 5)).run Try.prog w = .ok (.slice (some ⟨w.heap.size, 0, none⟩) 5 5) (w.alloc (.cells #[.int .u8 0, .int .u8 0, .int .u8 0, .int .u8 0, .int .u8 0] 5)) := fun _ => by kernel_rfl
  go_enter Try.func16, Try.ntmps16
  go_wp2
  refine wp_loop_rounds 6 ?_
  iterate 6 (rw [rounds_succ]; go_wp2)
  go_ret
  exact ⟨rfl, rfl⟩

set_option maxHeartbeats 4000000 in
theorem put6 (n : Nat) (width : Int) (w : World) (_h1 : (n : Int) ≤ 18446744073709551615) (hk : min (max width 0) 8 = 6) :
    Calls Try.prog 16 #[.int .u64 n, .int .i64 width] w fun e w' => e = .returned (.slice (some ⟨w.heap.size, 0, none⟩) 6 6) ∧ w' = w.alloc (.cells #[.int .u8 ((n : Int) / 256 / 256 / 256 / 256 / 256 % 256), .int .u8 ((n : Int) / 256 / 256 / 256 / 256 % 256), .int .u8 ((n : Int) / 256 / 256 / 256 % 256), .int .u8 ((n : Int) / 256 / 256 % 256), .int .u8 ((n : Int) / 256 % 256), .int .u8 ((n : Int) % 256)] 5) := by
  have hmk : ∀ w : World, (Instr.makeSlice 24 (.int .i64 6) (.int .i64 6)).run Try.prog w = .ok (.slice (some ⟨w.heap.size, 0, none⟩) 6 6) (w.alloc (.cells #[.int .u8 0, .int .u8 0, .int .u8 0, .int .u8 0, .int .u8 0, .int .u8 0] 5)) := fun _ => by kernel_rfl
  go_enter Try.func16, Try.ntmps16
  go_wp2
  refine wp_loop_rounds 7 ?_
  iterate 7 (rw [rounds_succ]; go_wp2)
  go_ret
  exact ⟨rfl, rfl⟩

set_option maxHeartbeats 4000000 in
theorem put7 (n : Nat) (width : Int) (w : World) (_h1 : (n : Int) ≤ 18446744073709551615) (hk : min (max width 0) 8 = 7) :
    Calls Try.prog 16 #[.int .u64 n, .int .i64 width] w fun e w' => e = .returned (.slice (some ⟨w.heap.size, 0, none⟩) 7 7) ∧ w' = w.alloc (.cells #[.int .u8 ((n : Int) / 256 / 256 / 256 / 256 / 256 / 256 % 256), .int .u8 ((n : Int) / 256 / 256 / 256 / 256 / 256 % 256), .int .u8 ((n : Int) / 256 / 256 / 256 / 256 % 256), .int .u8 ((n : Int) / 256 / 256 / 256 % 256), .int .u8 ((n : Int) / 256 / 256 % 256), .int .u8 ((n : Int) / 256 % 256), .int .u8 ((n : Int) % 256)] 5) := by
  have hmk : ∀ w : World, (Instr.makeSlice 24 (.int .i64 7) (.int .i64 7)).run Try.prog w = .ok (.slice (some ⟨w.heap.size, 0, none⟩) 7 7) (w.alloc (.cells #[.int .u8 0, .int .u8 0, .int .u8 0, .int .u8 0, .int .u8 0, .int .u8 0, .int .u8 0] 5)) := fun _ => by kernel_rfl
  go_enter Try.func16, Try.ntmps16
  go_wp2
  refine wp_loop_rounds 8 ?_
  iterate 8 (rw [rounds_succ]; go_wp2)
  go_ret
  exact ⟨rfl, rfl⟩

set_option maxHeartbeats 4000000 in
theorem put8 (n : Nat) (width : Int) (w : World) (_h1 : (n : Int) ≤ 18446744073709551615) (hk : min (max width 0) 8 = 8) :
    Calls Try.prog 16 #[.int .u64 n, .int .i64 width] w fun e w' => e = .returned (.slice (some ⟨w.heap.size, 0, none⟩) 8 8) ∧ w' = w.alloc (.cells #[.int .u8 ((n : Int) / 256 / 256 / 256 / 256 / 256 / 256 / 256), .int .u8 ((n : Int) / 256 / 256 / 256 / 256 / 256 / 256 % 256), .int .u8 ((n : Int) / 256 / 256 / 256 / 256 / 256 % 256), .int .u8 ((n : Int) / 256 / 256 / 256 / 256 % 256), .int .u8 ((n : Int) / 256 / 256 / 256 % 256), .int .u8 ((n : Int) / 256 / 256 % 256), .int .u8 ((n : Int) / 256 % 256), .int .u8 ((n : Int) % 256)] 5) := by
  have hmk : ∀ w : World, (Instr.makeSlice 24 (.int .i64 8) (.int .i64 8)).run Try.prog w = .ok (.slice (some ⟨w.heap.size, 0, none⟩) 8 8) (w.alloc (.cells #[.int .u8 0, .int .u8 0, .int .u8 0, .int .u8 0, .int .u8 0, .int .u8 0, .int .u8 0, .int .u8 0] 5)) := fun _ => by kernel_rfl
  go_enter Try.func16, Try.ntmps16
  go_wp2
  refine wp_loop_rounds 9 ?_
  iterate 9 (rw [rounds_succ]; go_wp2)
  go_ret
  exact ⟨rfl, rfl⟩

theorem top8' (n : Nat) (h : (n : Int) ≤ 18446744073709551615) : (n : Int) / 256 / 256 / 256 / 256 / 256 / 256 / 256 = (n : Int) / 256 / 256 / 256 / 256 / 256 / 256 / 256 % 256 := by omega

theorem Put_any (n k : Nat) (width : Int) (w : World) (h1 : (n : Int) ≤ 18446744073709551615) (hk : min (max width 0) 8 = (k : Int)) :
    Calls Try.prog 16 #[.int .u64 n, .int .i64 width] w fun e w' => e = .returned (.slice (some ⟨w.heap.size, 0, none⟩) k k) ∧ w' = w.alloc (.cells (vals (Oct.be k n)).toArray 5) := by
  have h8 : k ≤ 8 := by omega
  match k, h8 with
  | 0, _ => exact (put0 n width w h1 hk).mono fun e w' h => ⟨h.1, by rw [h.2]; rfl⟩
  | 1, _ => exact (put1 n width w h1 hk).mono fun e w' h => ⟨h.1, by rw [h.2]; simp only [vals_succ, vals_zero, List.nil_append]⟩
  | 2, _ => exact (put2 n width w h1 hk).mono fun e w' h => ⟨h.1, by rw [h.2]; simp only [vals_succ, vals_zero, List.nil_append, List.cons_append, Int.natCast_ediv]; rfl⟩
  | 3, _ => exact (put3 n width w h1 hk).mono fun e w' h => ⟨h.1, by rw [h.2]; simp only [vals_succ, vals_zero, List.nil_append, List.cons_append, Int.natCast_ediv]; rfl⟩
  | 4, _ => exact (put4 n width w h1 hk).mono fun e w' h => ⟨h.1, by rw [h.2]; simp only [vals_succ, vals_zero, List.nil_append, List.cons_append, Int.natCast_ediv]; rfl⟩
  | 5, _ => exact (put5 n width w h1 hk).mono fun e w' h => ⟨h.1, by rw [h.2]; simp only [vals_succ, vals_zero, List.nil_append, List.cons_append, Int.natCast_ediv]; rfl⟩
  | 6, _ => exact (put6 n width w h1 hk).mono fun e w' h => ⟨h.1, by rw [h.2]; simp only [vals_succ, vals_zero, List.nil_append, List.cons_append, Int.natCast_ediv]; rfl⟩
  | 7, _ => exact (put7 n width w h1 hk).mono fun e w' h => ⟨h.1, by rw [h.2]; simp only [vals_succ, vals_zero, List.nil_append, List.cons_append, Int.natCast_ediv]; rfl⟩
  | 8, _ => exact (put8 n width w h1 hk).mono fun e w' h => ⟨h.1, by rw [h.2]; simp only [vals_succ, vals_zero, List.nil_append, List.cons_append, Int.natCast_ediv]; rw [top8' n h1]; rfl⟩

end Own
end Go.Proofs.Ytmacbcbomdnppaa
