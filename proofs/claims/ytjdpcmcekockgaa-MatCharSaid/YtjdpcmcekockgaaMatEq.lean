/- Equality of three numbers, and of nine. -/
import Derived.Test.YtjdpcmcekockgaaMatRef
import Derived.ChangeKeysEq
namespace Go.Proofs.Ytjdpcmcekockgaa
open Go.RowKit

theorem infoI : (Try.prog.info? 2).isSome = true := by kernel_rfl
theorem cellsI : Try.prog.cellsOf 2 = 1 := by kernel_rfl
theorem infoV : (Try.prog.info? 23).isSome = true := by kernel_rfl
theorem cellsV : Try.prog.cellsOf 23 = 3 := by kernel_rfl
theorem vec_eqI (f : Nat) (a0 a1 a2 b0 b1 b2 : Int) (w : World) :
    (Op.equalIn (f + 1 + 1) 23 (.agg #[.int .i64 a0, .int .i64 a1, .int .i64 a2]) (.agg #[.int .i64 b0, .int .i64 b1, .int .i64 b2])).run Try.prog w = .ok (a0 == b0 && (a1 == b1 && a2 == b2)) w := by
  obtain ⟨i0, hi⟩ := Option.isSome_iff_exists.1 infoI
  rw [run_equalIn_array w (f + 1) _ _ Try.underlying23 hi, cellsI]
  cases h0 : (a0 == b0) <;> cases h1 : (a1 == b1) <;> cases h2 : (a2 == b2) <;> simp_all [List.range, List.range.loop, Op.eqItems, go_sem]
theorem vec_eq (a b : V3) (w : World) : (Op.equalIn 10000 23 (vv a) (vv b)).run Try.prog w = .ok (decide (a = b)) w := by
  rw [vec_eqI 9998, v_eq, v_eq, v_eq]
  congr 1
  obtain ⟨a0, a1, a2⟩ := a
  obtain ⟨b0, b1, b2⟩ := b
  simp only [V3.mk.injEq]
  by_cases h0 : a0 = b0 <;> by_cases h1 : a1 = b1 <;> by_cases h2 : a2 = b2 <;> simp [h0, h1, h2]
theorem mat_eqI (f : Nat) (a0 a1 a2 a3 a4 a5 a6 a7 a8 b0 b1 b2 b3 b4 b5 b6 b7 b8 : Int) (w : World) :
    (Op.equalIn (f + 1 + 1 + 1) 25 (.agg #[.int .i64 a0, .int .i64 a1, .int .i64 a2, .int .i64 a3, .int .i64 a4, .int .i64 a5, .int .i64 a6, .int .i64 a7, .int .i64 a8]) (.agg #[.int .i64 b0, .int .i64 b1, .int .i64 b2, .int .i64 b3, .int .i64 b4, .int .i64 b5, .int .i64 b6, .int .i64 b7, .int .i64 b8])).run Try.prog w =
      .ok ((a0 == b0 && (a1 == b1 && a2 == b2)) && ((a3 == b3 && (a4 == b4 && a5 == b5)) && (a6 == b6 && (a7 == b7 && a8 == b8)))) w := by
  obtain ⟨i0, hi⟩ := Option.isSome_iff_exists.1 infoV
  have e0 := vec_eqI f a0 a1 a2 b0 b1 b2 w
  have e1 := vec_eqI f a3 a4 a5 b3 b4 b5 w
  have e2 := vec_eqI f a6 a7 a8 b6 b7 b8 w
  rw [run_equalIn_array w (f + 1 + 1) _ _ Try.underlying25 hi, cellsV]
  generalize (a0 == b0 && (a1 == b1 && a2 == b2)) = q0 at *
  generalize (a3 == b3 && (a4 == b4 && a5 == b5)) = q1 at *
  generalize (a6 == b6 && (a7 == b7 && a8 == b8)) = q2 at *
  cases q0 <;> cases q1 <;> cases q2 <;> simp [List.range, List.range.loop, Op.eqItems, go_sem, e0, e1, e2]
theorem mat_eq (a b : M3) (w : World) : (Op.equalIn 10000 25 (mv a) (mv b)).run Try.prog w = .ok (decide (a = b)) w := by
  rw [mat_eqI 9997, v_eq, v_eq, v_eq, v_eq, v_eq, v_eq, v_eq, v_eq, v_eq]
  congr 1
  rw [Bool.eq_iff_iff]
  obtain ⟨⟨a0, a1, a2⟩, ⟨a3, a4, a5⟩, ⟨a6, a7, a8⟩⟩ := a
  obtain ⟨⟨b0, b1, b2⟩, ⟨b3, b4, b5⟩, ⟨b6, b7, b8⟩⟩ := b
  simp [M3.mk.injEq, V3.mk.injEq, and_assoc]
end Go.Proofs.Ytjdpcmcekockgaa
