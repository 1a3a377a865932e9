/- MatKernel: the law's walk, its number as the row has it. -/
import Derived.Test.YtjdpcmcekockgaaMatKernelL
namespace Go.Proofs.Ytjdpcmcekockgaa
open Go.RowKit
theorem Kernel8_int (a0 : M3) (k which : Int) (w : World) (h0 : -9223372036854775808 ≤ k) (h1 : k ≤ 9223372036854775807) :
    Calls Try.prog 5 #[mv a0, .int .i64 k, .int .i64 which] w fun e w' => e = .returned (.bool true) ∧ Below w.heap.size w w' := by
  obtain ⟨y, rfl⟩ := v_of k h0 h1
  exact Kernel8_all a0 y which w
end Go.Proofs.Ytjdpcmcekockgaa
