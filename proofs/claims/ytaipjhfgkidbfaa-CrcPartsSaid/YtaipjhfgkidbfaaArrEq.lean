/- Two arrays of sixteen numbers of 16 bits that are the same are equal. -/
import Derived.Test.YtaipjhfgkidbfaaArr
import Derived.ChangeKeysEq
namespace Go.Proofs.Ytaipjhfgkidbfaa
open Go.RowKit

theorem info16 : (Try.prog.info? 22).isSome = true := by kernel_rfl
theorem cells16 : Try.prog.cellsOf 22 = 1 := by kernel_rfl
theorem arr_eq (v0 v1 v2 v3 v4 v5 v6 v7 v8 v9 v10 v11 v12 v13 v14 v15 : Int) (w : World) :
    (Op.equalIn 10000 35 (.agg #[.int .u16 v0, .int .u16 v1, .int .u16 v2, .int .u16 v3, .int .u16 v4, .int .u16 v5, .int .u16 v6, .int .u16 v7, .int .u16 v8, .int .u16 v9, .int .u16 v10, .int .u16 v11, .int .u16 v12, .int .u16 v13, .int .u16 v14, .int .u16 v15]) (.agg #[.int .u16 v0, .int .u16 v1, .int .u16 v2, .int .u16 v3, .int .u16 v4, .int .u16 v5, .int .u16 v6, .int .u16 v7, .int .u16 v8, .int .u16 v9, .int .u16 v10, .int .u16 v11, .int .u16 v12, .int .u16 v13, .int .u16 v14, .int .u16 v15])).run Try.prog w = .ok true w := by
  obtain ⟨i0, hi⟩ := Option.isSome_iff_exists.1 info16
  rw [show (10000 : Nat) = 9999 + 1 from rfl, run_equalIn_array w 9999 _ _ Try.underlying35 hi, cells16]
  simp [List.range, List.range.loop, Op.eqItems, go_sem]

end Go.Proofs.Ytaipjhfgkidbfaa
