/- Two arrays of bools compared: one that is alike. -/
import Derived.Test.YtaooigldchojcaaDoorBls
import Derived.ChangeKeysEq
namespace Go.Proofs.YtaooigldchojcaaDoor
open Go.RowKit

theorem infobb : (Tryd.prog.info? 4).isSome = true := by kernel_rfl
theorem cellbb : Tryd.prog.cellsOf 4 = 1 := by kernel_rfl
theorem part_bool {l : List Bool} {i : Nat} (h : i < l.length) (w : World) : (part 4 (bl l) (i * 1)).run Tryd.prog w = .ok (.bool (l.getD i false)) w := by
  have hi : i < (l.map fun b => Value.bool b).length := by rw [List.length_map]; exact h
  simp [part, go_sem, bl, h, List.getD]
theorem items_same (l : List Bool) (w : World) : ∀ is : List Nat, (∀ i ∈ is, i < l.length) → (Op.eqItems 9999 4 1 (bl l) (bl l) is).run Tryd.prog w = .ok true w
  | [], _ => by simp [Op.eqItems]
  | i :: is, h => by
    have h1 := h i (List.mem_cons_self ..)
    have ih := items_same l w is (fun j hj => h j (List.mem_cons_of_mem _ hj))
    have he : (Op.equalIn 9999 4 (.bool (l.getD i false)) (.bool (l.getD i false))).run Tryd.prog w = .ok true w := by
      cases l.getD i false <;> simp [go_sem]
    simp only [Op.eqItems, Sem.run_bind, part_bool h1, he, Result.andThen_ok]
    simpa using ih
theorem same22 (l : List Bool) (hl : l.length = 22) (w : World) : (Op.equalIn 10000 26 (.agg (bl l)) (.agg (bl l))).run Tryd.prog w = .ok true w := by
  obtain ⟨i0, hi⟩ := Option.isSome_iff_exists.1 infobb
  rw [show (10000 : Nat) = 9999 + 1 from rfl, run_equalIn_array w 9999 _ _ Tryd.underlying26 hi, cellbb, items_same l w (List.range 22) (fun i hi => by have := List.mem_range.1 hi; omega)]
end Go.Proofs.YtaooigldchojcaaDoor
