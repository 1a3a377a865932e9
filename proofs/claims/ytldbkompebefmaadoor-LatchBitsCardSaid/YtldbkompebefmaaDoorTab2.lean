/- A laid table of rows of integers: its cells. No program is named here. -/
import Derived.Test.YtldbkompebefmaaDoorMem
import Derived.Lib.LaidTab
namespace Go.Proofs.YtldbkompebefmaaDoor
open Go.RowKit

theorem cells_of_rows {H : Type} {enc : TypeId × Value → H} {P : Program} {w : World} {base : Nat} {sp : Nat → Bool} {held : Bool} {fuel : Nat} {t r e : TypeId} {n m : Nat} {k : IntKind} {cs : List Value} {zs : List (List Int)} {p : List MemPlace}
    (ht : P.underlying t = some (.array n r)) (hr : P.underlying r = some (.array m e)) (he : P.underlying e = some (.int k)) (hce : P.cellsOf e = 1) (hcr : P.cellsOf r = m) (hct : P.cellsOf t = n * m)
    (h : DataW.trod enc P w base sp held fuel t cs = some (.agg (zs.map (Lib.tabData k)), p)) (hz : ∀ l ∈ zs, l.length = m) : cs.length = n * m ∧ ∀ i j z, (zs[i]?.bind (·[j]?)) = some z → cs[i * m + j]? = some (.int k z) := by
  cases fuel with
  | zero => simp [DataW.trod] at h
  | succ fuel =>
    simp only [DataW.trod, ht, hcr, hct] at h
    split at h
    · rename_i hl
      refine ⟨by simpa using hl, ?_⟩
      obtain ⟨xs, hm', hx⟩ := Option.map_eq_some_iff.1 h
      have hxs : xs.map (·.1) = zs.map fun z => (Lib.tabData k z : DataW H) := by
        have := congrArg Prod.fst hx
        simpa using this
      have hxl : xs.length = n := by simpa using Lib.mapM_length hm'
      have hzl : zs.length = n := by
        have := congrArg List.length hxs
        simp at this
        omega
      intro i j z hij
      obtain ⟨l, hli, hlj⟩ := Option.bind_eq_some_iff.1 hij
      have hi : i < n := by
        have := (List.getElem?_eq_some_iff.1 hli).1
        omega
      have hj : j < m := by
        have := (List.getElem?_eq_some_iff.1 hlj).1
        rw [hz l (List.mem_of_getElem? hli)] at this
        exact this
      obtain ⟨b, hb, hf⟩ := Lib.mapM_at hm' i i (by simp [hi])
      have h2 : (xs.map (·.1))[i]? = some b.1 := by simp [hb]
      rw [hxs, List.getElem?_map, hli] at h2
      have hb1 : b.1 = Lib.tabData k l := (Option.some.inj h2).symm
      obtain ⟨b1, b2⟩ := b
      simp only at hb1
      subst hb1
      have hc := Lib.cells_of_tab hr he hce hcr hf
      have h3 := congrArg (·[j]?) hc
      simp only [List.getElem?_take, List.getElem?_drop, List.getElem?_map, hj, if_true, hlj, Option.map_some] at h3
      exact h3
    · cases h

end Go.Proofs.YtldbkompebefmaaDoor
