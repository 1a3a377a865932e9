/- The landed stream, and the landed frame's Bytes, answer as Own15 asks. -/
import Derived.Test.YtnafodnaolmffaaLanStrB
import Derived.Test.YtnafodnaolmffaaLanStrC
import Derived.Test.YtnafodnaolmffaaLanStrD
import Derived.Test.YtnafodnaolmffaaStrAwake
namespace Go.Proofs.Ytnafodnaolmffaa
open Go.RowKit

theorem ok : Own15 where
  bytes := fun f w h => Lan14.Bytes_ok f w h
  no := fun f w h => Lan14.Bytes_no f w h
  split := fun w ba cap l C hl => (Lan15.Split_came C (by omega)).mono fun e w' h => by
    obtain ⟨v, rfl, hf⟩ := h
    obtain ⟨va, vc, rfl, CF⟩ := hf.came
    exact ⟨va, vc, rfl, CF, hf.below⟩
  feed := fun w ba bb ca cb p l P C hl => (Lan15.Feed_came P C (by omega)).mono fun e w' h => by
    obtain ⟨v, u, rfl, hf, hu⟩ := h
    obtain ⟨va, vc, rfl, CF⟩ := hf.came
    obtain ⟨ua, uc, rfl, CU⟩ := hu.came
    exact ⟨va, vc, ua, uc, rfl, CF, CU, hf.below, fun a e => by subst e; exact hu.base⟩
  lost := fun w ba cap l C hl => Lan15.Lost_came C (by omega)
  many := fun w ba cap l C hl _ => (Lan15.Many_came C (by omega)).mono fun e w' h => by
    obtain ⟨v, rfl, hv⟩ := h
    obtain ⟨ua, uc, rfl, CU⟩ := hv.came
    exact ⟨ua, uc, rfl, CU, hv.below⟩
  gaps := fun w ba cap l C hl => Lan15.Gaps_came C (by omega)
end Go.Proofs.Ytnafodnaolmffaa
