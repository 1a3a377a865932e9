/-
  WideSays: the law returns true at every input, and each argument reads afterwards as it read before. No condition.
-/
import Derived.Test.YtfgjkkabipmhhaaRows
import Derived.Test.YtfgjkkabipmhhaaLawSaysB
import Derived.Test.YtfgjkkabipmhhaaPost
import Derived.Test.YtfgjkkabipmhhaaOpen
import Derived.Test.YtfgjkkabipmhhaaOpen3
import Derived.WalkKit
import Derived.ProofKit
import Derived.OpenShut
namespace Go.Proofs.Ytfgjkkabipmhhaa.wideSays
open Go.Proofs.Ytfgjkkabipmhhaa
open Go.ChangeShapes Go.WideShapes Go.ChangeAt Go.RowKit

theorem own : ownKnob Try.prog.godebug = none := by kernel_rfl

set_option maxRecDepth 100000 in
theorem lifted (os : Os) (started : os.Started) (H : Type) (enc : TypeId × Value → H) :
    ReturnsInHanded {} Try.checked os 3 .any (Rows.wideSaysSpec.pre6 enc Try.prog Try.f3 Rows.wideSaysRow.domain false) (Rows.wideSaysSpec.post enc Try.prog Try.f3 false true false false) := by
  refine returnsInHanded_of_change (C := Try.checked) own started (by kernel_rfl) Try.func3
    (ChangeSpec.witness6 (enc := enc) (C := Try.checked) false ⟨#[], #[.agg #[.int .i64 0, .int .u64 0], .agg #[.int .i64 0, .int .u64 0], .agg #[.int .i64 0, .int .i64 0, .int .i64 0]], []⟩ 8 (by kernel_rfl) (by kernel_rfl) (by kernel_rfl) (by kernel_rfl)) ?_
  intro W base args ds gs before hval0 hW _ _
  have hval : ∀ (j : Nat) t v, Try.f3.params[j]? = some t → args[j]? = some v → Value.okWide Try.prog W .any base t v := hval0
  have hW' := hW
  obtain ⟨p, q, hA0, hV, rfl, hfz, hnd⟩ := hW
  have hA : DataW.TrodAll enc Try.prog W 0 (fun _ => true) true Try.f3.params.toList args.toList ds p := hA0
  rw [Try.params3] at hA hval
  obtain ⟨v0, vs0, d0, ds0, p0, q0, hargs, rfl, rfl, h0, r0⟩ := trodAll_cons hA
  obtain ⟨v1, vs1, d1, ds1, p1, q1, rfl, rfl, rfl, h1, r1⟩ := trodAll_cons r0
  obtain ⟨v2, vs2, d2, ds2, p2, q2, rfl, rfl, rfl, h2, r2⟩ := trodAll_cons r1
  obtain ⟨rfl, rfl, rfl⟩ := trodAll_nil r2
  obtain rfl : args = #[v0, v1, v2] := by cases args; simp_all
  obtain ⟨rfl, rfl⟩ := trodVars_none hV
  obtain ⟨a0h, a0l, rfl, rfl, rfl, wf0h, wf0l⟩ := wide_open (hval 0 24 v0 rfl rfl) h0
  obtain ⟨a1h, a1l, rfl, rfl, rfl, wf1h, wf1l⟩ := wide_open (hval 1 24 v1 rfl rfl) h1
  obtain ⟨a2x, a2y, a2z, rfl, rfl, rfl, wf2x, wf2y, wf2z⟩ := three_open (hval 2 25 v2 rfl rfl) h2
  clear hA0 hval0
  simp only [List.append_nil] at hW'
  refine (says_any a0h a0l a1h a1l a2x a2y a2z W (rng_i64 wf0h) (rng_u64 wf0l) (rng_i64 wf1h) (rng_u64 wf1l) (rng_i64 wf2x) (rng_i64 wf2z)).mono fun e W' ⟨he, hg⟩ => ?_
  subst he
  exact ⟨_, rfl, post_low hg hW' (fun _ _ _ => (trodAll_cons_mk (shut_bool Try.underlying4 _) trodAll_mk0)) (fun sp => (trodAll_cons_mk (wide_shut wf0h wf0l) (trodAll_cons_mk (wide_shut wf1h wf1l) (trodAll_cons_mk (three_shut wf2x wf2y wf2z) trodAll_mk0)))) (fun _ => rfl)
    (ok_one (by kernel_rfl) rfl (okWide_bool_mk Try.underlying4 _))⟩

theorem over : Rows.wideSaysRow.holds Try.pinned (OpenSpec.ofChange Rows.wideSaysSpec) :=
  OpenClaim.holds_of_wide 3 Try.f3 rfl rfl rfl rfl rfl rfl rfl ⟨rfl, rfl, rfl, rfl, rfl⟩ rfl rfl rfl rfl rfl (by kernel_rfl) Try.func3 (by kernel_rfl)
    (of_decide_eq_true (by kernel_rfl)) (by unfold Func.isWrapper; first | (rw [if_pos (by decide +kernel)]; kernel_rfl) | (rw [if_neg (by decide +kernel)]; exact ⟨rfl, rfl⟩))
    (fun os started H enc _ => lifted os started H enc)

theorem proved : Rows.WideSaysSaid :=
  over
#print axioms proved
end Go.Proofs.Ytfgjkkabipmhhaa.wideSays
