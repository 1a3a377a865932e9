/- Feed, Lost of the document's own answers for layer 15. -/
import Derived.Test.YtnafodnaolmffaaStrRefB
namespace Go.Proofs.Ytnafodnaolmffaa
open Go.RowKit

theorem Frs.low {w u x : World} {v : Value} {l : List Fr} (h : Frs u.heap.size u x v l) (hb : Below w.heap.size w u) : Frs w.heap.size w x v l := by
  refine ⟨⟨h.1.1, ?_⟩, belowT hb h.2.1, Nat.le_trans hb.size h.2.2⟩
  rcases h.1.2 with hn | ⟨g, cap, cur, fz, rfl, h1, hg, rest⟩
  · exact .inl hn
  · exact .inr ⟨g, cap, cur, fz, rfl, Nat.le_trans hb.size h1, hg, rest⟩

namespace Ref15
theorem Lost_came {w : World} {ba : Option Addr} {cap : Nat} {l : List UInt8} (C : Came w ba cap l) (hsmall : l.length ≤ 1000000000) :
    Calls Try.prog 14 #[.slice ba l.length cap] w fun e w' => e = .returned (.int .i64 (splitF l).2.2) ∧ Below w.heap.size w w' := by
  have S := Lib.hid (Split_came C hsmall)
  go_enter Try.func14, Try.ntmps14
  go_wp2_with fail
  refine S.out.mono ?_; rintro e w1 ⟨v, rfl, hf⟩
  have HB := Lib.hid hf.below
  clear S hf
  go_wp2
  go_ret
  exact ⟨rfl, HB.out⟩

set_option maxHeartbeats 2000000 in
set_option maxRecDepth 100000 in
theorem Feed_came {w : World} {ba bb : Option Addr} {ca cb : Nat} {p l : List UInt8} (P : Came w ba ca p) (C : Came w bb cb l) (hsmall : p.length + l.length ≤ 1000000000) :
    Calls Try.prog 11 #[.slice ba p.length ca, .slice bb l.length cb] w fun e w' => ∃ v u, e = .returned (.tuple #[v, u, .int .i64 (splitF (p ++ l)).2.2]) ∧
      Frs w.heap.size w w' v (splitF (p ++ l)).1 ∧ Bytes w.heap.size w w' u ((p ++ l).drop (splitF (p ++ l)).2.1) := by
  have b0 := empty_bytes w _ rfl
  have HP := Lib.hid P
  have HC := Lib.hid C
  have hall : (p ++ l).length ≤ 1000000000 := by rw [List.length_append]; exact hsmall
  have hend := (split_end _ (p ++ l) (Nat.le_refl _)).1
  have SP := Lib.hid (fun (w : World) (ba : Option Addr) (cap : Nat) (C : Came w ba cap (p ++ l)) => Split_came C hall)
  obtain ⟨r, hr⟩ : ∃ r, r = p ++ l := ⟨_, rfl⟩
  rw [← hr] at hend SP hall ⊢
  have HR := Lib.hid hr
  clear hr
  generalize splitF r = s at *
  obtain ⟨fs, n, k⟩ := s
  simp only at hend SP ⊢
  have HE := Lib.hid hend
  clear P C hend
  go_enter Try.func11, Try.ntmps11
  go_wp2_with (at_builtin; refine list_append_came (v := .slice (some ⟨w.heap.size, 0, none⟩) 0 0) (m := p) (ba := ba) (c := ca) rfl rfl rfl b0 rfl (HP.out.keep b0.below) ?c1 ?_)
  case c1 => simp only [List.length_nil]; omega
  intro v1 w1 hv1
  go_wp2_with (at_builtin; refine list_append_came (v := v1) (m := l) (ba := bb) (c := cb) rfl rfl rfl hv1 rfl (HC.out.keep hv1.below) ?c2 ?_)
  case c2 => omega
  intro v2 w2 hv2
  replace hv2 : Bytes w.heap.size w w2 v2 (p ++ l) := hv2
  rw [← HR.out] at hv2
  obtain ⟨bl, cl, rfl, CA⟩ := hv2.came
  have H2 := Lib.hid hv2.below
  have S := Lib.hid (SP.out w2 bl cl CA)
  have HA := Lib.hid CA
  clear b0 hv1 hv2 CA HP HC SP HR
  go_wp2_with fail
  refine S.out.mono ?_; rintro e w3 ⟨v, rfl, hf⟩
  obtain ⟨b', c', hsl, C3⟩ := came_tail (HA.out.keep hf.below) n HE.out
  have b3 := empty_bytes w3 _ rfl
  have HF := Lib.hid hf
  have H3 := Lib.hid (belowT H2.out hf.below)
  have C4 := Lib.hid (C3.keep b3.below)
  have hroom : ([] : List UInt8).length + (r.drop n).length ≤ 140737488355328 := by
    rw [List.length_drop, List.length_nil]; omega
  obtain ⟨q, hq⟩ : ∃ q, q = r.drop n := ⟨_, rfl⟩
  rw [← hq] at hsl C4 hroom
  have HQ := Lib.hid hq
  clear S HA hf C3 HE hq
  go_wp2_with (at_builtin; refine list_append_came (v := .slice (some ⟨w3.heap.size, 0, none⟩) 0 0) (m := q) (ba := b') (c := c') rfl rfl rfl b3 rfl C4.out hroom ?_)
  intro u w4 hu
  replace hu : Bytes w3.heap.size w3 w4 u q := hu
  go_wp2
  refine bodyPost_ret (v := .tuple #[v, u, .int .i64 k]) (by simp [results, Try.results11, go_sem]) rfl ?_
  exact ⟨_, _, rfl, (HF.out.keep hu.below).low H2.out, HQ.out ▸ hu.low H3.out⟩
end Ref15
end Go.Proofs.Ytnafodnaolmffaa
