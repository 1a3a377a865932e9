/- The landed stream's Gaps. -/
import Derived.Test.YtnafodnaolmffaaLanStrA
import Derived.Test.YtnafodnaolmffaaPrs
namespace Go.Proofs.Ytnafodnaolmffaa
open Go.RowKit

namespace Lan15
set_option maxHeartbeats 4000000 in
set_option maxRecDepth 100000 in
theorem Gaps_came {w : World} {ba : Option Addr} {cap : Nat} {l : List UInt8} (C : Came w ba cap l) (hsmall : l.length ≤ 1000000000) :
    Calls Try.prog 18 #[.slice ba l.length cap] w fun e w' => ∃ va vc, e = .returned (.slice va (gapsF l).length vc) ∧ CameP w' va vc (gapsF l) ∧ Below w.heap.size w w' := by
  have F := Lib.hid (find_came C hsmall)
  have hg := gaps_starts l
  have hss := starts_length l.length 0 l (Nat.le_refl _)
  have hsz := (split_size l.length l (Nat.le_refl _)).1
  generalize gapsF l = gs at *
  generalize startsF 0 l = ss at *
  have hS : (ss ++ [l.length]).length ≤ 1000000001 ∧ ∀ j, j < (ss ++ [l.length]).length → (ss ++ [l.length]).getD j 0 ≤ 1000000000 := by
    refine ⟨by rw [List.length_append, List.length_singleton]; omega, fun j hj => ?_⟩
    have hm : (ss ++ [l.length]).getD j 0 ∈ ss ++ [l.length] := by
      simp only [List.getD, List.getElem?_eq_getElem hj, Option.getD_some]
      exact List.getElem_mem hj
    rcases List.mem_append.1 hm with hm | hm
    · have := hss.2 _ hm
      omega
    · rw [List.mem_singleton] at hm
      omega
  have hroom : ss.length + 1 ≤ 1000000000000 := by omega
  have HG0 := Lib.hid hg
  clear hss hsz C hg
  go_enter Try.func18, Try.ntmps18
  go_wp2_with fail
  refine F.out.mono ?_; rintro e w1 ⟨v, u, rfl, hf, hi⟩
  have HF := Lib.hid hf
  have HI := Lib.hid hi
  clear F hf hi
  go_wp2_with (at_builtin; refine list_append_in rfl _ _ rfl (w0 := w1) (v := u) rfl l.length HI.out HF.out rfl hroom ?_)
  intro u' w2 hi2 _
  obtain ⟨bu, cu, rfl, CU⟩ := hi2.came
  have HC := Lib.hid CU
  have HB := Lib.hid hi2.below
  have hle := CU.le
  have hm := CU.max
  unfold maxLen at hm
  have hl : ((ss ++ [l.length]).length : Int) ≤ 9223372036854775807 := by omega
  have HS := Lib.hid hS
  generalize ss ++ [l.length] = S at *
  clear HF HI hi2 CU hS hroom hle hm
  go_wp2
  go_loopw [3, 7, 22] (fun g b i wr => ∃ (j n : Nat) (o : List (Nat × Nat)), j ≤ S.length ∧ o.length ≤ j ∧ i = .int .i64 j ∧ b = .int .i64 n ∧ gs = o ++ runG n (S.drop j) ∧ Prs w2.heap.size w2 wr g o) (fun _ _ i _ => S.length - (intOf i).toNat)
  case atStart => exact ⟨0, 0, [], Nat.zero_le _, Nat.le_refl _, rfl, rfl, HG0.out, Prs.nil w2⟩
  case round =>
    obtain ⟨j, n, o, hj, ho, rfl, rfl, hgs, hp⟩ := hrel
    by_cases hc : (j : Int) < S.length
    · have hjl : j < S.length := by omega
      obtain ⟨b, a, rfl, L⟩ := (HC.out.keep hp.below).lies (by omega)
      have k0 := L j hjl
      have hs := HS.out.2 j hjl
      have hS1 := HS.out.1
      have hd : S.drop j = S.getD j 0 :: S.drop (j + 1) := by
        rw [List.drop_eq_getElem_cons hjl]
        simp [List.getD, List.getElem?_eq_getElem hjl]
      rw [hd, runG] at hgs
      have hj0 : (j : Int) ≥ 0 := by omega
      have HP := Lib.hid hp
      clear L hd hp
      generalize S.getD j 0 = s at *
      have hb : (s : Int) + 11 ≤ 9223372036854775807 := by omega
      by_cases hlt : n < s
      · have e1 : gapTo n s = [(n, s)] := if_pos hlt
        rw [e1, ← List.append_assoc] at hgs
        have HG := Lib.hid hgs
        have hlt' : (n : Int) < s := by omega
        have hroom : o.length + 1 ≤ 1000000000000 := by omega
        clear hgs e1 hlt
        go_wp2_with (at_builtin; refine list_append_pr rfl _ _ rfl (w0 := wr) (v := u3) rfl (n, s) HP.out rfl hroom ?_)
        intro v' w' hb'
        go_wp2
        go_roundw
        case rel => exact ⟨j + 1, s + 11, _, hjl, by rw [List.length_append, List.length_singleton]; omega, rfl, rfl, HG.out, hb'⟩
        case measure => simp [intOf]; omega
      · have e1 : gapTo n s = [] := if_neg hlt
        rw [e1, List.nil_append] at hgs
        have HG := Lib.hid hgs
        have hlt' : ¬ ((n : Int) < s) := by omega
        clear hgs e1 hlt
        go_wp2
        go_roundw
        case rel => exact ⟨j + 1, s + 11, _, hjl, by omega, rfl, rfl, HG.out, HP.out⟩
        case measure => simp [intOf]; omega
    · obtain rfl : j = S.length := by omega
      rw [List.drop_length, runG, List.append_nil] at hgs
      subst hgs
      obtain ⟨va, vc, rfl, CP⟩ := hp.came
      have HP := Lib.hid CP
      have HL := Lib.hid (belowT HB.out hp.below)
      clear hp CP
      go_wp2
      go_ret
      exact ⟨_, _, rfl, HP.out, HL.out⟩
end Lan15
end Go.Proofs.Ytnafodnaolmffaa
