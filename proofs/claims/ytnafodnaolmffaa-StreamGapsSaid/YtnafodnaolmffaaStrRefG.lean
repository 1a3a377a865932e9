/- Gaps of the document's own answers for layer 15. -/
import Derived.Test.YtnafodnaolmffaaStrGap
import Derived.Test.YtnafodnaolmffaaPrs
import Derived.BigRegion
namespace Go.Proofs.Ytnafodnaolmffaa
open Go.RowKit

namespace Ref15
set_option maxHeartbeats 4000000 in
set_option maxRecDepth 100000 in
theorem Gaps_came {w : World} {ba : Option Addr} {cap : Nat} {l : List UInt8} (C : Came w ba cap l) (hsmall : l.length ≤ 1000000000) :
    Calls Try.prog 19 #[.slice ba l.length cap] w fun e w' => ∃ v, e = .returned v ∧ Prs w.heap.size w w' v (gapsF l) := by
  have HC := Lib.hid C
  clear C
  go_enter Try.func19, Try.ntmps19
  go_wp2
  go_loopw [3, 4] (fun v at_ wr => ∃ (n : Nat) (o : List (Nat × Nat)), at_ = .int .i64 n ∧ n ≤ l.length ∧ o.length ≤ n ∧ GapsOk o n ∧ gapsGo o n (l.drop n) = gapsF l ∧ Prs w.heap.size w wr v o) (fun _ at_ _ => l.length - (intOf at_).toNat)
  case atStart => exact ⟨0, [], rfl, Nat.zero_le _, Nat.le_refl _, ok_nil 0, rfl, Prs.nil w⟩
  case round =>
    obtain ⟨n, o, rfl, hn, ho, hok, hgo, hfr⟩ := hrel
    by_cases hlt : (n : Int) < l.length
    · obtain ⟨ba', cap', hsl, C2⟩ := came_tail (HC.out.keep hfr.below) n hn
      have h0 : l.drop n ≠ [] := by intro e; have := congrArg List.length e; rw [List.length_drop] at this; simp at this; omega
      have q1 := fun h : (readF (l.drop n)).2 ≠ 0 => (gaps_lost (o := o) (n := n) h0 h).symm.trans hgo
      have q2 := fun h : (readF (l.drop n)).2 = 0 => (gaps_frame (o := o) (n := n) h0 h).symm.trans hgo
      have q3 := fun h : (readF (l.drop n)).2 = 0 => read_room h
      rw [List.drop_drop] at q1 q2
      rw [List.length_drop] at q3
      generalize l.drop n = r at *
      have hm2 := C2.max
      have hl2 := C2.le
      unfold maxLen at hm2
      have hrl : (r.length : Int) ≤ 9223372036854775807 := by omega
      have RD := Lib.hid (Ref14.Read_came C2)
      generalize (readF r).1 = f at *
      generalize (readF r).2 = ec at *
      have HF := Lib.hid hfr
      clear hfr C2 HC h0 hgo
      obtain ⟨fs0, fc0, fb, fx⟩ := f
      simp only [fv] at RD
      by_cases he : ec = 0
      · have S := Lib.hid (q2 he)
        have hn11 := q3 he
        have HO := Lib.hid (hok.mono (Nat.le_add_right n 11))
        subst he
        clear q1 q2 q3 hok
        go_wp2_with fail
        refine RD.out.mono ?_; rintro e w2 ⟨rfl, hb2⟩
        have HB := Lib.hid hb2
        clear RD hb2
        go_wp2
        go_roundw
        case rel => exact ⟨n + 11, o, rfl, by omega, by omega, HO.out, S.out, HF.out.keep (belowT HB.out (below1 w2 _))⟩
        case measure => simp [intOf]; omega
      · have S := Lib.hid (q1 he)
        have hec : (ec == 0) = false := by simpa using he
        have HO := Lib.hid hok.add
        have HL := Lib.hid (addGap_length o n)
        clear q1 q2 q3 he
        go_wp2_with fail
        refine RD.out.mono ?_; rintro e w2 ⟨rfl, hb2⟩
        have HB := Lib.hid (HF.out.keep (belowT hb2 (below1 w2 (.cells #[.int .i64 fs0, .int .i64 fc0, .bool fb, .int .i64 fx] 35))))
        clear RD hb2 HF
        rcases snoc_cases o with rfl | ⟨o', a, b, rfl⟩
        · obtain ⟨bv, cv, rfl, _⟩ := HB.out.came
          have hroom : ([] : List (Nat × Nat)).length + 1 ≤ 1000000000000 := by decide
          rw [addGap_nil] at S HO HL
          go_wp2_with (at_builtin; refine list_append_pr rfl _ _ rfl (v := .slice bv 0 cv) rfl (n, n + 1) HB.out (by show Value.slice (some ⟨w2.heap.size + 1, 0, none⟩) 1 1 = _; simp) hroom ?_)
          intro v' w' hb'
          go_wp2
          go_roundw
          case rel => exact ⟨n + 1, _, rfl, by omega, by have := HL.out; simp at this ⊢, HO.out, S.out, hb'⟩
          case measure => simp [intOf]; omega
        · obtain ⟨g, cv, rfl, k1, k2, k3, k4, k5⟩ := HB.out.last
          rw [List.length_append, List.length_singleton] at ho
          have K5 := Lib.hid k5
          have hle : (o'.length : Int) + 1 ≤ 9223372036854775807 := by omega
          have hb' := hok.front.2.2.2
          simp only at hb'
          clear k5
          by_cases hbn : b = n
          · subst hbn
            rw [addGap_same] at S HO HL
            have P5 := K5.out (b + 1)
            rw [Int.natCast_add, Int.natCast_one] at P5
            have HLn := Lib.hid (show (o' ++ [(a, b + 1)]).length ≤ b + 1 by have := HL.out; simp at this ⊢; omega)
            have HP5 := Lib.hid P5
            have hq : ((b : Int) == b) = true := by simp
            clear K5 P5 hok
            generalize o'.length = k at *
            go_upto_region 9 with fail
            go_region
            go_wp2
            go_roundw
            case rel => exact ⟨b + 1, _, rfl, by omega, HLn.out, HO.out, S.out, HP5.out.drew⟩
            case measure => simp [intOf]; omega
          · rw [addGap_other _ _ _ _ hbn] at S HO HL
            have hq : ((b : Int) == n) = false := by simp; omega
            have hroom : (o' ++ [(a, b)]).length + 1 ≤ 1000000000000 := by simp; omega
            clear K5 hok
            go_wp2_with (at_builtin; refine list_append_pr rfl _ _ rfl (v := .slice (some ⟨g, 0, none⟩) (o'.length + 1) cv) rfl (n, n + 1) HB.out (by show Value.slice (some ⟨w2.heap.size + 1, 0, none⟩) 1 1 = _; simp) hroom ?_)
            intro v' w' hb'
            go_wp2
            go_roundw
            case rel => exact ⟨n + 1, _, rfl, by omega, by have := HL.out; simp at this ⊢; omega, HO.out, S.out, by rw [List.append_assoc]; exact hb'⟩
            case measure => simp [intOf]; omega
    · obtain rfl : n = l.length := by omega
      rw [List.drop_length, gaps_nil] at hgo
      have SS := Lib.hid hgo
      clear hgo
      go_wp2
      go_ret
      rw [← SS.out]
      exact ⟨_, rfl, hfr⟩
end Ref15
end Go.Proofs.Ytnafodnaolmffaa
