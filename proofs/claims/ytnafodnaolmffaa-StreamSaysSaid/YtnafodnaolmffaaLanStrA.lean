/- The landed stream's begun, find. -/
import Derived.Test.YtnafodnaolmffaaLanFrmC
import Derived.Test.YtnafodnaolmffaaStrPut
import Derived.Test.YtnafodnaolmffaaIns
import Derived.WalkMore
namespace Go.Proofs.Ytnafodnaolmffaa
open Go.RowKit

theorem stop_begun (l : List UInt8) : stopF l = (decide (l.length < 11) && (beginsF l || (decide (l.length = 1) && l.getD 0 0 == 165))) := by
  unfold stopF mayF
  congr 1
  by_cases h1 : l.length = 1
  · rw [if_pos h1, decide_eq_true h1, Bool.true_and]
    match l, h1 with
    | [a], _ => simp [beginsF]
  · rw [if_neg h1, decide_eq_false h1, Bool.false_and, Bool.or_false]

namespace Lan15
set_option maxHeartbeats 2000000 in
set_option maxRecDepth 100000 in
theorem begun_came {w : World} {ba : Option Addr} {cap : Nat} {l : List UInt8} (C : Came w ba cap l) :
    Calls Try.prog 32 #[.slice ba l.length cap] w fun e w' => e = .returned (.bool (stopF l)) ∧ Below w.heap.size w w' := by
  have BG := Lib.hid (Lan14.Begins_came C)
  have hm := C.max
  unfold maxLen at hm
  have hl : (l.length : Int) ≤ 9223372036854775807 := by have := C.le; omega
  rw [stop_begun]
  by_cases h11 : l.length < 11
  · rw [decide_eq_true h11, Bool.true_and]
    have q11 : ¬ ((11 : Int) ≤ l.length) := by omega
    cases hb : beginsF l
    · rw [hb] at BG
      rw [Bool.false_or]
      by_cases h1 : l.length = 1
      · obtain ⟨b, o, rfl, L⟩ := C.lies (by omega)
        have k0 := L 0 (by omega)
        rw [Nat.add_zero] at k0
        have e0 : (((l.getD 0 0).toNat : Int) == 165) = (l.getD 0 0 == 165) := Ref14.byte_is (l.getD 0 0) 165 (by decide)
        rw [decide_eq_true h1, Bool.true_and]
        generalize (l.getD 0 0 == 165) = g at *
        generalize (l.getD 0 0).toNat = x0 at *
        rw [h1] at BG ⊢
        clear C L h1 h11 hb hl hm q11
        have K0 := Lib.hid fun w' (h : Below w.heap.size w w') => keepc h k0
        clear k0
        go_enter Try.func32, Try.ntmps32
        go_wp2_with fail
        refine BG.out.mono ?_; rintro e w1 ⟨rfl, hb1⟩
        have k1 := K0.out w1 hb1
        clear BG K0
        go_wp2
        go_ret
        exact ⟨rfl, hb1⟩
      · rw [decide_eq_false h1, Bool.false_and]
        have q : ((l.length : Int) == 1) = false := by simp; omega
        clear C h1 h11 hb
        go_enter Try.func32, Try.ntmps32
        go_wp2_with fail
        refine BG.out.mono ?_; rintro e w1 ⟨rfl, hb1⟩
        clear BG
        go_wp2
        go_ret
        exact ⟨rfl, hb1⟩
    · rw [hb] at BG
      rw [Bool.true_or]
      clear C h11 hb
      go_enter Try.func32, Try.ntmps32
      go_wp2_with fail
      refine BG.out.mono ?_; rintro e w1 ⟨rfl, hb1⟩
      clear BG
      go_wp2
      go_ret
      exact ⟨rfl, hb1⟩
  · rw [decide_eq_false h11, Bool.false_and]
    have q11 : (11 : Int) ≤ l.length := by omega
    clear C BG h11
    go_enter Try.func32, Try.ntmps32
    go_wp2
    go_ret
    exact ⟨rfl, Below.refl _ _⟩

set_option maxHeartbeats 4000000 in
set_option maxRecDepth 100000 in
theorem find_came {w : World} {ba : Option Addr} {cap : Nat} {l : List UInt8} (C : Came w ba cap l) (hsmall : l.length ≤ 1000000000) :
    Calls Try.prog 21 #[.slice ba l.length cap] w fun e w' => ∃ v u, e = .returned (.tuple #[v, u, .int .i64 (splitF l).2.1]) ∧ Frs w.heap.size w w' v (splitF l).1 ∧ Ins w.heap.size w w' u (startsF 0 l) := by
  have HC := Lib.hid C
  clear C
  go_enter Try.func21, Try.ntmps21
  go_wp2
  go_step3
  go_wp2
  go_step3
  go_wp2
  go_loopw [5, 6, 7] (fun v u at_ wr => ∃ (n : Nat) (fs : List Fr) (ss : List Nat), at_ = .int .i64 n ∧ FindAt l n fs ss ∧ Frs w.heap.size w wr v fs ∧ Ins w.heap.size w wr u ss) (fun _ _ at_ _ => l.length - (intOf at_).toNat)
  case atStart => exact ⟨0, [], [], rfl, FindAt.zero l, Frs.nil w, Ins.nil w⟩
  case round =>
    obtain ⟨n, fs, ss, rfl, hsp, hfr, hin⟩ := hrel
    have hn := hsp.1
    by_cases hlt : (n : Int) < l.length
    · obtain ⟨ba', cap', hsl, C2⟩ := came_tail (HC.out.keep hfr.below) n hn
      have q1 := fun (hs : stopF (l.drop n) = false) (h : (readF (l.drop n)).2 ≠ 0) => hsp.lost (by omega) hs h
      have q2 := fun (h : (readF (l.drop n)).2 = 0) => hsp.frame (by omega) h
      have q3 := fun (hs : stopF (l.drop n) = true) => hsp.stop (by omega) hs
      have hfl : fs.length ≤ n := hsp.2.1
      have hsl2 : ss.length = fs.length := hsp.2.2.1
      generalize l.drop n = r at *
      have rd : Calls Try.prog 31 #[.slice ba' r.length cap'] wr fun e w2 => e = .returned (.tuple #[fv (readF r).1, .int .i64 (readF r).2]) ∧ Below wr.heap.size wr w2 := Lan14.Read_came C2
      have bg := Lib.hid fun w' (h : Below wr.heap.size wr w') => begun_came (C2.keep h)
      generalize (readF r).1 = f at *
      generalize (readF r).2 = ec at *
      have RD := Lib.hid rd
      have HF := Lib.hid hfr
      have HI := Lib.hid hin
      clear rd hfr hin C2 hsp HC
      obtain ⟨fs0, fc0, fb, fx⟩ := f
      by_cases he : ec = 0
      · have S := Lib.hid (q2 he)
        subst he
        clear q1 q2 q3 bg
        go_wp2_with fail
        refine RD.out.mono ?_; rintro e w2 ⟨rfl, hb2⟩
        have hbA := belowT hb2 (below1 w2 (.cells #[.int .i64 fs0, .int .i64 fc0, .bool fb, .int .i64 fx] 35))
        have H2 := Lib.hid (HF.out.keep hbA)
        have I2 := Lib.hid (HI.out.keep hbA)
        have hroom : fs.length + 1 ≤ 1000000000000 := by omega
        clear RD hb2 hbA HF HI
        simp only [fv]
        go_wp2_with (at_builtin; refine list_append_fr3 rfl _ _ rfl (w0 := w2.alloc (.cells #[.int .i64 fs0, .int .i64 fc0, .bool fb, .int .i64 fx] 35)) (v := u5) rfl ⟨fs0, fc0, fb, fx⟩ H2.out I2.out (by show Value.slice (some ⟨w2.heap.size + 1, 0, none⟩) 1 1 = _; simp) hroom ?_)
        intro v' w' hb' hi'
        have hroom2 : ss.length + 1 ≤ 1000000000000 := by omega
        go_wp2_with (at_builtin; refine list_append_in rfl _ _ rfl (w0 := w') (v := u6) rfl n hi' hb' rfl hroom2 ?_)
        intro v2 w3 hi3 hb3
        go_wp2
        go_roundw
        case rel => exact ⟨n + 11, _, _, rfl, S.out, hb3, hi3⟩
        case measure => simp [intOf]; omega
      · have hec : (ec == 0) = false := by simpa using he
        clear q2
        cases hs : stopF r
        · have S := Lib.hid (q1 hs he)
          rw [hs] at bg
          clear q1 q3 hs he
          go_wp2_with fail
          refine RD.out.mono ?_; rintro e w2 ⟨rfl, hb2⟩
          have HB := Lib.hid (belowT hb2 (below1 w2 (.cells #[.int .i64 fs0, .int .i64 fc0, .bool fb, .int .i64 fx] 35)))
          clear RD hb2
          simp only [fv]
          go_wp2_with fail
          refine (bg.out _ HB.out).mono ?_; rintro e w3 ⟨rfl, hb3⟩
          have H3 := Lib.hid (belowT HB.out hb3)
          clear bg HB hb3
          go_wp2
          go_roundw
          case rel => exact ⟨n + 1, fs, ss, rfl, S.out, HF.out.keep H3.out, HI.out.keep H3.out⟩
          case measure => simp [intOf]; omega
        · have S := Lib.hid (q3 hs)
          rw [hs] at bg
          clear q1 q3 hs he
          go_wp2_with fail
          refine RD.out.mono ?_; rintro e w2 ⟨rfl, hb2⟩
          have HB := Lib.hid (belowT hb2 (below1 w2 (.cells #[.int .i64 fs0, .int .i64 fc0, .bool fb, .int .i64 fx] 35)))
          clear RD hb2
          simp only [fv]
          go_wp2_with fail
          refine (bg.out _ HB.out).mono ?_; rintro e w3 ⟨rfl, hb3⟩
          have H3 := Lib.hid (belowT HB.out hb3)
          clear bg HB hb3
          go_wp2
          try rw [Exit.noGoto_ret]
          refine bodyPost_ret (v := .tuple #[u5, u6, .int .i64 n]) (by simp [results, Try.results21, go_sem]) rfl ?_
          obtain ⟨s1, s2, s3⟩ := S.out
          rw [s1, s2, s3]
          exact ⟨_, _, rfl, HF.out.keep H3.out, HI.out.keep H3.out⟩
    · obtain rfl : n = l.length := by omega
      have e := hsp.over
      have SS := Lib.hid e
      clear hsp e
      go_wp2
      try rw [Exit.noGoto_ret]
      refine bodyPost_ret (v := .tuple #[u5, u6, .int .i64 l.length]) (by simp [results, Try.results21, go_sem]) rfl ?_
      obtain ⟨s1, s2, s3⟩ := SS.out
      rw [s1, s2, s3]
      exact ⟨_, _, rfl, hfr, hin⟩
end Lan15
end Go.Proofs.Ytnafodnaolmffaa
