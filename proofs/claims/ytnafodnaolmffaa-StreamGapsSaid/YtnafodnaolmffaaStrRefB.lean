/- Split of the document's own answers for layer 15. -/
import Derived.Test.YtnafodnaolmffaaStrRefA
namespace Go.Proofs.Ytnafodnaolmffaa
open Go.RowKit

/-- as far as it went -/
def SplitAt (l : List UInt8) (n k : Nat) (fs : List Fr) : Prop := n ≤ l.length ∧ k ≤ n ∧ fs.length ≤ n ∧ splitF l = (fs ++ (splitF (l.drop n)).1, n + (splitF (l.drop n)).2.1, k + (splitF (l.drop n)).2.2)
theorem SplitAt.stop {l : List UInt8} {n k : Nat} {fs : List Fr} (h : SplitAt l n k fs) (h0 : l.drop n ≠ []) (hs : stopF (l.drop n) = true) : splitF l = (fs, n, k) := by
  rw [h.2.2.2, split_stop h0 hs]; simp
theorem SplitAt.over {l : List UInt8} {k : Nat} {fs : List Fr} (h : SplitAt l l.length k fs) : splitF l = (fs, l.length, k) := by
  rw [h.2.2.2, List.drop_length, split_nil]; simp
theorem SplitAt.lost {l : List UInt8} {n k : Nat} {fs : List Fr} (h : SplitAt l n k fs) (hn : n < l.length) (hs : stopF (l.drop n) = false) (hr : (readF (l.drop n)).2 ≠ 0) : SplitAt l (n + 1) (k + 1) fs := by
  obtain ⟨_, h2, h3, h4⟩ := h
  have h0 : l.drop n ≠ [] := by intro e; have := congrArg List.length e; rw [List.length_drop] at this; simp at this; omega
  refine ⟨hn, by omega, by omega, ?_⟩
  rw [h4, split_lost h0 hs hr, List.drop_drop]
  simp only [Prod.mk.injEq]
  exact ⟨trivial, by omega, by omega⟩
theorem SplitAt.frame {l : List UInt8} {n k : Nat} {fs : List Fr} (h : SplitAt l n k fs) (hn : n < l.length) (hs : stopF (l.drop n) = false) (hr : (readF (l.drop n)).2 = 0) : SplitAt l (n + 11) k (fs ++ [(readF (l.drop n)).1]) := by
  obtain ⟨_, h2, h3, h4⟩ := h
  have h0 : l.drop n ≠ [] := by intro e; have := congrArg List.length e; rw [List.length_drop] at this; simp at this; omega
  have h11 := read_room hr
  rw [List.length_drop] at h11
  refine ⟨by omega, by omega, by rw [List.length_append, List.length_singleton]; omega, ?_⟩
  rw [h4, split_frame h0 hs hr, List.drop_drop]
  simp only [Prod.mk.injEq, List.append_assoc, List.singleton_append]
  exact ⟨trivial, by omega, trivial⟩

namespace Ref15
set_option maxHeartbeats 4000000 in
set_option maxRecDepth 100000 in
theorem Split_came {w : World} {ba : Option Addr} {cap : Nat} {l : List UInt8} (C : Came w ba cap l) (hsmall : l.length ≤ 1000000000) :
    Calls Try.prog 9 #[.slice ba l.length cap] w fun e w' => ∃ v, e = .returned (.tuple #[v, .int .i64 (splitF l).2.1, .int .i64 (splitF l).2.2]) ∧ Frs w.heap.size w w' v (splitF l).1 := by
  have HC := Lib.hid C
  clear C
  go_enter Try.func9, Try.ntmps9
  go_wp2
  go_loopw [5, 6, 7] (fun v lo at_ wr => ∃ (n k : Nat) (fs : List Fr), at_ = .int .i64 n ∧ lo = .int .i64 k ∧ SplitAt l n k fs ∧ Frs w.heap.size w wr v fs) (fun _ _ at_ _ => l.length - (intOf at_).toNat)
  case atStart => exact ⟨0, 0, [], rfl, rfl, ⟨Nat.zero_le _, Nat.le_refl _, Nat.le_refl _, by simp⟩, Frs.nil w⟩
  case round =>
    obtain ⟨n, k, fs, rfl, rfl, hsp, hfr⟩ := hrel
    have hn := hsp.1
    by_cases hlt : (n : Int) < l.length
    · obtain ⟨ba', cap', hsl, C2⟩ := came_tail (HC.out.keep hfr.below) n hn
      have h0 : l.drop n ≠ [] := by intro e; have := congrArg List.length e; rw [List.length_drop] at this; simp at this; omega
      have q1 := fun (hs : stopF (l.drop n) = false) (h : (readF (l.drop n)).2 ≠ 0) => hsp.lost (by omega) hs h
      have q2 := fun (hs : stopF (l.drop n) = false) (h : (readF (l.drop n)).2 = 0) => hsp.frame (by omega) hs h
      have q3 := fun (hs : stopF (l.drop n) = true) => hsp.stop h0 hs
      have hk : k ≤ n := hsp.2.1
      have hfl : fs.length ≤ n := hsp.2.2.1
      generalize l.drop n = r at *
      have hst : stopF r = (decide (r.length < 11) && mayF r) := rfl
      have hm2 := C2.max
      have hl2 := C2.le
      unfold maxLen at hm2
      have hrl : (r.length : Int) ≤ 9223372036854775807 := by omega
      have M := may_came C2
      have rd : ∀ w', Below wr.heap.size wr w' → Calls Try.prog 23 #[.slice ba' r.length cap'] w' fun e w2 => e = .returned (.tuple #[fv (readF r).1, .int .i64 (readF r).2]) ∧ Below w'.heap.size w' w2 := fun w' h => Ref14.Read_came (C2.keep h)
      have hshort : r.length < 11 → (readF r).2 ≠ 0 := read_short
      generalize (readF r).1 = f at *
      generalize (readF r).2 = ec at *
      have RD := Lib.hid rd
      have HF := Lib.hid hfr
      clear rd hfr C2 hsp HC h0
      obtain ⟨fs0, fc0, fb, fx⟩ := f
      by_cases h11 : (r.length : Int) < 11
      · rw [decide_eq_true (by omega), Bool.true_and] at hst
        rw [← hst] at M
        have HM := Lib.hid M
        clear M hst
        cases hs : stopF r
        · rw [hs] at HM
          have S := Lib.hid (q1 hs (hshort (by omega)))
          have hec : (ec == 0) = false := by simpa using hshort (by omega)
          clear q1 q2 q3 hs hshort
          go_wp2_with fail
          refine HM.out.mono ?_; rintro e w1 ⟨rfl, hb1⟩
          clear HM
          go_wp2_with fail
          refine (RD.out _ hb1).mono ?_; rintro e w2 ⟨rfl, hb2⟩
          have HB := Lib.hid (belowT hb1 hb2)
          clear RD hb1 hb2
          simp only [fv]
          go_wp2
          go_roundw
          case rel => exact ⟨n + 1, k + 1, fs, rfl, rfl, S.out, HF.out.keep (belowT HB.out (below1 w2 _))⟩
          case measure => simp [intOf]; omega
        · rw [hs] at HM
          have S := q3 hs
          have SS := Lib.hid S
          clear q1 q2 q3 hs hshort RD S
          go_wp2_with fail
          refine HM.out.mono ?_; rintro e w1 ⟨rfl, hb1⟩
          clear HM
          go_wp2
          refine bodyPost_ret (v := .tuple #[u5, .int .i64 n, .int .i64 k]) (by simp [results, Try.results9, go_sem]) rfl ?_
          rw [SS.out]
          exact ⟨_, rfl, HF.out.keep hb1⟩
      · rw [decide_eq_false (by omega), Bool.false_and] at hst
        clear M hshort q3
        by_cases he : ec = 0
        · have S := Lib.hid (q2 hst he)
          subst he
          clear q1 q2 hst
          go_wp2_with fail
          refine (RD.out _ (Below.refl _ _)).mono ?_; rintro e w2 ⟨rfl, hb2⟩
          have H2 := Lib.hid (HF.out.keep (belowT hb2 (below1 w2 (.cells #[.int .i64 fs0, .int .i64 fc0, .bool fb, .int .i64 fx] 35))))
          have hroom : fs.length + 1 ≤ 1000000000000 := by omega
          clear RD hb2 HF
          simp only [fv]
          go_wp2_with (at_builtin; refine list_append_fr rfl _ _ rfl (w0 := w2.alloc (.cells #[.int .i64 fs0, .int .i64 fc0, .bool fb, .int .i64 fx] 35)) (v := u5) rfl ⟨fs0, fc0, fb, fx⟩ H2.out (by show Value.slice (some ⟨w2.heap.size + 1, 0, none⟩) 1 1 = _; simp) hroom ?_)
          intro v' w' hb'
          go_wp2
          go_roundw
          case rel => exact ⟨n + 11, k, _, rfl, rfl, S.out, hb'⟩
          case measure => simp [intOf]; omega
        · have S := Lib.hid (q1 hst he)
          have hec : (ec == 0) = false := by simpa using he
          clear q1 q2 hst he
          go_wp2_with fail
          refine (RD.out _ (Below.refl _ _)).mono ?_; rintro e w2 ⟨rfl, hb2⟩
          have HB := Lib.hid hb2
          clear RD hb2
          simp only [fv]
          go_wp2
          go_roundw
          case rel => exact ⟨n + 1, k + 1, fs, rfl, rfl, S.out, HF.out.keep (belowT HB.out (below1 w2 _))⟩
          case measure => simp [intOf]; omega
    · obtain rfl : n = l.length := by omega
      have e := hsp.over
      have SS := Lib.hid e
      clear hsp e
      go_wp2
      refine bodyPost_ret (v := .tuple #[u5, .int .i64 l.length, .int .i64 k]) (by simp [results, Try.results9, go_sem]) rfl ?_
      rw [SS.out]
      exact ⟨_, rfl, hfr⟩
end Ref15
end Go.Proofs.Ytnafodnaolmffaa
