/- The landed nvlog's newest, Load. -/
import Derived.Test.YtdalajfjikbcaaaNvlLanA
namespace Go.Proofs.Ytdalajfjikbcaaa
open Go.RowKit

theorem seen_sign (o : Int × Nt × Nat) (i : Nat) (r : Nt × Nat × Int) (h : o.1 = -1 ∨ 0 ≤ o.1) : (seenF o i r).1 = -1 ∨ 0 ≤ (seenF o i r).1 := by
  unfold seenF
  split
  · exact Or.inr (Int.natCast_nonneg i)
  · exact h
theorem new_sign (l : List UInt8) : (newF l).1 = -1 ∨ 0 ≤ (newF l).1 := seen_sign _ _ _ (seen_sign _ _ _ (Or.inl rfl))

theorem seen_lt (o : Int × Nt × Nat) (i : Nat) (r : Nt × Nat × Int) (h : o.2.2 < 4294967296) (k : r.2.1 < 4294967296) : (seenF o i r).2.2 < 4294967296 := by
  unfold seenF
  split
  · exact k
  · exact h
theorem new_lt (l : List UInt8) : (newF l).2.2 < 4294967296 := seen_lt _ _ _ (seen_lt _ _ _ (by decide) (readN_lt _)) (readN_lt _)

namespace Lan19
theorem index0 (x0 y0 z0 x1 y1 z1 : Int) (s0 s1 : Nat) (b0 b1 : Bool) : ∀ w, (Instr.index 55 (cv2 x0 y0 z0 s0 b0 x1 y1 z1 s1 b1) (.int .i64 0)).run Try.prog w = .ok (cv x0 y0 z0 s0 b0) w := fun _ => by kernel_rfl
theorem index1 (x0 y0 z0 x1 y1 z1 : Int) (s0 s1 : Nat) (b0 b1 : Bool) : ∀ w, (Instr.index 55 (cv2 x0 y0 z0 s0 b0 x1 y1 z1 s1 b1) (.int .i64 1)).run Try.prog w = .ok (cv x1 y1 z1 s1 b1) w := fun _ => by kernel_rfl

set_option maxHeartbeats 8000000 in
set_option maxRecDepth 100000 in
theorem newest_came {w : World} {ba : Option Addr} {cap : Nat} {l : List UInt8} (C : Came w ba cap l) :
    Calls Try.prog 19 #[.slice ba l.length cap] w fun e w' => e = .returned (.tuple #[.int .i64 (newF l).1, cv (newF l).2.1.ex (newF l).2.1.inh (newF l).2.1.mode (newF l).2.2 (!((newF l).1 == -1))]) ∧ Below w.heap.size w w' := by
  obtain ⟨⟨⟨x0, y0, z0⟩, s0, e0⟩, h0⟩ : ∃ r, readN (partF l 0) = r := ⟨_, rfl⟩
  obtain ⟨⟨⟨x1, y1, z1⟩, s1, e1⟩, h1⟩ : ∃ r, readN (partF l 1) = r := ⟨_, rfl⟩
  have RC := Lib.hid fun (w : World) (C : Came w ba cap l) => read_came C x0 y0 z0 x1 y1 z1 e0 e1 s0 s1 h0 h1
  have hN := newF_of h0 h1
  have I0 := index0 x0 y0 z0 x1 y1 z1 s0 s1 (e0 == 0) (e1 == 0)
  have I1 := index1 x0 y0 z0 x1 y1 z1 s0 s1 (e0 == 0) (e1 == 0)
  generalize cv2 x0 y0 z0 s0 (e0 == 0) x1 y1 z1 s1 (e1 == 0) = V at *
  -- as far as it looked
  obtain ⟨st, hst0, hst1, hst2⟩ : ∃ st : Nat → Int × Nt × Nat, st 0 = (-1, nt0, 0) ∧ (∀ j : Nat, j < 2 → ∃ x y z s e, (∀ w, (Instr.index 55 V (.int .i64 j)).run Try.prog w = .ok (cv x y z s (e == 0)) w) ∧ st (j + 1) = seenF (st j) j (⟨x, y, z⟩, s, e)) ∧ st 2 = newF l := by
    refine ⟨fun j => if j = 0 then (-1, nt0, 0) else if j = 1 then seenF (-1, nt0, 0) 0 (⟨x0, y0, z0⟩, s0, e0) else newF l, rfl, fun j hj => ?_, rfl⟩
    rcases (show j = 0 ∨ j = 1 by omega) with rfl | rfl
    · exact ⟨x0, y0, z0, s0, e0, I0, rfl⟩
    · exact ⟨x1, y1, z1, s1, e1, I1, hN⟩
  have HC := Lib.hid C
  have NX := Lib.hid hst1
  have H0 := Lib.hid hst0
  have H2 := Lib.hid hst2
  clear I0 I1 hN h0 h1 C hst0 hst1 hst2
  have SN := (((Sp.none w).more [.int .i64 0, .int .i64 0, .int .i64 0, .int .u32 0, .bool false] 47).more [.int .i64 0, .int .i64 0, .int .i64 0, .int .u32 0, .bool false] 47)
  rw [heap1] at SN
  have SM := Lib.hid (show Sp w [(w.heap.size, cl 0 0 0 0 false), (w.heap.size + 1, cl 0 0 0 0 false)] _ from SN)
  have R := Lib.hid (RC.out _ (HC.out.keep SN.below))
  clear SN RC HC
  go_enter Try.func19, Try.ntmps19
  go_wp2_with fail
  refine R.out.mono ?_; rintro e w1 ⟨rfl, hb1⟩
  have SK := Lib.hid (SM.out.keep hb1)
  clear hb1 R SM
  go_wp2
  go_loopw [4, 11] (fun at_ i wr => ∃ (j : Nat) (a x y z : Int) (s : Nat) (b : Bool), j ≤ 2 ∧ i = .int .i64 j ∧ at_ = .int .i64 a ∧ ((a = -1 ∨ 0 ≤ a) ∧ b = !(a == -1)) ∧ st j = (a, ⟨x, y, z⟩, s) ∧
    Sp w [(w.heap.size, cl 0 0 0 0 false), (w.heap.size + 1, cl x y z s b)] wr) (fun _ i _ => 2 - (intOf i).toNat)
  case atStart => exact ⟨0, -1, 0, 0, 0, 0, false, Nat.zero_le _, rfl, rfl, ⟨Or.inl rfl, rfl⟩, H0.out, SK.out⟩
  case round =>
    obtain ⟨j, a, x, y, z, s, b, hj, rfl, rfl, hsg, hst, hS⟩ := hrel
    have HS := Lib.hid hS
    by_cases hc : (j : Int) < 2
    · obtain ⟨x', y', z', t, ec, ix, hn⟩ := NX.out j (by omega)
      rw [hst] at hn
      have HN := Lib.hid hn
      clear hst hn hS
      have S2 := Lib.hid (HS.out.more [.int .i64 x', .int .i64 y', .int .i64 z', .int .u32 t, .bool (ec == 0)] 47)
      clear HS
      unfold cv at ix
      by_cases hec : ec = 0
      · subst hec
        rw [show ((0 : Int) == 0) = true from rfl] at ix S2
        have q0 := S2.out.at 2 rfl 0 rfl
        have q1 := S2.out.at 2 rfl 1 rfl
        have q2 := S2.out.at 2 rfl 2 rfl
        have q3 := S2.out.at 2 rfl 3 rfl
        have q4 := S2.out.at 2 rfl 4 rfl
        have c0 := S2.out.at 1 rfl 0 rfl; have f0 := S2.out.free 1 rfl 0 rfl
        have c1 := S2.out.at 1 rfl 1 rfl; have f1 := S2.out.free 1 rfl 1 rfl
        have c2 := S2.out.at 1 rfl 2 rfl; have f2 := S2.out.free 1 rfl 2 rfl
        have c3 := S2.out.at 1 rfl 3 rfl; have f3 := S2.out.free 1 rfl 3 rfl
        have c4 := S2.out.at 1 rfl 4 rfl; have f4 := S2.out.free 1 rfl 4 rfl
        have S3 := Lib.hid (((((((S2.out.put 1 rfl 0 (.int .i64 x')).put 1 rfl 1 (.int .i64 y')).put 1 rfl 2 (.int .i64 z')).put 1 rfl 3 (.int .u32 t)).put 1 rfl 4 (.bool true)).drew).take 2)
        by_cases ha : a = -1
        · have HH := Lib.hid (seen_yes (o := (a, ⟨x, y, z⟩, s)) (r := (⟨x', y', z'⟩, t, 0)) j rfl (Or.inl (show a < 0 by omega)))
          have hd : (a == -1) = true := by simpa using ha
          clear S2 hsg ha
          go_upto_region 6 with fail
          go_region
          go_wp2
          go_roundw
          case rel => exact ⟨j + 1, j, x', y', z', t, true, by omega, rfl, rfl, ⟨Or.inr (by omega), by simp⟩, by rw [HN.out, HH.out], S3.out⟩
          case measure => simp [intOf]; omega
        · have hd : (a == -1) = false := by simpa using ha
          by_cases ht : s < t
          · have HH := Lib.hid (seen_yes (o := (a, ⟨x, y, z⟩, s)) (r := (⟨x', y', z'⟩, t, 0)) j rfl (Or.inr ht))
            clear S2 hsg ha
            go_upto_region 6 with fail
            go_region
            go_wp2
            go_roundw
            case rel => exact ⟨j + 1, j, x', y', z', t, true, by omega, rfl, rfl, ⟨Or.inr (by omega), by simp⟩, by rw [HN.out, HH.out], S3.out⟩
            case measure => simp [intOf]; omega
          · have HH := Lib.hid (seen_old (o := (a, ⟨x, y, z⟩, s)) (r := (⟨x', y', z'⟩, t, 0)) j (fun k => by
              rcases k with k | k
              · have k : a < 0 := k
                omega
              · exact ht k))
            have HG := Lib.hid hsg
            have hd2 : decide (s < t) = false := decide_eq_false ht
            clear S3 hsg ha ht
            go_wp2
            go_roundw
            case rel => exact ⟨j + 1, a, x, y, z, s, b, by omega, rfl, rfl, HG.out, by rw [HN.out, HH.out], S2.out.take 2⟩
            case measure => simp [intOf]; omega
      · have HH := Lib.hid (seen_bad (o := (a, ⟨x, y, z⟩, s)) (r := (⟨x', y', z'⟩, t, ec)) j hec)
        have hd : (ec == 0) = false := by simpa using hec
        rw [hd] at ix S2
        have q4 := S2.out.at 2 rfl 4 rfl
        have HG := Lib.hid hsg
        clear hec hsg hd
        go_wp2
        go_roundw
        case rel => exact ⟨j + 1, a, x, y, z, s, b, by omega, rfl, rfl, HG.out, by rw [HN.out, HH.out], S2.out.take 2⟩
        case measure => simp [intOf]; omega
    · obtain rfl : j = 2 := by omega
      rw [H2.out] at hst
      have HST := Lib.hid hst
      have q0 := hS.at 1 rfl 0 rfl
      have q1 := hS.at 1 rfl 1 rfl
      have q2 := hS.at 1 rfl 2 rfl
      have q3 := hS.at 1 rfl 3 rfl
      have q4 := hS.at 1 rfl 4 rfl
      have c0 := hS.at 0 rfl 0 rfl; have f0 := hS.free 0 rfl 0 rfl
      have c1 := hS.at 0 rfl 1 rfl; have f1 := hS.free 0 rfl 1 rfl
      have c2 := hS.at 0 rfl 2 rfl; have f2 := hS.free 0 rfl 2 rfl
      have c3 := hS.at 0 rfl 3 rfl; have f3 := hS.free 0 rfl 3 rfl
      have c4 := hS.at 0 rfl 4 rfl; have f4 := hS.free 0 rfl 4 rfl
      have HB := Lib.hid ((((((hS.put 0 rfl 0 (.int .i64 x)).put 0 rfl 1 (.int .i64 y)).put 0 rfl 2 (.int .i64 z)).put 0 rfl 3 (.int .u32 s)).put 0 rfl 4 (.bool b)).drew).below
      have HG := Lib.hid hsg
      clear hst hS NX HS hsg H0 H2 SK
      go_upto_region 8 with fail
      go_region
      go_wp2
      refine bodyPost_ret (v := .tuple #[.int .i64 a, cv x y z s b]) (by simp [cv, results, Try.results19, go_sem, *]) rfl ⟨by rw [HST.out, HG.out.2], HB.out⟩

set_option maxHeartbeats 4000000 in
set_option maxRecDepth 100000 in
theorem Load_came {w : World} {ba : Option Addr} {cap : Nat} {l : List UInt8} (C : Came w ba cap l) :
    Calls Try.prog 13 #[.slice ba l.length cap] w fun e w' => e = .returned (.tuple #[nv (loadF l).1, .int .i64 (loadF l).2]) ∧ Below w.heap.size w w' := by
  have B1 := below1 w (.cells #[.int .i64 0, .int .i64 0, .int .i64 0] 26)
  have NW := Lib.hid (newest_came (C.keep B1))
  have SN := Lib.hid ((Sp.none w).more [.int .i64 0, .int .i64 0, .int .i64 0] 26)
  have LD : Hid (loadF l = if (newF l).1 < 0 then (nt0, 9) else ((newF l).2.1, 0)) := Lib.hid rfl
  have hsg := new_sign l
  generalize newF l = r at *
  obtain ⟨a, ⟨x, y, z⟩, s⟩ := r
  obtain ⟨b, hb⟩ : ∃ b, b = !(a == -1) := ⟨_, rfl⟩
  simp only at NW
  rw [← hb] at NW
  simp only [cv] at NW
  clear C B1 hb
  go_enter Try.func13, Try.ntmps13
  go_wp2_with fail
  refine NW.out.mono ?_; rintro e w1 ⟨rfl, hb1⟩
  have S2 := Lib.hid ((SN.out.keep hb1).more [.int .i64 x, .int .i64 y, .int .i64 z, .int .u32 s, .bool b] 47)
  have c0 := S2.out.at 0 rfl 0 rfl; have f0 := S2.out.free 0 rfl 0 rfl
  have c1 := S2.out.at 0 rfl 1 rfl; have f1 := S2.out.free 0 rfl 1 rfl
  have c2 := S2.out.at 0 rfl 2 rfl; have f2 := S2.out.free 0 rfl 2 rfl
  clear NW SN hb1
  by_cases ha : a = -1
  · have hr : Hid (loadF l = (nt0, 9)) := Lib.hid (by rw [LD.out]; exact if_pos (show a < 0 by omega))
    have HB := Lib.hid (((S2.out.put 0 rfl 0 (.int .i64 0)).put 0 rfl 1 (.int .i64 0)).put 0 rfl 2 (.int .i64 0)).below
    have hd : (a == -1) = true := by simpa using ha
    clear LD S2 ha hsg
    go_wp2
    refine bodyPost_ret (v := .tuple #[nv0, .int .i64 9]) (by simp [nv0, results, Try.results13, go_sem, *]) rfl ⟨by rw [hr.out]; rfl, HB.out⟩
  · have hr : Hid (loadF l = (⟨x, y, z⟩, 0)) := Lib.hid (by rw [LD.out]; exact if_neg (show ¬ a < 0 by omega))
    have q0 := S2.out.at 1 rfl 0 rfl
    have q1 := S2.out.at 1 rfl 1 rfl
    have q2 := S2.out.at 1 rfl 2 rfl
    have HB := Lib.hid (((S2.out.put 0 rfl 0 (.int .i64 x)).put 0 rfl 1 (.int .i64 y)).put 0 rfl 2 (.int .i64 z)).below
    have hd : (a == -1) = false := by simpa using ha
    clear LD S2 ha hsg
    go_wp2
    refine bodyPost_ret (v := .tuple #[nv ⟨x, y, z⟩, .int .i64 0]) (by simp [nv, results, Try.results13, go_sem, *]) rfl ⟨by rw [hr.out], HB.out⟩
end Lan19
end Go.Proofs.Ytdalajfjikbcaaa
