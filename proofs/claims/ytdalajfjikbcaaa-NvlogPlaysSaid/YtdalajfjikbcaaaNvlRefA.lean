/- New, part, newest, Load of the document's own answers for layer 19. -/
import Derived.Test.YtdalajfjikbcaaaNvlB
import Derived.Test.YtdalajfjikbcaaaSltRefC
import Derived.Test.YtdalajfjikbcaaaSltRefB
import Derived.Test.YtdalajfjikbcaaaVr
import Derived.BigRegion
namespace Go.Proofs.Ytdalajfjikbcaaa
open Go.RowKit

namespace Ref19
set_option maxRecDepth 100000 in
theorem part_came {w : World} {ba : Option Addr} {cap : Nat} {l : List UInt8} (C : Came w ba cap l) (i : Nat) (hi : i < 2) :
    Calls Try.prog 29 #[.slice ba l.length cap, .int .i64 i] w fun e w' => ∃ b2 c2, e = .returned (.slice b2 (partF l i).length c2) ∧ Came w b2 c2 (partF l i) ∧ w = w' := by
  have c1 := C.le
  have c2 := C.max
  unfold maxLen at c2
  have hl : (l.length : Int) ≤ 9223372036854775807 := by omega
  have hi2 : (i : Int) ≤ 1 := by omega
  by_cases h : (l.length : Int) < 24
  · have e : partF l i = [] := by unfold partF; rw [if_pos (by omega)]
    rw [e]
    have NC : Came w none 0 [] := ⟨Nat.le_refl _, Nat.zero_le _, fun _ => ⟨rfl, rfl⟩, fun h => absurd h (by decide)⟩
    clear C e
    go_enter Try.func29, Try.ntmps29
    go_wp2
    go_ret
    exact ⟨none, 0, rfl, NC, rfl⟩
  · have e : partF l i = (l.drop (12 * i)).take 12 := by unfold partF; rw [if_neg (by omega)]
    have el : ((l.drop (12 * i)).take 12).length = 12 := part_len l (12 * i) 12 (by omega)
    rw [e, el]
    obtain ⟨b, o, rfl, L⟩ := C.lies (by omega)
    have CP : Came w (some ⟨b, o + 12 * i, none⟩) (cap - 12 * i) ((l.drop (12 * i)).take 12) := ⟨by rw [el]; omega, by unfold maxLen; omega, fun h => (by cases h), fun _ => ⟨b, o + 12 * i, rfl, L.part (12 * i) 12 (by omega)⟩⟩
    clear C L e el
    rcases (show i = 0 ∨ i = 1 by omega) with rfl | rfl
    · go_enter Try.func29, Try.ntmps29
      have d1 : (12 : Int) ≤ cap := by omega
      have d2 : (cap : Int) ≤ 9223372036854775807 := by omega
      go_wp2
      go_ret
      exact ⟨_, _, rfl, CP, rfl⟩
    · go_enter Try.func29, Try.ntmps29
      have d1 : (24 : Int) ≤ cap := by omega
      have d2 : (cap : Int) ≤ 9223372036854775807 := by omega
      have d3 : (12 : Int) ≤ cap := by omega
      go_wp2
      go_ret
      exact ⟨_, _, rfl, CP, rfl⟩

theorem bytes0_alloc (w : World) (l : List UInt8) (t : TypeId) (ht : t = 5) (hl : l.length ≤ 1024) :
    Bytes0 w.heap.size w (w.alloc (.cells (vals l).toArray t)) (.slice (some ⟨w.heap.size, 0, none⟩) l.length l.length) l := by
  subst ht
  refine ⟨⟨by simp [vals], Or.inr ⟨w.heap.size, l.length, (vals l).toArray, rfl, Nat.le_refl _, by show (w.heap.push _)[w.heap.size]? = _; simp, Nat.le_refl _, by unfold maxLen; omega, by simp [vals], ?_⟩⟩, below1 w _, by simp⟩
  rw [List.take_of_length_le (by simp [vals])]

set_option maxRecDepth 100000 in
theorem New_any (w : World) : Calls Try.prog 16 #[] w fun e w' => ∃ u, e = .returned u ∧ Bytes0 w.heap.size w w' u zeroM := by
  have hmk : ∀ w : World, (Instr.makeSlice 22 (.int .i64 24) (.int .i64 24)).run Try.prog w = .ok (.slice (some ⟨w.heap.size, 0, none⟩) 24 24) (w.alloc (.cells (vals zeroM).toArray 5)) := fun _ => by kernel_rfl
  have B := Lib.hid (bytes0_alloc w zeroM 5 rfl (by decide))
  generalize (vals zeroM).toArray = z at *
  go_enter Try.func16, Try.ntmps16
  go_wp2
  go_ret
  exact ⟨_, rfl, B.out⟩

/-- as far as it looked -/
def seenAt (l : List UInt8) (j : Nat) : Int × Nt × Nat := if j = 0 then (-1, nt0, 0) else if j = 1 then seenF (-1, nt0, 0) 0 (readN (partF l 0)) else newF l
theorem seenAt_next (l : List UInt8) (j : Nat) (h : j < 2) : seenAt l (j + 1) = seenF (seenAt l j) j (readN (partF l j)) := by
  rcases (show j = 0 ∨ j = 1 by omega) with rfl | rfl
  · rfl
  · rfl

set_option maxHeartbeats 8000000 in
set_option maxRecDepth 100000 in
theorem newest_came {w : World} {ba : Option Addr} {cap : Nat} {l : List UInt8} (C : Came w ba cap l) :
    Calls Try.prog 22 #[.slice ba l.length cap] w fun e w' => e = .returned (.tuple #[.int .i64 (newF l).1, nv (newF l).2.1, .int .u32 (newF l).2.2]) ∧ Below w.heap.size w w' := by
  have HC := Lib.hid C
  have NX := Lib.hid (seenAt_next l)
  have SN := (((Sp.none w).more [.int .i64 0, .int .i64 0, .int .i64 0] 26).more [.int .i64 0, .int .i64 0, .int .i64 0] 26)
  rw [heap1] at SN
  have SN : Sp w [(w.heap.size, [some (.int .i64 0), some (.int .i64 0), some (.int .i64 0)]), (w.heap.size + 1, [some (.int .i64 0), some (.int .i64 0), some (.int .i64 0)])] ((w.alloc (.cells #[.int .i64 0, .int .i64 0, .int .i64 0] 26)).alloc (.cells #[.int .i64 0, .int .i64 0, .int .i64 0] 26)) := SN
  have SN := Lib.hid SN
  clear C
  go_enter Try.func22, Try.ntmps22
  go_wp2
  go_loopw [5, 7, 13] (fun at_ sq i wr => ∃ (j : Nat) (a x y z : Int) (s : Nat), j ≤ 2 ∧ i = .int .i64 j ∧ at_ = .int .i64 a ∧ sq = .int .u32 s ∧ seenAt l j = (a, ⟨x, y, z⟩, s) ∧
    Sp w [(w.heap.size, [some (.int .i64 0), some (.int .i64 0), some (.int .i64 0)]), (w.heap.size + 1, [some (.int .i64 x), some (.int .i64 y), some (.int .i64 z)])] wr) (fun _ _ i _ => 2 - (intOf i).toNat)
  case atStart => exact ⟨0, -1, 0, 0, 0, 0, Nat.zero_le _, rfl, rfl, rfl, rfl, SN.out⟩
  case round =>
    obtain ⟨j, a, x, y, z, s, hj, rfl, rfl, rfl, hst, hS⟩ := hrel
    have HS := Lib.hid hS
    by_cases hc : (j : Int) < 2
    · have P := part_came (HC.out.keep hS.below) j (by omega)
      have hn := NX.out j (by omega)
      rw [hst] at hn
      have P := Lib.hid P
      have RD := Lib.hid fun (w' : World) (b2 : Option Addr) (c2 : Nat) (C : Came w' b2 c2 (partF l j)) => Ref18.Read_came C
      have hlt := readN_lt (partF l j)
      generalize partF l j = p at *
      generalize readN p = rr at *
      obtain ⟨⟨x', y', z'⟩, t, ec⟩ := rr
      simp only [nv] at RD
      have HN := Lib.hid hn
      clear hst hn hS SN
      go_wp2_with fail
      refine P.out.mono ?_; rintro e w1 ⟨b2, c2, rfl, CP, rfl⟩
      have RD := Lib.hid (RD.out _ _ _ CP)
      clear P CP
      go_wp2_with fail
      refine RD.out.mono ?_; rintro e w2 ⟨rfl, hb2⟩
      have S2 := Lib.hid ((HS.out.keep hb2).more [.int .i64 x', .int .i64 y', .int .i64 z'] 26)
      clear RD hb2 HS
      by_cases hec : ec = 0
      · subst hec
        by_cases ha : a < 0
        · have HH := Lib.hid (seen_yes (o := (a, ⟨x, y, z⟩, s)) (r := (⟨x', y', z'⟩, t, 0)) j rfl (Or.inl ha))
          have p0 := S2.out.at 2 rfl 0 rfl
          have p1 := S2.out.at 2 rfl 1 rfl
          have p2 := S2.out.at 2 rfl 2 rfl
          have c0 := S2.out.at 1 rfl 0 rfl; have f0 := S2.out.free 1 rfl 0 rfl
          have c1 := S2.out.at 1 rfl 1 rfl; have f1 := S2.out.free 1 rfl 1 rfl
          have c2 := S2.out.at 1 rfl 2 rfl; have f2 := S2.out.free 1 rfl 2 rfl
          have S3 := Lib.hid ((((S2.out.put 1 rfl 0 (.int .i64 x')).put 1 rfl 1 (.int .i64 y')).put 1 rfl 2 (.int .i64 z')).drew.take 2)
          clear S2
          go_upto_region 7 with fail
          go_region
          go_wp2
          go_roundw
          case rel => exact ⟨j + 1, j, x', y', z', t, by omega, rfl, rfl, rfl, by rw [HN.out, HH.out], S3.out⟩
          case measure => simp [intOf]; omega
        · by_cases ht : s < t
          · have HH := Lib.hid (seen_yes (o := (a, ⟨x, y, z⟩, s)) (r := (⟨x', y', z'⟩, t, 0)) j rfl (Or.inr ht))
            have hd : decide (a < 0) = false := decide_eq_false ha
            clear ha
            have p0 := S2.out.at 2 rfl 0 rfl
            have p1 := S2.out.at 2 rfl 1 rfl
            have p2 := S2.out.at 2 rfl 2 rfl
            have c0 := S2.out.at 1 rfl 0 rfl; have f0 := S2.out.free 1 rfl 0 rfl
            have c1 := S2.out.at 1 rfl 1 rfl; have f1 := S2.out.free 1 rfl 1 rfl
            have c2 := S2.out.at 1 rfl 2 rfl; have f2 := S2.out.free 1 rfl 2 rfl
            have S3 := Lib.hid ((((S2.out.put 1 rfl 0 (.int .i64 x')).put 1 rfl 1 (.int .i64 y')).put 1 rfl 2 (.int .i64 z')).drew.take 2)
            clear S2
            go_upto_region 7 with fail
            go_region
            go_wp2
            go_roundw
            case rel => exact ⟨j + 1, j, x', y', z', t, by omega, rfl, rfl, rfl, by rw [HN.out, HH.out], S3.out⟩
            case measure => simp [intOf]; omega
          · have HH := Lib.hid (seen_old (o := (a, ⟨x, y, z⟩, s)) (r := (⟨x', y', z'⟩, t, 0)) j (fun k => by
              rcases k with k | k
              · exact ha k
              · exact ht k))
            have hd : decide (a < 0) = false := decide_eq_false ha
            have hd2 : decide (s < t) = false := decide_eq_false ht
            clear ha ht
            go_wp2
            go_roundw
            case rel => exact ⟨j + 1, a, x, y, z, s, by omega, rfl, rfl, rfl, by rw [HN.out, HH.out], S2.out.take 2⟩
            case measure => simp [intOf]; omega
      · have HH := Lib.hid (seen_bad (o := (a, ⟨x, y, z⟩, s)) (r := (⟨x', y', z'⟩, t, ec)) j hec)
        have hd : (ec == 0) = false := by simpa using hec
        clear hec
        go_wp2
        go_roundw
        case rel => exact ⟨j + 1, a, x, y, z, s, by omega, rfl, rfl, rfl, by rw [HN.out, HH.out], S2.out.take 2⟩
        case measure => simp [intOf]; omega
    · obtain rfl : j = 2 := by omega
      have hst : newF l = (a, ⟨x, y, z⟩, s) := hst
      have HST := Lib.hid hst
      have p0 := hS.at 1 rfl 0 rfl
      have p1 := hS.at 1 rfl 1 rfl
      have p2 := hS.at 1 rfl 2 rfl
      have c0 := hS.at 0 rfl 0 rfl; have f0 := hS.free 0 rfl 0 rfl
      have c1 := hS.at 0 rfl 1 rfl; have f1 := hS.free 0 rfl 1 rfl
      have c2 := hS.at 0 rfl 2 rfl; have f2 := hS.free 0 rfl 2 rfl
      have HB := Lib.hid hS.below
      clear hst hS NX HC SN HS
      go_upto_region 9 with fail
      go_region
      go_wp2
      refine bodyPost_ret (v := .tuple #[.int .i64 a, nv ⟨x, y, z⟩, .int .u32 s]) (by simp [nv, results, Try.results22, go_sem, *]) rfl ⟨by rw [HST.out], ?_⟩
      exact (below_set3 HB.out _ _ _).drew
end Ref19
end Go.Proofs.Ytdalajfjikbcaaa
