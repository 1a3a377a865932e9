/- SlotBack over Own18. -/
import Derived.Test.YtjhkmhegnlippaaSltSays
namespace Go.Proofs.Ytjhkmhegnlippaa
open Go.RowKit

set_option maxHeartbeats 8000000 in
set_option maxRecDepth 100000 in
theorem back_core (O : Own18) (n : Nt) (s : Nat) (hs : s < 4294967296) (ba : Option Addr) (cap : Nat) (l : List UInt8) (w : World) (C : Came w ba cap l) (h : ¬ (300 : Int) < l.length) :
    Calls Try.prog 4 #[nv n, .int .u32 s, .slice ba l.length cap] w fun e w' => e = .returned (.bool true) ∧ Below w.heap.size w w' := by
  have AW := Lib.hid fun w => awake_any O w
  have OB := O.bytes n s (w.alloc (.cells #[.int .i64 n.ex, .int .i64 n.inh, .int .i64 n.mode] 23)) hs
  have HC := Lib.hid C
  clear C
  cases hr : rightN n
  · rw [bytesN_no s hr] at OB
    obtain ⟨x, y, z⟩ := n
    simp only [nv, List.length_nil] at OB ⊢
    have OB := Lib.hid OB
    have B1 := Lib.hid (below1 w (.cells #[.int .i64 x, .int .i64 y, .int .i64 z] 23))
    clear hr
    go_enter Try.func4, Try.ntmps4
    go_wp2_with fail
    refine OB.out.mono ?_; rintro e w1 ⟨b1, c1, rfl, _, hb1⟩
    have HB1 := Lib.hid (belowT B1.out hb1)
    clear B1 hb1 OB
    have RD := Lib.hid (O.read w1 ba cap l (HC.out.keep HB1.out) (by omega))
    have BK := Lib.hid (fun n s h => read_slot_back l n s h)
    obtain ⟨rr, hrr⟩ : ∃ r, r = readN l := ⟨_, rfl⟩
    rw [← hrr] at RD BK
    obtain ⟨⟨x', y', z'⟩, t, re⟩ := rr
    simp only [nv] at RD
    clear hrr
    go_wp2_with fail
    refine RD.out.mono ?_; rintro e w5 ⟨rfl, hb5⟩
    have HB5 := Lib.hid (belowT (belowT HB1.out hb5) (below1 w5 (.cells #[.int .i64 x', .int .i64 y', .int .i64 z'] 23)))
    have H5 := Lib.hid (hasl w5 [.int .i64 x', .int .i64 y', .int .i64 z'] 23)
    clear RD hb5
    by_cases hre : re = 0
    · subst hre
      obtain ⟨hr', ht, hF⟩ := BK.out _ _ rfl
      have OB2 := O.bytes ⟨x', y', z'⟩ t (w5.alloc (.cells #[.int .i64 x', .int .i64 y', .int .i64 z'] 23)) ht
      rw [bytesN_ok t hr', hF] at OB2
      simp only [nv] at OB2
      have OB2 := Lib.hid OB2
      clear BK hF hr'
      go_wp2_with fail
      refine OB2.out.mono ?_; rintro e w6 ⟨b6, c6, rfl, U6, hb6⟩
      have HB6 := Lib.hid (belowT HB5.out hb6)
      have s1 := U6.string
      have s2 := (HC.out.keep HB6.out).string
      clear OB2 HB5 H5 U6 hb6
      go_wp2_with fail
      refine (AW.out _).mono ?_; rintro e w7 ⟨rfl, hb7⟩
      have HB7 := Lib.hid (belowT HB6.out hb7)
      clear hb7 HB6
      go_wp2
      go_ret
      exact ⟨rfl, HB7.out⟩
    · have hq : (re == 0) = false := by simpa using hre
      clear hre BK H5
      go_wp2_with fail
      refine (AW.out _).mono ?_; rintro e w6 ⟨rfl, hb6⟩
      have HB6 := Lib.hid (belowT HB5.out hb6)
      clear hb6 HB5
      go_wp2
      go_ret
      exact ⟨rfl, HB6.out⟩
  · rw [bytesN_ok s hr] at OB
    have RS := read_slot n s hr hs
    have hl := slot_length n s
    generalize slotN n s = Q at *
    obtain ⟨x, y, z⟩ := n
    simp only [nv, hl] at OB ⊢
    have OB := Lib.hid OB
    have B1 := Lib.hid (below1 w (.cells #[.int .i64 x, .int .i64 y, .int .i64 z] 23))
    have H1 := Lib.hid (hasl w [.int .i64 x, .int .i64 y, .int .i64 z] 23)
    clear hr
    go_enter Try.func4, Try.ntmps4
    go_wp2_with fail
    refine OB.out.mono ?_; rintro e w1 ⟨b1, c1, rfl, U, hb1⟩
    have HB1 := Lib.hid (belowT B1.out hb1)
    have RQ := O.read w1 b1 c1 Q U (by omega)
    rw [RS, hl] at RQ
    simp only [nv] at RQ
    have RQ := Lib.hid RQ
    have H2 := Lib.hid (H1.out.keep hb1)
    clear B1 hb1 OB U RS hl H1
    go_wp2_with fail
    refine RQ.out.mono ?_; rintro e w2 ⟨rfl, hb2⟩
    have hb2a := belowT hb2 (below1 w2 (.cells #[.int .i64 x, .int .i64 y, .int .i64 z] 23))
    have HB2 := Lib.hid (belowT HB1.out hb2a)
    have H3 := H2.out.keep hb2a
    have q0 := H3.at 0 rfl
    have q1 := H3.at 1 rfl
    have q2 := H3.at 2 rfl
    clear RQ hb2 hb2a HB1 H2 H3
    have RD := Lib.hid (O.read (w2.alloc (.cells #[.int .i64 x, .int .i64 y, .int .i64 z] 23)) ba cap l (HC.out.keep HB2.out) (by omega))
    have BK := Lib.hid (fun n s h => read_slot_back l n s h)
    obtain ⟨rr, hrr⟩ : ∃ r, r = readN l := ⟨_, rfl⟩
    rw [← hrr] at RD BK
    obtain ⟨⟨x', y', z'⟩, t, re⟩ := rr
    simp only [nv] at RD
    clear hrr
    go_wp2_with fail
    refine RD.out.mono ?_; rintro e w5 ⟨rfl, hb5⟩
    have HB5 := Lib.hid (belowT (belowT HB2.out hb5) (below1 w5 (.cells #[.int .i64 x', .int .i64 y', .int .i64 z'] 23)))
    have H5 := Lib.hid (hasl w5 [.int .i64 x', .int .i64 y', .int .i64 z'] 23)
    clear RD hb5
    by_cases hre : re = 0
    · subst hre
      obtain ⟨hr', ht, hF⟩ := BK.out _ _ rfl
      have OB2 := O.bytes ⟨x', y', z'⟩ t (w5.alloc (.cells #[.int .i64 x', .int .i64 y', .int .i64 z'] 23)) ht
      rw [bytesN_ok t hr', hF] at OB2
      simp only [nv] at OB2
      have OB2 := Lib.hid OB2
      clear BK hF hr'
      go_wp2_with fail
      refine OB2.out.mono ?_; rintro e w6 ⟨b6, c6, rfl, U6, hb6⟩
      have HB6 := Lib.hid (belowT HB5.out hb6)
      have s1 := U6.string
      have s2 := (HC.out.keep HB6.out).string
      clear OB2 HB5 H5 U6 hb6
      go_wp2_with fail
      refine (AW.out _).mono ?_; rintro e w7 ⟨rfl, hb7⟩
      have HB7 := Lib.hid (belowT HB6.out hb7)
      clear hb7 HB6
      go_wp2
      go_ret
      exact ⟨rfl, HB7.out⟩
    · have hq : (re == 0) = false := by simpa using hre
      clear hre BK H5
      go_wp2_with fail
      refine (AW.out _).mono ?_; rintro e w6 ⟨rfl, hb6⟩
      have HB6 := Lib.hid (belowT HB5.out hb6)
      clear hb6 HB5
      go_wp2
      go_ret
      exact ⟨rfl, HB6.out⟩

theorem Back18_all (O : Own18) (n : Nt) (s : Nat) (hs : s < 4294967296) (ba : Option Addr) (cap : Nat) (l : List UInt8) (w : World) (C : Came w ba cap l) :
    Calls Try.prog 4 #[nv n, .int .u32 s, .slice ba l.length cap] w fun e w' => e = .returned (.bool true) ∧ Below w.heap.size w w' := by
  by_cases h : (300 : Int) < l.length
  · exact back_long O n s ba l.length cap w h
  · exact back_core O n s hs ba cap l w C h
end Go.Proofs.Ytjhkmhegnlippaa
