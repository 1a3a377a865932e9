/- StreamPieces over Own15. -/
import Derived.Test.YtnafodnaolmffaaStrFinds
import Derived.Test.YtnafodnaolmffaaRun
import Derived.Test.YtnafodnaolmffaaOpenRuns
namespace Go.Proofs.Ytnafodnaolmffaa
open Go.RowKit

theorem runs_next (ls : List (List UInt8)) (j : Nat) (h : j < ls.length) : (ls.take (j + 1)).flatten = (ls.take j).flatten ++ ls.getD j [] := by
  rw [List.take_add_one, List.getElem?_eq_getElem h, Option.toList_some, List.flatten_append]
  simp [List.getD, h]

set_option maxHeartbeats 8000000 in
set_option maxRecDepth 100000 in
theorem pieces_core (O : Own15) {w : World} {ba : Option Addr} {ca : Nat} {ls : List (List UInt8)} (A : CameRuns w ba ca ls) (h1 : (ls.length : Int) ≤ 20) :
    Calls Try.prog 4 #[.slice ba ls.length ca] w fun e w' => e = .returned (.bool true) ∧ Below w.heap.size w w' := by
  have AW := Lib.hid (awake_any O)
  have HA := Lib.hid A
  clear A
  go_enter Try.func4, Try.ntmps4
  go_wp2
  go_loopw [3, 4, 5, 6, 21] (fun v p g k i wr => ∃ (j : Nat) (pa : Option Addr) (pc n m : Nat) (L : List UInt8) (G : List Fr) (R : List UInt8), j ≤ ls.length ∧ i = .int .i64 j ∧ L = (ls.take j).flatten ∧ L.length ≤ 200 * j ∧ splitF L = (G, n, m) ∧ R = L.drop n ∧
    k = .int .i64 m ∧ Bytes w.heap.size w wr v L ∧ p = .slice pa R.length pc ∧ Came wr pa pc R ∧ (∀ a, pa = some a → v.ownBlock ≠ some a.block) ∧ Frs w.heap.size w wr g G) (fun _ _ _ _ i => fun _ => ls.length - (intOf i).toNat)
  case atStart => exact ⟨0, none, 0, 0, 0, [], [], [], Nat.zero_le _, rfl, rfl, Nat.le_refl _, split_nil, rfl, rfl, bytes_nil w, rfl, none_come w, (fun a h => by cases h), Frs.nil w⟩
  case round =>
    obtain ⟨j, pa, pc, n, m, L, G, R, hj, rfl, hL, hlen, hsp, hR, rfl, hb, rfl, hp, hoff, hg⟩ := hrel
    have hR11 : R.length < 11 := by
      have := (split_end L.length L (Nat.le_refl _)).2
      rw [hsp] at this
      rw [hR]; exact this
    have hsz := split_size L.length L (Nat.le_refl _)
    rw [hsp] at hsz
    simp only at hsz
    by_cases hc : (j : Int) < ls.length
    · obtain ⟨b, o, rfl, L0⟩ := HA.out.lies (by omega)
      obtain ⟨qa, qc, k00, C00⟩ := L0 j (by omega)
      have k0 := keepc hb.below k00
      have hn := runs_next ls j (by omega)
      have hd : (j : Int) ≥ 0 := by omega
      have x1 := C00.le
      have x2 := C00.max
      unfold maxLen at x2
      clear L0 k00
      generalize ls.getD j [] = x at *
      have hx : (x.length : Int) ≤ 9223372036854775807 := by omega
      by_cases h200 : (200 : Int) < x.length
      · have HB := Lib.hid hb.below
        clear hb hp hoff hg hsp hR hL hn hlen hR11 hsz C00 x1 x2
        go_wp2_with fail
        refine (AW.out _).mono ?_; rintro e w1 ⟨rfl, hb1⟩
        have HB1 := Lib.hid (belowT HB.out hb1)
        clear hb1 HB AW
        go_wp2
        go_ret
        exact ⟨rfl, HB1.out⟩
      · have HX := Lib.hid C00
        have hLx : (L ++ x).length ≤ 200 * (j + 1) := by rw [List.length_append]; omega
        obtain ⟨s2, hs2⟩ : ∃ s, s = splitF (R ++ x) := ⟨_, rfl⟩
        obtain ⟨G2, n2, m2⟩ := s2
        have hz2 := split_size (R ++ x).length (R ++ x) (Nat.le_refl _)
        have hpc := split_piece (b := x) hsp
        rw [← hR, ← hs2] at hpc
        rw [← hs2, List.length_append] at hz2
        simp only at hz2 hpc
        have HS2 := Lib.hid hs2
        have HL := Lib.hid (show L ++ x = (ls.take (j + 1)).flatten by rw [hn, hL])
        have HPC := Lib.hid hpc
        have HLx := Lib.hid hLx
        have r1 : L.length + x.length ≤ 140737488355328 := by omega
        have r2 : R.length + x.length ≤ 4000 := by omega
        have r3 : G.length + G2.length ≤ 1000000000000 := by omega
        have m3 : (m : Int) + m2 ≤ 9223372036854775807 := by omega
        have m4 : (m : Int) + m2 ≥ 0 := by omega
        have HB := Lib.hid hb
        have HG := Lib.hid hg
        have HP := Lib.hid hp
        have HO := Lib.hid hoff
        clear hb hp hoff hg hsp hR hL hn hlen hR11 hsz C00 x1 x2 hpc hz2 hs2 hLx
        go_wp2_with (at_builtin; refine list_append_came3 (v := u3) (m := x) (ba := qa) (c := qc) (u := u5) rfl rfl rfl HB.out HG.out rfl (HX.out.keep HB.out.below) r1 ?_)
        intro v' w' hb' hg' gr'
        have hp' := HP.out.grown gr' (fun a e => HO.out a e)
        have FD := O.feed w' pa qa pc qc R x hp' (HX.out.keep hb'.below) r2
        rw [← HS2.out] at FD
        simp only at FD
        obtain ⟨R2, hR2⟩ : ∃ q, q = (R ++ x).drop n2 := ⟨_, rfl⟩
        rw [← hR2] at FD
        have HR2 := Lib.hid hR2
        clear hR2
        have HB2 := Lib.hid hb'
        have HG2 := Lib.hid hg'
        clear hb' hg' gr' hp' HB HG HP HO
        go_wp2_with fail
        refine FD.mono ?_; rintro e w3 ⟨va, vc, ua, uc, rfl, hf3, hc3, hb3, hnew⟩
        have HB3 := Lib.hid (HB2.out.keep hb3)
        have HG3 := Lib.hid (HG2.out.keep hb3)
        have HF3 := Lib.hid hf3
        have HC3 := Lib.hid hc3
        have HN := Lib.hid hnew
        have HV : Hid (∀ a, ua = some a → v'.ownBlock ≠ some a.block) := Lib.hid fun a e k => absurd (HB2.out.1.lt _ k).2 (Nat.not_lt.2 (hnew a e))
        have HU : Hid (∀ a, ua = some a → u5.ownBlock ≠ some a.block) := Lib.hid fun a e k => absurd (HG2.out.1.lt _ k).2 (Nat.not_lt.2 (hnew a e))
        clear FD hf3 hc3 hb3 hnew HB2 HG2
        go_wp2_with (at_builtin; refine list_append_frs (v := u5) (u := v') (m := G2) (ba := va) (c := vc) rfl rfl rfl HG3.out HB3.out rfl HF3.out r3 ?_)
        intro g4 w4 hg4 hb4 gr4
        have HC4 := Lib.hid (HC3.out.grown gr4 HU.out)
        have HB4 := Lib.hid hb4
        have HG4 := Lib.hid hg4
        clear hg4 hb4 gr4 HB3 HG3 HF3 HC3 HU
        go_wp2
        go_roundw
        case rel => exact ⟨j + 1, ua, uc, n + n2, m + m2, L ++ x, G ++ G2, R2, by omega, rfl, HL.out, HLx.out, HPC.out.1, by rw [HR2.out]; exact HPC.out.2.symm, by rw [Int.natCast_add], HB4.out, rfl, HC4.out, HV.out, HG4.out⟩
        case measure => simp [intOf]; omega
    · obtain rfl : j = ls.length := by omega
      have hLs : L.length ≤ 4000 := by omega
      obtain ⟨bL, cL, rfl, CL⟩ := hb.came
      obtain ⟨bG, cG, rfl, CG⟩ := hg.came
      have FD := O.feed wr none bL 0 cL [] L (none_come _) CL (by rw [List.length_nil]; omega)
      have e0 : ([] : List UInt8) ++ L = L := rfl
      rw [e0, hsp] at FD
      simp only at FD
      rw [← hR] at FD
      have HW := Lib.hid hb.below
      have HG := Lib.hid CG
      have HP := Lib.hid hp
      have hR2 : (R.length : Int) < 11 := by omega
      clear hb hg hp hoff hsp hR hL hlen hsz CL CG e0 hR11
      go_wp2_with fail
      refine FD.mono ?_; rintro e w7 ⟨va, vc, ua, uc, rfl, hf7, hc7, hb7, _⟩
      have H8 := Lib.hid (belowT HW.out hb7)
      have SM := Same_came (HG.out.keep hb7) hf7
      rw [decide_eq_true rfl] at SM
      have HP7 := Lib.hid (HP.out.keep hb7)
      have HC7 := Lib.hid hc7
      clear FD hf7 hb7 hc7 HW HG HP
      go_wp2_with fail
      refine SM.mono ?_; rintro e w8 ⟨rfl, hb8⟩
      have H9 := Lib.hid (belowT H8.out hb8)
      have q1 := (HP7.out.keep hb8).string
      have q2 := (HC7.out.keep hb8).string
      clear SM hb8 H8 HP7 HC7
      go_wp2_with fail
      refine (AW.out w8).mono ?_; rintro e w9 ⟨rfl, hb9⟩
      have H10 := Lib.hid (belowT H9.out hb9)
      clear AW hb9 H9
      go_wp2
      go_ret
      exact ⟨rfl, H10.out⟩

theorem pieces_long (ba : Option Addr) (la ca : Nat) (w : World) (_h1 : (la : Int) ≤ 9223372036854775807) (hl : (20 : Int) < la)
    (AW : Hid (∀ w, Calls Try.prog 7 #[] w fun e w' => e = .returned (.bool true) ∧ Below w.heap.size w w')) :
    Calls Try.prog 4 #[.slice ba la ca] w fun e w' => e = .returned (.bool true) ∧ Below w.heap.size w w' := by
  go_enter Try.func4, Try.ntmps4
  go_wp2_with fail
  refine (AW.out _).mono ?_; rintro e w1 ⟨rfl, hb1⟩
  go_wp2_with fail
  go_ret
  exact ⟨rfl, hb1⟩

theorem pieces_any (O : Own15) {w : World} {ba : Option Addr} {ca : Nat} {ls : List (List UInt8)} (A : CameRuns w ba ca ls) :
    Calls Try.prog 4 #[.slice ba ls.length ca] w fun e w' => e = .returned (.bool true) ∧ Below w.heap.size w w' := by
  have a1 := A.le
  have a2 := A.max
  unfold maxLen at a2
  by_cases h1 : (20 : Int) < ls.length
  · exact pieces_long ba _ ca w (by omega) h1 (Lib.hid (awake_any O))
  · exact pieces_core O A (by omega)
end Go.Proofs.Ytnafodnaolmffaa
