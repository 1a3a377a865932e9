/- The landed mat's own contracts (commit f8f2e27): Power. -/
import Derived.Test.YtjdpcmcekockgaaMatOwnB
import Derived.Test.YtjdpcmcekockgaaMatPow
namespace Go.Proofs.Ytjdpcmcekockgaa
open Go.RowKit
namespace Own8
set_option maxHeartbeats 8000000 in
set_option maxRecDepth 100000 in
theorem Power_any (m : M3) (n : Int) (c : Nat) (hc : max 0 (min n 100) = (c : Int)) (w : World) :
    Calls Try.prog 19 #[mv m, .int .i64 n] w fun e w' => e = .returned (mv (m.pow c)) ∧ Below w.heap.size w w' := by
  have UN := Unit_any 1
  rw [show ((1 : BitVec 64).toInt) = 1 by decide] at UN
  replace UN := Lib.hid UN
  have MU := Lib.hid fun k w => Mul_any (m.pow k) m w
  have hc1 : (c : Int) ≤ 100 := by omega
  obtain ⟨q, hq⟩ : ∃ q : Int, min n 100 = q := ⟨_, rfl⟩
  rw [hq] at hc
  have i1 : ∀ w1, Below ((w.alloc (.cells (ml m).toArray 25)).alloc (.cells #[.int .i64 0, .int .i64 0, .int .i64 0, .int .i64 0, .int .i64 0, .int .i64 0, .int .i64 0, .int .i64 0, .int .i64 0] 25)).heap.size ((w.alloc (.cells (ml m).toArray 25)).alloc (.cells #[.int .i64 0, .int .i64 0, .int .i64 0, .int .i64 0, .int .i64 0, .int .i64 0, .int .i64 0, .int .i64 0, .int .i64 0] 25)) w1 →
      w.heap.size + 2 ≤ w1.heap.size ∧ St w (powB w w1 m (m.pow 0)) (w1.alloc (.cells (ml (M3.unit 1)).toArray 25)) := by
    intro w1 hb
    have h0 := ((St.none w).more (ml m) 25).more [.int .i64 0, .int .i64 0, .int .i64 0, .int .i64 0, .int .i64 0, .int .i64 0, .int .i64 0, .int .i64 0, .int .i64 0] 25
    have h1 := (h0.keep hb).more (ml (M3.unit 1)) 25
    have hs := hb.size
    rw [heap1, heap1] at hs
    refine ⟨by omega, ?_⟩
    rw [heap1] at h1
    refine ⟨h1.below, fun p hp => ?_⟩
    unfold powB at hp
    simp only [List.mem_cons, List.not_mem_nil, or_false] at hp
    rcases hp with rfl | rfl | rfl
    · exact h1.cells 0 rfl
    · exact (h1.cells 1 rfl).blank
    · exact h1.cells 2 rfl
  have I1 := Lib.hid i1
  clear i1
  go_enter Try.func19, Try.ntmps19
  go_wp2_with fail
  refine (UN.out _).mono ?_; rintro e w1 ⟨rfl, hb1⟩
  obtain ⟨hz, hS0⟩ := I1.out w1 hb1
  have HS0 := Lib.hid hS0
  have ap0 := fun p => powB_apart w w1 m p hz
  clear hS0 hb1 I1 UN
  go_wp2_with fail
  go_loopw [9] (fun iv wr => ∃ k : Nat, k ≤ c ∧ iv = .int .i64 k ∧ St w (powB w w1 m (m.pow k)) wr) (fun iv _ => c - (intOf iv).toNat)
  case atStart => exact ⟨0, by omega, rfl, HS0.out⟩
  case round =>
    clear HS0
    obtain ⟨k, hk, rfl, hS⟩ := hrel
    by_cases hck : (k : Int) < q
    · have MK := MU.out k
      rw [show (m.pow k).mul m = m.pow (k + 1) from rfl] at MK
      have MH := Lib.hid MK
      clear MK
      have nx : ∀ w', St w (powB w w1 m (m.pow k)) w' → St w (powB w w1 m (m.pow (k + 1))) (((((((((w'.setCell ⟨w1.heap.size, 0, none⟩ (.int .i64 (m.pow (k + 1)).a.x.toInt)).setCell ⟨w1.heap.size, 1, none⟩ (.int .i64 (m.pow (k + 1)).a.y.toInt)).setCell ⟨w1.heap.size, 2, none⟩ (.int .i64 (m.pow (k + 1)).a.z.toInt)).setCell ⟨w1.heap.size, 3, none⟩ (.int .i64 (m.pow (k + 1)).b.x.toInt)).setCell ⟨w1.heap.size, 4, none⟩ (.int .i64 (m.pow (k + 1)).b.y.toInt)).setCell ⟨w1.heap.size, 5, none⟩ (.int .i64 (m.pow (k + 1)).b.z.toInt)).setCell ⟨w1.heap.size, 6, none⟩ (.int .i64 (m.pow (k + 1)).c.x.toInt)).setCell ⟨w1.heap.size, 7, none⟩ (.int .i64 (m.pow (k + 1)).c.y.toInt)).setCell ⟨w1.heap.size, 8, none⟩ (.int .i64 (m.pow (k + 1)).c.z.toInt)) := fun w' h => (((((((((h.put (ap0 _) 2 rfl (by omega) 0 _).put ((ap0 _).put rfl _) 2 rfl (by omega) 1 _).put (((ap0 _).put rfl _).put rfl _) 2 rfl (by omega) 2 _).put ((((ap0 _).put rfl _).put rfl _).put rfl _) 2 rfl (by omega) 3 _).put (((((ap0 _).put rfl _).put rfl _).put rfl _).put rfl _) 2 rfl (by omega) 4 _).put ((((((ap0 _).put rfl _).put rfl _).put rfl _).put rfl _).put rfl _) 2 rfl (by omega) 5 _).put (((((((ap0 _).put rfl _).put rfl _).put rfl _).put rfl _).put rfl _).put rfl _) 2 rfl (by omega) 6 _).put ((((((((ap0 _).put rfl _).put rfl _).put rfl _).put rfl _).put rfl _).put rfl _).put rfl _) 2 rfl (by omega) 7 _).put (((((((((ap0 _).put rfl _).put rfl _).put rfl _).put rfl _).put rfl _).put rfl _).put rfl _).put rfl _) 2 rfl (by omega) 8 _)
      have NX := Lib.hid nx
      have a0 := hS.at 0 rfl 0 (v := .int .i64 m.a.x.toInt) rfl
      have a1 := hS.at 0 rfl 1 (v := .int .i64 m.a.y.toInt) rfl
      have a2 := hS.at 0 rfl 2 (v := .int .i64 m.a.z.toInt) rfl
      have a3 := hS.at 0 rfl 3 (v := .int .i64 m.b.x.toInt) rfl
      have a4 := hS.at 0 rfl 4 (v := .int .i64 m.b.y.toInt) rfl
      have a5 := hS.at 0 rfl 5 (v := .int .i64 m.b.z.toInt) rfl
      have a6 := hS.at 0 rfl 6 (v := .int .i64 m.c.x.toInt) rfl
      have a7 := hS.at 0 rfl 7 (v := .int .i64 m.c.y.toInt) rfl
      have a8 := hS.at 0 rfl 8 (v := .int .i64 m.c.z.toInt) rfl
      have b0 := hS.at 2 rfl 0 (v := .int .i64 (m.pow k).a.x.toInt) rfl
      have b1 := hS.at 2 rfl 1 (v := .int .i64 (m.pow k).a.y.toInt) rfl
      have b2 := hS.at 2 rfl 2 (v := .int .i64 (m.pow k).a.z.toInt) rfl
      have b3 := hS.at 2 rfl 3 (v := .int .i64 (m.pow k).b.x.toInt) rfl
      have b4 := hS.at 2 rfl 4 (v := .int .i64 (m.pow k).b.y.toInt) rfl
      have b5 := hS.at 2 rfl 5 (v := .int .i64 (m.pow k).b.z.toInt) rfl
      have b6 := hS.at 2 rfl 6 (v := .int .i64 (m.pow k).c.x.toInt) rfl
      have b7 := hS.at 2 rfl 7 (v := .int .i64 (m.pow k).c.y.toInt) rfl
      have b8 := hS.at 2 rfl 8 (v := .int .i64 (m.pow k).c.z.toInt) rfl
      have HS := Lib.hid hS
      clear hS nx ap0
      go_wp2_with fail
      refine (MH.out _).mono ?_; rintro e w2 ⟨rfl, hb2⟩
      have hS2 := HS.out.keep hb2
      have N1 := Lib.hid (NX.out _ hS2)
      obtain ⟨y0, g0, q0⟩ := hS2.there 2 rfl 0 rfl
      obtain ⟨y1, g1, q1⟩ := hS2.there 2 rfl 1 rfl
      obtain ⟨y2, g2, q2⟩ := hS2.there 2 rfl 2 rfl
      obtain ⟨y3, g3, q3⟩ := hS2.there 2 rfl 3 rfl
      obtain ⟨y4, g4, q4⟩ := hS2.there 2 rfl 4 rfl
      obtain ⟨y5, g5, q5⟩ := hS2.there 2 rfl 5 rfl
      obtain ⟨y6, g6, q6⟩ := hS2.there 2 rfl 6 rfl
      obtain ⟨y7, g7, q7⟩ := hS2.there 2 rfl 7 rfl
      obtain ⟨y8, g8, q8⟩ := hS2.there 2 rfl 8 rfl
      clear hS2 hb2 HS NX
      go_wp2_with fail
      go_roundw
      case rel => exact ⟨k + 1, by omega, rfl, N1.out⟩
      case measure => simp [intOf]; omega
    · obtain rfl : k = c := by omega
      clear hc
      have hB := hS.below
      have k0 := hS.at 2 rfl 0 (v := .int .i64 (m.pow k).a.x.toInt) rfl
      have k1 := hS.at 2 rfl 1 (v := .int .i64 (m.pow k).a.y.toInt) rfl
      have k2 := hS.at 2 rfl 2 (v := .int .i64 (m.pow k).a.z.toInt) rfl
      have k3 := hS.at 2 rfl 3 (v := .int .i64 (m.pow k).b.x.toInt) rfl
      have k4 := hS.at 2 rfl 4 (v := .int .i64 (m.pow k).b.y.toInt) rfl
      have k5 := hS.at 2 rfl 5 (v := .int .i64 (m.pow k).b.z.toInt) rfl
      have k6 := hS.at 2 rfl 6 (v := .int .i64 (m.pow k).c.x.toInt) rfl
      have k7 := hS.at 2 rfl 7 (v := .int .i64 (m.pow k).c.y.toInt) rfl
      have k8 := hS.at 2 rfl 8 (v := .int .i64 (m.pow k).c.z.toInt) rfl
      obtain ⟨y0, g0, q0⟩ := hS.there 1 rfl 0 rfl
      obtain ⟨y1, g1, q1⟩ := hS.there 1 rfl 1 rfl
      obtain ⟨y2, g2, q2⟩ := hS.there 1 rfl 2 rfl
      obtain ⟨y3, g3, q3⟩ := hS.there 1 rfl 3 rfl
      obtain ⟨y4, g4, q4⟩ := hS.there 1 rfl 4 rfl
      obtain ⟨y5, g5, q5⟩ := hS.there 1 rfl 5 rfl
      obtain ⟨y6, g6, q6⟩ := hS.there 1 rfl 6 rfl
      obtain ⟨y7, g7, q7⟩ := hS.there 1 rfl 7 rfl
      obtain ⟨y8, g8, q8⟩ := hS.there 1 rfl 8 rfl
      have BH := Lib.hid hB
      clear hS hB ap0
      go_wp2
      refine bodyPost_ret (v := mv (m.pow k)) (by simp [mv, ml, results, Try.results19, go_sem, *]) rfl ⟨rfl, ?_⟩
      iterate 9 refine Below.setCell (p := ⟨w.heap.size + 1, _, none⟩) ?_ (show w.heap.size ≤ w.heap.size + 1 by omega) _
      exact BH.out
end Own8
end Go.Proofs.Ytjdpcmcekockgaa
