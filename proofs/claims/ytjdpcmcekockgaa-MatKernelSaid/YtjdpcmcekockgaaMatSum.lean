/- Sum of the document's own answers for layer 8. -/
import Derived.Test.YtjdpcmcekockgaaMatMul
import Derived.Test.YtjdpcmcekockgaaVecAdd
import Derived.Deep.RegionWith
namespace Go.Proofs.Ytjdpcmcekockgaa
open Go.RowKit
def M3.sum (a : M3) (k : BitVec 64) (b : M3) : M3 := ⟨a.a.add (b.a.scale k), a.b.add (b.b.scale k), a.c.add (b.c.scale k)⟩
/-- a's block, its first n numbers made; b's, the result's -/
def sumB (w : World) (a b s : M3) (n : Nat) : List (Nat × List (Option Value)) := [(w.heap.size, ((ml s).take n ++ (ml a).drop n).map some), (w.heap.size + 1, (ml b).map some), (w.heap.size + 1 + 1, List.replicate 9 none)]
theorem sumB_apart (w : World) (a b s : M3) (n : Nat) : Apart (sumB w a b s n) := by
  unfold Apart sumB
  simp
  omega
namespace Ref8
set_option maxHeartbeats 8000000 in
set_option maxRecDepth 100000 in
theorem Sum_any (a : M3) (k : BitVec 64) (b : M3) (w : World) :
    Calls Try.prog 25 #[mv a, .int .i64 k.toInt, mv b] w fun e w' => e = .returned (mv (a.sum k b)) ∧ Below w.heap.size w w' := by
  obtain ⟨s, hs⟩ : ∃ s, s = a.sum k b := ⟨_, rfl⟩
  rw [← hs]
  have ra0 : a.a.add (b.a.scale k) = s.a := by rw [hs]; rfl
  have AD0 := fun w => Ref7.Add_any a.a (b.a.scale k) w
  rw [ra0] at AD0
  replace AD0 := Lib.hid AD0
  have SC0 := Lib.hid fun w => Ref7.Scale_any b.a k w
  have ra1 : a.b.add (b.b.scale k) = s.b := by rw [hs]; rfl
  have AD1 := fun w => Ref7.Add_any a.b (b.b.scale k) w
  rw [ra1] at AD1
  replace AD1 := Lib.hid AD1
  have SC1 := Lib.hid fun w => Ref7.Scale_any b.b k w
  have ra2 : a.c.add (b.c.scale k) = s.c := by rw [hs]; rfl
  have AD2 := fun w => Ref7.Add_any a.c (b.c.scale k) w
  rw [ra2] at AD2
  replace AD2 := Lib.hid AD2
  have SC2 := Lib.hid fun w => Ref7.Scale_any b.c k w
  clear hs ra0 ra1 ra2
  generalize b.a.scale k = t0 at *; generalize b.b.scale k = t1 at *; generalize b.c.scale k = t2 at *
  have i1 : St w (sumB w a b s 0) (((w.alloc (.cells (ml a).toArray 25)).alloc (.cells (ml b).toArray 25)).alloc (.cells #[.int .i64 0, .int .i64 0, .int .i64 0, .int .i64 0, .int .i64 0, .int .i64 0, .int .i64 0, .int .i64 0, .int .i64 0] 25)) := by
    have h0 := (((St.none w).more (ml a) 25).more (ml b) 25).more [.int .i64 0, .int .i64 0, .int .i64 0, .int .i64 0, .int .i64 0, .int .i64 0, .int .i64 0, .int .i64 0, .int .i64 0] 25
    rw [heap1, heap1] at h0
    have e2 : (w.alloc (.cells (ml a).toArray 25)).heap.size + 1 = w.heap.size + 1 + 1 := by rw [heap1]
    refine ⟨h0.below, fun p hp => ?_⟩
    unfold sumB at hp
    simp only [List.mem_cons, List.not_mem_nil, or_false] at hp
    rcases hp with rfl | rfl | rfl
    · exact h0.cells 0 rfl
    · exact h0.cells 1 rfl
    · have h2 := (h0.cells 2 rfl).blank
      rw [e2] at h2; exact h2
  have I1 := Lib.hid i1
  clear i1
  have ap0 := fun n => sumB_apart w a b s n
  go_enter Try.func25, Try.ntmps25
  go_wp2_with fail
  go_loopw [8] (fun iv wr => ∃ i : Nat, i ≤ 3 ∧ iv = .int .i64 i ∧ St w (sumB w a b s (3 * i)) wr) (fun iv _ => 3 - (intOf iv).toNat)
  case atStart => exact ⟨0, by omega, rfl, I1.out⟩
  case round =>
    clear I1
    obtain ⟨i, hi, rfl, hS⟩ := hrel
    rcases (show i = 0 ∨ i = 1 ∨ i = 2 ∨ i = 3 by omega) with rfl | rfl | rfl | rfl
    · have ap := ap0 0
      have nx : ∀ w', St w (sumB w a b s 0) w' → St w (sumB w a b s 3) (((w'.setCell ⟨w.heap.size, 0, none⟩ (.int .i64 s.a.x.toInt)).setCell ⟨w.heap.size, 1, none⟩ (.int .i64 s.a.y.toInt)).setCell ⟨w.heap.size, 2, none⟩ (.int .i64 s.a.z.toInt)) := fun w' h => ((h.put ap 0 rfl (by omega) 0 _).put (ap.put rfl _) 0 rfl (by omega) 1 _).put ((ap.put rfl _).put rfl _) 0 rfl (by omega) 2 _
      have NX := Lib.hid nx
      have a0 := hS.at 0 rfl 0 (v := .int .i64 a.a.x.toInt) rfl
      have b0 := hS.at 1 rfl 0 (v := .int .i64 b.a.x.toInt) rfl
      have a1 := hS.at 0 rfl 1 (v := .int .i64 a.a.y.toInt) rfl
      have b1 := hS.at 1 rfl 1 (v := .int .i64 b.a.y.toInt) rfl
      have a2 := hS.at 0 rfl 2 (v := .int .i64 a.a.z.toInt) rfl
      have b2 := hS.at 1 rfl 2 (v := .int .i64 b.a.z.toInt) rfl
      have HS := Lib.hid hS
      have SC := SC0; have AD := AD0
      clear hS nx ap ap0 SC0 SC1 SC2 AD0 AD1 AD2
      go_upto_region 4 with fail
      go_region_with (first | (go_at_call 46; refine (SC.out _).mono ?_; rintro e w2 ⟨rfl, hb2⟩; have S2 := HS.out.drew.keep hb2; have c0 := S2.at 0 rfl 0 (v := .int .i64 a.a.x.toInt) rfl; have c1 := S2.at 0 rfl 1 (v := .int .i64 a.a.y.toInt) rfl; have c2 := S2.at 0 rfl 2 (v := .int .i64 a.a.z.toInt) rfl; have HS2 := Lib.hid S2; clear S2 hb2) | (go_at_call 45; refine (AD.out _).mono ?_; rintro e w3 ⟨rfl, hb3⟩; have S3 := HS2.out.keep hb3; have N1 := Lib.hid (NX.out _ S3); obtain ⟨y0, g0, q0⟩ := S3.there 0 rfl 0 rfl; obtain ⟨y1, g1, q1⟩ := S3.there 0 rfl 1 rfl; obtain ⟨y2, g2, q2⟩ := S3.there 0 rfl 2 rfl; clear S3 hb3))
      all_goals
        go_wp2_with fail
        go_roundw
        case rel => exact ⟨1, by omega, rfl, N1.out⟩
        case measure => simp [intOf]
    · have ap := ap0 3
      have nx : ∀ w', St w (sumB w a b s 3) w' → St w (sumB w a b s 6) (((w'.setCell ⟨w.heap.size, 3, none⟩ (.int .i64 s.b.x.toInt)).setCell ⟨w.heap.size, 4, none⟩ (.int .i64 s.b.y.toInt)).setCell ⟨w.heap.size, 5, none⟩ (.int .i64 s.b.z.toInt)) := fun w' h => ((h.put ap 0 rfl (by omega) 3 _).put (ap.put rfl _) 0 rfl (by omega) 4 _).put ((ap.put rfl _).put rfl _) 0 rfl (by omega) 5 _
      have NX := Lib.hid nx
      have a0 := hS.at 0 rfl 3 (v := .int .i64 a.b.x.toInt) rfl
      have b0 := hS.at 1 rfl 3 (v := .int .i64 b.b.x.toInt) rfl
      have a1 := hS.at 0 rfl 4 (v := .int .i64 a.b.y.toInt) rfl
      have b1 := hS.at 1 rfl 4 (v := .int .i64 b.b.y.toInt) rfl
      have a2 := hS.at 0 rfl 5 (v := .int .i64 a.b.z.toInt) rfl
      have b2 := hS.at 1 rfl 5 (v := .int .i64 b.b.z.toInt) rfl
      have HS := Lib.hid hS
      have SC := SC1; have AD := AD1
      clear hS nx ap ap0 SC0 SC1 SC2 AD0 AD1 AD2
      go_upto_region 4 with fail
      go_region_with (first | (go_at_call 46; refine (SC.out _).mono ?_; rintro e w2 ⟨rfl, hb2⟩; have S2 := HS.out.drew.keep hb2; have c0 := S2.at 0 rfl 3 (v := .int .i64 a.b.x.toInt) rfl; have c1 := S2.at 0 rfl 4 (v := .int .i64 a.b.y.toInt) rfl; have c2 := S2.at 0 rfl 5 (v := .int .i64 a.b.z.toInt) rfl; have HS2 := Lib.hid S2; clear S2 hb2) | (go_at_call 45; refine (AD.out _).mono ?_; rintro e w3 ⟨rfl, hb3⟩; have S3 := HS2.out.keep hb3; have N1 := Lib.hid (NX.out _ S3); obtain ⟨y0, g0, q0⟩ := S3.there 0 rfl 3 rfl; obtain ⟨y1, g1, q1⟩ := S3.there 0 rfl 4 rfl; obtain ⟨y2, g2, q2⟩ := S3.there 0 rfl 5 rfl; clear S3 hb3))
      all_goals
        go_wp2_with fail
        go_roundw
        case rel => exact ⟨2, by omega, rfl, N1.out⟩
        case measure => simp [intOf]
    · have ap := ap0 6
      have nx : ∀ w', St w (sumB w a b s 6) w' → St w (sumB w a b s 9) (((w'.setCell ⟨w.heap.size, 6, none⟩ (.int .i64 s.c.x.toInt)).setCell ⟨w.heap.size, 7, none⟩ (.int .i64 s.c.y.toInt)).setCell ⟨w.heap.size, 8, none⟩ (.int .i64 s.c.z.toInt)) := fun w' h => ((h.put ap 0 rfl (by omega) 6 _).put (ap.put rfl _) 0 rfl (by omega) 7 _).put ((ap.put rfl _).put rfl _) 0 rfl (by omega) 8 _
      have NX := Lib.hid nx
      have a0 := hS.at 0 rfl 6 (v := .int .i64 a.c.x.toInt) rfl
      have b0 := hS.at 1 rfl 6 (v := .int .i64 b.c.x.toInt) rfl
      have a1 := hS.at 0 rfl 7 (v := .int .i64 a.c.y.toInt) rfl
      have b1 := hS.at 1 rfl 7 (v := .int .i64 b.c.y.toInt) rfl
      have a2 := hS.at 0 rfl 8 (v := .int .i64 a.c.z.toInt) rfl
      have b2 := hS.at 1 rfl 8 (v := .int .i64 b.c.z.toInt) rfl
      have HS := Lib.hid hS
      have SC := SC2; have AD := AD2
      clear hS nx ap ap0 SC0 SC1 SC2 AD0 AD1 AD2
      go_upto_region 4 with fail
      go_region_with (first | (go_at_call 46; refine (SC.out _).mono ?_; rintro e w2 ⟨rfl, hb2⟩; have S2 := HS.out.drew.keep hb2; have c0 := S2.at 0 rfl 6 (v := .int .i64 a.c.x.toInt) rfl; have c1 := S2.at 0 rfl 7 (v := .int .i64 a.c.y.toInt) rfl; have c2 := S2.at 0 rfl 8 (v := .int .i64 a.c.z.toInt) rfl; have HS2 := Lib.hid S2; clear S2 hb2) | (go_at_call 45; refine (AD.out _).mono ?_; rintro e w3 ⟨rfl, hb3⟩; have S3 := HS2.out.keep hb3; have N1 := Lib.hid (NX.out _ S3); obtain ⟨y0, g0, q0⟩ := S3.there 0 rfl 6 rfl; obtain ⟨y1, g1, q1⟩ := S3.there 0 rfl 7 rfl; obtain ⟨y2, g2, q2⟩ := S3.there 0 rfl 8 rfl; clear S3 hb3))
      all_goals
        go_wp2_with fail
        go_roundw
        case rel => exact ⟨3, by omega, rfl, N1.out⟩
        case measure => simp [intOf]
    · have hB := hS.below
      have k0 := hS.at 0 rfl 0 (v := .int .i64 s.a.x.toInt) rfl
      have k1 := hS.at 0 rfl 1 (v := .int .i64 s.a.y.toInt) rfl
      have k2 := hS.at 0 rfl 2 (v := .int .i64 s.a.z.toInt) rfl
      have k3 := hS.at 0 rfl 3 (v := .int .i64 s.b.x.toInt) rfl
      have k4 := hS.at 0 rfl 4 (v := .int .i64 s.b.y.toInt) rfl
      have k5 := hS.at 0 rfl 5 (v := .int .i64 s.b.z.toInt) rfl
      have k6 := hS.at 0 rfl 6 (v := .int .i64 s.c.x.toInt) rfl
      have k7 := hS.at 0 rfl 7 (v := .int .i64 s.c.y.toInt) rfl
      have k8 := hS.at 0 rfl 8 (v := .int .i64 s.c.z.toInt) rfl
      obtain ⟨y0, g0, q0⟩ := hS.there 2 rfl 0 rfl
      obtain ⟨y1, g1, q1⟩ := hS.there 2 rfl 1 rfl
      obtain ⟨y2, g2, q2⟩ := hS.there 2 rfl 2 rfl
      obtain ⟨y3, g3, q3⟩ := hS.there 2 rfl 3 rfl
      obtain ⟨y4, g4, q4⟩ := hS.there 2 rfl 4 rfl
      obtain ⟨y5, g5, q5⟩ := hS.there 2 rfl 5 rfl
      obtain ⟨y6, g6, q6⟩ := hS.there 2 rfl 6 rfl
      obtain ⟨y7, g7, q7⟩ := hS.there 2 rfl 7 rfl
      obtain ⟨y8, g8, q8⟩ := hS.there 2 rfl 8 rfl
      have BH := Lib.hid hB
      clear hS hB ap0 AD0 AD1 AD2 SC0 SC1 SC2
      go_wp2
      refine bodyPost_ret (v := mv s) (by simp [mv, ml, results, Try.results25, go_sem, *]) rfl ⟨rfl, ?_⟩
      iterate 9 refine Below.setCell (p := ⟨w.heap.size + 1 + 1, _, none⟩) ?_ (show w.heap.size ≤ w.heap.size + 1 + 1 by omega) _
      exact BH.out
end Ref8
end Go.Proofs.Ytjdpcmcekockgaa
