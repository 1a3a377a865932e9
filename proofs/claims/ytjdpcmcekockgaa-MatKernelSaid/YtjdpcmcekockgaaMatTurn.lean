/- Turn of the document's own answers for layer 8. -/
import Derived.Test.YtjdpcmcekockgaaMatRef
import Derived.Test.YtjdpcmcekockgaaVecAdd
namespace Go.Proofs.Ytjdpcmcekockgaa
open Go.RowKit
namespace Ref8
set_option maxHeartbeats 8000000 in
set_option maxRecDepth 100000 in
theorem Turn_any (m : M3) (w : World) :
    Calls Try.prog 33 #[mv m] w fun e w' => e = .returned (mv m.turn) ∧ Below w.heap.size w w' := by
  unfold M3.turn mv ml
  simp only
  generalize m.a.x.toInt = a0 at *
  generalize m.a.y.toInt = a1 at *
  generalize m.a.z.toInt = a2 at *
  generalize m.b.x.toInt = b0 at *
  generalize m.b.y.toInt = b1 at *
  generalize m.b.z.toInt = b2 at *
  generalize m.c.x.toInt = c0 at *
  generalize m.c.y.toInt = c1 at *
  generalize m.c.z.toInt = c2 at *
  go_enter Try.func33, Try.ntmps33
  go_wp2
  go_loopw [6] (fun iv wr => ∃ i : Nat, i ≤ 3 ∧ iv = .int .i64 i ∧ HasL wr w.heap.size [.int .i64 a0, .int .i64 a1, .int .i64 a2, .int .i64 b0, .int .i64 b1, .int .i64 b2, .int .i64 c0, .int .i64 c1, .int .i64 c2] ∧ OwnL wr (w.heap.size + 1) [.int .i64 0, .int .i64 0, .int .i64 0, .int .i64 0, .int .i64 0, .int .i64 0, .int .i64 0, .int .i64 0, .int .i64 0] ∧ OwnL wr (w.heap.size + 1 + 1) [.int .i64 (if 0 < 3 * i then a0 else 0), .int .i64 (if 3 < 3 * i then b0 else 0), .int .i64 (if 6 < 3 * i then c0 else 0), .int .i64 (if 1 < 3 * i then a1 else 0), .int .i64 (if 4 < 3 * i then b1 else 0), .int .i64 (if 7 < 3 * i then c1 else 0), .int .i64 (if 2 < 3 * i then a2 else 0), .int .i64 (if 5 < 3 * i then b2 else 0), .int .i64 (if 8 < 3 * i then c2 else 0)] ∧ Below w.heap.size w wr) (fun iv _ => 3 - (intOf iv).toNat)
  case atStart =>
    refine ⟨0, by omega, rfl, ((hasl w [.int .i64 a0, .int .i64 a1, .int .i64 a2, .int .i64 b0, .int .i64 b1, .int .i64 b2, .int .i64 c0, .int .i64 c1, .int .i64 c2] _).keep (below1 _ _)).keep (below1 _ _), ?_, ?_, below3 w _ _ _⟩
    · rw [← heap1 w (.cells #[.int .i64 a0, .int .i64 a1, .int .i64 a2, .int .i64 b0, .int .i64 b1, .int .i64 b2, .int .i64 c0, .int .i64 c1, .int .i64 c2] _)]
      exact (ownl _ [.int .i64 0, .int .i64 0, .int .i64 0, .int .i64 0, .int .i64 0, .int .i64 0, .int .i64 0, .int .i64 0, .int .i64 0] _).keep (below1 _ _)
    · rw [← heap1 w (.cells #[.int .i64 a0, .int .i64 a1, .int .i64 a2, .int .i64 b0, .int .i64 b1, .int .i64 b2, .int .i64 c0, .int .i64 c1, .int .i64 c2] _), ← heap1 (w.alloc _) (.cells #[.int .i64 0, .int .i64 0, .int .i64 0, .int .i64 0, .int .i64 0, .int .i64 0, .int .i64 0, .int .i64 0, .int .i64 0] _)]
      exact ownl _ [.int .i64 0, .int .i64 0, .int .i64 0, .int .i64 0, .int .i64 0, .int .i64 0, .int .i64 0, .int .i64 0, .int .i64 0] _
  case round =>
    obtain ⟨i, hi, rfl, HM, OR, OO, B⟩ := hrel
    rcases (show i = 0 ∨ i = 1 ∨ i = 2 ∨ i = 3 by omega) with rfl | rfl | rfl | rfl
    · have ST := Lib.hid (And.intro HM (And.intro OR (And.intro OO B)))
      clear HM OR OO B
      go_wp2
      go_loopw [9] (fun kv wr => ∃ k : Nat, k ≤ 3 ∧ kv = .int .i64 k ∧ HasL wr w.heap.size [.int .i64 a0, .int .i64 a1, .int .i64 a2, .int .i64 b0, .int .i64 b1, .int .i64 b2, .int .i64 c0, .int .i64 c1, .int .i64 c2] ∧ OwnL wr (w.heap.size + 1) [.int .i64 0, .int .i64 0, .int .i64 0, .int .i64 0, .int .i64 0, .int .i64 0, .int .i64 0, .int .i64 0, .int .i64 0] ∧ OwnL wr (w.heap.size + 1 + 1) [.int .i64 (if 0 < 0 + k then a0 else 0), .int .i64 (if 3 < 0 + k then b0 else 0), .int .i64 (if 6 < 0 + k then c0 else 0), .int .i64 (if 1 < 0 + k then a1 else 0), .int .i64 (if 4 < 0 + k then b1 else 0), .int .i64 (if 7 < 0 + k then c1 else 0), .int .i64 (if 2 < 0 + k then a2 else 0), .int .i64 (if 5 < 0 + k then b2 else 0), .int .i64 (if 8 < 0 + k then c2 else 0)] ∧ Below w.heap.size w wr) (fun kv _ => 3 - (intOf kv).toNat)
      case atStart => exact ⟨0, by omega, rfl, ST.out⟩
      case round =>
        clear ST
        obtain ⟨k, hk, rfl, HM, OR, OO, B⟩ := hrel
        rcases (show k = 0 ∨ k = 1 ∨ k = 2 ∨ k = 3 by omega) with rfl | rfl | rfl | rfl
        · have l0 := HM.at 0 rfl
          have k0 := OO.1.at 0 rfl; have f0 := OO.2 0 (by simp)
          have HE := Lib.hid (And.intro (HM.set (show w.heap.size + 1 + 1 ≠ w.heap.size by omega) 0 (.int .i64 a0)).drew (And.intro (OR.other (show w.heap.size + 1 + 1 ≠ w.heap.size + 1 by omega) 0 (.int .i64 a0)).drew (And.intro (OO.set 0 (.int .i64 a0)).drew (B.setCell (p := ⟨w.heap.size + 1 + 1, 0, none⟩) (show w.heap.size ≤ w.heap.size + 1 + 1 by omega) (.int .i64 a0)).drew)))
          clear HM OR OO B
          go_upto_region 8 with fail
          go_region
          go_wp2_with fail
          go_roundw
          case rel => exact ⟨1, by omega, rfl, HE.out.1, HE.out.2.1, HE.out.2.2.1, HE.out.2.2.2⟩
          case measure => simp [intOf]
        · have l0 := HM.at 1 rfl
          have k0 := OO.1.at 3 rfl; have f0 := OO.2 3 (by simp)
          have HE := Lib.hid (And.intro (HM.set (show w.heap.size + 1 + 1 ≠ w.heap.size by omega) 3 (.int .i64 a1)).drew (And.intro (OR.other (show w.heap.size + 1 + 1 ≠ w.heap.size + 1 by omega) 3 (.int .i64 a1)).drew (And.intro (OO.set 3 (.int .i64 a1)).drew (B.setCell (p := ⟨w.heap.size + 1 + 1, 3, none⟩) (show w.heap.size ≤ w.heap.size + 1 + 1 by omega) (.int .i64 a1)).drew)))
          clear HM OR OO B
          go_upto_region 8 with fail
          go_region
          go_wp2_with fail
          go_roundw
          case rel => exact ⟨2, by omega, rfl, HE.out.1, HE.out.2.1, HE.out.2.2.1, HE.out.2.2.2⟩
          case measure => simp [intOf]
        · have l0 := HM.at 2 rfl
          have k0 := OO.1.at 6 rfl; have f0 := OO.2 6 (by simp)
          have HE := Lib.hid (And.intro (HM.set (show w.heap.size + 1 + 1 ≠ w.heap.size by omega) 6 (.int .i64 a2)).drew (And.intro (OR.other (show w.heap.size + 1 + 1 ≠ w.heap.size + 1 by omega) 6 (.int .i64 a2)).drew (And.intro (OO.set 6 (.int .i64 a2)).drew (B.setCell (p := ⟨w.heap.size + 1 + 1, 6, none⟩) (show w.heap.size ≤ w.heap.size + 1 + 1 by omega) (.int .i64 a2)).drew)))
          clear HM OR OO B
          go_upto_region 8 with fail
          go_region
          go_wp2_with fail
          go_roundw
          case rel => exact ⟨3, by omega, rfl, HE.out.1, HE.out.2.1, HE.out.2.2.1, HE.out.2.2.2⟩
          case measure => simp [intOf]
        · have ST2 := Lib.hid (And.intro HM (And.intro OR (And.intro OO B)))
          clear HM OR OO B
          go_wp2
          go_roundw
          case rel => exact ⟨1, by omega, rfl, ST2.out⟩
          case measure => simp [intOf]
    · have ST := Lib.hid (And.intro HM (And.intro OR (And.intro OO B)))
      clear HM OR OO B
      go_wp2
      go_loopw [9] (fun kv wr => ∃ k : Nat, k ≤ 3 ∧ kv = .int .i64 k ∧ HasL wr w.heap.size [.int .i64 a0, .int .i64 a1, .int .i64 a2, .int .i64 b0, .int .i64 b1, .int .i64 b2, .int .i64 c0, .int .i64 c1, .int .i64 c2] ∧ OwnL wr (w.heap.size + 1) [.int .i64 0, .int .i64 0, .int .i64 0, .int .i64 0, .int .i64 0, .int .i64 0, .int .i64 0, .int .i64 0, .int .i64 0] ∧ OwnL wr (w.heap.size + 1 + 1) [.int .i64 (if 0 < 3 + k then a0 else 0), .int .i64 (if 3 < 3 + k then b0 else 0), .int .i64 (if 6 < 3 + k then c0 else 0), .int .i64 (if 1 < 3 + k then a1 else 0), .int .i64 (if 4 < 3 + k then b1 else 0), .int .i64 (if 7 < 3 + k then c1 else 0), .int .i64 (if 2 < 3 + k then a2 else 0), .int .i64 (if 5 < 3 + k then b2 else 0), .int .i64 (if 8 < 3 + k then c2 else 0)] ∧ Below w.heap.size w wr) (fun kv _ => 3 - (intOf kv).toNat)
      case atStart => exact ⟨0, by omega, rfl, ST.out⟩
      case round =>
        clear ST
        obtain ⟨k, hk, rfl, HM, OR, OO, B⟩ := hrel
        rcases (show k = 0 ∨ k = 1 ∨ k = 2 ∨ k = 3 by omega) with rfl | rfl | rfl | rfl
        · have l0 := HM.at 3 rfl
          have k0 := OO.1.at 1 rfl; have f0 := OO.2 1 (by simp)
          have HE := Lib.hid (And.intro (HM.set (show w.heap.size + 1 + 1 ≠ w.heap.size by omega) 1 (.int .i64 b0)).drew (And.intro (OR.other (show w.heap.size + 1 + 1 ≠ w.heap.size + 1 by omega) 1 (.int .i64 b0)).drew (And.intro (OO.set 1 (.int .i64 b0)).drew (B.setCell (p := ⟨w.heap.size + 1 + 1, 1, none⟩) (show w.heap.size ≤ w.heap.size + 1 + 1 by omega) (.int .i64 b0)).drew)))
          clear HM OR OO B
          go_upto_region 8 with fail
          go_region
          go_wp2_with fail
          go_roundw
          case rel => exact ⟨1, by omega, rfl, HE.out.1, HE.out.2.1, HE.out.2.2.1, HE.out.2.2.2⟩
          case measure => simp [intOf]
        · have l0 := HM.at 4 rfl
          have k0 := OO.1.at 4 rfl; have f0 := OO.2 4 (by simp)
          have HE := Lib.hid (And.intro (HM.set (show w.heap.size + 1 + 1 ≠ w.heap.size by omega) 4 (.int .i64 b1)).drew (And.intro (OR.other (show w.heap.size + 1 + 1 ≠ w.heap.size + 1 by omega) 4 (.int .i64 b1)).drew (And.intro (OO.set 4 (.int .i64 b1)).drew (B.setCell (p := ⟨w.heap.size + 1 + 1, 4, none⟩) (show w.heap.size ≤ w.heap.size + 1 + 1 by omega) (.int .i64 b1)).drew)))
          clear HM OR OO B
          go_upto_region 8 with fail
          go_region
          go_wp2_with fail
          go_roundw
          case rel => exact ⟨2, by omega, rfl, HE.out.1, HE.out.2.1, HE.out.2.2.1, HE.out.2.2.2⟩
          case measure => simp [intOf]
        · have l0 := HM.at 5 rfl
          have k0 := OO.1.at 7 rfl; have f0 := OO.2 7 (by simp)
          have HE := Lib.hid (And.intro (HM.set (show w.heap.size + 1 + 1 ≠ w.heap.size by omega) 7 (.int .i64 b2)).drew (And.intro (OR.other (show w.heap.size + 1 + 1 ≠ w.heap.size + 1 by omega) 7 (.int .i64 b2)).drew (And.intro (OO.set 7 (.int .i64 b2)).drew (B.setCell (p := ⟨w.heap.size + 1 + 1, 7, none⟩) (show w.heap.size ≤ w.heap.size + 1 + 1 by omega) (.int .i64 b2)).drew)))
          clear HM OR OO B
          go_upto_region 8 with fail
          go_region
          go_wp2_with fail
          go_roundw
          case rel => exact ⟨3, by omega, rfl, HE.out.1, HE.out.2.1, HE.out.2.2.1, HE.out.2.2.2⟩
          case measure => simp [intOf]
        · have ST2 := Lib.hid (And.intro HM (And.intro OR (And.intro OO B)))
          clear HM OR OO B
          go_wp2
          go_roundw
          case rel => exact ⟨2, by omega, rfl, ST2.out⟩
          case measure => simp [intOf]
    · have ST := Lib.hid (And.intro HM (And.intro OR (And.intro OO B)))
      clear HM OR OO B
      go_wp2
      go_loopw [9] (fun kv wr => ∃ k : Nat, k ≤ 3 ∧ kv = .int .i64 k ∧ HasL wr w.heap.size [.int .i64 a0, .int .i64 a1, .int .i64 a2, .int .i64 b0, .int .i64 b1, .int .i64 b2, .int .i64 c0, .int .i64 c1, .int .i64 c2] ∧ OwnL wr (w.heap.size + 1) [.int .i64 0, .int .i64 0, .int .i64 0, .int .i64 0, .int .i64 0, .int .i64 0, .int .i64 0, .int .i64 0, .int .i64 0] ∧ OwnL wr (w.heap.size + 1 + 1) [.int .i64 (if 0 < 6 + k then a0 else 0), .int .i64 (if 3 < 6 + k then b0 else 0), .int .i64 (if 6 < 6 + k then c0 else 0), .int .i64 (if 1 < 6 + k then a1 else 0), .int .i64 (if 4 < 6 + k then b1 else 0), .int .i64 (if 7 < 6 + k then c1 else 0), .int .i64 (if 2 < 6 + k then a2 else 0), .int .i64 (if 5 < 6 + k then b2 else 0), .int .i64 (if 8 < 6 + k then c2 else 0)] ∧ Below w.heap.size w wr) (fun kv _ => 3 - (intOf kv).toNat)
      case atStart => exact ⟨0, by omega, rfl, ST.out⟩
      case round =>
        clear ST
        obtain ⟨k, hk, rfl, HM, OR, OO, B⟩ := hrel
        rcases (show k = 0 ∨ k = 1 ∨ k = 2 ∨ k = 3 by omega) with rfl | rfl | rfl | rfl
        · have l0 := HM.at 6 rfl
          have k0 := OO.1.at 2 rfl; have f0 := OO.2 2 (by simp)
          have HE := Lib.hid (And.intro (HM.set (show w.heap.size + 1 + 1 ≠ w.heap.size by omega) 2 (.int .i64 c0)).drew (And.intro (OR.other (show w.heap.size + 1 + 1 ≠ w.heap.size + 1 by omega) 2 (.int .i64 c0)).drew (And.intro (OO.set 2 (.int .i64 c0)).drew (B.setCell (p := ⟨w.heap.size + 1 + 1, 2, none⟩) (show w.heap.size ≤ w.heap.size + 1 + 1 by omega) (.int .i64 c0)).drew)))
          clear HM OR OO B
          go_upto_region 8 with fail
          go_region
          go_wp2_with fail
          go_roundw
          case rel => exact ⟨1, by omega, rfl, HE.out.1, HE.out.2.1, HE.out.2.2.1, HE.out.2.2.2⟩
          case measure => simp [intOf]
        · have l0 := HM.at 7 rfl
          have k0 := OO.1.at 5 rfl; have f0 := OO.2 5 (by simp)
          have HE := Lib.hid (And.intro (HM.set (show w.heap.size + 1 + 1 ≠ w.heap.size by omega) 5 (.int .i64 c1)).drew (And.intro (OR.other (show w.heap.size + 1 + 1 ≠ w.heap.size + 1 by omega) 5 (.int .i64 c1)).drew (And.intro (OO.set 5 (.int .i64 c1)).drew (B.setCell (p := ⟨w.heap.size + 1 + 1, 5, none⟩) (show w.heap.size ≤ w.heap.size + 1 + 1 by omega) (.int .i64 c1)).drew)))
          clear HM OR OO B
          go_upto_region 8 with fail
          go_region
          go_wp2_with fail
          go_roundw
          case rel => exact ⟨2, by omega, rfl, HE.out.1, HE.out.2.1, HE.out.2.2.1, HE.out.2.2.2⟩
          case measure => simp [intOf]
        · have l0 := HM.at 8 rfl
          have k0 := OO.1.at 8 rfl; have f0 := OO.2 8 (by simp)
          have HE := Lib.hid (And.intro (HM.set (show w.heap.size + 1 + 1 ≠ w.heap.size by omega) 8 (.int .i64 c2)).drew (And.intro (OR.other (show w.heap.size + 1 + 1 ≠ w.heap.size + 1 by omega) 8 (.int .i64 c2)).drew (And.intro (OO.set 8 (.int .i64 c2)).drew (B.setCell (p := ⟨w.heap.size + 1 + 1, 8, none⟩) (show w.heap.size ≤ w.heap.size + 1 + 1 by omega) (.int .i64 c2)).drew)))
          clear HM OR OO B
          go_upto_region 8 with fail
          go_region
          go_wp2_with fail
          go_roundw
          case rel => exact ⟨3, by omega, rfl, HE.out.1, HE.out.2.1, HE.out.2.2.1, HE.out.2.2.2⟩
          case measure => simp [intOf]
        · have ST2 := Lib.hid (And.intro HM (And.intro OR (And.intro OO B)))
          clear HM OR OO B
          go_wp2
          go_roundw
          case rel => exact ⟨3, by omega, rfl, ST2.out⟩
          case measure => simp [intOf]
    · have OO' : OwnL wr (w.heap.size + 1 + 1) [.int .i64 a0, .int .i64 b0, .int .i64 c0, .int .i64 a1, .int .i64 b1, .int .i64 c1, .int .i64 a2, .int .i64 b2, .int .i64 c2] := OO
      have k0 := OO'.1.at 0 rfl; have z0 := OR.1.at 0 rfl; have f0 := OR.2 0 (by simp)
      have k1 := OO'.1.at 1 rfl; have z1 := OR.1.at 1 rfl; have f1 := OR.2 1 (by simp)
      have k2 := OO'.1.at 2 rfl; have z2 := OR.1.at 2 rfl; have f2 := OR.2 2 (by simp)
      have k3 := OO'.1.at 3 rfl; have z3 := OR.1.at 3 rfl; have f3 := OR.2 3 (by simp)
      have k4 := OO'.1.at 4 rfl; have z4 := OR.1.at 4 rfl; have f4 := OR.2 4 (by simp)
      have k5 := OO'.1.at 5 rfl; have z5 := OR.1.at 5 rfl; have f5 := OR.2 5 (by simp)
      have k6 := OO'.1.at 6 rfl; have z6 := OR.1.at 6 rfl; have f6 := OR.2 6 (by simp)
      have k7 := OO'.1.at 7 rfl; have z7 := OR.1.at 7 rfl; have f7 := OR.2 7 (by simp)
      have k8 := OO'.1.at 8 rfl; have z8 := OR.1.at 8 rfl; have f8 := OR.2 8 (by simp)
      have BH := Lib.hid B
      clear HM OR OO B OO'
      go_wp2
      refine bodyPost_ret (v := .agg #[.int .i64 a0, .int .i64 b0, .int .i64 c0, .int .i64 a1, .int .i64 b1, .int .i64 c1, .int .i64 a2, .int .i64 b2, .int .i64 c2]) (by simp [results, Try.results33, go_sem, *]) rfl ⟨rfl, ?_⟩
      iterate 9 refine Below.setCell (p := ⟨w.heap.size + 1, _, none⟩) ?_ (show w.heap.size ≤ w.heap.size + 1 by omega) _
      exact BH.out
end Ref8
end Go.Proofs.Ytjdpcmcekockgaa
