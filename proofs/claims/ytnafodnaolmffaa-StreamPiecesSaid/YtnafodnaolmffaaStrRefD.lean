/- Many of the document's own answers for layer 15. -/
import Derived.Test.YtnafodnaolmffaaStrRefC
import Derived.Test.YtnafodnaolmffaaBufOwn
namespace Go.Proofs.Ytnafodnaolmffaa
open Go.RowKit

/-- frames as bytes, those that are right; how many are not -/
def manyF : List Fr → List UInt8 × Nat
  | [] => ([], 0)
  | f :: l => if rightF f then (frameF f ++ (manyF l).1, (manyF l).2) else ((manyF l).1, (manyF l).2 + 1)
theorem many_app (l m : List Fr) : manyF (l ++ m) = ((manyF l).1 ++ (manyF m).1, (manyF l).2 + (manyF m).2) := by
  induction l with
  | nil => simp [manyF]
  | cons f l ih =>
    rw [List.cons_append, manyF, manyF, ih]
    by_cases h : rightF f = true
    · rw [if_pos h, if_pos h]; simp
    · rw [if_neg h, if_neg h]; simp; omega
theorem many_next (l : List Fr) (j : Nat) (h : j < l.length) : manyF (l.take (j + 1)) = if rightF (l.getD j fr0) then ((manyF (l.take j)).1 ++ frameF (l.getD j fr0), (manyF (l.take j)).2) else ((manyF (l.take j)).1, (manyF (l.take j)).2 + 1) := by
  have e : l.take (j + 1) = l.take j ++ [l.getD j fr0] := by
    rw [List.take_add_one, List.getElem?_eq_getElem h, Option.toList_some]
    simp [List.getD, h]
  rw [e, many_app]
  simp only [manyF]
  by_cases hr : rightF (l.getD j fr0) = true
  · rw [if_pos hr, if_pos hr]; simp
  · rw [if_neg hr, if_neg hr]; simp
theorem many_len (l : List Fr) : (manyF l).1.length ≤ l.length * 11 ∧ (manyF l).2 ≤ l.length := by
  induction l with
  | nil => simp [manyF]
  | cons f l ih =>
    rw [manyF]
    by_cases h : rightF f = true
    · rw [if_pos h]; simp only [List.length_append, List.length_cons, frame_length]; omega
    · rw [if_neg h]; simp only [List.length_cons]; omega
theorem bytes_nil (w : World) : Bytes w.heap.size w w (.slice none 0 0) [] := ⟨World.ownsRowF_nil _ _ _ _, Below.refl _ _, Nat.le_refl _⟩

namespace Ref15
set_option maxHeartbeats 4000000 in
set_option maxRecDepth 100000 in
theorem Many_came {w : World} {ba : Option Addr} {cap : Nat} {l : List Fr} (C : CameFr w ba cap l) (hsmall : l.length ≤ 1000000)
    (hfit : ∀ j, j < l.length → -9223372036854775808 ≤ (l.getD j fr0).val ∧ (l.getD j fr0).val ≤ 9223372036854775807) :
    Calls Try.prog 17 #[.slice ba l.length cap] w fun e w' => ∃ v, e = .returned (.tuple #[v, .int .i64 (manyF l).2]) ∧ Bytes w.heap.size w w' v (manyF l).1 := by
  have HC := Lib.hid C
  have HT := Lib.hid hfit
  have ML := Lib.hid many_len
  have MN := Lib.hid (many_next l)
  obtain ⟨f, hf⟩ : ∃ f : Nat → List UInt8 × Nat, f = fun j => manyF (l.take j) := ⟨_, rfl⟩
  have f0 : f 0 = ([], 0) := by rw [hf]; rfl
  have fl : f l.length = manyF l := by rw [hf]; show manyF (l.take l.length) = _; rw [List.take_length]
  have fb : ∀ j, j ≤ l.length → (f j).1.length ≤ l.length * 11 ∧ (f j).2 ≤ l.length := fun j h => by
    rw [hf]
    have := many_len (l.take j)
    have e : (l.take j).length = j := by rw [List.length_take]; omega
    rw [e] at this
    show (manyF (l.take j)).1.length ≤ _ ∧ (manyF (l.take j)).2 ≤ _
    omega
  have fn : ∀ j, j < l.length → f (j + 1) = if rightF (l.getD j fr0) then ((f j).1 ++ frameF (l.getD j fr0), (f j).2) else ((f j).1, (f j).2 + 1) := fun j h => by rw [hf]; exact many_next l j h
  rw [← fl]
  have F0 := Lib.hid f0
  have FB := Lib.hid fb
  have FN := Lib.hid fn
  have hle := C.le
  have hm := C.max
  unfold maxLen at hm
  have hl : (l.length : Int) ≤ 9223372036854775807 := by omega
  clear C hfit hf f0 fl fb fn hle hm ML MN
  go_enter Try.func17, Try.ntmps17
  go_wp2
  go_loopw [4, 5, 12] (fun v bad i wr => ∃ j : Nat, j ≤ l.length ∧ i = .int .i64 j ∧ bad = .int .i64 (f j).2 ∧ Bytes w.heap.size w wr v (f j).1) (fun _ _ i _ => l.length - (intOf i).toNat)
  case atStart => exact ⟨0, Nat.zero_le _, rfl, by rw [F0.out]; rfl, by rw [F0.out]; exact bytes_nil w⟩
  case round =>
    obtain ⟨j, hj, rfl, rfl, hb⟩ := hrel
    by_cases hc : (j : Int) < l.length
    · obtain ⟨b, o, rfl, L⟩ := (HC.out.keep hb.below).lies (by omega)
      obtain ⟨k0, k1, k2, k3⟩ := L.at j (by omega)
      have hn := FN.out j (by omega)
      have hbn := FB.out j hj
      have hv := HT.out j (by omega)
      have hd : (j : Int) ≥ 0 := by omega
      clear L
      generalize l.getD j fr0 = g at *
      have HB := Lib.hid hb
      cases hr : rightF g
      · rw [hr, if_neg (by simp)] at hn
        have BN := Lib.hid (fun w => Ref14.Bytes_no g w hr)
        have HN := Lib.hid hn
        have hb2 : ((f j).2 : Int) + 1 ≤ 9223372036854775807 := by omega
        obtain ⟨gs, gc, gb, gv⟩ := g
        clear hn hb hr hbn
        simp only [fv] at k0 k1 k2 k3 BN
        go_wp2_with fail
        refine (BN.out _).mono ?_; rintro e w2 ⟨rfl, h2⟩
        have H2 := Lib.hid (HB.out.keep (belowT (below1 wr (.cells #[.int .i64 gs, .int .i64 gc, .bool gb, .int .i64 gv] 35)) h2))
        clear h2 BN HB
        go_wp2
        go_roundw
        case rel => exact ⟨j + 1, by omega, rfl, by rw [HN.out]; rfl, by rw [HN.out]; exact H2.out⟩
        case measure => simp [intOf]; omega
      · rw [hr, if_pos rfl] at hn
        have BN := Lib.hid (fun w => Ref14.Bytes_ok g w hr hv)
        have HN := Lib.hid hn
        have h11 : (f j).1.length + (frameF g).length ≤ 140737488355328 := by rw [frame_length]; omega
        have he : (f (j + 1)).1 = (f j).1 ++ frameF g ∧ (f (j + 1)).2 = (f j).2 := by rw [hn]; exact ⟨rfl, rfl⟩
        have HE := Lib.hid he
        have HR := Lib.hid h11
        clear hn hb hr hbn hv h11 he HN
        generalize frameF g = q at *
        obtain ⟨gs, gc, gb, gv⟩ := g
        simp only [fv] at k0 k1 k2 k3 BN
        go_wp2_with fail
        refine (BN.out _).mono ?_; rintro e w2 ⟨u, rfl, h2⟩
        have H2 := Lib.hid (HB.out.keep (belowT (below1 wr (.cells #[.int .i64 gs, .int .i64 gc, .bool gb, .int .i64 gv] 35)) h2.below))
        obtain ⟨bu, cu, rfl, CU⟩ := h2.came
        have HU := Lib.hid CU
        clear h2 BN HB CU
        go_wp2_with (at_builtin; refine list_append_came (v := u4) (m := q) (ba := bu) (c := cu) rfl rfl rfl H2.out rfl HU.out HR.out ?_)
        intro v' w' hb'
        go_wp2
        go_roundw
        case rel => exact ⟨j + 1, by omega, rfl, by rw [HE.out.2], by rw [HE.out.1]; exact hb'⟩
        case measure => simp [intOf]; omega
    · obtain rfl : j = l.length := by omega
      go_wp2
      go_ret2
      exact ⟨_, rfl, hb⟩
end Ref15
end Go.Proofs.Ytnafodnaolmffaa
