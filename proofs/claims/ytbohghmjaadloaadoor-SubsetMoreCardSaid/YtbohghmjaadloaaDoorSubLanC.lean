/- The landed subset's Number, Place, Hypos; slices.Index over ints. -/
import Derived.Test.YtbohghmjaadloaaDoorSubLanB
import Derived.Test.YtbohghmjaadloaaDoorSp
namespace Go.Proofs.YtbohghmjaadloaaDoor
open Go.RowKit

/-- a block that a call has made itself, written over in whole -/
theorem below_setCells {B b : Nat} {W : World} (hb : B ≤ b) : ∀ (vs : List Value) (o : Nat) (w : World), Below B W w → Below B W (w.setCells b o vs)
  | [], _, _, h => h
  | v :: r, o, w, h => by
    rw [World.setCells]
    exact below_setCells hb r (o + 1) _ (h.setCell (p := ⟨b, o, none⟩) hb v)

namespace Lan11
set_option maxHeartbeats 2000000 in
set_option maxRecDepth 100000 in
theorem Index_any (ba : Option Addr) (cap : Nat) (l : List Int) (m : Int) (w : World) (L : LiesI w ba l) (hlen : l.length ≤ 64) :
    Calls Tryd.prog 34 #[.slice ba l.length cap, .int .i64 m] w fun e w' => e = .returned (.int .i64 (placeI m l 0)) ∧ w' = w := by
  obtain ⟨r, hr⟩ : ∃ r, r = placeI m l 0 := ⟨_, rfl⟩
  rw [← hr]
  have HR := Lib.hid hr
  have HL := Lib.hid L
  clear hr L
  go_enter Tryd.func34, Tryd.ntmps34
  go_wp2
  go_loop [8] (fun i => ∃ j : Nat, j ≤ l.length ∧ i = .int .i64 j ∧ placeI m (l.drop j) j = r) (fun i => 64 - (intOf i).toNat)
  case atStart => exact ⟨0, by omega, rfl, HR.out.symm⟩
  case round =>
    obtain ⟨j, hj, rfl, hp⟩ := hrel
    clear HR
    by_cases hlt : (j : Int) < l.length
    · obtain ⟨g, rfl, hc⟩ := HL.out (by omega)
      have c := hc j (by omega)
      rw [Ref11.placeI_step _ _ _ (by omega)] at hp
      generalize l.getD j 0 = z at *
      by_cases hz : z = m
      · rw [if_pos hz] at hp
        have hq : (m == z) = true := by simpa using hz.symm
        have HP := Lib.hid hp
        clear hc hz hp
        go_wp2
        go_ret
        rw [← HP.out]
        exact ⟨rfl, rfl⟩
      · rw [if_neg hz] at hp
        have hq : (m == z) = false := by
          have : ¬ m = z := fun h => hz h.symm
          simpa using this
        clear hc hz
        have HP := Lib.hid hp
        clear hp
        go_wp2
        go_round
        case rel => exact ⟨j + 1, by omega, rfl, HP.out⟩
        case measure => simp [intOf]; omega
    · obtain rfl : j = l.length := by omega
      rw [List.drop_length] at hp
      have HP : Hid (r = -1) := Lib.hid (by rw [← hp]; rfl)
      clear hp
      go_wp2
      go_ret
      rw [HP.out]
      exact ⟨rfl, rfl⟩

theorem Number_any (x : Int) (w : World) :
    Calls Tryd.prog 21 #[.int .i64 x] w fun e w' => e = .returned (.int .i64 (numI x)) ∧ Below w.heap.size w w' := by
  have e1 := Sub.and63 x
  have HC := Lib.hid (Count_any x w)
  have HO := Lib.hid (Of_any (Sub.cnt (Sub.low x)) w)
  have hlen : (ofI (Sub.cnt (Sub.low x))).length ≤ 64 := below64_len _ 64
  unfold numI
  generalize ofI (Sub.cnt (Sub.low x)) = l at *
  generalize Sub.cnt (Sub.low x) = c at *
  generalize (Sub.low x : Int) = m at *
  go_enter Tryd.func21, Tryd.ntmps21
  go_wp2_with fail
  refine HC.out.mono ?_
  rintro e w1 ⟨rfl, rfl⟩
  clear HC
  go_wp2_with fail
  refine HO.out.mono ?_
  rintro e w2 ⟨v, rfl, hb⟩
  obtain ⟨ba, cap, rfl, L, _, _⟩ := hb.lies
  have HB := Lib.hid hb.below
  have HL := Lib.hid L
  clear L hb HO
  go_wp2_with fail
  refine (Index_any ba cap l m w2 HL.out hlen).mono ?_
  rintro e w3 ⟨rfl, rfl⟩
  go_wp2
  go_ret
  exact ⟨rfl, HB.out⟩
end Lan11
end Go.Proofs.YtbohghmjaadloaaDoor
