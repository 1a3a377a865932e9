/- Next, Of, Number, Within, Part of the document's own answers for layer 11. -/
import Derived.Test.YtbohghmjaadloaaDoorSubRefA
namespace Go.Proofs.YtbohghmjaadloaaDoor
open Go.RowKit

/-- those below j of a kind, as ints -/
def below64 (p : Nat → Bool) (j : Nat) : List Int := ((List.range j).filter p).map Int.ofNat
theorem below64_one (p : Nat → Bool) (j : Nat) (h : p j = true) : below64 p (j + 1) = below64 p j ++ [(j : Int)] := by
  unfold below64
  rw [List.range_succ, List.filter_append, List.map_append]
  simp [h]
theorem below64_same (p : Nat → Bool) (j : Nat) (h : p j = false) : below64 p (j + 1) = below64 p j := by
  unfold below64
  rw [List.range_succ, List.filter_append, List.map_append]
  simp [h]
theorem below64_len (p : Nat → Bool) (j : Nat) : (below64 p j).length ≤ j := by
  unfold below64
  rw [List.length_map]
  have := List.length_filter_le p (List.range j)
  rw [List.length_range] at this
  exact this
/-- has n members -/
def ofP (n : Int) (s : Nat) : Bool := decide ((Sub.cnt s : Int) = n)
def ofI (n : Int) : List Int := below64 (ofP n) 64
def partI (x : Int) : List Int := below64 (fun s => Sub.within s (Sub.low x)) 64
/-- the place of m among numbers, from k on -/
def placeI (m : Int) : List Int → Nat → Int
  | [], _ => -1
  | s :: l, k => if s = m then (k : Int) else placeI m l (k + 1)
def numI (x : Int) : Int := placeI (Sub.low x : Int) (ofI (Sub.cnt (Sub.low x) : Int)) 0
/-- the next one from s on -/
def nxtI (n : Nat) : Nat → Nat → Int × Bool
  | 0, _ => (0, false)
  | k + 1, s => if Sub.cnt s = n then ((s : Int), true) else nxtI n k (s + 1)

namespace Ref11
theorem Within_any (a b : Int) (w : World) :
    Calls Tryd.prog 24 #[.int .i64 a, .int .i64 b] w fun e w' => e = .returned (.bool (Sub.within (Sub.low a) (Sub.low b))) ∧ w' = w := by
  have e1 := Sub.and63 a
  have e2 := Sub.andNot_bits (Sub.low a) (Sub.low_lt a) b
  go_enter Tryd.func24, Tryd.ntmps24
  go_wp2
  go_ret
  exact ⟨rfl, rfl⟩

set_option maxHeartbeats 2000000 in
set_option maxRecDepth 100000 in
theorem Of_any (n : Int) (w : World) :
    Calls Tryd.prog 20 #[.int .i64 n] w fun e w' => ∃ v, e = .returned v ∧ Ints w.heap.size w w' v (ofI n) := by
  go_enter Tryd.func20, Tryd.ntmps20
  go_wp2
  go_loopw [3, 5] (fun v i wr => ∃ (j : Nat), j ≤ 64 ∧ i = .int .i64 j ∧ Ints w.heap.size w wr v (below64 (ofP n) j)) (fun _ i _ => 64 - (intOf i).toNat)
  case atStart => exact ⟨0, by omega, rfl, Ints.nil w⟩
  case round =>
    obtain ⟨j, hj, rfl, hb⟩ := hrel
    by_cases h6 : (j : Int) < 64
    · go_wp2_with fail
      refine (Count_any j wr).mono ?_
      rintro e w1 ⟨rfl, hw⟩
      rw [Sub.low_of j (by omega)]
      replace hb := hb.keep hw
      have hl : (below64 (ofP n) j).length + 1 ≤ 10000000000000 := by have := below64_len (ofP n) j; omega
      clear hw
      cases hh : ofP n j
      · have hs := below64_same (ofP n) j hh
        have hq : ((Sub.cnt j : Int) == n) = false := hh
        clear hl
        go_wp2
        go_roundw
        case rel => exact ⟨j + 1, by omega, rfl, by rw [hs]; exact hb⟩
        case measure => simp [intOf]; omega
      · have hs := below64_one (ofP n) j hh
        have hq : ((Sub.cnt j : Int) == n) = true := hh
        go_wp2_with (at_builtin; refine list_append_int rfl _ _ rfl (w0 := w1) (v := u3) rfl (j : Int) hb rfl hl ?_)
        intro v' w' hb'
        go_wp2
        go_roundw
        case rel => exact ⟨j + 1, by omega, rfl, by rw [hs]; exact hb'⟩
        case measure => simp [intOf]; omega
    · obtain rfl : j = 64 := by omega
      go_wp2
      go_ret
      exact ⟨u3, rfl, hb⟩

set_option maxHeartbeats 2000000 in
set_option maxRecDepth 100000 in
theorem Part_any (x : Int) (w : World) :
    Calls Tryd.prog 26 #[.int .i64 x] w fun e w' => ∃ v, e = .returned v ∧ Ints w.heap.size w w' v (partI x) := by
  unfold partI
  obtain ⟨p, hp⟩ : ∃ p, p = fun s => Sub.within s (Sub.low x) := ⟨_, rfl⟩
  have hpj : ∀ j, p j = Sub.within j (Sub.low x) := fun j => by rw [hp]
  rw [← hp]
  clear hp
  go_enter Tryd.func26, Tryd.ntmps26
  go_wp2
  go_loopw [3, 5] (fun v i wr => ∃ (j : Nat), j ≤ 64 ∧ i = .int .i64 j ∧ Ints w.heap.size w wr v (below64 p j)) (fun _ i _ => 64 - (intOf i).toNat)
  case atStart => exact ⟨0, by omega, rfl, Ints.nil w⟩
  case round =>
    obtain ⟨j, hj, rfl, hb⟩ := hrel
    by_cases h6 : (j : Int) < 64
    · go_wp2_with fail
      refine (Within_any j x wr).mono ?_
      rintro e w1 ⟨rfl, rfl⟩
      rw [Sub.low_of j (by omega), ← hpj]
      have hl : (below64 p j).length + 1 ≤ 10000000000000 := by have := below64_len p j; omega
      cases hh : p j
      · have hs := below64_same p j hh
        clear hl hpj
        go_wp2
        go_roundw
        case rel => exact ⟨j + 1, by omega, rfl, by rw [hs]; exact hb⟩
        case measure => simp [intOf]; omega
      · have hs := below64_one p j hh
        clear hpj
        go_wp2_with (at_builtin; refine list_append_int rfl _ _ rfl (w0 := w1) (v := u3) rfl (j : Int) hb rfl hl ?_)
        intro v' w' hb'
        go_wp2
        go_roundw
        case rel => exact ⟨j + 1, by omega, rfl, by rw [hs]; exact hb'⟩
        case measure => simp [intOf]; omega
    · obtain rfl : j = 64 := by omega
      clear hpj
      go_wp2
      go_ret
      exact ⟨u3, rfl, hb⟩

theorem placeI_step (m : Int) (l : List Int) (j : Nat) (hj : j < l.length) : placeI m (l.drop j) j = if l.getD j 0 = m then (j : Int) else placeI m (l.drop (j + 1)) (j + 1) := by
  rw [List.drop_eq_getElem_cons hj]
  simp [placeI, List.getD, hj]

set_option maxHeartbeats 2000000 in
set_option maxRecDepth 100000 in
theorem Number_any (x : Int) (w : World) :
    Calls Tryd.prog 22 #[.int .i64 x] w fun e w' => e = .returned (.int .i64 (numI x)) ∧ Below w.heap.size w w' := by
  have e1 := Sub.and63 x
  have e2 := Sub.low_low x
  obtain ⟨r, hr⟩ : ∃ r, r = numI x := ⟨_, rfl⟩
  rw [← hr]
  unfold numI at hr
  have HC := Lib.hid fun w => Count_any (Sub.low x) w
  rw [e2] at HC
  generalize Sub.low x = m at *
  have HO := Lib.hid fun w => Of_any (Sub.cnt m) w
  have hlen : (ofI (Sub.cnt m)).length ≤ 64 := below64_len _ 64
  generalize ofI (Sub.cnt m) = l at *
  have HR := Lib.hid hr
  clear hr e2
  go_enter Tryd.func22, Tryd.ntmps22
  go_wp2_with fail
  refine (HC.out w).mono ?_
  rintro e w1 ⟨rfl, h1⟩
  have H1 := Lib.hid h1
  clear h1 e1 HC
  go_wp2_with fail
  refine (HO.out w1).mono ?_
  rintro e w2 ⟨v, rfl, hb⟩
  obtain ⟨ba, cap, rfl, L, _, hm⟩ := hb.lies
  have hB := belowT H1.out hb.below
  clear H1 hb HO
  have HB := Lib.hid hB
  have HL := Lib.hid L
  clear hB L
  go_wp2
  go_loop [11] (fun i => ∃ j : Nat, j ≤ l.length ∧ i = .int .i64 j ∧ placeI m (l.drop j) j = placeI m l 0) (fun i => 64 - (intOf i).toNat)
  case atStart => exact ⟨0, by omega, rfl, rfl⟩
  case round =>
    obtain ⟨j, hj, rfl, hp⟩ := hrel
    by_cases hlt : (j : Int) < l.length
    · obtain ⟨g, rfl, hc⟩ := HL.out (by omega)
      have c := hc j (by omega)
      rw [placeI_step _ _ _ (by omega), ← HR.out] at hp
      generalize l.getD j 0 = z at *
      by_cases hz : z = (m : Int)
      · rw [if_pos hz] at hp
        have hq : (z == (m : Int)) = true := by simpa using hz
        have HP := Lib.hid hp
        clear hc hz hp
        go_wp2
        go_ret
        rw [← HP.out]
        exact ⟨rfl, HB.out⟩
      · rw [if_neg hz] at hp
        have hq : (z == (m : Int)) = false := by simpa using hz
        clear hc hz
        have HP := Lib.hid hp
        clear hp
        go_wp2
        go_round
        case rel => exact ⟨j + 1, by omega, rfl, by rw [HP.out, HR.out]⟩
        case measure => simp [intOf]; omega
    · obtain rfl : j = l.length := by omega
      rw [List.drop_length, ← HR.out] at hp
      have HP : Hid (r = -1) := Lib.hid (by rw [← hp]; rfl)
      clear hp
      go_wp2
      go_ret
      rw [HP.out]
      exact ⟨rfl, HB.out⟩

theorem nxtI_hit {n s : Nat} (k : Nat) (h : Sub.cnt s = n) : nxtI n (k + 1) s = ((s : Int), true) := by rw [nxtI, if_pos h]
theorem nxtI_miss {n s : Nat} (k : Nat) (h : ¬ Sub.cnt s = n) : nxtI n (k + 1) s = nxtI n k (s + 1) := by rw [nxtI, if_neg h]
/-- the next one -/
def nextI (x : Int) : Int × Bool := nxtI (Sub.cnt (Sub.low x)) (63 - Sub.low x) (Sub.low x + 1)

set_option maxHeartbeats 2000000 in
set_option maxRecDepth 100000 in
theorem Next_any (x : Int) (w : World) :
    Calls Tryd.prog 17 #[.int .i64 x] w fun e w' => e = .returned (.tuple #[.int .i64 (nextI x).1, .bool (nextI x).2]) ∧ Below w.heap.size w w' := by
  have e1 := Sub.and63 x
  have e2 := Sub.low_low x
  have hlt := Sub.low_lt x
  obtain ⟨r, hr⟩ : ∃ r, r = nextI x := ⟨_, rfl⟩
  rw [← hr]
  unfold nextI at hr
  have HC := Lib.hid fun w => Count_any (Sub.low x) w
  rw [e2] at HC
  generalize Sub.low x = m at *
  generalize Sub.cnt m = n at *
  have HR := Lib.hid hr
  clear hr e2
  go_enter Tryd.func17, Tryd.ntmps17
  go_wp2_with fail
  refine (HC.out w).mono ?_
  rintro e w1 ⟨rfl, h1⟩
  clear e1 HC
  have H1 := Lib.hid h1
  clear h1
  go_wp2_with fail
  go_loopw [5] (fun i wr => ∃ j : Nat, m + 1 ≤ j ∧ j ≤ 64 ∧ i = .int .i64 j ∧ nxtI n (64 - j) j = r ∧ Below w.heap.size w wr) (fun i _ => 64 - (intOf i).toNat)
  case atStart => exact ⟨m + 1, by omega, by omega, rfl, by rw [show 64 - (m + 1) = 63 - m by omega, HR.out], H1.out⟩
  case round =>
    obtain ⟨j, hj0, hj, rfl, hp, hB⟩ := hrel
    clear H1 HR
    by_cases h6 : (j : Int) < 64
    · have HP := Lib.hid hp
      have HB := Lib.hid hB
      clear hp hB
      go_wp2_with fail
      refine (Count_any j wr).mono ?_
      rintro e w2 ⟨rfl, h2⟩
      rw [Sub.low_of j (by omega)]
      have HB2 := Lib.hid (belowT HB.out h2)
      clear h2 HB
      have hp := HP.out
      rw [show 64 - j = (64 - (j + 1)) + 1 by omega] at hp
      clear HP
      by_cases hz : Sub.cnt j = n
      · rw [nxtI_hit _ hz] at hp
        have HP := Lib.hid hp
        clear hp
        have hq : (Sub.cnt j == n) = true := by simpa using hz
        clear hz
        go_wp2
        go_ret2
        rw [← HP.out]
        exact ⟨rfl, HB2.out⟩
      · rw [nxtI_miss _ hz] at hp
        have HP := Lib.hid hp
        clear hp
        have hq : (Sub.cnt j == n) = false := by simpa using hz
        clear hz
        go_wp2
        go_roundw
        case rel => exact ⟨j + 1, by omega, by omega, rfl, HP.out, HB2.out⟩
        case measure => simp [intOf]; omega
    · obtain rfl : j = 64 := by omega
      have HP := Lib.hid hp
      have HB := Lib.hid hB
      clear hp hB
      go_wp2
      go_ret2
      rw [← HP.out]
      exact ⟨rfl, HB.out⟩
end Ref11
end Go.Proofs.YtbohghmjaadloaaDoor
