/- StreamFinds over Own15. -/
import Derived.Test.YtnafodnaolmffaaStrAwake
import Derived.Test.YtnafodnaolmffaaTwo
namespace Go.Proofs.Ytnafodnaolmffaa
open Go.RowKit

theorem none_come (w : World) : Came w none 0 [] := ⟨Nat.le_refl _, Nat.zero_le _, fun _ => ⟨rfl, rfl⟩, fun h => absurd h (by decide)⟩
/-- bytes among which no frame begins -/
def noiseF (l : List UInt8) : List UInt8 := l.filter fun x => x != 165
theorem noise_len (l : List UInt8) : (noiseF l).length ≤ l.length := List.length_filter_le _ _
theorem noise_no (l : List UInt8) : ∀ x ∈ noiseF l, x ≠ 165 := fun x h => by
  have := (List.mem_filter.1 h).2
  simpa using this
theorem noise_next (l : List UInt8) (j : Nat) (h : j < l.length) : noiseF (l.take (j + 1)) = if l.getD j 0 = 165 then noiseF (l.take j) else noiseF (l.take j) ++ [l.getD j 0] := by
  have e : l.take (j + 1) = l.take j ++ [l.getD j 0] := by
    rw [List.take_add_one, List.getElem?_eq_getElem h, Option.toList_some]
    simp [List.getD, h]
  unfold noiseF
  rw [e, List.filter_append]
  by_cases k : l.getD j 0 = 165
  · rw [if_pos k, k]; simp
  · rw [if_neg k, List.filter_cons, if_pos (by simpa using k)]; rfl
theorem right_next (l : List Fr) (j : Nat) (h : j < l.length) : (l.take (j + 1)).filter rightF = if rightF (l.getD j fr0) then (l.take j).filter rightF ++ [l.getD j fr0] else (l.take j).filter rightF := by
  rw [take_next l j h, List.filter_append]
  by_cases k : rightF (l.getD j fr0) = true
  · rw [if_pos k, List.filter_cons, if_pos k]; rfl
  · rw [if_neg k, List.filter_cons, if_neg k]; simp
/-- what is found -/
theorem split_all (ns : List UInt8) (l : List Fr) : splitF (noiseF ns ++ (manyF l).1) = (l.filter rightF, (noiseF ns ++ (manyF l).1).length, (noiseF ns).length) := by
  rw [split_noise _ _ (noise_no ns), split_many, List.length_append]
  rfl

set_option maxHeartbeats 8000000 in
set_option maxRecDepth 100000 in
theorem finds_core (O : Own15) {w : World} {ba bb : Option Addr} {ca cb : Nat} {l : List Fr} {ns : List UInt8} (A : CameFr w ba ca l) (D : Came w bb cb ns) (h1 : (l.length : Int) ≤ 20) (h2 : (ns.length : Int) ≤ 300) :
    Calls Try.prog 5 #[.slice ba l.length ca, .slice bb ns.length cb] w fun e w' => e = .returned (.bool true) ∧ Below w.heap.size w w' := by
  have AW := Lib.hid (awake_any O)
  have HA := Lib.hid A
  have HD := Lib.hid D
  clear A D
  go_enter Try.func5, Try.ntmps5
  go_wp2
  go_loopw [5, 28] (fun v i wr => ∃ j : Nat, j ≤ ns.length ∧ i = .int .i64 j ∧ Bytes w.heap.size w wr v (noiseF (ns.take j))) (fun _ i _ => ns.length - (intOf i).toNat)
  case atStart => exact ⟨0, Nat.zero_le _, rfl, bytes_nil w⟩
  case round =>
    obtain ⟨j, hj, rfl, hb⟩ := hrel
    by_cases hc : (j : Int) < ns.length
    · obtain ⟨b, o, rfl, L⟩ := (HD.out.keep hb.below).lies (by omega)
      have k0 := L j (by omega)
      have hn := noise_next ns j (by omega)
      have hl : (noiseF (ns.take j)).length + [ns.getD j 0].length ≤ 140737488355328 := by
        have := noise_len (ns.take j)
        rw [List.length_take] at this
        rw [List.length_singleton]; omega
      have hd : (j : Int) ≥ 0 := by omega
      clear L
      have HB := Lib.hid hb
      generalize ns.getD j 0 = c at *
      by_cases e : c = 165
      · rw [if_pos e] at hn
        have HN := Lib.hid hn
        subst e
        clear hn hb hl
        have q : (((165 : UInt8).toNat : Int) == 165) = true := by decide
        go_wp2
        go_roundw
        case rel => exact ⟨j + 1, by omega, rfl, by rw [HN.out]; exact HB.out⟩
        case measure => simp [intOf]; omega
      · rw [if_neg e] at hn
        have HN := Lib.hid hn
        have HL := Lib.hid hl
        have q : ((c.toNat : Int) == 165) = false := by
          have := Ref14.byte_is c 165 (by decide)
          have k : (c == UInt8.ofNat 165) = false := beq_eq_false_iff_ne.2 e
          rw [k] at this
          exact this
        have C1 : Came (wr.alloc (.cells #[.int .u8 (c.toNat : Int)] 5)) (some ⟨wr.heap.size, 0, none⟩) 1 [c] := lit_came wr [c] (by unfold maxLen; simp)
        have H1 := hb.alloc (.cells #[.int .u8 (c.toNat : Int)] 5)
        clear hn hb hl e
        go_wp2_with (at_builtin; refine list_append_came (v := u5) (m := [c]) (ba := some ⟨wr.heap.size, 0, none⟩) (c := 1) rfl rfl rfl H1 rfl C1 HL.out ?_)
        intro v' w' hb'
        go_wp2
        go_roundw
        case rel => exact ⟨j + 1, by omega, rfl, by rw [HN.out]; exact hb'⟩
        case measure => simp [intOf]; omega
    · obtain rfl : j = ns.length := by omega
      rw [List.take_length] at hb
      obtain ⟨b5, c5, rfl, _⟩ := hb.came
      have HB := Lib.hid hb
      have hN := noise_len ns
      have SA := Lib.hid (split_all ns l)
      generalize noiseF ns = N at *
      have hNf : (N.length : Int) ≤ 300 := by omega
      clear hb hN
      go_wp2
      go_loopw [5, 9, 43] (fun v u i wr => ∃ j : Nat, j ≤ l.length ∧ i = .int .i64 j ∧ Bytes w.heap.size w wr v (N ++ (manyF (l.take j)).1) ∧ Frs w.heap.size w wr u ((l.take j).filter rightF)) (fun _ _ i _ => l.length - (intOf i).toNat)
      case atStart => exact ⟨0, Nat.zero_le _, rfl, by show Bytes _ _ _ _ (N ++ []); rw [List.append_nil]; exact HB.out, ⟨World.ownsRowF_nil _ _ _ _, HB.out.2.1, HB.out.2.2⟩⟩
      case round =>
        clear HB
        obtain ⟨j, hj, rfl, hb, hu⟩ := hrel
        by_cases hc : (j : Int) < l.length
        · obtain ⟨b, o, rfl, L⟩ := (HA.out.keep hb.below).lies (by omega)
          obtain ⟨k0, k1, k2, k3⟩ := L.at j (by omega)
          have m1 := many_next l j (by omega)
          have m2 := right_next l j (by omega)
          have m3 := many_len (l.take j)
          have m4 : ((l.take j).filter rightF).length ≤ (l.take j).length := List.length_filter_le _ _
          rw [List.length_take] at m3 m4
          have hd : (j : Int) ≥ 0 := by omega
          clear L
          have HB := Lib.hid hb
          have HU := Lib.hid hu
          generalize l.getD j fr0 = g at *
          cases hr : rightF g
          · rw [hr, if_neg (by simp)] at m1 m2
            have BN := Lib.hid (fun w => O.no g w hr)
            have M1 := Lib.hid (show (manyF (l.take (j + 1))).1 = (manyF (l.take j)).1 by rw [m1])
            have M2 := Lib.hid m2
            obtain ⟨gs, gc, gb, gv⟩ := g
            clear m1 m2 m3 m4 hb hu hr
            simp only [fv] at k0 k1 k2 k3 BN
            go_wp2_with fail
            refine (BN.out _).mono ?_; rintro e w2 ⟨rfl, h2'⟩
            have hx := belowT (below1 _ (.cells #[.int .i64 gs, .int .i64 gc, .bool gb, .int .i64 gv] 35)) h2'
            have H2 := Lib.hid (HB.out.keep hx)
            have U2 := Lib.hid (HU.out.keep hx)
            clear h2' BN HB HU hx
            go_wp2
            go_roundw
            case rel => exact ⟨j + 1, by omega, rfl, by rw [M1.out]; exact H2.out, by rw [M2.out]; exact U2.out⟩
            case measure => simp [intOf]; omega
          · rw [hr, if_pos rfl] at m1 m2
            have BN := Lib.hid (fun w => O.bytes g w hr)
            have M1 := Lib.hid (show N ++ (manyF (l.take (j + 1))).1 = N ++ (manyF (l.take j)).1 ++ frameF g by rw [m1, List.append_assoc])
            have M2 := Lib.hid m2
            have f11 := frame_length g
            have HL := Lib.hid (show (N ++ (manyF (l.take j)).1).length + (frameF g).length ≤ 140737488355328 by rw [List.length_append, f11]; omega)
            have HP := Lib.hid (show 0 < (frameF g).length by omega)
            have HF := Lib.hid (show ((l.take j).filter rightF).length + 1 ≤ 1000000000000 by omega)
            clear m1 m2 m3 m4 hb hu hr f11
            generalize frameF g = q at *
            generalize N ++ (manyF (l.take j)).1 = A at *
            generalize (l.take j).filter rightF = G at *
            obtain ⟨gs, gc, gb, gv⟩ := g
            simp only [fv] at k0 k1 k2 k3 BN
            go_wp2_with fail
            refine (BN.out _).mono ?_; rintro e w2 ⟨u, rfl, hq⟩
            have hx := belowT (below1 _ (.cells #[.int .i64 gs, .int .i64 gc, .bool gb, .int .i64 gv] 35)) hq.below
            have H2 := Lib.hid (HB.out.keep hx)
            have U2 := Lib.hid (HU.out.keep hx)
            have FC := (hasl wr [.int .i64 gs, .int .i64 gc, .bool gb, .int .i64 gv] 35).keep hq.below
            have p0 := FC.at 0 rfl
            have p1 := FC.at 1 rfl
            have p2 := FC.at 2 rfl
            have p3 := FC.at 3 rfl
            obtain ⟨bu, cu, rfl, CU⟩ := hq.bytes.came
            have hlt := HB.out.1.lt
            have HT : Hid (some wr.heap.size ≠ u5.ownBlock) := Lib.hid fun e => absurd (hlt _ e.symm).2 (Nat.lt_irrefl _)
            clear hq hx BN HB HU FC hlt k0 k1 k2 k3
            go_wp2_with (at_builtin; refine list_append_came2 (v := u5) (u := u9) (m := q) (ba := bu) (c := cu) (fs := G) rfl rfl rfl H2.out U2.out rfl CU HP.out HL.out ?_)
            intro v' w3 hb3 hu3 hg3
            have q0 := hg3.cell p0 HT.out
            have q1 := hg3.cell p1 HT.out
            have q2 := hg3.cell p2 HT.out
            have q3 := hg3.cell p3 HT.out
            clear p0 p1 p2 p3 HT hg3 CU H2 U2 HP HL
            go_wp2_with (at_builtin; refine list_append_fr2 rfl _ _ rfl (w0 := w3) (v := u9) rfl ⟨gs, gc, gb, gv⟩ hu3 hb3 rfl HF.out ?_)
            intro v'' w4 hf4 hb4
            go_wp2
            go_roundw
            case rel => exact ⟨j + 1, by omega, rfl, by rw [M1.out]; exact hb4, by rw [M2.out]; exact hf4⟩
            case measure => simp [intOf]; omega
        · obtain rfl : j = l.length := by omega
          rw [List.take_length] at hb hu
          have hlA : (N ++ (manyF l).1).length ≤ 4000 := by
            have := (many_len l).1
            rw [List.length_append]; omega
          have sa := SA.out
          obtain ⟨b6, c6, rfl, C6⟩ := hb.came
          obtain ⟨b7, c7, rfl, C7⟩ := hu.came
          have FD := O.feed _ none b6 0 c6 [] _ (none_come _) C6 (by rw [List.length_nil]; omega)
          have e0 : ([] : List UInt8) ++ (N ++ (manyF l).1) = N ++ (manyF l).1 := rfl
          rw [e0, sa] at FD
          simp only [List.drop_length] at FD
          have HW := Lib.hid hb.below
          have H7 := Lib.hid C7
          clear hb hu sa C6 C7 e0 SA
          generalize N ++ (manyF l).1 = A at *
          generalize l.filter rightF = G at *
          go_wp2_with fail
          refine FD.mono ?_; rintro e w7 ⟨va, vc, ua, uc, rfl, hf7, _, hb7, _⟩
          have H8 := Lib.hid (belowT HW.out hb7)
          have SM := Same_came hf7 (H7.out.keep hb7)
          rw [decide_eq_true rfl] at SM
          clear FD hf7 hb7 HW H7
          go_wp2_with fail
          refine SM.mono ?_; rintro e w8 ⟨rfl, hb8⟩
          have H9 := Lib.hid (belowT H8.out hb8)
          clear SM hb8 H8
          go_wp2_with fail
          refine (AW.out w8).mono ?_; rintro e w9 ⟨rfl, hb9⟩
          have H10 := Lib.hid (belowT H9.out hb9)
          clear AW hb9 H9
          go_wp2
          go_ret
          exact ⟨rfl, H10.out⟩

theorem finds_long1 (ba bb : Option Addr) (la ca lb cb : Nat) (w : World) (_h1 : (la : Int) ≤ 9223372036854775807) (_h2 : (lb : Int) ≤ 9223372036854775807) (hl : (20 : Int) < la)
    (AW : Hid (∀ w, Calls Try.prog 7 #[] w fun e w' => e = .returned (.bool true) ∧ Below w.heap.size w w')) :
    Calls Try.prog 5 #[.slice ba la ca, .slice bb lb cb] w fun e w' => e = .returned (.bool true) ∧ Below w.heap.size w w' := by
  go_enter Try.func5, Try.ntmps5
  go_wp2_with fail
  refine (AW.out _).mono ?_; rintro e w1 ⟨rfl, hb1⟩
  go_wp2_with fail
  go_ret
  exact ⟨rfl, hb1⟩

theorem finds_long2 (ba bb : Option Addr) (la ca lb cb : Nat) (w : World) (_h1 : (la : Int) ≤ 9223372036854775807) (_h2 : (lb : Int) ≤ 9223372036854775807) (hn : ¬ (20 : Int) < la) (hl : (300 : Int) < lb)
    (AW : Hid (∀ w, Calls Try.prog 7 #[] w fun e w' => e = .returned (.bool true) ∧ Below w.heap.size w w')) :
    Calls Try.prog 5 #[.slice ba la ca, .slice bb lb cb] w fun e w' => e = .returned (.bool true) ∧ Below w.heap.size w w' := by
  go_enter Try.func5, Try.ntmps5
  go_wp2_with fail
  refine (AW.out _).mono ?_; rintro e w1 ⟨rfl, hb1⟩
  go_wp2_with fail
  go_ret
  exact ⟨rfl, hb1⟩

theorem finds_any (O : Own15) {w : World} {ba bb : Option Addr} {ca cb : Nat} {l : List Fr} {ns : List UInt8} (A : CameFr w ba ca l) (D : Came w bb cb ns) :
    Calls Try.prog 5 #[.slice ba l.length ca, .slice bb ns.length cb] w fun e w' => e = .returned (.bool true) ∧ Below w.heap.size w w' := by
  have a1 := A.le
  have a2 := A.max
  have d1 := D.le
  have d2 := D.max
  unfold maxLen at a2 d2
  by_cases h1 : (20 : Int) < l.length
  · exact finds_long1 ba bb _ ca _ cb w (by omega) (by omega) h1 (Lib.hid (awake_any O))
  · by_cases h2 : (300 : Int) < ns.length
    · exact finds_long2 ba bb _ ca _ cb w (by omega) (by omega) h1 h2 (Lib.hid (awake_any O))
    · exact finds_core O A D (by omega) (by omega)
end Go.Proofs.Ytnafodnaolmffaa
