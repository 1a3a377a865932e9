/- The landed ladder's All, Best, Cause. -/
import Derived.Test.YtmenicgoabmcmaaDoorLdNum
import Derived.Test.YtmenicgoabmcmaaDoorLas
import Derived.Test.YtmenicgoabmcmaaDoorLdA
import Derived.Lib.MinMax
import Derived.Deep.RegionWith
import Derived.Deep.CutBlock
import Derived.Deep.CutRange
import Derived.BigRegion
namespace Go.Proofs.YtmenicgoabmcmaaDoor
open Go.RowKit Ld

set_option maxHeartbeats 16000000 in
set_option maxRecDepth 100000 in
theorem All_any (w : World) : Calls Tryd.prog 17 #[] w fun e w' => ∃ ba cap, e = .returned (.slice ba 63 cap) ∧ CameLa w' ba cap (allN 63) ∧ Below w.heap.size w w' := by
  have HP := Lib.hid (Las.nil w)
  have HB := Lib.hid (Below.refl w.heap.size w)
  go_enter Tryd.func17, Tryd.ntmps17
  go_wp2_with fail
  go_loopw [1, 2] (fun v u wr => ∃ (i : Nat) (z : Int), i ≤ 7 ∧ z = 6 - ((i : Nat) : Int) ∧ u = .int .i64 z ∧ Las w.heap.size wr v (allN (9 * i)) ∧ Below w.heap.size w wr) (fun _ u _ => (intOf u + 1).toNat)
  case atStart => first | exact ⟨0, 6, by omega, rfl, rfl, HP.out, HB.out⟩ | ((repeat apply Exists.intro); exact ⟨⟨0, 6, by omega, rfl, rfl, HP.out, HB.out⟩, rfl⟩)
  clear HP HB
  case round =>
    obtain ⟨i, z, hi, ei, rfl, hP, hB⟩ := hrel
    have HP := Lib.hid hP
    have HB := Lib.hid hB
    clear hP hB
    by_cases hc : i < 7
    · skip
      have d : decide ((0 : Int) ≤ z) = true := decide_eq_true (by omega)
      obtain ⟨z2, hz2⟩ : ∃ x, x = z - 1 := ⟨_, rfl⟩
      have wz : IntKind.i64.wrap (z - 1) = z2 := (wrap_i64 _).trans (by omega)
      have Hi := Lib.hid hc
      have Zi := Lib.hid ei
      have Ni := Lib.hid (show z2 = 6 - ((i + 1 : Nat) : Int) by omega)
      have Mz := Lib.hid hz2
      have HWZ := Lib.hid wz
      clear hc hi ei hz2 wz
      go_wp2_with fail
      clear d
      replace HP : Hid (Las w.heap.size _ _ (allN (9 * i + 3 * 0))) := HP
      go_loopw [1, 3] (fun v u wr => ∃ (j : Nat) (y : Int), j ≤ 3 ∧ y = ((j : Nat) : Int) ∧ u = .int .i64 y ∧ Las w.heap.size wr v (allN (9 * i + 3 * j)) ∧ Below w.heap.size w wr) (fun _ u _ => 3 - (intOf u).toNat)
      case atStart => first | exact ⟨0, ((0 : Nat) : Int), by omega, rfl, rfl, HP.out, HB.out⟩ | ((repeat apply Exists.intro); exact ⟨⟨0, ((0 : Nat) : Int), by omega, rfl, rfl, HP.out, HB.out⟩, rfl⟩)
      clear HP HB
      case round =>
        obtain ⟨j, y, hj, ej, rfl, hP, hB⟩ := hrel
        have HP := Lib.hid hP
        have HB := Lib.hid hB
        clear hP hB
        by_cases hc : j < 3
        · skip
          have d : decide (y ≤ 2) = true := decide_eq_true (by omega)
          obtain ⟨y2, hy2⟩ : ∃ x, x = y + 1 := ⟨_, rfl⟩
          have wy : IntKind.i64.wrap (y + 1) = y2 := (wrap_i64 _).trans (by omega)
          have Hj := Lib.hid hc
          have Zj := Lib.hid ej
          have Nj := Lib.hid (show y2 = ((j + 1 : Nat) : Int) by omega)
          have My := Lib.hid hy2
          have HWY := Lib.hid wy
          clear hc hj ej hy2 wy
          go_wp2_with fail
          clear d
          replace HP : Hid (Las w.heap.size _ _ (allN (9 * i + 3 * j + 0))) := HP
          go_loopw [1, 4] (fun v u wr => ∃ (k : Nat) (x : Int), k ≤ 3 ∧ x = ((k : Nat) : Int) ∧ u = .int .i64 x ∧ Las w.heap.size wr v (allN (9 * i + 3 * j + k)) ∧ Below w.heap.size w wr) (fun _ u _ => 3 - (intOf u).toNat)
          case atStart => first | exact ⟨0, ((0 : Nat) : Int), by omega, rfl, rfl, HP.out, HB.out⟩ | ((repeat apply Exists.intro); exact ⟨⟨0, ((0 : Nat) : Int), by omega, rfl, rfl, HP.out, HB.out⟩, rfl⟩)
          clear HP HB
          case round =>
            obtain ⟨k, x, hk, ek, rfl, hP, hB⟩ := hrel
            have HP := Lib.hid hP
            have HB := Lib.hid hB
            clear hP hB
            by_cases hc : k < 3
            · skip
              have d : decide (x ≤ 2) = true := decide_eq_true (by omega)
              obtain ⟨x2, hx2⟩ : ∃ v, v = x + 1 := ⟨_, rfl⟩
              have wx : IntKind.i64.wrap (x + 1) = x2 := (wrap_i64 _).trans (by omega)
              have HF := Lib.hid (show allN (9 * i + 3 * j + (k + 1)) = allN (9 * i + 3 * j + k) ++ [⟨z, false, y, x, false, false⟩] from by rw [← Nat.add_assoc, allN_next, lat_at i j k Hj.out hc, Zi.out, Zj.out, ek])
              have Hk := Lib.hid hc
              have Nk := Lib.hid (show x2 = ((k + 1 : Nat) : Int) by omega)
              have Mx := Lib.hid hx2
              have GG := Lib.hid (HP.out.keep (below1 wr (.cells #[.int .i64 z, .bool false, .int .i64 y, .int .i64 x, .bool false, .bool false] 23)))
              have SG := Lib.hid (show Sp w [] (wr.alloc (.cells #[.int .i64 z, .bool false, .int .i64 y, .int .i64 x, .bool false, .bool false] 23)) from ⟨⟨belowT HB.out (below1 wr _), fun p hp => by cases hp⟩, List.Pairwise.nil, fun p hp => by cases hp⟩)
              have RG := Lib.hid (range_new wr #[.int .i64 z, .bool false, .int .i64 y, .int .i64 x, .bool false, .bool false] 23)
              have GL := Lib.hid (show (allN (9 * i + 3 * j + k)).length + 1 ≤ 1000000000000 by rw [allN_len]; have := Hi.out; have := Hj.out; omega)
              have HWX := Lib.hid wx
              clear HP HB hc hk ek hx2 wx
              go_wp2_with (at_builtin; refine list_append_la (g := wr.heap.size) (f := ⟨z, false, y, x, false, false⟩) rfl rfl rfl GG.out rfl RG.out GL.out ?_)
              intro v2 w2 hP hK
              have hS := hK (Nat.le_refl _) (by intro x y hp; cases hp) SG.out
              rw [← HF.out] at hP
              have HP := Lib.hid hP
              have HB := Lib.hid hS.below
              have wx := HWX.out
              clear hP hK hS GG SG RG GL HF HWX
              go_wp2_with fail
              go_roundw
              case rel => first | exact ⟨k + 1, x2, by have := Hk.out; omega, Nk.out, rfl, HP.out, HB.out⟩ | ((repeat apply Exists.intro); exact ⟨⟨k + 1, x2, by have := Hk.out; omega, Nk.out, rfl, HP.out, HB.out⟩, rfl⟩)
              case measure => simp [intOf]; have := Nk.out; have := Mx.out; have := Hk.out; omega
            · obtain rfl : k = 3 := by omega
              have d : decide (x ≤ 2) = false := decide_eq_false (by omega)
              have wy := HWY.out
              replace HP := Lib.hid (show Las w.heap.size _ _ (allN (9 * i + 3 * (j + 1))) from HP.out)
              clear hc hk ek HWY
              go_wp2_with fail
              go_roundw
              case rel => first | exact ⟨j + 1, y2, by have := Hj.out; omega, Nj.out, rfl, HP.out, HB.out⟩ | ((repeat apply Exists.intro); exact ⟨⟨j + 1, y2, by have := Hj.out; omega, Nj.out, rfl, HP.out, HB.out⟩, rfl⟩)
              case measure => simp [intOf]; have := Nj.out; have := My.out; have := Hj.out; omega
        · obtain rfl : j = 3 := by omega
          have d : decide (y ≤ 2) = false := decide_eq_false (by omega)
          have wz := HWZ.out
          replace HP := Lib.hid (show Las w.heap.size _ _ (allN (9 * (i + 1))) from HP.out)
          clear hc hj ej HWZ
          go_wp2_with fail
          go_roundw
          case rel => first | exact ⟨i + 1, z2, by have := Hi.out; omega, Ni.out, rfl, HP.out, HB.out⟩ | ((repeat apply Exists.intro); exact ⟨⟨i + 1, z2, by have := Hi.out; omega, Ni.out, rfl, HP.out, HB.out⟩, rfl⟩)
          case measure => simp [intOf]; have := Ni.out; have := Mz.out; have := Hi.out; have := Zi.out; omega
    · obtain rfl : i = 7 := by omega
      have d : decide ((0 : Int) ≤ z) = false := decide_eq_false (by omega)
      obtain ⟨ba, cap, hv, C⟩ := HP.out.came
      rw [allN_len] at hv
      subst hv
      have HC := Lib.hid C
      clear C HP hc hi ei
      go_wp2_with fail
      exact bodyPost_ret (v := .slice ba 63 cap) (by simp [results, Tryd.results17, go_sem, *]) rfl ⟨ba, cap, rfl, HC.out, HB.out⟩

set_option maxHeartbeats 16000000 in
set_option maxRecDepth 100000 in
theorem Best_core (m : Int) (md : La → Int) (r : Nat → La × Bool) (w : World)
    (AL : Hid (∀ w', Below w.heap.size w w' → Calls Tryd.prog 17 #[] w' fun e w'' => ∃ ba cap, e = .returned (.slice ba 63 cap) ∧ CameLa w'' ba cap (allN 63) ∧ Below w'.heap.size w' w''))
    (MO : Hid (∀ l w', Below w.heap.size w w' → Calls Tryd.prog 10 #[lv l] w' fun e w'' => e = .returned (.int .i64 (md l)) ∧ Below w'.heap.size w' w''))
    (RH : Hid (∀ j, j < 63 → md (lat j) = m → r j = (lat j, true))) (RN : Hid (∀ j, j < 63 → ¬ md (lat j) = m → r j = r (j + 1))) (RE : Hid (r 63 = (la0, false)))
    : Calls Tryd.prog 19 #[.int .i64 m] w fun e w' => e = .returned (.tuple #[lv (r 0).1, .bool (r 0).2]) ∧ Below w.heap.size w w' := by
  have hS1 := (Sp.none w).more [.int .i64 0, .bool false, .int .i64 0, .int .i64 0, .bool false, .bool false] 23
  have HS1 := Lib.hid hS1
  clear hS1
  go_enter Tryd.func19, Tryd.ntmps19
  go_wp2_with fail
  refine (AL.out _ HS1.out.below).mono ?_; rintro e w1 ⟨ba, cap, rfl, C, hb⟩
  have hS := HS1.out.keep hb
  have HC := Lib.hid C
  have HS2 := Lib.hid hS
  clear hS hb C AL HS1
  go_wp2_with fail
  go_loopw [8] (fun i wr => ∃ j : Nat, j ≤ 63 ∧ i = .int .i64 j ∧ r 0 = r j ∧ Below w1.heap.size w1 wr) (fun i _ => 63 - (intOf i).toNat)
  case atStart => first | exact ⟨0, by omega, rfl, rfl, Below.refl _ _⟩ | ((repeat apply Exists.intro); exact ⟨⟨0, by omega, rfl, rfl, Below.refl _ _⟩, rfl⟩)
  case round =>
    obtain ⟨j, hj, rfl, hr, hb⟩ := hrel
    have hS := HS2.out.keep hb
    have HS3 := Lib.hid hS
    have HR := Lib.hid hr
    have HB := Lib.hid hb
    clear HS2 hS hr hb
    by_cases hc : (j : Int) < 63
    · skip
      have hjn : j < 63 := by omega
      have hj0 : (0 : Int) ≤ j := by omega
      have HJ := Lib.hid hjn
      obtain ⟨b, o, rfl, L⟩ := (HC.out.keep HB.out).lies (by rw [allN_len]; omega)
      have hx := L j (by rw [allN_len]; omega)
      rw [allN_at hjn] at hx
      obtain ⟨l, hl⟩ : ∃ l, l = lat j := ⟨_, rfl⟩
      have hH := RH.out j hjn
      have hN := RN.out j hjn
      rw [← hl] at hx hH hN
      have HH := Lib.hid hH
      have HN := Lib.hid hN
      clear L hl hH hN RH RN HC hjn hj
      have e0 : wr.cell? ⟨b, o + j * 6, none⟩ = some (.int .i64 l.u) := hx 0 _ rfl
      have e1 : wr.cell? ⟨b, o + j * 6 + 1, none⟩ = some (.bool l.am) := hx 1 _ rfl
      have e2 : wr.cell? ⟨b, o + j * 6 + 2, none⟩ = some (.int .i64 l.al) := hx 2 _ rfl
      have e3 : wr.cell? ⟨b, o + j * 6 + 3, none⟩ = some (.int .i64 l.sp) := hx 3 _ rfl
      have e4 : wr.cell? ⟨b, o + j * 6 + 4, none⟩ = some (.bool l.fo) := hx 4 _ rfl
      have e5 : wr.cell? ⟨b, o + j * 6 + 5, none⟩ = some (.bool l.no) := hx 5 _ rfl
      have ML := Lib.hid (MO.out l)
      clear hx MO
      go_upto_region 4 with fail
      clear e0 e1 e2 e3 e4 e5
      have hS4 := (HS3.out).more [.int .i64 l.u, .bool l.am, .int .i64 l.al, .int .i64 l.sp, .bool l.fo, .bool l.no] 23
      have HS4 := Lib.hid hS4
      clear hS4 HS3
      obtain ⟨w2, hX, hS⟩ := (HS4.out).named
      replace HB := Lib.hid (show Below w1.heap.size w1 w2 from hX ▸ belowT HB.out (below1 _ _))
      rw [← hX]
      clear hX HS4
      have HS5 := Lib.hid hS
      clear hS
      have k1_0 := (HS5.out).at 1 rfl 0 (v := .int .i64 l.u) rfl
      have k1_1 := (HS5.out).at 1 rfl 1 (v := .bool l.am) rfl
      have k1_2 := (HS5.out).at 1 rfl 2 (v := .int .i64 l.al) rfl
      have k1_3 := (HS5.out).at 1 rfl 3 (v := .int .i64 l.sp) rfl
      have k1_4 := (HS5.out).at 1 rfl 4 (v := .bool l.fo) rfl
      have k1_5 := (HS5.out).at 1 rfl 5 (v := .bool l.no) rfl
      go_wp2_with fail
      refine (ML.out _ HS5.out.below).mono ?_; rintro e w3 ⟨rfl, hb3⟩
      have hS6 := (HS5.out).keep hb3
      have HS6 := Lib.hid hS6
      clear hS6 HS5
      replace HB := Lib.hid (belowT HB.out hb3)
      clear hb3
      clear ML k1_0 k1_1 k1_2 k1_3 k1_4 k1_5
      by_cases he : md l = m
      · have HZ := Lib.hid (HR.out.trans (HH.out he))
        have hq : (md l == m) = true := by rw [he]; exact beq_self_eq_true m
        clear HH HN HR
        have r1_0 := (HS6.out).at 1 rfl 0 (v := .int .i64 l.u) rfl
        have r1_1 := (HS6.out).at 1 rfl 1 (v := .bool l.am) rfl
        have r1_2 := (HS6.out).at 1 rfl 2 (v := .int .i64 l.al) rfl
        have r1_3 := (HS6.out).at 1 rfl 3 (v := .int .i64 l.sp) rfl
        have r1_4 := (HS6.out).at 1 rfl 4 (v := .bool l.fo) rfl
        have r1_5 := (HS6.out).at 1 rfl 5 (v := .bool l.no) rfl
        have r0_0 := (HS6.out).at 0 rfl 0 (v := .int .i64 0) rfl
        have r0_1 := (HS6.out).at 0 rfl 1 (v := .bool false) rfl
        have r0_2 := (HS6.out).at 0 rfl 2 (v := .int .i64 0) rfl
        have r0_3 := (HS6.out).at 0 rfl 3 (v := .int .i64 0) rfl
        have r0_4 := (HS6.out).at 0 rfl 4 (v := .bool false) rfl
        have r0_5 := (HS6.out).at 0 rfl 5 (v := .bool false) rfl
        have rf0_0 := (HS6.out).free 0 rfl 0 rfl
        have rf0_1 := (HS6.out).free 0 rfl 1 rfl
        have rf0_2 := (HS6.out).free 0 rfl 2 rfl
        have rf0_3 := (HS6.out).free 0 rfl 3 rfl
        have rf0_4 := (HS6.out).free 0 rfl 4 rfl
        have rf0_5 := (HS6.out).free 0 rfl 5 rfl
        have BH := Lib.hid HS6.out.below
        go_wp2_with fail
        refine bodyPost_ret (v := .tuple #[.agg #[.int .i64 l.u, .bool l.am, .int .i64 l.al, .int .i64 l.sp, .bool l.fo, .bool l.no], .bool true]) (by simp [results, Tryd.results19, go_sem, *]) rfl ⟨by rw [HZ.out], ?_⟩
        iterate 6 refine Below.setCell (p := ⟨w.heap.size, _, none⟩) ?_ (show w.heap.size ≤ w.heap.size from Nat.le_refl _) _
        exact BH.out
      · have HZ := Lib.hid (HR.out.trans (HN.out he))
        have hq : (md l == m) = false := by simpa using he
        clear HH HN HR
        skip
        go_wp2_with fail
        go_roundw
        case rel => first | exact ⟨j + 1, by have := HJ.out; omega, rfl, HZ.out, HB.out⟩ | ((repeat apply Exists.intro); exact ⟨⟨j + 1, by have := HJ.out; omega, rfl, HZ.out, HB.out⟩, rfl⟩)
        case measure => simp [intOf]; omega
    · obtain rfl : j = 63 := by omega
      have HZ := Lib.hid (HR.out.trans RE.out)
      clear HR RE RH RN hc hj
      have r0_0 := (HS3.out).at 0 rfl 0 (v := .int .i64 0) rfl
      have r0_1 := (HS3.out).at 0 rfl 1 (v := .bool false) rfl
      have r0_2 := (HS3.out).at 0 rfl 2 (v := .int .i64 0) rfl
      have r0_3 := (HS3.out).at 0 rfl 3 (v := .int .i64 0) rfl
      have r0_4 := (HS3.out).at 0 rfl 4 (v := .bool false) rfl
      have r0_5 := (HS3.out).at 0 rfl 5 (v := .bool false) rfl
      have rf0_0 := (HS3.out).free 0 rfl 0 rfl
      have rf0_1 := (HS3.out).free 0 rfl 1 rfl
      have rf0_2 := (HS3.out).free 0 rfl 2 rfl
      have rf0_3 := (HS3.out).free 0 rfl 3 rfl
      have rf0_4 := (HS3.out).free 0 rfl 4 rfl
      have rf0_5 := (HS3.out).free 0 rfl 5 rfl
      have BH := Lib.hid HS3.out.below
      go_wp2_with fail
      refine bodyPost_ret (v := .tuple #[.agg #[.int .i64 0, .bool false, .int .i64 0, .int .i64 0, .bool false, .bool false], .bool false]) (by simp [results, Tryd.results19, go_sem, *]) rfl ⟨by rw [HZ.out]; rfl, ?_⟩
      iterate 6 refine Below.setCell (p := ⟨w.heap.size, _, none⟩) ?_ (show w.heap.size ≤ w.heap.size from Nat.le_refl _) _
      exact BH.out
theorem Best_any (m : Int) (w : World) : Calls Tryd.prog 19 #[.int .i64 m] w fun e w' => e = .returned (.tuple #[lv (bestR m 0).1, .bool (bestR m 0).2]) ∧ Below w.heap.size w w' :=
  Best_core m mode (bestR m) w (Lib.hid fun w' _ => All_any w') (Lib.hid fun l w' _ => Mode_any l w') (Lib.hid fun _ h e => best_hit h e) (Lib.hid fun _ h e => best_next h e) (Lib.hid (best_end m))

set_option maxHeartbeats 16000000 in
set_option maxRecDepth 100000 in
theorem Cause_core (l : La) (md g v : Int) (r : ByteArray) (w : World)
    (MO : Hid (∀ w', Below w.heap.size w w' → Calls Tryd.prog 10 #[lv l] w' fun e w'' => e = .returned (.int .i64 md) ∧ Below w'.heap.size w' w''))
    (GY : Hid (∀ w', Below w.heap.size w w' → Calls Tryd.prog 6 #[.int .i64 l.u] w' fun e w'' => e = .returned (.int .i64 g) ∧ Below w'.heap.size w' w''))
    (AI : Hid (∀ w', Below w.heap.size w w' → Calls Tryd.prog 8 #[.int .i64 l.al, .int .i64 l.sp] w' fun e w'' => e = .returned (.int .i64 v) ∧ Below w'.heap.size w' w''))
    (R0 : Hid (md = 0 → r = ⟨#[]⟩)) (R1 : Hid (¬ md = 0 → l.no = true → r = ⟨#[104, 121, 112, 111, 116, 104, 101, 115, 101, 115]⟩)) (R2 : Hid (¬ md = 0 → l.no = false → g = md → r = ⟨#[103, 121, 114, 111, 115]⟩)) (R3 : Hid (¬ md = 0 → l.no = false → ¬ g = md → v = md → r = ⟨#[97, 105, 114]⟩))
    (R4 : Hid (¬ md = 0 → l.no = false → ¬ g = md → ¬ v = md → l.am = true → md = 3 → r = ⟨#[97, 109, 98, 105, 103, 117, 105, 116, 121]⟩)) (R5 : Hid (¬ md = 0 → l.no = false → ¬ g = md → ¬ v = md → l.am = false → r = ⟨#[109, 101, 109, 111, 114, 121]⟩)) (R6 : Hid (¬ md = 0 → l.no = false → ¬ g = md → ¬ v = md → ¬ md = 3 → r = ⟨#[109, 101, 109, 111, 114, 121]⟩))
    : Calls Tryd.prog 21 #[lv l] w fun e w' => e = .returned (.string r) ∧ Below w.heap.size w w' := by
  have hS1 := (Sp.none w).more [.int .i64 l.u, .bool l.am, .int .i64 l.al, .int .i64 l.sp, .bool l.fo, .bool l.no] 23
  have HS1 := Lib.hid hS1
  clear hS1
  go_enter Tryd.func21, Tryd.ntmps21
  go_upto_region 1 with fail
  obtain ⟨w1, hX, hS⟩ := (HS1.out).named
  rw [← hX]
  clear hX HS1
  have HS2 := Lib.hid hS
  clear hS
  have k0_0 := (HS2.out).at 0 rfl 0 (v := .int .i64 l.u) rfl
  have k0_1 := (HS2.out).at 0 rfl 1 (v := .bool l.am) rfl
  have k0_2 := (HS2.out).at 0 rfl 2 (v := .int .i64 l.al) rfl
  have k0_3 := (HS2.out).at 0 rfl 3 (v := .int .i64 l.sp) rfl
  have k0_4 := (HS2.out).at 0 rfl 4 (v := .bool l.fo) rfl
  have k0_5 := (HS2.out).at 0 rfl 5 (v := .bool l.no) rfl
  go_wp2_with fail
  refine (MO.out _ HS2.out.below).mono ?_; rintro e w2 ⟨rfl, hb2⟩
  have hS3 := (HS2.out).keep hb2
  have HS3 := Lib.hid hS3
  clear hS3 HS2
  clear hb2
  clear MO k0_0 k0_1 k0_2 k0_3 k0_4 k0_5
  by_cases h0 : md = 0
  · have HZ := Lib.hid (R0.out h0)
    subst h0
    clear R0 R1 R2 R3 R4 R5 R6
    have BH := Lib.hid HS3.out.below
    go_wp2_with fail
    exact bodyPost_ret (v := .string ⟨#[]⟩) (by simp [results, Tryd.results21, go_sem, *]) rfl ⟨by rw [HZ.out], BH.out⟩
  · have bz : (md == 0) = false := by simpa using h0
    have H0 := Lib.hid h0
    have n0_5 := (HS3.out).at 0 rfl 5 (v := .bool l.no) rfl
    rcases Bool.eq_false_or_eq_true l.no with c | c
    · have HZ := Lib.hid (R1.out h0 c)
      rw [c] at n0_5
      clear c R0 R1 R2 R3 R4 R5 R6
      have BH := Lib.hid HS3.out.below
      go_wp2_with fail
      exact bodyPost_ret (v := .string ⟨#[104, 121, 112, 111, 116, 104, 101, 115, 101, 115]⟩) (by simp [results, Tryd.results21, go_sem, *]) rfl ⟨by rw [HZ.out], BH.out⟩
    · have HC := Lib.hid c
      rw [c] at n0_5
      clear c
      have n0_0 := (HS3.out).at 0 rfl 0 (v := .int .i64 l.u) rfl
      go_wp2_with fail
      refine (GY.out _ HS3.out.below).mono ?_; rintro e w3 ⟨rfl, hb3⟩
      have hS4 := (HS3.out).keep hb3
      have HS4 := Lib.hid hS4
      clear hS4 HS3
      clear hb3
      clear GY n0_5 n0_0
      by_cases hg : g = md
      · have HZ := Lib.hid (R2.out h0 HC.out hg)
        subst hg
        clear R0 R1 R2 R3 R4 R5 R6
        have BH := Lib.hid HS4.out.below
        go_wp2_with fail
        exact bodyPost_ret (v := .string ⟨#[103, 121, 114, 111, 115]⟩) (by simp [results, Tryd.results21, go_sem, *]) rfl ⟨by rw [HZ.out], BH.out⟩
      · have bg : (g == md) = false := by simpa using hg
        have HG := Lib.hid hg
        have n0_2 := (HS4.out).at 0 rfl 2 (v := .int .i64 l.al) rfl
        have n0_3 := (HS4.out).at 0 rfl 3 (v := .int .i64 l.sp) rfl
        go_wp2_with fail
        refine (AI.out _ HS4.out.below).mono ?_; rintro e w4 ⟨rfl, hb4⟩
        have hS5 := (HS4.out).keep hb4
        have HS5 := Lib.hid hS5
        clear hS5 HS4
        clear hb4
        clear AI bg hg n0_2 n0_3
        by_cases hv : v = md
        · have HZ := Lib.hid (R3.out h0 HC.out HG.out hv)
          subst hv
          clear R0 R1 R2 R3 R4 R5 R6
          have BH := Lib.hid HS5.out.below
          go_wp2_with fail
          exact bodyPost_ret (v := .string ⟨#[97, 105, 114]⟩) (by simp [results, Tryd.results21, go_sem, *]) rfl ⟨by rw [HZ.out], BH.out⟩
        · have bv : (v == md) = false := by simpa using hv
          have HV := Lib.hid hv
          have n0_1 := (HS5.out).at 0 rfl 1 (v := .bool l.am) rfl
          rcases Bool.eq_false_or_eq_true l.am with c | c
          · have HA := Lib.hid c
            rw [c] at n0_1
            clear c
            by_cases h3 : md = 3
            · have HZ := Lib.hid (R4.out h0 HC.out HG.out hv HA.out h3)
              subst h3
              clear R0 R1 R2 R3 R4 R5 R6
              have BH := Lib.hid HS5.out.below
              go_wp2_with fail
              exact bodyPost_ret (v := .string ⟨#[97, 109, 98, 105, 103, 117, 105, 116, 121]⟩) (by simp [results, Tryd.results21, go_sem, *]) rfl ⟨by rw [HZ.out], BH.out⟩
            · have b3 : (md == 3) = false := by simpa using h3
              have HZ := Lib.hid (R6.out h0 HC.out HG.out hv h3)
              clear R0 R1 R2 R3 R4 R5 R6
              have BH := Lib.hid HS5.out.below
              go_wp2_with fail
              exact bodyPost_ret (v := .string ⟨#[109, 101, 109, 111, 114, 121]⟩) (by simp [results, Tryd.results21, go_sem, *]) rfl ⟨by rw [HZ.out], BH.out⟩
          · have HZ := Lib.hid (R5.out h0 HC.out HG.out hv c)
            rw [c] at n0_1
            clear c R0 R1 R2 R3 R4 R5 R6
            have BH := Lib.hid HS5.out.below
            go_wp2_with fail
            exact bodyPost_ret (v := .string ⟨#[109, 101, 109, 111, 114, 121]⟩) (by simp [results, Tryd.results21, go_sem, *]) rfl ⟨by rw [HZ.out], BH.out⟩
theorem Cause_any (l : La) (w : World) : Calls Tryd.prog 21 #[lv l] w fun e w' => e = .returned (.string (cause l)) ∧ Below w.heap.size w w' := by
  refine Cause_core l (mode l) (gyr l.u) (air l.al l.sp) (cause l) w (Lib.hid fun w' _ => Mode_any l w') (Lib.hid fun w' _ => Gyros_any _ w') (Lib.hid fun w' _ => Air_any _ _ w') (Lib.hid fun h => if_pos h)
    (Lib.hid fun h k => (if_neg h).trans (if_pos k)) (Lib.hid fun h k a => (if_neg h).trans ((if_neg (by rw [k]; decide)).trans (if_pos a))) (Lib.hid fun h k a b => (if_neg h).trans ((if_neg (by rw [k]; decide)).trans ((if_neg a).trans (if_pos b))))
    (Lib.hid fun h k a b c d => (if_neg h).trans ((if_neg (by rw [k]; decide)).trans ((if_neg a).trans ((if_neg b).trans (if_pos ⟨c, d⟩))))) (Lib.hid fun h k a b c => (if_neg h).trans ((if_neg (by rw [k]; decide)).trans ((if_neg a).trans ((if_neg b).trans (if_neg fun x => by rw [c] at x; exact absurd x.1 (by decide))))))
    (Lib.hid fun h k a b c => (if_neg h).trans ((if_neg (by rw [k]; decide)).trans ((if_neg a).trans ((if_neg b).trans (if_neg fun x => c x.2)))))

end Go.Proofs.YtmenicgoabmcmaaDoor
