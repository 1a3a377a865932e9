/- The landed observer's share. -/
import Derived.Test.YtkjkmnclnedfhaaDoorObLanA
namespace Go.Proofs.YtkjkmnclnedfhaaDoor
open Go.RowKit Obs

set_option maxHeartbeats 4000000 in
theorem share_core (vL vH bL bH l h sL sH mL mH tL tH nL nH : Int) (rf : Bool) (w : World)
    (S1 : Hid (∀ w', Below w.heap.size w w' → Calls Tryd.prog 27 #[sv l h, sv bL bH] w' fun e w'' => e = .returned (sv sL sH) ∧ Below w'.heap.size w' w''))
    (M1 : Hid (∀ w', Below w.heap.size w w' → Calls Tryd.prog 26 #[sv vL vH, sv sL sH] w' fun e w'' => e = .returned (sv mL mH) ∧ Below w'.heap.size w' w''))
    (S2 : Hid (∀ w', Below w.heap.size w w' → Calls Tryd.prog 27 #[sv l h, sv mL mH] w' fun e w'' => e = .returned (sv tL tH) ∧ Below w'.heap.size w' w''))
    (M2 : Hid (∀ w', Below w.heap.size w w' → Calls Tryd.prog 26 #[sv bL bH, sv tL tH] w' fun e w'' => e = .returned (sv nL nH) ∧ Below w'.heap.size w' w'')) :
    Calls Tryd.prog 34 #[.agg #[.int .i64 vL, .int .i64 vH, .int .i64 bL, .int .i64 bH, .bool rf], sv l h] w fun e w' => e = .returned (.agg #[.int .i64 mL, .int .i64 mH, .int .i64 nL, .int .i64 nH, .bool rf]) ∧ Below w.heap.size w w' := by
  have hS1 := (((Sp.none w).more [.int .i64 vL, .int .i64 vH, .int .i64 bL, .int .i64 bH, .bool rf] 34).more [.int .i64 l, .int .i64 h] 32).more [.int .i64 0, .int .i64 0, .int .i64 0, .int .i64 0, .bool false] 34
  simp only [heap1] at hS1
  have HS1 := Lib.hid hS1
  clear hS1
  go_enter Tryd.func34, Tryd.ntmps34
  go_upto_region 1 with fail
  obtain ⟨w1, hX, hS⟩ := (HS1.out).named
  rw [← hX]
  clear hX HS1
  have HS2 := Lib.hid hS
  clear hS
  go_cut [] from 5 to 12 (fun wx => Sp w [(w.heap.size, [some (.int .i64 mL), some (.int .i64 mH), some (.int .i64 bL), some (.int .i64 bH), some (.bool rf)]), (w.heap.size + 1, [some (.int .i64 l), some (.int .i64 h)]), (w.heap.size + 1 + 1, [some (.int .i64 0), some (.int .i64 0), some (.int .i64 0), some (.int .i64 0), some (.bool false)])] wx)
  case first =>
    have c0 := (HS2.out).at 0 rfl 0 (v := .int .i64 vL) rfl
    have c1 := (HS2.out).at 0 rfl 1 (v := .int .i64 vH) rfl
    have c2 := (HS2.out).at 0 rfl 2 (v := .int .i64 bL) rfl
    have c3 := (HS2.out).at 0 rfl 3 (v := .int .i64 bH) rfl
    have d0 := (HS2.out).at 1 rfl 0 (v := .int .i64 l) rfl
    have d1 := (HS2.out).at 1 rfl 1 (v := .int .i64 h) rfl
    go_region_with (first | (go_at_call 27; refine (S1.out _ HS2.out.drew.below).mono ?_; rintro e w2 ⟨rfl, hb2⟩; have S3 := HS2.out.drew.keep hb2; have x0 := S3.at 0 rfl 0 (v := .int .i64 vL) rfl; have x1 := S3.at 0 rfl 1 (v := .int .i64 vH) rfl; have HS3 := Lib.hid S3; clear S3 hb2) | (go_at_call 26; refine (M1.out _ HS3.out.below).mono ?_; rintro e w3 ⟨rfl, hb3⟩; have S4 := HS3.out.keep hb3; have N1 := Lib.hid ((S4.put 0 rfl 0 (.int .i64 mL)).put 0 rfl 1 (.int .i64 mH)); have y0 := S4.at 0 rfl 0 (v := .int .i64 vL) rfl; have y1 := S4.at 0 rfl 1 (v := .int .i64 vH) rfl; have f0 := S4.free 0 rfl 0 rfl; have f1 := S4.free 0 rfl 1 rfl; clear S4 hb3))
    all_goals
      go_wp2_with fail
      go_meet
      exact N1.out
  case rest =>
    rename World => w4
    have HS4 := Lib.hid hcut
    clear hcut HS2 S1 M1
    go_upto_region 2 with fail
    go_cut [] from 13 to 20 (fun wx => Sp w [(w.heap.size, [some (.int .i64 mL), some (.int .i64 mH), some (.int .i64 nL), some (.int .i64 nH), some (.bool rf)]), (w.heap.size + 1, [some (.int .i64 l), some (.int .i64 h)]), (w.heap.size + 1 + 1, [some (.int .i64 0), some (.int .i64 0), some (.int .i64 0), some (.int .i64 0), some (.bool false)])] wx)
    case first =>
      have c0 := (HS4.out).at 0 rfl 0 (v := .int .i64 mL) rfl
      have c1 := (HS4.out).at 0 rfl 1 (v := .int .i64 mH) rfl
      have c2 := (HS4.out).at 0 rfl 2 (v := .int .i64 bL) rfl
      have c3 := (HS4.out).at 0 rfl 3 (v := .int .i64 bH) rfl
      have d0 := (HS4.out).at 1 rfl 0 (v := .int .i64 l) rfl
      have d1 := (HS4.out).at 1 rfl 1 (v := .int .i64 h) rfl
      go_region_with (first | (go_at_call 27; refine (S2.out _ HS4.out.drew.below).mono ?_; rintro e w5 ⟨rfl, hb5⟩; have S5 := HS4.out.drew.keep hb5; have x0 := S5.at 0 rfl 2 (v := .int .i64 bL) rfl; have x1 := S5.at 0 rfl 3 (v := .int .i64 bH) rfl; have HS5 := Lib.hid S5; clear S5 hb5) | (go_at_call 26; refine (M2.out _ HS5.out.below).mono ?_; rintro e w6 ⟨rfl, hb6⟩; have S6 := HS5.out.keep hb6; have N1 := Lib.hid ((S6.put 0 rfl 2 (.int .i64 nL)).put 0 rfl 3 (.int .i64 nH)); have y0 := S6.at 0 rfl 2 (v := .int .i64 bL) rfl; have y1 := S6.at 0 rfl 3 (v := .int .i64 bH) rfl; have f0 := S6.free 0 rfl 2 rfl; have f1 := S6.free 0 rfl 3 rfl; clear S6 hb6))
      all_goals
        go_wp2_with fail
        go_meet
        exact N1.out
    case rest =>
      rename World => w7
      have HS7 := Lib.hid hcut
      clear hcut HS4 S2 M2
      have c0 := (HS7.out).at 0 rfl 0 (v := .int .i64 mL) rfl
      have c1 := (HS7.out).at 0 rfl 1 (v := .int .i64 mH) rfl
      have c2 := (HS7.out).at 0 rfl 2 (v := .int .i64 nL) rfl
      have c3 := (HS7.out).at 0 rfl 3 (v := .int .i64 nH) rfl
      have c4 := (HS7.out).at 0 rfl 4 (v := .bool rf) rfl
      have r0 := (HS7.out).at 2 rfl 0 (v := .int .i64 0) rfl
      have r1 := (HS7.out).at 2 rfl 1 (v := .int .i64 0) rfl
      have r2 := (HS7.out).at 2 rfl 2 (v := .int .i64 0) rfl
      have r3 := (HS7.out).at 2 rfl 3 (v := .int .i64 0) rfl
      have r4 := (HS7.out).at 2 rfl 4 (v := .bool false) rfl
      have f0 := (HS7.out).free 2 rfl 0 rfl
      have f1 := (HS7.out).free 2 rfl 1 rfl
      have f2 := (HS7.out).free 2 rfl 2 rfl
      have f3 := (HS7.out).free 2 rfl 3 rfl
      have f4 := (HS7.out).free 2 rfl 4 rfl
      have BH := Lib.hid HS7.out.below
      clear HS7
      go_wp2_with fail
      refine bodyPost_ret (v := .agg #[.int .i64 mL, .int .i64 mH, .int .i64 nL, .int .i64 nH, .bool rf]) (by simp [results, Tryd.results34, go_sem, *]) rfl ⟨rfl, ?_⟩
      iterate 5 refine Below.setCell (p := ⟨w.heap.size + 1 + 1, _, none⟩) ?_ (show w.heap.size ≤ w.heap.size + 1 + 1 by omega) _
      exact BH.out

theorem share_any (o : Ob) (l h : Int) (w : World) (n : NoneAt w) (k : OR o) (rl : Sp.R6 l) (rh : Sp.R6 h) :
    Calls Tryd.prog 34 #[ov o, sv l h] w fun e w' => e = .returned (ov (share o l h)) ∧ Below w.heap.size w w' := by
  have k2 := shareV_r6 (l := l) (h := h) k
  exact share_core o.vL o.vH o.bL o.bH l h _ _ _ _ _ _ _ _ o.ref w (Lib.hid fun w' B => Sub_ob l h o.bL o.bH w' (n.keep B) rl rh k.bL k.bH) (Lib.hid fun w' B => Meet_ob o.vL o.vH _ _ w' (n.keep B))
    (Lib.hid fun w' B => Sub_ob l h _ _ w' (n.keep B) rl rh k2.vL k2.vH) (Lib.hid fun w' B => Meet_ob o.bL o.bH _ _ w' (n.keep B))
end Go.Proofs.YtkjkmnclnedfhaaDoor
