/- The landed observer's Start, Step, whatever is known of the quantity: any numbers that have room. -/
import Derived.Test.YtkjkmnclnedfhaaDoorObStep
import Derived.Test.YtkjkmnclnedfhaaDoorTrStart
import Derived.Test.YtkjkmnclnedfhaaDoorTrNum
namespace Go.Proofs.YtkjkmnclnedfhaaDoor
open Go.RowKit Obs

theorem wrap_ng {x : Int} (h : Sp.R6 x) : IntKind.i64.wrap (-x) = ng x := by
  refine (wrap_i64 _).trans ?_
  unfold Sp.R6 at h
  unfold ng
  split <;> omega
theorem upTo_g (m : Int) (h : Sp.R6 m) (w : World) :
    Calls Tryd.prog 31 #[.int .i64 m] w fun e w' => e = .returned (sv (ng m) m) ∧ Below w.heap.size w w' := by
  have e := wrap_ng h
  generalize ng m = q at *
  clear h
  go_enter Tryd.func31, Tryd.ntmps31
  go_wp2
  exact bodyPost_ret (v := .agg #[.int .i64 q, .int .i64 m]) (by simp [results, Tryd.results31, go_sem, *]) rfl ⟨rfl, below1 w _⟩

theorem sWiden_less (a b y : Int) (w : World) (h : y < 0) (E1 : Hid (∀ w, Calls Tryd.prog 35 #[.agg #[.int .i64 a, .int .i64 b]] w fun e w' => e = .returned (.bool false) ∧ Below w.heap.size w w')) :
    Calls Tryd.prog 40 #[.agg #[.int .i64 a, .int .i64 b], .int .i64 y] w fun e w' => e = .returned (.agg #[.int .i64 a, .int .i64 b]) ∧ Below w.heap.size w w' := by
  go_enter Tryd.func40, Tryd.ntmps40
  go_wp2_with fail
  refine (E1.out _).mono ?_; rintro e w1 ⟨rfl, hb1⟩
  have B1 := belowT (below2 w _ _) hb1
  have X1 := (own2b w _ _ _ _).keep hb1; have X1a := X1.c0; have X1b := X1.c1; have X1c := X1.f0; have X1d := X1.f1; have X1l := X1.lt
  have Y1 := ((own2 w _ _ _).more _).keep hb1; have Y1a := Y1.c0; have Y1b := Y1.c1; have Y1c := Y1.f0; have Y1d := Y1.f1; have Y1l := Y1.lt
  go_wp2_with fail
  exact bodyPost_ret (v := .agg #[.int .i64 a, .int .i64 b]) (by simp [results, Tryd.results40, go_sem, *]) rfl ⟨rfl, (B1.setCell (by simp) _).setCell (by simp) _⟩
theorem sWiden_g (a b y : Int) (w : World) (n : NoneAt w) (ra : Sp.R6 a) (rb : Sp.R6 b) (ry : Sp.R6 y) :
    Calls Tryd.prog 40 #[.agg #[.int .i64 a, .int .i64 b], .int .i64 y] w fun e w' => e = .returned (.agg #[.int .i64 (Sp.widL a b y), .int .i64 (Sp.widH a b y)]) ∧ Below w.heap.size w w' := by
  by_cases h : 0 ≤ y
  · exact sWiden a b y w n ra rb h ry.2
  · by_cases k : b < a
    · unfold Sp.widL Sp.widH
      rw [if_pos (Or.inl k), if_pos (Or.inl k)]
      have E1 := Lib.hid (Empty_any a b)
      rw [decide_eq_true k] at E1
      exact sWiden_none a b y w E1
    · have h : y < 0 := by omega
      unfold Sp.widL Sp.widH
      rw [if_pos (Or.inr h), if_pos (Or.inr h)]
      have E1 := Lib.hid (Empty_any a b)
      rw [decide_eq_false k] at E1
      exact sWiden_less a b y w h E1

theorem around_core (x e L H : Int) (w : World)
    (WI : Hid (∀ w', Below w.heap.size w w' → Calls Tryd.prog 40 #[sv x x, .int .i64 e] w' fun en w'' => en = .returned (sv L H) ∧ Below w'.heap.size w' w'')) :
    Calls Tryd.prog 33 #[.int .i64 x, .int .i64 e] w fun en w' => en = .returned (sv L H) ∧ Below w.heap.size w w' := by
  go_enter Tryd.func33, Tryd.ntmps33
  go_wp2_with fail
  refine (WI.out _ (below1 w _)).mono ?_; rintro e w1 ⟨rfl, hb1⟩
  have B1 := belowT (below1 w _) hb1
  have X1 := (own2 w _ _ _).keep hb1; have X1a := X1.c0; have X1b := X1.c1; have X1c := X1.f0; have X1d := X1.f1; have X1l := X1.lt
  go_wp2_with fail
  exact bodyPost_ret (v := .agg #[.int .i64 L, .int .i64 H]) (by simp [results, Tryd.results33, go_sem, *]) rfl ⟨rfl, (B1.setCell (by simp) _).setCell (by simp) _⟩
theorem around_g (x e : Int) (w : World) (n : NoneAt w) (rx : Sp.R6 x) (re : Sp.R6 e) :
    Calls Tryd.prog 33 #[.int .i64 x, .int .i64 e] w fun en w' => en = .returned (sv (Sp.widL x x e) (Sp.widH x x e)) ∧ Below w.heap.size w w' :=
  around_core x e _ _ w (Lib.hid fun w' B => sWiden_g x x e w' (n.keep B) rx rx re)

theorem Predict_g (a : Ai) (o : Ob) (w : World) (n : NoneAt w) (h : RA a) (k : OR o) :
    Calls Tryd.prog 32 #[av a, ov o] w fun e w' => e = .returned (ov (predictG a o)) ∧ Below w.heap.size w w' :=
  Predict_core a o _ _ _ _ _ _ _ _ _ _ w (Lib.hid fun w' B => sWiden_g o.vL o.vH a.move w' (n.keep B) k.vL k.vH h.move) (Lib.hid fun w' _ => upTo_g a.most h.most w') (Lib.hid fun w' B => Meet_ob _ _ _ _ w' (n.keep B))
    (Lib.hid fun w' B => sWiden_g o.bL o.bH a.change w' (n.keep B) k.bL k.bH h.change) (Lib.hid fun w' _ => upTo_g a.bias h.bias w') (Lib.hid fun w' B => Meet_ob _ _ _ _ w' (n.keep B))
theorem Start_g (a : Ai) (w : World) (h : RA a) :
    Calls Tryd.prog 21 #[av a] w fun e w' => e = .returned (ov (startG a)) ∧ Below w.heap.size w w' :=
  Start_core a _ _ w (Lib.hid fun w' => upTo_g a.most h.most w') (Lib.hid fun w' => upTo_g a.bias h.bias w')

theorem Step_g (a : Ai) (o : Ob) (bad x0 x1 x2 : Int) (t0 t1 t2 : Bool) (w : World) (n : NoneAt w) (h : RA a) (k : OR o) (r0 : Sp.R6 x0) (r1 : Sp.R6 x1) (r2 : Sp.R6 x2) :
    Calls Tryd.prog 23 #[av a, ov o, .int .i64 bad, .agg #[.int .i64 x0, .int .i64 x1, .int .i64 x2], .agg #[.bool t0, .bool t1, .bool t2]] w fun e w' => e = .returned (ov (Obs.stepG a o bad x0 x1 x2 t0 t1 t2)) ∧ Below w.heap.size w w' := by
  obtain ⟨vL, vH, bL, bH, ref⟩ := o
  cases ref
  · have hs : Obs.stepG a ⟨vL, vH, bL, bH, false⟩ bad x0 x1 x2 t0 t1 t2 = Obs.last (Obs.rf a (Obs.qf a (predictG a ⟨vL, vH, bL, bH, false⟩) bad x0 x1 x2 t0 t1 t2 3) bad x0 x1 x2 t0 t1 t2 3) := by unfold Obs.stepG; rw [if_neg (by simp)]; rfl
    rw [hs]
    have kp := predictG_r6 h k
    have HP := Lib.hid fun w' (B : Below w.heap.size w w') => Predict_g a ⟨vL, vH, bL, bH, false⟩ w' (n.keep B) h k
    generalize predictG a ⟨vL, vH, bL, bH, false⟩ = p at *
    have k1 : OR (Obs.one p 0 bad t0 a.b0 x0 a.e0) := one_r6 kp r0
    have k2 : OR (Obs.one (Obs.one p 0 bad t0 a.b0 x0 a.e0) 1 bad t1 a.b1 x1 a.e1) := one_r6 k1 r1
    have k3 : OR (Obs.qf a p bad x0 x1 x2 t0 t1 t2 3) := one_r6 k2 r2
    obtain ⟨p3, hp3⟩ : ∃ p3, p3 = Obs.qf a p bad x0 x1 x2 t0 t1 t2 3 := ⟨_, rfl⟩
    rw [← hp3] at k3 ⊢
    have m1 : OR (Obs.two p3 0 bad t0 a.b0 x0 a.e0) := two_r6 k3
    have m2 : OR (Obs.two (Obs.two p3 0 bad t0 a.b0 x0 a.e0) 1 bad t1 a.b1 x1 a.e1) := two_r6 m1
    refine Step_core a vL vH bL bH bad x0 x1 x2 t0 t1 t2 p (Obs.qf a p bad x0 x1 x2 t0 t1 t2) (Obs.rf a p3 bad x0 x1 x2 t0 t1 t2) (Sp.widL x0 x0 a.e0) (Sp.widH x0 x0 a.e0) (Sp.widL x1 x1 a.e1) (Sp.widH x1 x1 a.e1) (Sp.widL x2 x2 a.e2) (Sp.widH x2 x2 a.e2)
      _ _ _ _ _ _ _ _ _ _ _ _ w HP
      (Lib.hid fun w' B => around_g x0 a.e0 w' (n.keep B) r0 h.e0) (Lib.hid fun w' B => Meet_ob _ _ _ _ w' (n.keep B)) (Lib.hid fun w' B => share_any _ _ _ w' (n.keep B) k3 (widL_r6 r0) (widH_r6 r0))
      (Lib.hid fun h1 h2 h3 => one_in h1 h2 h3) (Lib.hid fun h => one_out h) (Lib.hid fun h1 h2 h3 => two_in h1 h2 h3) (Lib.hid fun h => two_out h)
      (Lib.hid fun w' B => around_g x1 a.e1 w' (n.keep B) r1 h.e1) (Lib.hid fun w' B => Meet_ob _ _ _ _ w' (n.keep B)) (Lib.hid fun w' B => share_any _ _ _ w' (n.keep B) m1 (widL_r6 r1) (widH_r6 r1))
      (Lib.hid fun h1 h2 h3 => one_in h1 h2 h3) (Lib.hid fun h => one_out h) (Lib.hid fun h1 h2 h3 => two_in h1 h2 h3) (Lib.hid fun h => two_out h)
      (Lib.hid fun w' B => around_g x2 a.e2 w' (n.keep B) r2 h.e2) (Lib.hid fun w' B => Meet_ob _ _ _ _ w' (n.keep B)) (Lib.hid fun w' B => share_any _ _ _ w' (n.keep B) m2 (widL_r6 r2) (widH_r6 r2))
      (Lib.hid fun h1 h2 h3 => one_in h1 h2 h3) (Lib.hid fun h => one_out h) (Lib.hid fun h1 h2 h3 => two_in h1 h2 h3) (Lib.hid fun h => two_out h)
      (Lib.hid rfl) (Lib.hid hp3) (Lib.hid fun w' _ => Empty_any _ _ w') (Lib.hid fun w' _ => Empty_any _ _ w') (Lib.hid fun h => ?_) (Lib.hid fun h1 h2 => ?_)
    · exact if_pos (by simpa using h)
    · exact if_neg (by simp at h1 h2; omega)
  · have hs : Obs.stepG a ⟨vL, vH, bL, bH, true⟩ bad x0 x1 x2 t0 t1 t2 = ⟨vL, vH, bL, bH, true⟩ := if_pos rfl
    rw [hs]
    exact Step_done a vL vH bL bH bad x0 x1 x2 t0 t1 t2 w
end Go.Proofs.YtkjkmnclnedfhaaDoor
