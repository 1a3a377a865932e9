/- The landed observer's Step: what it answers. -/
import Derived.Test.YtkjkmnclnedfhaaDoorObLanB
import Derived.Test.YtkjkmnclnedfhaaDoorObLanC
import Derived.Test.YtkjkmnclnedfhaaDoorObShare
namespace Go.Proofs.YtkjkmnclnedfhaaDoor
open Go.RowKit Obs

namespace Obs
theorem one_in {o : Ob} {j : Nat} {bad : Int} {t b : Bool} {x e : Int} (h1 : t = true) (h2 : ¬ bad = (j : Int)) (h3 : b = false) : one o j bad t b x e = tell o x e := if_pos ⟨h1, Ne.symm h2, h3⟩
theorem one_out {o : Ob} {j : Nat} {bad : Int} {t b : Bool} {x e : Int} (h : ¬ (t = true ∧ ¬ bad = (j : Int) ∧ b = false)) : one o j bad t b x e = o := if_neg fun k => h ⟨k.1, Ne.symm k.2.1, k.2.2⟩
theorem two_in {o : Ob} {j : Nat} {bad : Int} {t b : Bool} {x e : Int} (h1 : t = true) (h2 : ¬ bad = (j : Int)) (h3 : b = true) : two o j bad t b x e = share o (Sp.widL x x e) (Sp.widH x x e) := if_pos ⟨h1, Ne.symm h2, h3⟩
theorem two_out {o : Ob} {j : Nat} {bad : Int} {t b : Bool} {x e : Int} (h : ¬ (t = true ∧ ¬ bad = (j : Int) ∧ b = true)) : two o j bad t b x e = o := if_neg fun k => h ⟨k.1, Ne.symm k.2.1, k.2.2⟩
/-- behind so many sources -/
def qf (a : Ai) (p : Ob) (bad x0 x1 x2 : Int) (t0 t1 t2 : Bool) : Nat → Ob
  | 0 => p
  | 1 => one p 0 bad t0 a.b0 x0 a.e0
  | 2 => one (one p 0 bad t0 a.b0 x0 a.e0) 1 bad t1 a.b1 x1 a.e1
  | _ => ones a p bad x0 x1 x2 t0 t1 t2
def rf (a : Ai) (p : Ob) (bad x0 x1 x2 : Int) (t0 t1 t2 : Bool) : Nat → Ob
  | 0 => p
  | 1 => two p 0 bad t0 a.b0 x0 a.e0
  | 2 => two (two p 0 bad t0 a.b0 x0 a.e0) 1 bad t1 a.b1 x1 a.e1
  | _ => twos a p bad x0 x1 x2 t0 t1 t2
end Obs

theorem Step_done (a : Ai) (vL vH bL bH bad x0 x1 x2 : Int) (t0 t1 t2 : Bool) (w : World) :
    Calls Tryd.prog 23 #[av a, .agg #[.int .i64 vL, .int .i64 vH, .int .i64 bL, .int .i64 bH, .bool true], .int .i64 bad, .agg #[.int .i64 x0, .int .i64 x1, .int .i64 x2], .agg #[.bool t0, .bool t1, .bool t2]] w fun e w' => e = .returned (.agg #[.int .i64 vL, .int .i64 vH, .int .i64 bL, .int .i64 bH, .bool true]) ∧ Below w.heap.size w w' := by
  have hS1 := (((((Sp.none w).more (al a) 25).more [.int .i64 vL, .int .i64 vH, .int .i64 bL, .int .i64 bH, .bool true] 34).more [.int .i64 x0, .int .i64 x1, .int .i64 x2] 22).more [.bool t0, .bool t1, .bool t2] 23).more [.int .i64 vL, .int .i64 vH, .int .i64 bL, .int .i64 bH, .bool true] 34
  have BH := Lib.hid hS1.below
  clear hS1
  go_enter Tryd.func23, Tryd.ntmps23
  go_wp2_with fail
  exact bodyPost_ret (v := .agg #[.int .i64 vL, .int .i64 vH, .int .i64 bL, .int .i64 bH, .bool true]) (by simp [results, Tryd.results23, go_sem, *]) rfl ⟨rfl, BH.out⟩

theorem Step_any (a : Ai) (o : Ob) (bad x0 x1 x2 : Int) (t0 t1 t2 : Bool) (w : World) (n : NoneAt w) (h : AR a) (k : OR o) (r0 : Sp.R6 x0) (r1 : Sp.R6 x1) (r2 : Sp.R6 x2) :
    Calls Tryd.prog 23 #[av a, ov o, .int .i64 bad, .agg #[.int .i64 x0, .int .i64 x1, .int .i64 x2], .agg #[.bool t0, .bool t1, .bool t2]] w fun e w' => e = .returned (ov (Obs.step a o bad x0 x1 x2 t0 t1 t2)) ∧ Below w.heap.size w w' := by
  obtain ⟨vL, vH, bL, bH, ref⟩ := o
  cases ref
  · have hs : Obs.step a ⟨vL, vH, bL, bH, false⟩ bad x0 x1 x2 t0 t1 t2 = Obs.last (Obs.rf a (Obs.qf a (Obs.predict a ⟨vL, vH, bL, bH, false⟩) bad x0 x1 x2 t0 t1 t2 3) bad x0 x1 x2 t0 t1 t2 3) := by unfold Obs.step; rw [if_neg (by simp)]; rfl
    rw [hs]
    have kp := predict_r6 h k
    have HP := Lib.hid fun w' (B : Below w.heap.size w w') => Predict_any a ⟨vL, vH, bL, bH, false⟩ w' (n.keep B) h k
    generalize Obs.predict a ⟨vL, vH, bL, bH, false⟩ = p at *
    have k1 : OR (Obs.one p 0 bad t0 a.b0 x0 a.e0) := one_r6 kp r0
    have k2 : OR (Obs.one (Obs.one p 0 bad t0 a.b0 x0 a.e0) 1 bad t1 a.b1 x1 a.e1) := one_r6 k1 r1
    have k3 : OR (Obs.qf a p bad x0 x1 x2 t0 t1 t2 3) := one_r6 k2 r2
    have e0 := h.e0; have e1 := h.e1; have e2 := h.e2
    obtain ⟨p3, hp3⟩ : ∃ p3, p3 = Obs.qf a p bad x0 x1 x2 t0 t1 t2 3 := ⟨_, rfl⟩
    rw [← hp3] at k3 ⊢
    have m1 : OR (Obs.two p3 0 bad t0 a.b0 x0 a.e0) := two_r6 k3
    have m2 : OR (Obs.two (Obs.two p3 0 bad t0 a.b0 x0 a.e0) 1 bad t1 a.b1 x1 a.e1) := two_r6 m1
    refine Step_core a vL vH bL bH bad x0 x1 x2 t0 t1 t2 p (Obs.qf a p bad x0 x1 x2 t0 t1 t2) (Obs.rf a p3 bad x0 x1 x2 t0 t1 t2) (Sp.widL x0 x0 a.e0) (Sp.widH x0 x0 a.e0) (Sp.widL x1 x1 a.e1) (Sp.widH x1 x1 a.e1) (Sp.widL x2 x2 a.e2) (Sp.widH x2 x2 a.e2)
      _ _ _ _ _ _ _ _ _ _ _ _ w HP
      (Lib.hid fun w' B => around_any x0 a.e0 w' (n.keep B) r0 e0.1 (by omega)) (Lib.hid fun w' B => Meet_ob _ _ _ _ w' (n.keep B)) (Lib.hid fun w' B => share_any _ _ _ w' (n.keep B) k3 (widL_r6 r0) (widH_r6 r0))
      (Lib.hid fun h1 h2 h3 => one_in h1 h2 h3) (Lib.hid fun h => one_out h) (Lib.hid fun h1 h2 h3 => two_in h1 h2 h3) (Lib.hid fun h => two_out h)
      (Lib.hid fun w' B => around_any x1 a.e1 w' (n.keep B) r1 e1.1 (by omega)) (Lib.hid fun w' B => Meet_ob _ _ _ _ w' (n.keep B)) (Lib.hid fun w' B => share_any _ _ _ w' (n.keep B) m1 (widL_r6 r1) (widH_r6 r1))
      (Lib.hid fun h1 h2 h3 => one_in h1 h2 h3) (Lib.hid fun h => one_out h) (Lib.hid fun h1 h2 h3 => two_in h1 h2 h3) (Lib.hid fun h => two_out h)
      (Lib.hid fun w' B => around_any x2 a.e2 w' (n.keep B) r2 e2.1 (by omega)) (Lib.hid fun w' B => Meet_ob _ _ _ _ w' (n.keep B)) (Lib.hid fun w' B => share_any _ _ _ w' (n.keep B) m2 (widL_r6 r2) (widH_r6 r2))
      (Lib.hid fun h1 h2 h3 => one_in h1 h2 h3) (Lib.hid fun h => one_out h) (Lib.hid fun h1 h2 h3 => two_in h1 h2 h3) (Lib.hid fun h => two_out h)
      (Lib.hid rfl) (Lib.hid hp3) (Lib.hid fun w' _ => Empty_any _ _ w') (Lib.hid fun w' _ => Empty_any _ _ w') (Lib.hid fun h => ?_) (Lib.hid fun h1 h2 => ?_)
    · exact if_pos (by simpa using h)
    · exact if_neg (by simp at h1 h2; omega)
  · have hs : Obs.step a ⟨vL, vH, bL, bH, true⟩ bad x0 x1 x2 t0 t1 t2 = ⟨vL, vH, bL, bH, true⟩ := if_pos rfl
    rw [hs]
    exact Step_done a vL vH bL bH bad x0 x1 x2 t0 t1 t2 w
end Go.Proofs.YtkjkmnclnedfhaaDoor
