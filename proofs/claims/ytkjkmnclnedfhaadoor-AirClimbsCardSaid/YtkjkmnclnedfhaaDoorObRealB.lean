/- Layer 29's law: a tick of what is: what Real answers, and that it goes as P29.5 asks. -/
import Derived.Test.YtkjkmnclnedfhaaDoorObReal
import Derived.Test.YtkjkmnclnedfhaaDoorObLaw0
namespace Go.Proofs.YtkjkmnclnedfhaaDoor
open Go.RowKit Obs

def nvF (a : Ai) (t : Tk) (v : Int) : Int := Fix.clamp (v + wt t.move a.move) (-a.most) a.most
def nbF (a : Ai) (t : Tk) (b : Int) : Int := Fix.clamp (b + wt t.change a.change) (-a.bias) a.bias
def yF (nv nb bad j o e : Int) (bi : Bool) : Int := if bad = j then wt o 1073741824 else if bi = true then nv + wt o e + nb else nv + wt o e
theorem clamp_in {x l h : Int} (k : l ≤ h) : l ≤ Fix.clamp x l h ∧ Fix.clamp x l h ≤ h := by unfold Fix.clamp; omega
theorem nv_goes {a : Ai} {t : Tk} {v : Int} (h : AR a) (h1 : -a.most ≤ v) (h2 : v ≤ a.most) : -a.most ≤ nvF a t v ∧ nvF a t v ≤ a.most ∧ v - a.move ≤ nvF a t v ∧ nvF a t v ≤ v + a.move := by
  have k := wt_in t.move a.move h.move.1
  have k2 := h.most
  unfold nvF Fix.clamp
  omega
theorem nb_goes {a : Ai} {t : Tk} {b : Int} (h : AR a) (h1 : -a.bias ≤ b) (h2 : b ≤ a.bias) : -a.bias ≤ nbF a t b ∧ nbF a t b ≤ a.bias ∧ b - a.change ≤ nbF a t b ∧ nbF a t b ≤ b + a.change := by
  have k := wt_in t.change a.change h.change.1
  have k2 := h.bias
  unfold nbF Fix.clamp
  omega
theorem y_goes {nv nb bad j o e : Int} {bi : Bool} (he : 0 ≤ e) (k : bad ≠ j) : nv + (if bi then nb else 0) - e ≤ yF nv nb bad j o e bi ∧ yF nv nb bad j o e bi ≤ nv + (if bi then nb else 0) + e := by
  have := wt_in o e he
  unfold yF
  rw [if_neg k]
  cases bi <;> simp <;> omega
theorem y_room {nv nb bad j o e : Int} {bi : Bool} (he : 0 ≤ e ∧ e ≤ 1048576) (hv : -16777216 ≤ nv ∧ nv ≤ 16777216) (hb : -16777216 ≤ nb ∧ nb ≤ 16777216) : -1099511627776 ≤ yF nv nb bad j o e bi ∧ yF nv nb bad j o e bi ≤ 1099511627776 := by
  have h1 := wt_in o e he.1
  have h2 := wt_in o 1073741824 (by decide)
  unfold yF
  split
  · omega
  · split <;> omega
theorem real_goes {a : Ai} {t : Tk} {v b : Int} (bad : Int) (h : AR a) (h1 : -a.most ≤ v) (h2 : v ≤ a.most) (h3 : -a.bias ≤ b) (h4 : b ≤ a.bias) :
    Goes a v b (nvF a t v) (nbF a t b) bad (yF (nvF a t v) (nbF a t b) bad 0 t.o0 a.e0 a.b0) (yF (nvF a t v) (nbF a t b) bad 1 t.o1 a.e1 a.b1) (yF (nvF a t v) (nbF a t b) bad 2 t.o2 a.e2 a.b2) := by
  obtain ⟨v1, v2, v3, v4⟩ := nv_goes (t := t) h h1 h2
  obtain ⟨b1, b2, b3, b4⟩ := nb_goes (t := t) h h3 h4
  have hm := h.most; have hb := h.bias
  generalize nvF a t v = nv at *
  generalize nbF a t b = nb at *
  have rv : -16777216 ≤ nv ∧ nv ≤ 16777216 := by omega
  have rb : -16777216 ≤ nb ∧ nb ≤ 16777216 := by omega
  exact ⟨v1, v2, b1, b2, v3, v4, b3, b4, y_goes h.e0.1, y_goes h.e1.1, y_goes h.e2.1, y_room h.e0 rv rb, y_room h.e1 rv rb, y_room h.e2 rv rb⟩

set_option maxHeartbeats 4000000 in
theorem Real_any (a : Ai) (t : Tk) (v b bad : Int) (w : World) (h : AR a) (h1 : -a.most ≤ v) (h2 : v ≤ a.most) (h3 : -a.bias ≤ b) (h4 : b ≤ a.bias) :
    Calls Tryd.prog 8 #[av a, tv t, .int .i64 v, .int .i64 b, .int .i64 bad] w fun e w' => e = .returned (.tuple #[.int .i64 (nvF a t v), .int .i64 (nbF a t b), .agg #[.int .i64 (yF (nvF a t v) (nbF a t b) bad 0 t.o0 a.e0 a.b0), .int .i64 (yF (nvF a t v) (nbF a t b) bad 1 t.o1 a.e1 a.b1), .int .i64 (yF (nvF a t v) (nbF a t b) bad 2 t.o2 a.e2 a.b2)]]) ∧ Below w.heap.size w w' := by
  obtain ⟨v1, v2, _, _⟩ := nv_goes (t := t) h h1 h2
  obtain ⟨b1, b2, _, _⟩ := nb_goes (t := t) h h3 h4
  have hm := h.most; have hb := h.bias; have hmv := h.move; have hch := h.change
  have km := wt_in t.move a.move h.move.1
  have kc := wt_in t.change a.change h.change.1
  have CV := fun w => Clamp_b (v + wt t.move a.move) (-a.most) a.most w
  have CB := fun w => Clamp_b (b + wt t.change a.change) (-a.bias) a.bias w
  change ∀ w, Calls _ _ _ w fun e w' => e = .returned (.int .i64 (nvF a t v)) ∧ _ at CV
  change ∀ w, Calls _ _ _ w fun e w' => e = .returned (.int .i64 (nbF a t b)) ∧ _ at CB
  have WM := fun w => Within_b t.move a.move w hmv.1 (by omega)
  have WC := fun w => Within_b t.change a.change w hch.1 (by omega)
  have e0 := h.e0; have e1 := h.e1; have e2 := h.e2
  have D0 := fun w => Within_b t.o0 a.e0 w e0.1 (by omega)
  have D1 := fun w => Within_b t.o1 a.e1 w e1.1 (by omega)
  have D2 := fun w => Within_b t.o2 a.e2 w e2.1 (by omega)
  have G0 := fun w => Within_any t.o0 1073741824 w (by decide) (by decide)
  have G1 := fun w => Within_any t.o1 1073741824 w (by decide) (by decide)
  have G2 := fun w => Within_any t.o2 1073741824 w (by decide) (by decide)
  have w0 := wt_in t.o0 a.e0 e0.1
  have w1 := wt_in t.o1 a.e1 e1.1
  have w2 := wt_in t.o2 a.e2 e2.1
  unfold yF
  generalize nvF a t v = nv at *
  generalize nbF a t b = nb at *
  generalize wt t.move a.move = dm at *
  generalize wt t.change a.change = dc at *
  generalize wt t.o0 a.e0 = d0 at *
  generalize wt t.o1 a.e1 = d1 at *
  generalize wt t.o2 a.e2 = d2 at *
  generalize wt t.o0 1073741824 = g0 at *
  generalize wt t.o1 1073741824 = g1 at *
  generalize wt t.o2 1073741824 = g2 at *
  exact Real_core a t v b bad dm dc (v + dm) (b + dc) (-a.most) (-a.bias) nv nb d0 (nv + d0) g0 (nv + d0 + nb) _ d1 (nv + d1) g1 (nv + d1 + nb) _ d2 (nv + d2) g2 (nv + d2 + nb) _ w (Lib.hid WM) (Lib.hid WC) (Lib.hid CV) (Lib.hid CB)
    ((wrap_i64 _).trans (by omega)) ((wrap_i64 _).trans (by omega)) ((wrap_i64 _).trans (by omega)) ((wrap_i64 _).trans (by omega))
    (Lib.hid D0) (Lib.hid G0) (Lib.hid ((wrap_i64 _).trans (by omega))) (Lib.hid ((wrap_i64 _).trans (by omega))) (Lib.hid fun k => if_pos k) (Lib.hid fun k c => (if_neg k).trans (if_pos c)) (Lib.hid fun k c => (if_neg k).trans (if_neg (by rw [c]; decide)))
    (Lib.hid D1) (Lib.hid G1) (Lib.hid ((wrap_i64 _).trans (by omega))) (Lib.hid ((wrap_i64 _).trans (by omega))) (Lib.hid fun k => if_pos k) (Lib.hid fun k c => (if_neg k).trans (if_pos c)) (Lib.hid fun k c => (if_neg k).trans (if_neg (by rw [c]; decide)))
    (Lib.hid D2) (Lib.hid G2) (Lib.hid ((wrap_i64 _).trans (by omega))) (Lib.hid ((wrap_i64 _).trans (by omega))) (Lib.hid fun k => if_pos k) (Lib.hid fun k c => (if_neg k).trans (if_pos c)) (Lib.hid fun k c => (if_neg k).trans (if_neg (by rw [c]; decide)))
end Go.Proofs.YtkjkmnclnedfhaaDoor
