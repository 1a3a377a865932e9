/- Four hypotheses of three sources, in plain integers: what each knows behind a tick, how many are alive, which source is bad, the hull, who may be bad, how far apart; what holds of them as long as one source at most is bad. No program is named here. -/
import Derived.Test.YtldbkompebefmaaDoorObNum
namespace Go.Proofs.YtldbkompebefmaaDoor.Obs
open Go.Proofs.YtldbkompebefmaaDoor.Sp

/-- a number's opposite, as it is reckoned in 64 bits -/
def ng (x : Int) : Int := if x = -9223372036854775808 then x else -x
theorem ng_r6 {x : Int} (h : R6 x) : R6 (ng x) := by unfold ng R6 at *; split <;> omega
theorem ng_in {x : Int} (h : 0 ≤ x) : ng x = -x := if_neg (by omega)
def startG (a : Ai) : Ob := ⟨ng a.most, a.most, ng a.bias, a.bias, false⟩
def predictG (a : Ai) (o : Ob) : Ob :=
  ⟨meetL (widL o.vL o.vH a.move) (widH o.vL o.vH a.move) (ng a.most) a.most, meetH (widL o.vL o.vH a.move) (widH o.vL o.vH a.move) (ng a.most) a.most,
   meetL (widL o.bL o.bH a.change) (widH o.bL o.bH a.change) (ng a.bias) a.bias, meetH (widL o.bL o.bH a.change) (widH o.bL o.bH a.change) (ng a.bias) a.bias, o.ref⟩
def stepG (a : Ai) (o : Ob) (bad x0 x1 x2 : Int) (t0 t1 t2 : Bool) : Ob :=
  if o.ref = true then o else last (twos a (ones a (predictG a o) bad x0 x1 x2 t0 t1 t2) bad x0 x1 x2 t0 t1 t2)
/-- all its numbers have room -/
structure RA (a : Ai) : Prop where
  e0 : R6 a.e0
  e1 : R6 a.e1
  e2 : R6 a.e2
  bias : R6 a.bias
  change : R6 a.change
  move : R6 a.move
  most : R6 a.most
theorem startG_r6 {a : Ai} (h : RA a) : OR (startG a) := ⟨ng_r6 h.most, h.most, ng_r6 h.bias, h.bias⟩
theorem predictG_r6 {a : Ai} (h : RA a) {o : Ob} (k : OR o) : OR (predictG a o) := by
  have s := startG_r6 h
  exact ⟨meetL_r6 (widL_r6 k.vL) s.vL, meetH_r6 (widH_r6 k.vH) s.vH, meetL_r6 (widL_r6 k.bL) s.bL, meetH_r6 (widH_r6 k.bH) s.bH⟩
theorem stepG_r6 {a : Ai} (h : RA a) {o : Ob} (k : OR o) {bad x0 x1 x2 : Int} {t0 t1 t2 : Bool} (h0 : R6 x0) (h1 : R6 x1) (h2 : R6 x2) : OR (stepG a o bad x0 x1 x2 t0 t1 t2) := by
  unfold stepG
  split
  · exact k
  · exact last_r6 (two_r6 (two_r6 (two_r6 (one_r6 (one_r6 (one_r6 (predictG_r6 h k) h0) h1) h2))))
theorem startG_is {a : Ai} (h : AR a) : startG a = start a := by
  have h1 := h.most; have h2 := h.bias
  unfold startG start
  rw [ng_in (by omega), ng_in h2.1]
theorem stepG_is {a : Ai} (h : AR a) (o : Ob) (bad x0 x1 x2 : Int) (t0 t1 t2 : Bool) : stepG a o bad x0 x1 x2 t0 t1 t2 = step a o bad x0 x1 x2 t0 t1 t2 := by
  have h1 := h.most; have h2 := h.bias
  have e : predictG a o = predict a o := by
    unfold predictG predict
    rw [ng_in (by omega), ng_in h2.1]
  unfold stepG step
  rw [e]
theorem ra_of {a : Ai} (h : AR a) : RA a := by
  have h0 := h.e0; have h1 := h.e1; have h2 := h.e2; have h3 := h.bias; have h4 := h.change; have h5 := h.move; have h6 := h.most
  exact ⟨r6 (by omega) (by omega), r6 (by omega) (by omega), r6 (by omega) (by omega), r6 (by omega) (by omega), r6 (by omega) (by omega), r6 (by omega) (by omega), r6 (by omega) (by omega)⟩

/-- the four hypotheses -/
structure Qd where
  h0 : Ob
  h1 : Ob
  h2 : Ob
  h3 : Ob
structure QR (q : Qd) : Prop where
  h0 : OR q.h0
  h1 : OR q.h1
  h2 : OR q.h2
  h3 : OR q.h3
def qget (q : Qd) : Nat → Ob
  | 0 => q.h0
  | 1 => q.h1
  | 2 => q.h2
  | _ => q.h3
def qstart (a : Ai) : Qd := ⟨startG a, startG a, startG a, startG a⟩
def qstep (a : Ai) (q : Qd) (x0 x1 x2 : Int) (t0 t1 t2 : Bool) : Qd :=
  ⟨stepG a q.h0 (-1) x0 x1 x2 t0 t1 t2, stepG a q.h1 0 x0 x1 x2 t0 t1 t2, stepG a q.h2 1 x0 x1 x2 t0 t1 t2, stepG a q.h3 2 x0 x1 x2 t0 t1 t2⟩
theorem qstart_r6 {a : Ai} (h : RA a) : QR (qstart a) := ⟨startG_r6 h, startG_r6 h, startG_r6 h, startG_r6 h⟩
theorem qstep_r6 {a : Ai} (h : RA a) {q : Qd} (k : QR q) {x0 x1 x2 : Int} {t0 t1 t2 : Bool} (h0 : R6 x0) (h1 : R6 x1) (h2 : R6 x2) : QR (qstep a q x0 x1 x2 t0 t1 t2) :=
  ⟨stepG_r6 h k.h0 h0 h1 h2, stepG_r6 h k.h1 h0 h1 h2, stepG_r6 h k.h2 h0 h1 h2, stepG_r6 h k.h3 h0 h1 h2⟩

/-- one more, if it is not refuted -/
def up1 (n : Int) (r : Bool) : Int := if r then n else n + 1
def alive (q : Qd) : Int := up1 (up1 (up1 (up1 0 q.h0.ref) q.h1.ref) q.h2.ref) q.h3.ref
def bad1 (b : Int) (r : Bool) (v : Int) : Int := if r then b else v
def badQ (q : Qd) : Int := if 1 < alive q then -1 else bad1 (bad1 (bad1 (bad1 (-1) q.h0.ref (-1)) q.h1.ref 0) q.h2.ref 1) q.h3.ref 2
def status (q : Qd) : Int := if q.h0.ref = false then 0 else if 0 < alive q then 1 else 2
def hu (s : Int × Int) (o : Ob) : Int × Int := if o.ref then s else (hullL s.1 s.2 o.vL o.vH, hullH s.1 s.2 o.vL o.vH)
def hullQ (q : Qd) : Int × Int := hu (hu (hu (hu (1, 0) q.h0) q.h1) q.h2) q.h3
def bl1 (r : Bool) : Int := if r then 0 else 1
/-- how far apart, if both are alive -/
def sp1 (f : Int) (o p : Ob) : Int := if o.ref = false ∧ p.ref = false then max f (gap o.vL o.vH p.vL p.vH) else f
def spread (q : Qd) : Int := sp1 (sp1 (sp1 (sp1 (sp1 (sp1 0 q.h0 q.h1) q.h0 q.h2) q.h0 q.h3) q.h1 q.h2) q.h1 q.h3) q.h2 q.h3
/-- the same, in the document's own order -/
def spreadR (q : Qd) : Int := sp1 (sp1 (sp1 (sp1 (sp1 (sp1 0 q.h1 q.h0) q.h2 q.h0) q.h2 q.h1) q.h3 q.h0) q.h3 q.h1) q.h3 q.h2
/-- what a pair of hypotheses adds -/
def prg (o p : Ob) : Int := if o.ref = false ∧ p.ref = false then gap o.vL o.vH p.vL p.vH else 0
theorem gap_nonneg (a b c d : Int) : 0 ≤ gap a b c d := by
  unfold gap
  split; exact Int.le_refl _
  split; exact Int.le_refl _
  split; exact Int.le_refl _
  rename_i h
  have := sat_pos (x := max a c - min b d) (by omega)
  omega
theorem prg_same (o p : Ob) : prg o p = prg p o := by
  unfold prg
  rw [gap_same]
  cases o.ref <;> cases p.ref <;> rfl
theorem sp1_prg {f : Int} (o p : Ob) (h : 0 ≤ f) : sp1 f o p = max f (prg o p) := by
  unfold sp1 prg
  split
  · rfl
  · omega
theorem spread_nonneg (q : Qd) : 0 ≤ spread q := by
  unfold spread
  have h : ∀ f o p, 0 ≤ f → 0 ≤ sp1 f o p := fun f o p h => by rw [sp1_prg o p h]; omega
  exact h _ _ _ (h _ _ _ (h _ _ _ (h _ _ _ (h _ _ _ (h _ _ _ (Int.le_refl 0))))))
theorem spread_same (q : Qd) : spreadR q = spread q := by
  have h : ∀ f o p, 0 ≤ f → 0 ≤ sp1 f o p := fun f o p h => by rw [sp1_prg o p h]; omega
  have z : (0 : Int) ≤ 0 := Int.le_refl 0
  unfold spreadR spread
  rw [sp1_prg _ _ (h _ _ _ (h _ _ _ (h _ _ _ (h _ _ _ (h _ _ _ z))))), sp1_prg _ _ (h _ _ _ (h _ _ _ (h _ _ _ (h _ _ _ z)))), sp1_prg _ _ (h _ _ _ (h _ _ _ (h _ _ _ z))), sp1_prg _ _ (h _ _ _ (h _ _ _ z)), sp1_prg _ _ (h _ _ _ z), sp1_prg _ _ z]
  rw [sp1_prg _ _ (h _ _ _ (h _ _ _ (h _ _ _ (h _ _ _ (h _ _ _ z))))), sp1_prg _ _ (h _ _ _ (h _ _ _ (h _ _ _ (h _ _ _ z)))), sp1_prg _ _ (h _ _ _ (h _ _ _ (h _ _ _ z))), sp1_prg _ _ (h _ _ _ (h _ _ _ z)), sp1_prg _ _ (h _ _ _ z), sp1_prg _ _ z]
  rw [prg_same q.h1 q.h0, prg_same q.h2 q.h0, prg_same q.h2 q.h1, prg_same q.h3 q.h0, prg_same q.h3 q.h1, prg_same q.h3 q.h2]
  omega

/-- the hull has what a span in it has -/
theorem hull_left {a b c d x : Int} (h1 : a ≤ x) (h2 : x ≤ b) : hullL a b c d ≤ x ∧ x ≤ hullH a b c d := by
  have n : ¬ b < a := by omega
  unfold hullL hullH
  simp only [if_neg n]
  split
  · exact ⟨h1, h2⟩
  · rw [oL_in (by omega), oH_in (by omega)]; omega
theorem hull_right {a b c d x : Int} (h1 : c ≤ x) (h2 : x ≤ d) : hullL a b c d ≤ x ∧ x ≤ hullH a b c d := by
  have n : ¬ d < c := by omega
  unfold hullL hullH
  simp only [if_neg n]
  split
  · exact ⟨h1, h2⟩
  · rw [oL_in (by omega), oH_in (by omega)]; omega
def inS (s : Int × Int) (x : Int) : Prop := s.1 ≤ x ∧ x ≤ s.2
theorem hu_keeps {s : Int × Int} {o : Ob} {x : Int} (h : inS s x) : inS (hu s o) x := by
  unfold hu
  split
  · exact h
  · exact hull_left h.1 h.2
theorem hu_has {s : Int × Int} {o : Ob} {x b : Int} (h : Knows o x b) : inS (hu s o) x := by
  unfold hu
  rw [h.ref]
  exact hull_right h.v1 h.v2
theorem hullQ_has {q : Qd} {v b : Int} (j : Nat) (hj : j < 4) (h : Knows (qget q j) v b) : inS (hullQ q) v := by
  unfold hullQ
  match j, hj with
  | 0, _ => exact hu_keeps (hu_keeps (hu_keeps (hu_has h)))
  | 1, _ => exact hu_keeps (hu_keeps (hu_has h))
  | 2, _ => exact hu_keeps (hu_has h)
  | 3, _ => exact hu_has h

/-- refuted stays so -/
theorem step_ref {a : Ai} {o : Ob} {bad x0 x1 x2 : Int} {t0 t1 t2 : Bool} (h : o.ref = true) : (stepG a o bad x0 x1 x2 t0 t1 t2).ref = true := by
  unfold stepG
  rw [if_pos h, h]
structure Later (q p : Qd) : Prop where
  h0 : q.h0.ref = true → p.h0.ref = true
  h1 : q.h1.ref = true → p.h1.ref = true
  h2 : q.h2.ref = true → p.h2.ref = true
  h3 : q.h3.ref = true → p.h3.ref = true
theorem qstep_later (a : Ai) (q : Qd) (x0 x1 x2 : Int) (t0 t1 t2 : Bool) : Later q (qstep a q x0 x1 x2 t0 t1 t2) := ⟨step_ref, step_ref, step_ref, step_ref⟩
theorem later_alive {q p : Qd} (h : Later q p) : alive p ≤ alive q := by
  obtain ⟨a0, a1, a2, a3⟩ := h
  unfold alive up1
  revert a0 a1 a2 a3
  cases q.h0.ref <;> cases q.h1.ref <;> cases q.h2.ref <;> cases q.h3.ref <;> cases p.h0.ref <;> cases p.h1.ref <;> cases p.h2.ref <;> cases p.h3.ref <;> decide
theorem later_status {q p : Qd} (h : Later q p) : status q ≤ status p := by
  obtain ⟨a0, a1, a2, a3⟩ := h
  unfold status alive up1
  revert a0 a1 a2 a3
  cases q.h0.ref <;> cases q.h1.ref <;> cases q.h2.ref <;> cases q.h3.ref <;> cases p.h0.ref <;> cases p.h1.ref <;> cases p.h2.ref <;> cases p.h3.ref <;> decide
theorem status_not {q : Qd} (j : Nat) (hj : j < 4) (h : (qget q j).ref = false) : status q < 2 := by
  unfold status alive up1
  match j, hj with
  | 0, _ => have h : q.h0.ref = false := h; rw [if_pos h]; decide
  | 1, _ => have h : q.h1.ref = false := h; rw [h]; cases q.h0.ref <;> cases q.h2.ref <;> cases q.h3.ref <;> decide
  | 2, _ => have h : q.h2.ref = false := h; rw [h]; cases q.h0.ref <;> cases q.h1.ref <;> cases q.h3.ref <;> decide
  | 3, _ => have h : q.h3.ref = false := h; rw [h]; cases q.h0.ref <;> cases q.h1.ref <;> cases q.h2.ref <;> decide
/-- no other is told as bad -/
theorem bad_not {q : Qd} (j : Nat) (hj : j < 4) (h : (qget q j).ref = false) : badQ q = -1 ∨ badQ q = (j : Int) - 1 := by
  unfold badQ alive up1 bad1
  match j, hj with
  | 0, _ => have h : q.h0.ref = false := h; rw [h]; cases q.h1.ref <;> cases q.h2.ref <;> cases q.h3.ref <;> decide
  | 1, _ => have h : q.h1.ref = false := h; rw [h]; cases q.h0.ref <;> cases q.h2.ref <;> cases q.h3.ref <;> decide
  | 2, _ => have h : q.h2.ref = false := h; rw [h]; cases q.h0.ref <;> cases q.h1.ref <;> cases q.h3.ref <;> decide
  | 3, _ => have h : q.h3.ref = false := h; rw [h]; cases q.h0.ref <;> cases q.h1.ref <;> cases q.h2.ref <;> decide
theorem blame_sum (q : Qd) : bl1 q.h1.ref + bl1 q.h2.ref + bl1 q.h3.ref + bl1 q.h0.ref = alive q := by
  unfold bl1 alive up1
  cases q.h0.ref <;> cases q.h1.ref <;> cases q.h2.ref <;> cases q.h3.ref <;> decide
theorem alive_room (q : Qd) : 0 ≤ alive q ∧ alive q ≤ 4 := by
  unfold alive up1
  cases q.h0.ref <;> cases q.h1.ref <;> cases q.h2.ref <;> cases q.h3.ref <;> decide
theorem hu_r6 {s : Int × Int} {o : Ob} (h1 : R6 s.1) (h2 : R6 s.2) (k : OR o) : R6 (hu s o).1 ∧ R6 (hu s o).2 := by
  unfold hu
  split
  · exact ⟨h1, h2⟩
  · unfold hullL hullH
    refine ⟨?_, ?_⟩
    · show R6 (if _ then _ else _)
      split; exact k.vL
      split; exact h1
      exact oL_r6 (min_r6 h1 k.vL)
    · show R6 (if _ then _ else _)
      split; exact k.vH
      split; exact h2
      exact oH_r6 (max_r6 h2 k.vH)

/-- the hypothesis of the bad one steps as an observer does -/
theorem qstep_knows {a : Ai} (h : AR a) {q : Qd} {v b v' b' x0 x1 x2 : Int} (j : Nat) (hj : j < 4) (k : Knows (qget q j) v b) (g : Goes a v b v' b' ((j : Int) - 1) x0 x1 x2) (t0 t1 t2 : Bool) :
    Knows (qget (qstep a q x0 x1 x2 t0 t1 t2) j) v' b' := by
  have e := step_knows h k g t0 t1 t2
  rw [← stepG_is h] at e
  match j, hj with
  | 0, _ => exact e
  | 1, _ => exact e
  | 2, _ => exact e
  | 3, _ => exact e
end Go.Proofs.YtldbkompebefmaaDoor.Obs
