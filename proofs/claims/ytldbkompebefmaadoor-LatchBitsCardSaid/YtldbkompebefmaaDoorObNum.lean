/- What one hypothesis knows of the air, in plain integers: what is widened, met, shared; that it has the value and the bias as long as they move as they may. No program is named here. -/
import Derived.Test.YtldbkompebefmaaDoorSpanNum
namespace Go.Proofs.YtldbkompebefmaaDoor.Obs
open Go.Proofs.YtldbkompebefmaaDoor.Sp

/-- what may be known of a quantity of the air -/
structure Ai where
  e0 : Int
  e1 : Int
  e2 : Int
  b0 : Bool
  b1 : Bool
  b2 : Bool
  bias : Int
  change : Int
  move : Int
  most : Int
/-- what is known of the value and the bias -/
structure Ob where
  vL : Int
  vH : Int
  bL : Int
  bH : Int
  ref : Bool
deriving DecidableEq

def meetL (a b c d : Int) : Int := oL (max a c) (min b d)
def meetH (a b c d : Int) : Int := oH (max a c) (min b d)
def subL (a b c d : Int) : Int := sel a b c d 1 (oL (sat (a - d)) (sat (b - c)))
def subH (a b c d : Int) : Int := sel a b c d 0 (oH (sat (a - d)) (sat (b - c)))
def start (a : Ai) : Ob := ⟨-a.most, a.most, -a.bias, a.bias, false⟩
def predict (a : Ai) (o : Ob) : Ob :=
  ⟨meetL (widL o.vL o.vH a.move) (widH o.vL o.vH a.move) (-a.most) a.most, meetH (widL o.vL o.vH a.move) (widH o.vL o.vH a.move) (-a.most) a.most,
   meetL (widL o.bL o.bH a.change) (widH o.bL o.bH a.change) (-a.bias) a.bias, meetH (widL o.bL o.bH a.change) (widH o.bL o.bH a.change) (-a.bias) a.bias, o.ref⟩
/-- met with a reading of one that is not biased -/
def tell (o : Ob) (x e : Int) : Ob := ⟨meetL o.vL o.vH (widL x x e) (widH x x e), meetH o.vL o.vH (widL x x e) (widH x x e), o.bL, o.bH, o.ref⟩
/-- the value and the bias add up to a number of the span -/
def shareV (o : Ob) (l h : Int) : Ob := ⟨meetL o.vL o.vH (subL l h o.bL o.bH) (subH l h o.bL o.bH), meetH o.vL o.vH (subL l h o.bL o.bH) (subH l h o.bL o.bH), o.bL, o.bH, o.ref⟩
def shareB (o : Ob) (l h : Int) : Ob := ⟨o.vL, o.vH, meetL o.bL o.bH (subL l h o.vL o.vH) (subH l h o.vL o.vH), meetH o.bL o.bH (subL l h o.vL o.vH) (subH l h o.vL o.vH), o.ref⟩
def share (o : Ob) (l h : Int) : Ob := shareB (shareV o l h) l h
def one (o : Ob) (j : Nat) (bad : Int) (t b : Bool) (x e : Int) : Ob := if t = true ∧ (j : Int) ≠ bad ∧ b = false then tell o x e else o
def two (o : Ob) (j : Nat) (bad : Int) (t b : Bool) (x e : Int) : Ob := if t = true ∧ (j : Int) ≠ bad ∧ b = true then share o (widL x x e) (widH x x e) else o
def last (o : Ob) : Ob := if o.vH < o.vL ∨ o.bH < o.bL then ⟨0, 0, 0, 0, true⟩ else o
def ones (a : Ai) (o : Ob) (bad x0 x1 x2 : Int) (t0 t1 t2 : Bool) : Ob := one (one (one o 0 bad t0 a.b0 x0 a.e0) 1 bad t1 a.b1 x1 a.e1) 2 bad t2 a.b2 x2 a.e2
def twos (a : Ai) (o : Ob) (bad x0 x1 x2 : Int) (t0 t1 t2 : Bool) : Ob := two (two (two o 0 bad t0 a.b0 x0 a.e0) 1 bad t1 a.b1 x1 a.e1) 2 bad t2 a.b2 x2 a.e2
def step (a : Ai) (o : Ob) (bad x0 x1 x2 : Int) (t0 t1 t2 : Bool) : Ob :=
  if o.ref = true then o else last (twos a (ones a (predict a o) bad x0 x1 x2 t0 t1 t2) bad x0 x1 x2 t0 t1 t2)
def hasO (o : Ob) (v b : Int) : Bool := !o.ref && (has o.vL o.vH v && has o.bL o.bH b)

/-- all its numbers have room -/
structure OR (o : Ob) : Prop where
  vL : R6 o.vL
  vH : R6 o.vH
  bL : R6 o.bL
  bH : R6 o.bH
/-- what RightAir allows -/
structure AR (a : Ai) : Prop where
  e0 : 0 ≤ a.e0 ∧ a.e0 ≤ 1048576
  e1 : 0 ≤ a.e1 ∧ a.e1 ≤ 1048576
  e2 : 0 ≤ a.e2 ∧ a.e2 ≤ 1048576
  bias : 0 ≤ a.bias ∧ a.bias ≤ 1048576
  change : 0 ≤ a.change ∧ a.change ≤ 1048576
  move : 0 ≤ a.move ∧ a.move ≤ 1048576
  most : 1 ≤ a.most ∧ a.most ≤ 16777216

theorem r6 {x : Int} (h1 : -9223372036854775808 ≤ x) (h2 : x ≤ 9223372036854775807) : R6 x := ⟨h1, h2⟩
theorem max_r6 {a b : Int} (ha : R6 a) (hb : R6 b) : R6 (max a b) := by unfold R6 at *; omega
theorem min_r6 {a b : Int} (ha : R6 a) (hb : R6 b) : R6 (min a b) := by unfold R6 at *; omega
theorem oL_r6 {a b : Int} (ha : R6 a) : R6 (oL a b) := by unfold oL; split; exact r6 (by decide) (by decide); exact ha
theorem oH_r6 {a b : Int} (hb : R6 b) : R6 (oH a b) := by unfold oH; split; exact r6 (by decide) (by decide); exact hb
theorem meetL_r6 {a b c d : Int} (ha : R6 a) (hc : R6 c) : R6 (meetL a b c d) := oL_r6 (max_r6 ha hc)
theorem meetH_r6 {a b c d : Int} (hb : R6 b) (hd : R6 d) : R6 (meetH a b c d) := oH_r6 (min_r6 hb hd)
theorem widL_r6 {a b y : Int} (ha : R6 a) : R6 (widL a b y) := by unfold widL; split; exact ha; exact oL_r6 (sat_r6 _)
theorem widH_r6 {a b y : Int} (hb : R6 b) : R6 (widH a b y) := by unfold widH; split; exact hb; exact oH_r6 (sat_r6 _)
theorem subL_r6 {a b c d : Int} : R6 (subL a b c d) := by
  unfold subL sel
  split
  · exact r6 (by decide) (by decide)
  · split; exact r6 (by decide) (by decide); exact oL_r6 (sat_r6 _)
theorem subH_r6 {a b c d : Int} : R6 (subH a b c d) := by
  unfold subH sel
  split
  · exact r6 (by decide) (by decide)
  · split; exact r6 (by decide) (by decide); exact oH_r6 (sat_r6 _)
theorem start_r6 {a : Ai} (h : AR a) : OR (start a) := by
  have h1 := h.most; have h2 := h.bias
  exact ⟨r6 (by show _ ≤ -a.most; omega) (by show -a.most ≤ _; omega), r6 (by show _ ≤ a.most; omega) (by show a.most ≤ _; omega), r6 (by show _ ≤ -a.bias; omega) (by show -a.bias ≤ _; omega), r6 (by show _ ≤ a.bias; omega) (by show a.bias ≤ _; omega)⟩
theorem predict_r6 {a : Ai} (h : AR a) {o : Ob} (k : OR o) : OR (predict a o) := by
  have s := start_r6 h
  exact ⟨meetL_r6 (widL_r6 k.vL) s.vL, meetH_r6 (widH_r6 k.vH) s.vH, meetL_r6 (widL_r6 k.bL) s.bL, meetH_r6 (widH_r6 k.bH) s.bH⟩
theorem tell_r6 {o : Ob} (k : OR o) {x e : Int} (hx : R6 x) : OR (tell o x e) := ⟨meetL_r6 k.vL (widL_r6 hx), meetH_r6 k.vH (widH_r6 hx), k.bL, k.bH⟩
theorem shareV_r6 {o : Ob} (k : OR o) {l h : Int} : OR (shareV o l h) := ⟨meetL_r6 k.vL subL_r6, meetH_r6 k.vH subH_r6, k.bL, k.bH⟩
theorem shareB_r6 {o : Ob} (k : OR o) {l h : Int} : OR (shareB o l h) := ⟨k.vL, k.vH, meetL_r6 k.bL subL_r6, meetH_r6 k.bH subH_r6⟩
theorem share_r6 {o : Ob} (k : OR o) {l h : Int} : OR (share o l h) := shareB_r6 (shareV_r6 k)
theorem one_r6 {o : Ob} (k : OR o) {j : Nat} {bad : Int} {t b : Bool} {x e : Int} (hx : R6 x) : OR (one o j bad t b x e) := by unfold one; split; exact tell_r6 k hx; exact k
theorem two_r6 {o : Ob} (k : OR o) {j : Nat} {bad : Int} {t b : Bool} {x e : Int} : OR (two o j bad t b x e) := by unfold two; split; exact share_r6 k; exact k
theorem last_r6 {o : Ob} (k : OR o) : OR (last o) := by
  unfold last
  split
  · exact ⟨r6 (by decide) (by decide), r6 (by decide) (by decide), r6 (by decide) (by decide), r6 (by decide) (by decide)⟩
  · exact k
theorem step_r6 {a : Ai} (h : AR a) {o : Ob} (k : OR o) {bad x0 x1 x2 : Int} {t0 t1 t2 : Bool} (h0 : R6 x0) (h1 : R6 x1) (h2 : R6 x2) : OR (step a o bad x0 x1 x2 t0 t1 t2) := by
  unfold step
  split
  · exact k
  · exact last_r6 (two_r6 (two_r6 (two_r6 (one_r6 (one_r6 (one_r6 (predict_r6 h k) h0) h1) h2))))

/-- it has both -/
structure Knows (o : Ob) (v b : Int) : Prop where
  ref : o.ref = false
  v1 : o.vL ≤ v
  v2 : v ≤ o.vH
  b1 : o.bL ≤ b
  b2 : b ≤ o.bH
theorem knows_has {o : Ob} {v b : Int} (h : Knows o v b) : hasO o v b = true := by
  unfold hasO has
  rw [h.ref, decide_eq_true (And.intro h.v1 h.v2), decide_eq_true (And.intro h.b1 h.b2)]; rfl
theorem meet_has {a b c d x : Int} (h1 : a ≤ x) (h2 : x ≤ b) (h3 : c ≤ x) (h4 : x ≤ d) : meetL a b c d ≤ x ∧ x ≤ meetH a b c d := by
  unfold meetL meetH
  rw [oL_in (by omega), oH_in (by omega)]
  omega
theorem wid_has {a b y x z : Int} (h1 : a ≤ x) (h2 : x ≤ b) (hy : 0 ≤ y) (hz : R6 z) (k1 : x - y ≤ z) (k2 : z ≤ x + y) : widL a b y ≤ z ∧ z ≤ widH a b y := by
  unfold widL widH
  rw [if_neg (by omega), if_neg (by omega)]
  have l1 : sat (a + -y) ≤ z := sat_le hz (by omega)
  have l2 : z ≤ sat (b + y) := le_sat hz (by omega)
  rw [oL_in (by omega), oH_in (by omega)]
  exact ⟨l1, l2⟩
theorem sub_has {a b c d s y : Int} (h1 : a ≤ s) (h2 : s ≤ b) (h3 : c ≤ y) (h4 : y ≤ d) (hz : R6 (s - y)) : subL a b c d ≤ s - y ∧ s - y ≤ subH a b c d := by
  unfold subL subH
  rw [sel_in (by omega) (by omega), sel_in (by omega) (by omega)]
  have l1 : sat (a - d) ≤ s - y := sat_le hz (by omega)
  have l2 : s - y ≤ sat (b - c) := le_sat hz (by omega)
  rw [oL_in (by omega), oH_in (by omega)]
  exact ⟨l1, l2⟩
theorem start_knows {a : Ai} {v b : Int} (h1 : -a.most ≤ v) (h2 : v ≤ a.most) (h3 : -a.bias ≤ b) (h4 : b ≤ a.bias) : Knows (start a) v b := ⟨rfl, h1, h2, h3, h4⟩

/-- how a tick goes: the value and the bias, and what the sources read of them -/
structure Goes (a : Ai) (v b v' b' bad x0 x1 x2 : Int) : Prop where
  v1 : -a.most ≤ v'
  v2 : v' ≤ a.most
  b1 : -a.bias ≤ b'
  b2 : b' ≤ a.bias
  dv1 : v - a.move ≤ v'
  dv2 : v' ≤ v + a.move
  db1 : b - a.change ≤ b'
  db2 : b' ≤ b + a.change
  g0 : bad ≠ 0 → v' + (if a.b0 then b' else 0) - a.e0 ≤ x0 ∧ x0 ≤ v' + (if a.b0 then b' else 0) + a.e0
  g1 : bad ≠ 1 → v' + (if a.b1 then b' else 0) - a.e1 ≤ x1 ∧ x1 ≤ v' + (if a.b1 then b' else 0) + a.e1
  g2 : bad ≠ 2 → v' + (if a.b2 then b' else 0) - a.e2 ≤ x2 ∧ x2 ≤ v' + (if a.b2 then b' else 0) + a.e2
  r0 : -1099511627776 ≤ x0 ∧ x0 ≤ 1099511627776
  r1 : -1099511627776 ≤ x1 ∧ x1 ≤ 1099511627776
  r2 : -1099511627776 ≤ x2 ∧ x2 ≤ 1099511627776

theorem predict_knows {a : Ai} (h : AR a) {o : Ob} {v b v' b' : Int} (k : Knows o v b) (v1 : -a.most ≤ v') (v2 : v' ≤ a.most) (b1 : -a.bias ≤ b') (b2 : b' ≤ a.bias) (dv1 : v - a.move ≤ v') (dv2 : v' ≤ v + a.move) (db1 : b - a.change ≤ b') (db2 : b' ≤ b + a.change) : Knows (predict a o) v' b' := by
  have h1 := h.most; have h2 := h.bias; have h3 := h.move; have h4 := h.change
  obtain ⟨w1, w2⟩ := wid_has k.v1 k.v2 h3.1 (r6 (by omega) (by omega)) dv1 dv2
  obtain ⟨u1, u2⟩ := wid_has k.b1 k.b2 h4.1 (r6 (by omega) (by omega)) db1 db2
  obtain ⟨m1, m2⟩ := meet_has w1 w2 v1 v2
  obtain ⟨m3, m4⟩ := meet_has u1 u2 b1 b2
  exact ⟨k.ref, m1, m2, m3, m4⟩
theorem one_knows {o : Ob} {v b : Int} (k : Knows o v b) {j : Nat} {bad : Int} {t bi : Bool} {x e : Int} (he : 0 ≤ e) (hv : -16777216 ≤ v ∧ v ≤ 16777216) (hx : bad ≠ (j : Int) → v + (if bi then b else 0) - e ≤ x ∧ x ≤ v + (if bi then b else 0) + e) :
    Knows (one o j bad t bi x e) v b := by
  unfold one
  split
  · rename_i c
    obtain ⟨_, c2, c3⟩ := c
    subst c3
    have h := hx (Ne.symm c2)
    simp only [Bool.false_eq_true, if_false, Int.add_zero] at h
    obtain ⟨w1, w2⟩ := wid_has (a := x) (b := x) (Int.le_refl _) (Int.le_refl _) he (r6 (x := v) (by omega) (by omega)) (by omega) (by omega)
    obtain ⟨m1, m2⟩ := meet_has k.v1 k.v2 w1 w2
    exact ⟨k.ref, m1, m2, k.b1, k.b2⟩
  · exact k
theorem two_knows {o : Ob} {v b : Int} (k : Knows o v b) {j : Nat} {bad : Int} {t bi : Bool} {x e : Int} (he : 0 ≤ e) (hv : -16777216 ≤ v ∧ v ≤ 16777216) (hb : -16777216 ≤ b ∧ b ≤ 16777216) (hx : bad ≠ (j : Int) → v + (if bi then b else 0) - e ≤ x ∧ x ≤ v + (if bi then b else 0) + e) :
    Knows (two o j bad t bi x e) v b := by
  unfold two
  split
  · rename_i c
    obtain ⟨_, c2, c3⟩ := c
    subst c3
    have h := hx (Ne.symm c2)
    simp only [if_true] at h
    obtain ⟨w1, w2⟩ := wid_has (a := x) (b := x) (Int.le_refl _) (Int.le_refl _) he (r6 (x := v + b) (by omega) (by omega)) (by omega) (by omega)
    generalize widL x x e = l at *
    generalize widH x x e = hh at *
    obtain ⟨s1, s2⟩ := sub_has w1 w2 k.b1 k.b2 (r6 (by omega) (by omega))
    rw [show v + b - b = v by omega] at s1 s2
    obtain ⟨m1, m2⟩ := meet_has k.v1 k.v2 s1 s2
    have k2 : Knows (shareV o l hh) v b := ⟨k.ref, m1, m2, k.b1, k.b2⟩
    show Knows (shareB (shareV o l hh) l hh) v b
    generalize shareV o l hh = q at *
    obtain ⟨s3, s4⟩ := sub_has w1 w2 k2.v1 k2.v2 (r6 (by omega) (by omega))
    rw [show v + b - v = b by omega] at s3 s4
    obtain ⟨m3, m4⟩ := meet_has k2.b1 k2.b2 s3 s4
    exact ⟨k2.ref, k2.v1, k2.v2, m3, m4⟩
  · exact k
theorem last_knows {o : Ob} {v b : Int} (k : Knows o v b) : Knows (last o) v b := by
  have h1 := k.v1; have h2 := k.v2; have h3 := k.b1; have h4 := k.b2
  unfold last
  rw [if_neg (by omega)]
  exact k
theorem step_knows {a : Ai} (h : AR a) {o : Ob} {v b v' b' bad x0 x1 x2 : Int} (k : Knows o v b) (g : Goes a v b v' b' bad x0 x1 x2) (t0 t1 t2 : Bool) : Knows (step a o bad x0 x1 x2 t0 t1 t2) v' b' := by
  have h1 := h.most; have h2 := h.bias
  have hv : -16777216 ≤ v' ∧ v' ≤ 16777216 := by have := g.v1; have := g.v2; omega
  have hb : -16777216 ≤ b' ∧ b' ≤ 16777216 := by have := g.b1; have := g.b2; omega
  unfold step
  rw [if_neg (by rw [k.ref]; decide)]
  have p := predict_knows h k g.v1 g.v2 g.b1 g.b2 g.dv1 g.dv2 g.db1 g.db2
  refine last_knows ?_
  unfold twos ones
  exact two_knows (two_knows (two_knows (one_knows (one_knows (one_knows p h.e0.1 hv g.g0) h.e1.1 hv g.g1) h.e2.1 hv g.g2) h.e0.1 hv hb g.g0) h.e1.1 hv hb g.g1) h.e2.1 hv hb g.g2

/-- a number that is at most m away from 0, told by any number -/
def wi (x m : Int) : Int := (x % 18446744073709551616) % (2 * m + 1) - m
theorem wi_in (x m : Int) (h : 0 ≤ m) : -m ≤ wi x m ∧ wi x m ≤ m := by
  have h1 := Int.emod_nonneg (x % 18446744073709551616) (show 2 * m + 1 ≠ 0 by omega)
  have h2 := Int.emod_lt_of_pos (x % 18446744073709551616) (show 0 < 2 * m + 1 by omega)
  unfold wi
  omega
end Go.Proofs.YtldbkompebefmaaDoor.Obs
