/- By how much a value may have changed, and where the bias is, in plain integers: what holds of them. No program is named here. -/
import Derived.Test.YtkjkmnclnedfhaaDoorTrNum
namespace Go.Proofs.YtkjkmnclnedfhaaDoor.Obs
open Go.Proofs.YtkjkmnclnedfhaaDoor.Sp

/-- in a tick -/
def climbS (m : Int) (o n : Int × Int) : Int × Int :=
  (meetL (subL n.1 n.2 o.1 o.2) (subH n.1 n.2 o.1 o.2) (-m) m, meetH (subL n.1 n.2 o.1 o.2) (subH n.1 n.2 o.1 o.2) (-m) m)
def addS (s c : Int × Int) : Int × Int :=
  (sel s.1 s.2 c.1 c.2 1 (oL (sat (s.1 + c.1)) (sat (s.2 + c.2))), sel s.1 s.2 c.1 c.2 0 (oH (sat (s.1 + c.1)) (sat (s.2 + c.2))))
/-- over the first k steps of l -/
def trendS (m : Int) (l : List (Int × Int)) : Nat → Int × Int
  | 0 => (0, 0)
  | k + 1 => addS (trendS m l k) (climbS m (l.getD k (0, 0)) (l.getD (k + 1) (0, 0)))
def hb (s : Int × Int) (o : Ob) : Int × Int := if o.ref then s else (hullL s.1 s.2 o.bL o.bH, hullH s.1 s.2 o.bL o.bH)
def biasQ (q : Qd) : Int × Int := hb (hb (hb (hb (1, 0) q.h0) q.h1) q.h2) q.h3

def SR (s : Int × Int) : Prop := R6 s.1 ∧ R6 s.2
theorem climb_r6 {m : Int} (h0 : 0 ≤ m) (h1 : m ≤ 9223372036854775807) (o n : Int × Int) : SR (climbS m o n) :=
  ⟨meetL_r6 subL_r6 (r6 (by omega) (by omega)), meetH_r6 subH_r6 (r6 (by omega) h1)⟩
theorem add_r6 (s c : Int × Int) : SR (addS s c) := by
  unfold addS SR
  refine ⟨?_, ?_⟩
  · show R6 (sel ..)
    unfold sel
    split; exact r6 (by decide) (by decide)
    split; exact r6 (by decide) (by decide)
    exact oL_r6 (sat_r6 _)
  · show R6 (sel ..)
    unfold sel
    split; exact r6 (by decide) (by decide)
    split; exact r6 (by decide) (by decide)
    exact oH_r6 (sat_r6 _)
theorem trend_r6 (m : Int) (l : List (Int × Int)) : ∀ k, SR (trendS m l k)
  | 0 => ⟨show R6 0 from r6 (by decide) (by decide), show R6 0 from r6 (by decide) (by decide)⟩
  | _ + 1 => add_r6 _ _
theorem hull_r6 {a b c d : Int} (ha : R6 a) (hb' : R6 b) (hc : R6 c) (hd : R6 d) : R6 (hullL a b c d) ∧ R6 (hullH a b c d) := by
  unfold hullL hullH
  refine ⟨?_, ?_⟩
  · show R6 (if _ then _ else _)
    split; exact hc
    split; exact ha
    exact oL_r6 (min_r6 ha hc)
  · show R6 (if _ then _ else _)
    split; exact hd
    split; exact hb'
    exact oH_r6 (max_r6 hb' hd)
theorem hullQ_r6 {q : Qd} (k : QR q) : SR (hullQ q) := by
  unfold hullQ SR
  have z : R6 ((1, 0) : Int × Int).1 ∧ R6 ((1, 0) : Int × Int).2 := ⟨r6 (by decide) (by decide), r6 (by decide) (by decide)⟩
  have h0 := hu_r6 z.1 z.2 k.h0
  have h1 := hu_r6 h0.1 h0.2 k.h1
  have h2 := hu_r6 h1.1 h1.2 k.h2
  exact hu_r6 h2.1 h2.2 k.h3

theorem climb_has {m v v' : Int} {o n : Int × Int} (h : inS o v) (h' : inS n v') (z : R6 (v' - v)) (k1 : v - m ≤ v') (k2 : v' ≤ v + m) : inS (climbS m o n) (v' - v) := by
  have s := sub_has h'.1 h'.2 h.1 h.2 z
  exact meet_has s.1 s.2 (by omega) (by omega)
theorem add_has {s c : Int × Int} {x y : Int} (h : inS s x) (k : inS c y) (z : R6 (x + y)) : inS (addS s c) (x + y) := by
  obtain ⟨h1, h2⟩ := h
  obtain ⟨k1, k2⟩ := k
  unfold addS inS
  show sel .. ≤ _ ∧ _ ≤ sel ..
  rw [sel_in (by omega) (by omega), sel_in (by omega) (by omega)]
  have l1 : sat (s.1 + c.1) ≤ x + y := sat_le z (by omega)
  have l2 : x + y ≤ sat (s.2 + c.2) := le_sat z (by omega)
  rw [oL_in (by omega), oH_in (by omega)]
  exact ⟨l1, l2⟩
theorem hb_keeps {s : Int × Int} {o : Ob} {x : Int} (h : inS s x) : inS (hb s o) x := by
  unfold hb
  split
  · exact h
  · exact hull_left h.1 h.2
theorem hb_has {s : Int × Int} {o : Ob} {x b : Int} (h : Knows o x b) : inS (hb s o) b := by
  unfold hb
  rw [h.ref]
  exact hull_right h.b1 h.b2
theorem biasQ_has {q : Qd} {v b : Int} (j : Nat) (hj : j < 4) (h : Knows (qget q j) v b) : inS (biasQ q) b := by
  unfold biasQ
  match j, hj with
  | 0, _ => exact hb_keeps (hb_keeps (hb_keeps (hb_has h)))
  | 1, _ => exact hb_keeps (hb_keeps (hb_has h))
  | 2, _ => exact hb_keeps (hb_has h)
  | 3, _ => exact hb_has h

/-- what a course of ticks has left: the spans, the value's first number behind a tick, and its last -/
inductive Path (m mo : Int) : List (Int × Int) → Int → Int → Prop
  | one (s v) : inS s v → -mo ≤ v → v ≤ mo → Path m mo [s] v v
  | more (l s f v v') : Path m mo l f v → inS s v' → v - m ≤ v' → v' ≤ v + m → -mo ≤ v' → v' ≤ mo → Path m mo (l ++ [s]) f v'
theorem Path.len {m mo : Int} {l : List (Int × Int)} {f v : Int} (h : Path m mo l f v) : 0 < l.length := by
  cases h <;> simp
theorem Path.inl {m mo : Int} {l : List (Int × Int)} {f v : Int} (h : Path m mo l f v) : inS (l.getD (l.length - 1) (0, 0)) v ∧ -mo ≤ v ∧ v ≤ mo := by
  cases h with
  | one s v h1 h2 h3 => exact ⟨h1, h2, h3⟩
  | more l s f v v' p h1 _ _ h4 h5 => exact ⟨by simpa using h1, h4, h5⟩
theorem Path.first {m mo : Int} {l : List (Int × Int)} {f v : Int} (h : Path m mo l f v) : -mo ≤ f ∧ f ≤ mo := by
  induction h with
  | one s v h1 h2 h3 => exact ⟨h2, h3⟩
  | more l s f v v' p h1 _ _ h4 h5 ih => exact ih
theorem trend_app (m : Int) (l : List (Int × Int)) (s : Int × Int) : ∀ k, k < l.length → trendS m (l ++ [s]) k = trendS m l k
  | 0, _ => rfl
  | k + 1, h => by
    unfold trendS
    rw [trend_app m l s k (by omega)]
    have e : ∀ j, j < l.length → (l ++ [s]).getD j (0, 0) = l.getD j (0, 0) := fun j hj => by
      simp only [List.getD]
      rw [List.getElem?_append_left hj]
    rw [e k (by omega), e (k + 1) h]
theorem Path.trend {m mo : Int} {l : List (Int × Int)} {f v : Int} (hm : mo ≤ 16777216) (h : Path m mo l f v) : inS (trendS m l (l.length - 1)) (v - f) := by
  induction h with
  | one s v h1 h2 h3 =>
    show inS (0, 0) (v - v)
    rw [Int.sub_self]
    exact ⟨Int.le_refl _, Int.le_refl _⟩
  | more l s f v v' p h1 h2 h3 h4 h5 ih =>
    have hl := p.len
    have hi := p.inl
    have hf := p.first
    obtain ⟨n, hn⟩ : ∃ n, l.length = n + 1 := ⟨l.length - 1, by omega⟩
    have e1 : (l ++ [s]).length - 1 = n + 1 := by simp [hn]
    rw [hn, Nat.add_sub_cancel] at ih hi
    rw [e1]
    show inS (addS (trendS m (l ++ [s]) n) (climbS m ((l ++ [s]).getD n (0, 0)) ((l ++ [s]).getD (n + 1) (0, 0)))) _
    rw [trend_app m l s n (by omega)]
    have g1 : (l ++ [s]).getD n (0, 0) = l.getD n (0, 0) := by
      simp only [List.getD]
      rw [List.getElem?_append_left (by omega)]
    have g2 : (l ++ [s]).getD (n + 1) (0, 0) = s := by
      simp only [List.getD]
      rw [← hn, List.getElem?_append_right (Nat.le_refl _)]
      simp
    rw [g1, g2]
    have c := climb_has (m := m) hi.1 h1 (r6 (by omega) (by omega)) h2 h3
    have a := add_has ih c (r6 (by omega) (by omega))
    rw [show v' - f = v - f + (v' - v) by omega]
    exact a
end Go.Proofs.YtkjkmnclnedfhaaDoor.Obs
