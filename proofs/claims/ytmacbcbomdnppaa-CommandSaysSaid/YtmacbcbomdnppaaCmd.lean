/- Commands as bytes and as values, plain: what is written is read, what is read is written so. -/
import Derived.Test.YtmacbcbomdnppaaFrm
namespace Go.Proofs.Ytmacbcbomdnppaa
open Go.RowKit

/-- a command -/
structure Cm where
  kind : Int
  arg : Int
deriving DecidableEq
/-- as a value -/
def cv (c : Cm) : Value := .agg #[.int .i64 c.kind, .int .i64 c.arg]
def cm0 : Cm := ⟨0, 0⟩
def rightC (c : Cm) : Bool := (decide (c.kind = 1) && (decide (c.arg = 0) || decide (c.arg = 1))) || (decide (c.kind = 2) && decide (c.arg = 0)) || ((decide (c.kind = 3) || decide (c.kind = 4)) && (decide (0 ≤ c.arg) && decide (c.arg < 6)))
theorem rightC_iff (c : Cm) : rightC c = true ↔ c.kind = 1 ∧ (c.arg = 0 ∨ c.arg = 1) ∨ c.kind = 2 ∧ c.arg = 0 ∨ (c.kind = 3 ∨ c.kind = 4) ∧ 0 ≤ c.arg ∧ c.arg < 6 := by
  unfold rightC
  simp only [Bool.and_eq_true, Bool.or_eq_true, decide_eq_true_eq, or_assoc]
def bodyC (c : Cm) : List UInt8 := [195, UInt8.ofNat c.kind.toNat, UInt8.ofNat c.arg.toNat]
def cmdC (c : Cm) : List UInt8 := withSum (bodyC c)
def ofC (l : List UInt8) : Cm := ⟨(l.getD 1 0).toNat, (l.getD 2 0).toNat⟩
/-- the command, and what is wrong -/
def readC (l : List UInt8) : Cm × Int :=
  if l.length ≠ 5 then (cm0, 2)
  else if l.getD 0 0 ≠ 195 then (cm0, 3)
  else if fitsB l = false then (cm0, 5)
  else if rightC (ofC l) = false then (cm0, 3)
  else (ofC l, 0)
/-- what is written, right or not -/
def bytesC (c : Cm) : List UInt8 × Int := if rightC c then (cmdC c, 0) else ([], 1)

theorem cmd_length (c : Cm) : (cmdC c).length = 5 := rfl
theorem cmd_is (c : Cm) : cmdC c = [195, UInt8.ofNat c.kind.toNat, UInt8.ofNat c.arg.toNat, hiB (sumOf (bodyC c)), loB (sumOf (bodyC c))] := rfl
/-- whether three bytes and two behind fit -/
theorem fits_five (l : List UInt8) (x y : UInt8) (h : l.length = 3) : fitsB (l ++ [x, y]) = (x == hiB (sumOf l) && y == loB (sumOf l)) := by
  match l, h with
  | [a, b, c], _ =>
    unfold fitsB sumOf hiB loB
    have k : ∀ (u : UInt8) (v : BitVec 8), (u.toBitVec == v) = (u == (⟨v⟩ : UInt8)) := fun u v => by
      cases g : (u.toBitVec == v)
      · rw [eq_comm, beq_eq_false_iff_ne]
        intro e
        rw [e] at g
        simp at g
      · have := beq_iff_eq.1 g
        subst this
        simp
    simp [k]
theorem right_rng {c : Cm} (h : rightC c = true) : 0 ≤ c.kind ∧ c.kind < 256 ∧ 0 ≤ c.arg ∧ c.arg < 256 := by
  have := (rightC_iff c).1 h
  omega

theorem read_cmd (c : Cm) (h : rightC c = true) : readC (cmdC c) = (c, 0) := by
  obtain ⟨h1, h2, h3, h4⟩ := right_rng h
  have ho : ofC (cmdC c) = c := by
    rw [cmd_is]
    have e1 : (UInt8.ofNat c.kind.toNat).toNat = c.kind.toNat := Oct.byte_of _ (by omega)
    have e2 : (UInt8.ofNat c.arg.toNat).toNat = c.arg.toNat := Oct.byte_of _ (by omega)
    obtain ⟨x, y⟩ := c
    show Cm.mk _ _ = _
    simp only [List.getD_cons_succ, List.getD_cons_zero] at e1 e2 ⊢
    rw [e1, e2]
    simp only at h1 h3
    rw [Int.toNat_of_nonneg h1, Int.toNat_of_nonneg h3]
  have hf : fitsB (cmdC c) = true := by
    have k := fits_five (bodyC c) (hiB (sumOf (bodyC c))) (loB (sumOf (bodyC c))) rfl
    show fitsB (bodyC c ++ _) = true
    rw [k]; simp
  unfold readC
  rw [ho, if_neg (by rw [cmd_length]; decide), if_neg (by rw [cmd_is]; simp), if_neg (by rw [hf]; simp), if_neg (by rw [h]; simp)]

theorem five (l : List UInt8) (h : l.length = 5) : ∃ a b c d e, l = [a, b, c, d, e] := by
  match l, h with
  | [a, b, c, d, e], _ => exact ⟨a, b, c, d, e, rfl⟩

theorem read_cmd_back (l : List UInt8) (c : Cm) (h : readC l = (c, 0)) : rightC c = true ∧ l.length = 5 ∧ cmdC c = l := by
  unfold readC at h
  by_cases h1 : l.length ≠ 5
  · rw [if_pos h1] at h; injection h with _ h; cases h
  rw [if_neg h1] at h
  by_cases h2 : l.getD 0 0 ≠ 195
  · rw [if_pos h2] at h; injection h with _ h; cases h
  rw [if_neg h2] at h
  by_cases h3 : fitsB l = false
  · rw [if_pos h3] at h; injection h with _ h; cases h
  rw [if_neg h3] at h
  by_cases h4 : rightC (ofC l) = false
  · rw [if_pos h4] at h; injection h with _ h; cases h
  rw [if_neg h4] at h
  injection h with h _
  subst h
  have hr : rightC (ofC l) = true := by
    cases g : rightC (ofC l)
    · exact absurd g h4
    · rfl
  refine ⟨hr, by omega, ?_⟩
  obtain ⟨a, b, c, d, e, rfl⟩ := five l (by omega)
  have ha : a = 195 := Classical.byContradiction fun k => h2 k
  subst ha
  have hf : fitsB ([195, b, c] ++ [d, e]) = true := by
    cases g : fitsB ([195, b, c] ++ [d, e])
    · exact absurd g h3
    · rfl
  rw [fits_five _ _ _ rfl, Bool.and_eq_true, beq_iff_eq, beq_iff_eq] at hf
  have eb : bodyC (ofC [195, b, c, d, e]) = [195, b, c] := by
    have q1 : UInt8.ofNat ((b.toNat : Int)).toNat = b := by rw [Int.toNat_natCast, UInt8.ofNat_toNat]
    have q2 : UInt8.ofNat ((c.toNat : Int)).toNat = c := by rw [Int.toNat_natCast, UInt8.ofNat_toNat]
    show [195, UInt8.ofNat ((b.toNat : Int)).toNat, UInt8.ofNat ((c.toNat : Int)).toNat] = _
    rw [q1, q2]
  unfold cmdC withSum
  rw [eb, hf.1, hf.2]
  rfl

/-- what the command of a value of each kind is -/
def ofNum (k : Int) (a : Int) : Cm × Int := if rightC ⟨k, a⟩ then (⟨k, a⟩, 0) else (cm0, 1)
/-- numbers on their own bytes -/
theorem u8_nat (z : Int) (h0 : 0 ≤ z) (h1 : z < 256) : IntKind.u8.wrap z = ((UInt8.ofNat z.toNat).toNat : Int) := by
  rw [IntKind.wrap_u8, byte_of' _ (by omega)]
  omega
theorem be2_sum (x : BitVec 16) : Oct.be 2 x.toNat = [hiB x, loB x] := by
  have h1 := hi_u16 x
  have h2 := lo_u16 x
  have a : UInt8.ofNat (x.toNat / 256 % 256) = hiB x := by
    apply UInt8.toNat_inj.1
    rw [byte_of' _ (by omega)]
    show _ = (Crc.hiOf x).toNat
    have := x.isLt
    omega
  have b : UInt8.ofNat (x.toNat % 256) = loB x := by
    apply UInt8.toNat_inj.1
    rw [byte_of' _ (by omega)]
    show _ = (Crc.loOf x).toNat
    omega
  show [] ++ [UInt8.ofNat (x.toNat / 256 % 256)] ++ [UInt8.ofNat (x.toNat % 256)] = _
  rw [a, b]; rfl
theorem Bytes.low {w u x : World} {v : Value} {l : List UInt8} (h : Bytes u.heap.size u x v l) (hb : Below w.heap.size w u) : Bytes w.heap.size w x v l := by
  refine ⟨⟨h.1.1, ?_⟩, belowT hb h.2.1, Nat.le_trans hb.size h.2.2⟩
  rcases h.1.2 with hn | ⟨g, cap, cur, fz, rfl, h1, hg, rest⟩
  · exact .inl hn
  · exact .inr ⟨g, cap, cur, fz, rfl, Nat.le_trans hb.size h1, hg, rest⟩
theorem none_come (w : World) : Came w none 0 [] := ⟨Nat.le_refl _, Nat.zero_le _, fun _ => ⟨rfl, rfl⟩, fun h => absurd h (by decide)⟩
/-- the cases of a command's being right, as they are walked -/
theorem right_cases (k a : Int) (P : Bool → Prop) (h11 : k = 1 → a = 0 → P true) (h12 : k = 1 → a = 1 → P true) (h13 : k = 1 → ¬ a = 0 → ¬ a = 1 → P false) (h21 : k = 2 → a = 0 → P true) (h22 : k = 2 → ¬ a = 0 → P false)
    (h31 : k = 3 → a < 0 → P false) (h32 : k = 3 → 6 ≤ a → P false) (h33 : k = 3 → 0 ≤ a → a < 6 → P true) (h41 : k = 4 → a < 0 → P false) (h42 : k = 4 → 6 ≤ a → P false) (h43 : k = 4 → 0 ≤ a → a < 6 → P true) (h5 : ¬ k = 1 → ¬ k = 2 → ¬ k = 3 → ¬ k = 4 → P false) : P (rightC ⟨k, a⟩) := by
  have e := rightC_iff ⟨k, a⟩
  simp only at e
  have pt : ∀ b : Bool, (b = true ↔ (k = 1 ∧ (a = 0 ∨ a = 1) ∨ k = 2 ∧ a = 0 ∨ (k = 3 ∨ k = 4) ∧ 0 ≤ a ∧ a < 6)) → P b := fun b hb => by
    by_cases k1 : k = 1
    · by_cases a0 : a = 0
      · rw [show b = true from hb.2 (by omega)]; exact h11 k1 a0
      · by_cases a1 : a = 1
        · rw [show b = true from hb.2 (by omega)]; exact h12 k1 a1
        · rw [show b = false from by cases b; rfl; have := hb.1 rfl; omega]; exact h13 k1 a0 a1
    by_cases k2 : k = 2
    · by_cases a0 : a = 0
      · rw [show b = true from hb.2 (by omega)]; exact h21 k2 a0
      · rw [show b = false from by cases b; rfl; have := hb.1 rfl; omega]; exact h22 k2 a0
    by_cases k3 : k = 3
    · by_cases a0 : a < 0
      · rw [show b = false from by cases b; rfl; have := hb.1 rfl; omega]; exact h31 k3 a0
      · by_cases a6 : 6 ≤ a
        · rw [show b = false from by cases b; rfl; have := hb.1 rfl; omega]; exact h32 k3 a6
        · rw [show b = true from hb.2 (by omega)]; exact h33 k3 (by omega) (by omega)
    by_cases k4 : k = 4
    · by_cases a0 : a < 0
      · rw [show b = false from by cases b; rfl; have := hb.1 rfl; omega]; exact h41 k4 a0
      · by_cases a6 : 6 ≤ a
        · rw [show b = false from by cases b; rfl; have := hb.1 rfl; omega]; exact h42 k4 a6
        · rw [show b = true from hb.2 (by omega)]; exact h43 k4 (by omega) (by omega)
    rw [show b = false from by cases b; rfl; have := hb.1 rfl; omega]; exact h5 k1 k2 k3 k4
  exact pt _ e

def cv0 : Value := .agg #[.int .i64 0, .int .i64 0]
theorem below_set2 {w w' : World} (h : Below w.heap.size w w') (u v : Value) : Below w.heap.size w ((w'.setCell ⟨w.heap.size, 0, none⟩ u).setCell ⟨w.heap.size, 1, none⟩ v) :=
  (h.setCell (p := ⟨w.heap.size, 0, none⟩) (Nat.le_refl _) _).setCell (p := ⟨w.heap.size, 1, none⟩) (Nat.le_refl _) _

end Go.Proofs.Ytmacbcbomdnppaa
