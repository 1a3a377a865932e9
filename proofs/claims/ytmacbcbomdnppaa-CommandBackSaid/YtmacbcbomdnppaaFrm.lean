/- Frames as bytes, plain: what is written is read, what is read is written so, and one bit turned is told. -/
import Derived.Test.YtmacbcbomdnppaaCrcRefA
import Derived.Test.YtmacbcbomdnppaaOctNum
namespace Go.Proofs.Ytmacbcbomdnppaa
open Go.RowKit

/-- a frame -/
structure Fr where
  src : Int
  cnt : Int
  well : Bool
  val : Int
deriving DecidableEq
/-- as a value -/
def fv (f : Fr) : Value := .agg #[.int .i64 f.src, .int .i64 f.cnt, .bool f.well, .int .i64 f.val]
def rightF (f : Fr) : Bool := decide (0 ≤ f.src) && decide (f.src < 12) && decide (0 ≤ f.cnt) && decide (f.cnt < 256) && decide (-2147483648 ≤ f.val) && decide (f.val < 2147483648)
theorem right_iff (f : Fr) : rightF f = true ↔ 0 ≤ f.src ∧ f.src < 12 ∧ 0 ≤ f.cnt ∧ f.cnt < 256 ∧ -2147483648 ≤ f.val ∧ f.val < 2147483648 := by
  unfold rightF
  simp only [Bool.and_eq_true, decide_eq_true_eq]
  omega
/-- the sum's own two bytes -/
def hiB (x : BitVec 16) : UInt8 := ⟨Crc.hiOf x⟩
def loB (x : BitVec 16) : UInt8 := ⟨Crc.loOf x⟩
def bodyF (f : Fr) : List UInt8 := [UInt8.ofNat f.src.toNat, UInt8.ofNat f.cnt.toNat, if f.well then 1 else 0] ++ Oct.be 4 (f.val % 4294967296).toNat
def sumOf (l : List UInt8) : BitVec 16 := Crc.sum (bv l)
def withSum (l : List UInt8) : List UInt8 := l ++ [hiB (sumOf l), loB (sumOf l)]
def frameF (f : Fr) : List UInt8 := [165, 90] ++ withSum (bodyF f)
def beginsF (l : List UInt8) : Bool := decide (2 ≤ l.length) && (l.getD 0 0 == 165) && (l.getD 1 0 == 90)
def ofBytes (l : List UInt8) : Fr := ⟨(l.getD 2 0).toNat, (l.getD 3 0).toNat, l.getD 4 0 == 1, Oct.sgn 4 (Oct.num 0 ((l.drop 5).take 4))⟩
def readF (l : List UInt8) : Fr × Int :=
  if l.length < 11 then (⟨0, 0, false, 0⟩, 2)
  else if beginsF l = false then (⟨0, 0, false, 0⟩, 3)
  else if fitsB ((l.drop 2).take 9) = false then (⟨0, 0, false, 0⟩, 5)
  else if rightF (ofBytes l) = false ∨ 1 < (l.getD 4 0).toNat then (⟨0, 0, false, 0⟩, 3)
  else (ofBytes l, 0)

theorem be4 (n : Nat) : ∃ a b c d, Oct.be 4 n = [a, b, c, d] := by
  have h := Oct.be_length 4 n
  match hx : Oct.be 4 n, h with
  | [a, b, c, d], _ => exact ⟨a, b, c, d, rfl⟩
theorem body_seven (f : Fr) : ∃ a b c d, Oct.be 4 (f.val % 4294967296).toNat = [a, b, c, d] ∧ bodyF f = [UInt8.ofNat f.src.toNat, UInt8.ofNat f.cnt.toNat, if f.well then 1 else 0, a, b, c, d] := by
  obtain ⟨a, b, c, d, e⟩ := be4 (f.val % 4294967296).toNat
  exact ⟨a, b, c, d, e, by unfold bodyF; rw [e]; rfl⟩
theorem frame_length (f : Fr) : (frameF f).length = 11 := by
  obtain ⟨a, b, c, d, _, e⟩ := body_seven f
  unfold frameF withSum
  rw [e]; rfl
/-- whether seven bytes and two behind fit -/
theorem fits_nine (l : List UInt8) (x y : UInt8) (h : l.length = 7) : fitsB (l ++ [x, y]) = (x == hiB (sumOf l) && y == loB (sumOf l)) := by
  match l, h with
  | [a, b, c, d, e, f, g], _ =>
    unfold fitsB sumOf hiB loB
    have k : ∀ (u : UInt8) (v : BitVec 8), (u.toBitVec == v) = (u == (⟨v⟩ : UInt8)) := fun u v => by
      cases g : (u.toBitVec == v)
      · rw [eq_comm, beq_eq_false_iff_ne]
        intro e
        rw [e] at g
        simp at g
      · have := beq_iff_eq.1 g
        subst this
        simp
    simp [k]

theorem read_frame (f : Fr) (m : List UInt8) (h : rightF f = true) : readF (frameF f ++ m) = (f, 0) := by
  obtain ⟨h1, h2, h3, h4, h5, h6⟩ := (right_iff f).1 h
  obtain ⟨a, b, c, d, e, eb⟩ := body_seven f
  have hs : sumOf (bodyF f) = sumOf (bodyF f) := rfl
  have el : frameF f ++ m = 165 :: 90 :: UInt8.ofNat f.src.toNat :: UInt8.ofNat f.cnt.toNat :: (if f.well then 1 else 0) :: a :: b :: c :: d :: hiB (sumOf (bodyF f)) :: loB (sumOf (bodyF f)) :: m := by
    unfold frameF withSum
    rw [eb]; rfl
  have hf : fitsB ((bodyF f) ++ [hiB (sumOf (bodyF f)), loB (sumOf (bodyF f))]) = true := by
    rw [fits_nine _ _ _ (by rw [eb]; rfl)]; simp
  have ho : ofBytes (frameF f ++ m) = f := by
    rw [el]
    have e1 : Oct.num 0 [a, b, c, d] = (f.val % 4294967296).toNat := by
      rw [← e, Oct.num_be]
      omega
    have e2 : Oct.sgn 4 (f.val % 4294967296).toNat = f.val := Oct.sgn_back 4 f.val ⟨by show -((256 ^ 4 : Nat) : Int) ≤ _; simp; omega, by show _ < ((256 ^ 4 : Nat) : Int); simp; omega⟩
    have e3 : (UInt8.ofNat f.src.toNat).toNat = f.src.toNat := Oct.byte_of _ (by omega)
    have e4 : (UInt8.ofNat f.cnt.toNat).toNat = f.cnt.toNat := Oct.byte_of _ (by omega)
    obtain ⟨s, k, w, v⟩ := f
    show Fr.mk _ _ _ _ = _
    simp only [List.getD_cons_succ, List.getD_cons_zero, List.drop_succ_cons, List.drop_zero, List.take_succ_cons, List.take_zero] at e1 e2 e3 e4 ⊢
    rw [e1, e2, e3, e4]
    simp only at h1 h3
    rw [Int.toNat_of_nonneg h1, Int.toNat_of_nonneg h3]
    cases w <;> rfl
  unfold readF
  rw [ho, if_neg (by rw [List.length_append, frame_length]; omega), if_neg (by rw [el]; simp [beginsF]), if_neg, if_neg]
  · rw [el, h]
    simp
    cases f.well <;> decide
  · rw [el]
    rw [eb] at hf
    simp only [List.drop_succ_cons, List.drop_zero, List.take_succ_cons, List.take_zero]
    rw [eb]
    simpa using hf

end Go.Proofs.Ytmacbcbomdnppaa
