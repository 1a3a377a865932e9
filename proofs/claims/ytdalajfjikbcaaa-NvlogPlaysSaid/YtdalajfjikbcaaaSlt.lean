/- Notes as bytes, plain: what is written is read, what is read is written so; a torn write is told. -/
import Derived.Test.YtdalajfjikbcaaaFrmB
namespace Go.Proofs.Ytdalajfjikbcaaa
open Go.RowKit

/-- a note -/
structure Nt where
  ex : Int
  inh : Int
  mode : Int
deriving DecidableEq
/-- as a value -/
def nv (n : Nt) : Value := .agg #[.int .i64 n.ex, .int .i64 n.inh, .int .i64 n.mode]
def nt0 : Nt := ⟨0, 0, 0⟩
def rightN (n : Nt) : Bool := decide (0 ≤ n.ex) && decide (n.ex < 64) && decide (0 ≤ n.inh) && decide (n.inh < 64) && decide (0 ≤ n.mode) && decide (n.mode ≤ 5)
theorem rightN_iff (n : Nt) : rightN n = true ↔ 0 ≤ n.ex ∧ n.ex < 64 ∧ 0 ≤ n.inh ∧ n.inh < 64 ∧ 0 ≤ n.mode ∧ n.mode ≤ 5 := by
  unfold rightN
  simp only [Bool.and_eq_true, decide_eq_true_eq]
  omega
/-- a number's guard -/
def guardN (s : Nat) : UInt8 := UInt8.ofNat (s % 250 + 1)
theorem guardN_nat (s : Nat) : (guardN s).toNat = s % 250 + 1 := Oct.byte_of _ (by omega)
def bodyN (n : Nt) (s : Nat) : List UInt8 := [guardN s] ++ Oct.be 4 s ++ [UInt8.ofNat n.ex.toNat, UInt8.ofNat n.inh.toNat, UInt8.ofNat n.mode.toNat, 1]
def slotN (n : Nt) (s : Nat) : List UInt8 := withSum (bodyN n s) ++ [guardN s]
def numN (l : List UInt8) : Nat := Oct.num 0 ((l.drop 1).take 4)
def ofN (l : List UInt8) : Nt := ⟨(l.getD 5 0).toNat, (l.getD 6 0).toNat, (l.getD 7 0).toNat⟩
/-- the note, its number, and what is wrong -/
def readN (l : List UInt8) : Nt × Nat × Int :=
  if l.length ≠ 12 then (nt0, 0, 2)
  else if l.getD 0 0 ≠ guardN (numN l) ∨ l.getD 11 0 ≠ l.getD 0 0 then (nt0, 0, 3)
  else if fitsB (l.take 11) = false then (nt0, 0, 5)
  else if rightN (ofN l) = false ∨ l.getD 8 0 ≠ 1 then (nt0, 0, 3)
  else (ofN l, numN l, 0)
/-- what is written, right or not -/
def bytesN (n : Nt) (s : Nat) : List UInt8 × Int := if rightN n then (slotN n s, 0) else ([], 1)

theorem body_nine (n : Nt) (s : Nat) : ∃ a b c d, Oct.be 4 s = [a, b, c, d] ∧ bodyN n s = [guardN s, a, b, c, d, UInt8.ofNat n.ex.toNat, UInt8.ofNat n.inh.toNat, UInt8.ofNat n.mode.toNat, 1] := by
  obtain ⟨a, b, c, d, e⟩ := be4 s
  exact ⟨a, b, c, d, e, by unfold bodyN; rw [e]; rfl⟩
theorem slot_length (n : Nt) (s : Nat) : (slotN n s).length = 12 := by
  obtain ⟨a, b, c, d, _, e⟩ := body_nine n s
  unfold slotN withSum
  rw [e]; rfl
/-- whether nine bytes and two behind fit -/
theorem fits_eleven (l : List UInt8) (x y : UInt8) (h : l.length = 9) : fitsB (l ++ [x, y]) = (x == hiB (sumOf l) && y == loB (sumOf l)) := by
  match l, h with
  | [a, b, c, d, e, f, g, i, j], _ =>
    unfold fitsB sumOf hiB loB
    have k : ∀ (u : UInt8) (v : BitVec 8), (u.toBitVec == v) = (u == (⟨v⟩ : UInt8)) := fun u v => by
      cases g : (u.toBitVec == v)
      · rw [eq_comm, beq_eq_false_iff_ne]
        intro e
        rw [e] at g
        simp at g
      · have := beq_iff_eq.1 g
        subst this
        simp
    simp [k]

theorem read_slot (n : Nt) (s : Nat) (h : rightN n = true) (hs : s < 4294967296) : readN (slotN n s) = (n, s, 0) := by
  obtain ⟨h1, h2, h3, h4, h5, h6⟩ := (rightN_iff n).1 h
  obtain ⟨a, b, c, d, e, eb⟩ := body_nine n s
  have el : slotN n s = [guardN s, a, b, c, d, UInt8.ofNat n.ex.toNat, UInt8.ofNat n.inh.toNat, UInt8.ofNat n.mode.toNat, 1, hiB (sumOf (bodyN n s)), loB (sumOf (bodyN n s)), guardN s] := by
    unfold slotN withSum
    rw [eb]; rfl
  have hf : fitsB ((bodyN n s) ++ [hiB (sumOf (bodyN n s)), loB (sumOf (bodyN n s))]) = true := by
    rw [fits_eleven _ _ _ (by rw [eb]; rfl)]; simp
  have hn : numN (slotN n s) = s := by
    rw [el]
    show Oct.num 0 [a, b, c, d] = s
    rw [← e, Oct.num_be]
    have : (256 : Nat) ^ 4 = 4294967296 := by decide
    rw [this]; omega
  have ho : ofN (slotN n s) = n := by
    rw [el]
    have e3 : (UInt8.ofNat n.ex.toNat).toNat = n.ex.toNat := Oct.byte_of _ (by omega)
    have e4 : (UInt8.ofNat n.inh.toNat).toNat = n.inh.toNat := Oct.byte_of _ (by omega)
    have e5 : (UInt8.ofNat n.mode.toNat).toNat = n.mode.toNat := Oct.byte_of _ (by omega)
    obtain ⟨x, y, z⟩ := n
    show Nt.mk _ _ _ = _
    simp only [List.getD_cons_succ, List.getD_cons_zero] at e3 e4 e5 ⊢
    rw [e3, e4, e5]
    simp only at h1 h3 h5
    rw [Int.toNat_of_nonneg h1, Int.toNat_of_nonneg h3, Int.toNat_of_nonneg h5]
  have ht : (slotN n s).take 11 = (bodyN n s) ++ [hiB (sumOf (bodyN n s)), loB (sumOf (bodyN n s))] := by
    rw [el]
    conv => rhs; rw [eb]
    rw [eb]; rfl
  unfold readN
  rw [ho, hn, ht, if_neg (by rw [slot_length]; simp), if_neg, if_neg (by rw [hf]; simp), if_neg]
  · rw [el, h]
    simp
  · rw [el]
    simp

theorem twelve (l : List UInt8) (h : l.length = 12) : ∃ c0 c1 c2 c3 c4 c5 c6 c7 c8 c9 c10 c11, l = [c0, c1, c2, c3, c4, c5, c6, c7, c8, c9, c10, c11] := by
  match l, h with
  | [c0, c1, c2, c3, c4, c5, c6, c7, c8, c9, c10, c11], _ => exact ⟨c0, c1, c2, c3, c4, c5, c6, c7, c8, c9, c10, c11, rfl⟩

theorem read_slot_back (l : List UInt8) (n : Nt) (s : Nat) (h : readN l = (n, s, 0)) : rightN n = true ∧ s < 4294967296 ∧ slotN n s = l := by
  unfold readN at h
  by_cases h1 : l.length ≠ 12
  · rw [if_pos h1] at h; injection h with _ h; injection h with _ h; cases h
  rw [if_neg h1] at h
  by_cases h2 : l.getD 0 0 ≠ guardN (numN l) ∨ l.getD 11 0 ≠ l.getD 0 0
  · rw [if_pos h2] at h; injection h with _ h; injection h with _ h; cases h
  rw [if_neg h2] at h
  by_cases h3 : fitsB (l.take 11) = false
  · rw [if_pos h3] at h; injection h with _ h; injection h with _ h; cases h
  rw [if_neg h3] at h
  by_cases h4 : rightN (ofN l) = false ∨ l.getD 8 0 ≠ 1
  · rw [if_pos h4] at h; injection h with _ h; injection h with _ h; cases h
  rw [if_neg h4] at h
  injection h with e1 h
  injection h with e2 _
  subst e1
  subst e2
  have hr : rightN (ofN l) = true := by
    cases g : rightN (ofN l)
    · exact absurd (Or.inl g) h4
    · rfl
  obtain ⟨c0, c1, c2, c3, c4, c5, c6, c7, c8, c9, c10, c11, rfl⟩ := twelve l (by omega)
  have g0 : c0 = guardN (Oct.num 0 [c1, c2, c3, c4]) := Classical.byContradiction fun k => h2 (Or.inl k)
  have g11 : c11 = c0 := Classical.byContradiction fun k => h2 (Or.inr k)
  have g8 : c8 = 1 := Classical.byContradiction fun k => h4 (Or.inr k)
  have hf : fitsB ([c0, c1, c2, c3, c4, c5, c6, c7, c8] ++ [c9, c10]) = true := by
    cases g : fitsB ([c0, c1, c2, c3, c4, c5, c6, c7, c8] ++ [c9, c10])
    · exact absurd g h3
    · rfl
  rw [fits_eleven _ _ _ rfl] at hf
  simp only [Bool.and_eq_true, beq_iff_eq] at hf
  obtain ⟨e9, e10⟩ := hf
  have hn := Oct.num_lt0 [c1, c2, c3, c4]
  have e256 : (256 : Nat) ^ [c1, c2, c3, c4].length = 4294967296 := by show (256 : Nat) ^ 4 = _; decide
  rw [e256] at hn
  refine ⟨hr, hn, ?_⟩
  have eb : bodyN (ofN [c0, c1, c2, c3, c4, c5, c6, c7, c8, c9, c10, c11]) (Oct.num 0 [c1, c2, c3, c4]) = [c0, c1, c2, c3, c4, c5, c6, c7, c8] := by
    have q5 : UInt8.ofNat ((c5.toNat : Int)).toNat = c5 := by rw [Int.toNat_natCast, UInt8.ofNat_toNat]
    have q6 : UInt8.ofNat ((c6.toNat : Int)).toNat = c6 := by rw [Int.toNat_natCast, UInt8.ofNat_toNat]
    have q7 : UInt8.ofNat ((c7.toNat : Int)).toNat = c7 := by rw [Int.toNat_natCast, UInt8.ofNat_toNat]
    show [guardN (Oct.num 0 [c1, c2, c3, c4])] ++ Oct.be 4 (Oct.num 0 [c1, c2, c3, c4]) ++ [UInt8.ofNat ((c5.toNat : Int)).toNat, UInt8.ofNat ((c6.toNat : Int)).toNat, UInt8.ofNat ((c7.toNat : Int)).toNat, 1] = _
    rw [q5, q6, q7, Oct.be_num 4 [c1, c2, c3, c4] rfl, ← g0, g8]; rfl
  show slotN _ (Oct.num 0 [c1, c2, c3, c4]) = _
  unfold slotN withSum
  rw [eb, ← e9, ← e10, ← g0, g11]
  rfl

/-- the begin of one and the end of another are none -/
theorem torn_any (a b : Nt) (s1 s2 k : Nat) (h1 : 1 ≤ k) (h2 : k ≤ 11) (hg : guardN s2 ≠ guardN s1) : readN ((slotN a s1).take k ++ (slotN b s2).drop k) = (nt0, 0, 3) := by
  have la := slot_length a s1
  have lb := slot_length b s2
  have hl : ((slotN a s1).take k ++ (slotN b s2).drop k).length = 12 := by rw [List.length_append, List.length_take, List.length_drop]; omega
  have f0 : ((slotN a s1).take k ++ (slotN b s2).drop k).getD 0 0 = guardN s1 := by
    obtain ⟨x, y, z, u, _, eb⟩ := body_nine a s1
    have e : ∃ t, slotN a s1 = guardN s1 :: t := ⟨_, by unfold slotN withSum; rw [eb]; rfl⟩
    obtain ⟨t, e⟩ := e
    rw [e]
    obtain ⟨j, rfl⟩ : ∃ j, k = j + 1 := ⟨k - 1, by omega⟩
    rfl
  have f11 : ((slotN a s1).take k ++ (slotN b s2).drop k).getD 11 0 = guardN s2 := by
    have e : (slotN b s2).getD 11 0 = guardN s2 := by
      obtain ⟨x, y, z, u, _, eb⟩ := body_nine b s2
      unfold slotN withSum
      rw [eb]; rfl
    rw [← e]
    have lt : ((slotN a s1).take k).length = k := by rw [List.length_take]; omega
    simp only [List.getD]
    rw [List.getElem?_append_right (by omega), lt, List.getElem?_drop]
    congr 2
    omega
  unfold readN
  rw [if_neg (by rw [hl]; simp), if_pos]
  rw [f0, f11]
  exact Or.inr hg
theorem torn (a b : Nt) (s k : Nat) (h1 : 1 ≤ k) (h2 : k ≤ 11) : readN ((slotN a (s + 2)).take k ++ (slotN b s).drop k) = (nt0, 0, 3) := torn_any a b _ _ k h1 h2 fun h => by
  have := congrArg UInt8.toNat h
  rw [guardN_nat, guardN_nat] at this
  omega
theorem slot_head (n : Nt) (s : Nat) : (slotN n s).getD 0 0 = guardN s := by
  obtain ⟨x, y, z, u, _, eb⟩ := body_nine n s
  unfold slotN withSum
  rw [eb]; rfl
/-- no number without a note -/
theorem readN_bad {l : List UInt8} (h : (readN l).2.2 ≠ 0) : (readN l).1 = nt0 ∧ (readN l).2.1 = 0 := by
  unfold readN at h ⊢
  by_cases h1 : l.length ≠ 12
  · rw [if_pos h1]; exact ⟨rfl, rfl⟩
  rw [if_neg h1] at h ⊢
  by_cases h2 : l.getD 0 0 ≠ guardN (numN l) ∨ l.getD 11 0 ≠ l.getD 0 0
  · rw [if_pos h2]; exact ⟨rfl, rfl⟩
  rw [if_neg h2] at h ⊢
  by_cases h3 : fitsB (l.take 11) = false
  · rw [if_pos h3]; exact ⟨rfl, rfl⟩
  rw [if_neg h3] at h ⊢
  by_cases h4 : rightN (ofN l) = false ∨ l.getD 8 0 ≠ 1
  · rw [if_pos h4]; exact ⟨rfl, rfl⟩
  rw [if_neg h4] at h
  exact absurd rfl h
theorem readN_lt (l : List UInt8) : (readN l).2.1 < 4294967296 := by
  by_cases h : (readN l).2.2 = 0
  · obtain ⟨_, h2, _⟩ := read_slot_back l (readN l).1 (readN l).2.1 (by rw [← h])
    exact h2
  · rw [(readN_bad h).2]; decide
end Go.Proofs.Ytdalajfjikbcaaa
