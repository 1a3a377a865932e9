/- CRC-16 bit by bit, the highest of a byte first: a burst of at most sixteen bits is told. No program is named here. -/
import Derived.Test.YtmacbcbomdnppaaCrcNum
namespace Go.Proofs.Ytmacbcbomdnppaa.Crc

def top (c : Bool) : BitVec 16 := if c then 0x8000#16 else 0#16
def bstep (s : BitVec 16) (c : Bool) : BitVec 16 := step (s ^^^ top c)
def bfold (s : BitVec 16) (p : List Bool) : BitVec 16 := p.foldl bstep s
/-- so many bits, from the highest on -/
def emb : List Bool → BitVec 16
  | [] => 0#16
  | c :: p => top c ^^^ (emb p >>> 1)

theorem emb_low : ∀ (p : List Bool) (i : Nat), i + p.length ≤ 15 → (emb p).getLsbD i = false
  | [], i, _ => by simp [emb]
  | c :: p, i, h => by
    rw [List.length_cons] at h
    have t : (top c).getLsbD i = false := by
      cases c
      · simp [top]
      · have : ∀ i, i < 15 → (0x8000#16).getLsbD i = false := by decide
        exact this i (by omega)
    rw [emb, BitVec.getLsbD_xor, t, BitVec.getLsbD_ushiftRight, emb_low p (1 + i) (by omega)]
    rfl

theorem emb_get : ∀ (p : List Bool) (i : Nat) (h : i < p.length), p.length ≤ 16 → (emb p).getLsbD (15 - i) = p[i]
  | c :: p, 0, _, _ => by
    have t : (top c).getLsbD 15 = c := by cases c <;> decide
    rw [emb, BitVec.getLsbD_xor, show 15 - 0 = 15 from rfl, t, BitVec.getLsbD_ushiftRight, BitVec.getLsbD_of_ge _ _ (by omega)]
    simp
  | c :: p, i + 1, h, hl => by
    rw [List.length_cons] at h hl
    have t : (top c).getLsbD (15 - (i + 1)) = false := by
      cases c
      · simp [top]
      · have : ∀ i, i < 15 → (0x8000#16).getLsbD i = false := by decide
        exact this _ (by omega)
    rw [emb, BitVec.getLsbD_xor, t, BitVec.getLsbD_ushiftRight, show 1 + (15 - (i + 1)) = 15 - i by omega, emb_get p i (by omega) (by omega)]
    simp

theorem emb_ne (p : List Bool) (hl : p.length ≤ 16) (h : true ∈ p) : emb p ≠ 0#16 := by
  intro e
  obtain ⟨i, hi, g⟩ := List.getElem_of_mem h
  have x := emb_get p i hi hl
  rw [e, g] at x
  simp at x

theorem step_half (v : BitVec 16) (h : v.getLsbD 0 = false) : step (v >>> 1) = v := by
  have m : (v >>> 1).msb = false := by
    rw [BitVec.msb_eq_getLsbD_last, BitVec.getLsbD_ushiftRight]
    exact BitVec.getLsbD_of_ge _ _ (by omega)
  unfold step
  rw [m, if_neg (by decide)]
  apply BitVec.eq_of_getLsbD_eq
  intro i hi
  cases i with
  | zero => rw [h]; simp
  | succ i =>
    rw [BitVec.getLsbD_shiftLeft, BitVec.getLsbD_ushiftRight, show 1 + (i + 1 - 1) = i + 1 by omega]
    simp [hi]

theorem bfold_emb : ∀ (p : List Bool) (s : BitVec 16), p.length ≤ 16 → bfold s p = steps p.length (s ^^^ emb p)
  | [], s, _ => by
    show s = s ^^^ 0#16
    rw [BitVec.xor_zero]
  | c :: p, s, h => by
    rw [List.length_cons] at h
    show bfold (bstep s c) p = steps (p.length + 1) (s ^^^ (top c ^^^ (emb p >>> 1)))
    rw [bfold_emb p _ (by omega), steps, ← BitVec.xor_assoc, step_xor, step_half _ (emb_low p 0 (by omega))]
    rfl

theorem bfold_append (s : BitVec 16) (p q : List Bool) : bfold s (p ++ q) = bfold (bfold s p) q := by unfold bfold; rw [List.foldl_append]

theorem bfold_noughts : ∀ n, bfold 0#16 (List.replicate n false) = 0#16
  | 0 => rfl
  | n + 1 => by
    show bfold (bstep 0#16 false) (List.replicate n false) = _
    rw [show bstep 0#16 false = 0#16 by decide, bfold_noughts n]

theorem bfold_ne : ∀ n {s : BitVec 16}, s ≠ 0#16 → bfold s (List.replicate n false) ≠ 0#16
  | 0, _, h => h
  | n + 1, s, h => by
    show bfold (bstep s false) (List.replicate n false) ≠ 0#16
    apply bfold_ne n
    show step (s ^^^ 0#16) ≠ 0#16
    rw [BitVec.xor_zero]
    exact step_ne h

/-- a byte's bits, the highest first -/
def bitsOf (b : BitVec 8) : List Bool := [b.getLsbD 7, b.getLsbD 6, b.getLsbD 5, b.getLsbD 4, b.getLsbD 3, b.getLsbD 2, b.getLsbD 1, b.getLsbD 0]

theorem emb_bits (b : BitVec 8) : emb (bitsOf b) = up b := by
  have h : ∀ b : BitVec 8, emb (bitsOf b) = up b := by decide
  exact h b

theorem byte_bits (s : BitVec 16) (b : BitVec 8) : byte s b = bfold s (bitsOf b) := by
  rw [bfold_emb _ _ (by simp [bitsOf]), emb_bits]
  rfl

def bits (l : List (BitVec 8)) : List Bool := l.flatMap bitsOf

theorem more_bits : ∀ (l : List (BitVec 8)) (s : BitVec 16), more s l = bfold s (bits l)
  | [], _ => rfl
  | b :: l, s => by
    show more (byte s b) l = bfold s (bitsOf b ++ bits l)
    rw [bfold_append, ← byte_bits, more_bits l]

/-- a burst of at most sixteen bits leaves something -/
theorem burst_told (l : List (BitVec 8)) (k n : Nat) (p : List Bool) (hl : p.length ≤ 16) (hp : true ∈ p) (h : bits l = List.replicate k false ++ p ++ List.replicate n false) : more 0#16 l ≠ 0#16 := by
  rw [more_bits, h, bfold_append, bfold_append, bfold_noughts]
  apply bfold_ne
  rw [bfold_emb p _ hl, BitVec.zero_xor]
  exact steps_ne _ (emb_ne p hl hp)

end Go.Proofs.Ytmacbcbomdnppaa.Crc
