/- CRC-16 from the highest bit on, as plain bit vectors: steps, bytes and sums of texts; that they mix by exclusive or, and go on. No program is named here. -/
namespace Go.Proofs.Ytmacbcbomdnppaa.Crc

/-- one step: twice, and 1021 (hexadecimal) where the highest bit was 1 -/
def step (s : BitVec 16) : BitVec 16 := if s.msb then (s <<< 1) ^^^ 0x1021#16 else s <<< 1

def steps : Nat → BitVec 16 → BitVec 16
  | 0, s => s
  | n + 1, s => steps n (step s)

def up (b : BitVec 8) : BitVec 16 := b.setWidth 16 <<< 8
def byte (s : BitVec 16) (b : BitVec 8) : BitVec 16 := steps 8 (s ^^^ up b)
def more (s : BitVec 16) (l : List (BitVec 8)) : BitVec 16 := l.foldl byte s
def sum (l : List (BitVec 8)) : BitVec 16 := more 0xffff#16 l

theorem xor_twice (a b k : BitVec 16) : a ^^^ b = k ^^^ (a ^^^ (b ^^^ k)) := by
  apply BitVec.eq_of_getLsbD_eq
  intro i _
  simp only [BitVec.getLsbD_xor]
  cases a.getLsbD i <;> cases b.getLsbD i <;> cases k.getLsbD i <;> rfl

theorem step_xor (x y : BitVec 16) : step (x ^^^ y) = step x ^^^ step y := by
  unfold step
  rw [BitVec.msb_xor, BitVec.shiftLeft_xor_distrib]
  cases x.msb <;> cases y.msb <;> simp
  · rw [BitVec.xor_assoc]
  · rw [BitVec.xor_assoc, BitVec.xor_comm (y <<< 1), BitVec.xor_assoc]
  · rw [BitVec.xor_comm _ (4129#16), BitVec.xor_assoc]
    exact xor_twice _ _ _

theorem step_zero : step 0#16 = 0#16 := by decide

theorem steps_xor : ∀ n x y, steps n (x ^^^ y) = steps n x ^^^ steps n y
  | 0, _, _ => rfl
  | n + 1, x, y => by rw [steps, steps, steps, step_xor, steps_xor n]

theorem steps_zero : ∀ n, steps n 0#16 = 0#16
  | 0 => rfl
  | n + 1 => by rw [steps, step_zero, steps_zero n]

theorem steps_add : ∀ m n s, steps (m + n) s = steps n (steps m s)
  | 0, n, s => by rw [Nat.zero_add]; rfl
  | m + 1, n, s => by rw [show m + 1 + n = (m + n) + 1 by omega, steps, steps, steps_add m n]

theorem step_ne {s : BitVec 16} (h : s ≠ 0#16) : step s ≠ 0#16 := by
  unfold step
  intro e
  apply h
  cases m : s.msb with
  | true =>
    rw [m, if_pos rfl] at e
    have b := congrArg (fun v => v.getLsbD 0) e
    simp at b
  | false =>
    rw [m, if_neg (by decide)] at e
    apply BitVec.eq_of_getLsbD_eq
    intro i hi
    by_cases g : i = 15
    · subst g
      have := m
      rw [BitVec.msb_eq_getLsbD_last] at this
      simpa using this
    · have b := congrArg (fun v => v.getLsbD (i + 1)) e
      simp [show i + 1 < 16 by omega] at b
      simpa [BitVec.getLsbD_eq_getElem hi] using b

theorem steps_ne : ∀ n {s : BitVec 16}, s ≠ 0#16 → steps n s ≠ 0#16
  | 0, _, h => h
  | n + 1, _, h => steps_ne n (step_ne h)

theorem up_xor (a b : BitVec 8) : up (a ^^^ b) = up a ^^^ up b := by
  unfold up
  rw [BitVec.setWidth_xor, BitVec.shiftLeft_xor_distrib]
theorem up_zero : up 0#8 = 0#16 := by decide
theorem up_ne {b : BitVec 8} (h : b ≠ 0#8) : up b ≠ 0#16 := by
  intro e
  apply h
  apply BitVec.eq_of_getLsbD_eq
  intro i hi
  have b := congrArg (fun v => v.getLsbD (i + 8)) e
  unfold up at b
  simp [show i + 8 < 16 by omega, hi] at b
  simpa [BitVec.getLsbD_eq_getElem hi] using b

/-- exclusive or of two texts, as far as both go -/
def mix (a b : List (BitVec 8)) : List (BitVec 8) := List.zipWith (· ^^^ ·) a b

theorem byte_xor (x y : BitVec 16) (a b : BitVec 8) : byte (x ^^^ y) (a ^^^ b) = byte x a ^^^ byte y b := by
  unfold byte
  rw [← steps_xor, up_xor]
  congr 1
  rw [BitVec.xor_assoc, BitVec.xor_assoc, ← BitVec.xor_assoc y, BitVec.xor_comm y, BitVec.xor_assoc (up a)]

theorem more_xor : ∀ (a b : List (BitVec 8)) (x y : BitVec 16), a.length = b.length → more (x ^^^ y) (mix a b) = more x a ^^^ more y b
  | [], [], _, _, _ => rfl
  | c :: a, d :: b, x, y, h => by
    show more (byte (x ^^^ y) (c ^^^ d)) (mix a b) = more (byte x c) a ^^^ more (byte y d) b
    rw [byte_xor]
    exact more_xor a b _ _ (by simpa using h)
  | [], _ :: _, _, _, h => by simp at h
  | _ :: _, [], _, _, h => by simp at h

theorem sum_mix (a b : List (BitVec 8)) (h : a.length = b.length) : sum a ^^^ sum b = more 0#16 (mix a b) := by
  unfold sum
  rw [← more_xor a b _ _ h, BitVec.xor_self]

theorem more_append (s : BitVec 16) (a b : List (BitVec 8)) : more s (a ++ b) = more (more s a) b := by unfold more; rw [List.foldl_append]

theorem more_noughts : ∀ n, more 0#16 (List.replicate n 0#8) = 0#16
  | 0 => rfl
  | n + 1 => by
    show more (byte 0#16 0#8) (List.replicate n 0#8) = 0#16
    rw [show byte 0#16 0#8 = 0#16 by unfold byte; rw [up_zero, BitVec.xor_self, steps_zero], more_noughts n]

theorem byte_ne {s : BitVec 16} (h : s ≠ 0#16) : byte s 0#8 ≠ 0#16 := by
  unfold byte
  rw [up_zero, BitVec.xor_zero]
  exact steps_ne 8 h

theorem more_ne : ∀ n {s : BitVec 16}, s ≠ 0#16 → more s (List.replicate n 0#8) ≠ 0#16
  | 0, _, h => h
  | n + 1, _, h => more_ne n (byte_ne h)

/-- one byte alone that is not 0 is told -/
theorem one_told (k n : Nat) (m : BitVec 8) (h : m ≠ 0#8) : more 0#16 (List.replicate k 0#8 ++ m :: List.replicate n 0#8) ≠ 0#16 := by
  rw [more_append, more_noughts]
  show more (byte 0#16 m) (List.replicate n 0#8) ≠ 0#16
  apply more_ne
  unfold byte
  rw [BitVec.zero_xor]
  exact steps_ne 8 (up_ne h)

theorem mix_self : ∀ a : List (BitVec 8), mix a a = List.replicate a.length 0#8
  | [] => rfl
  | c :: a => by
    show (c ^^^ c) :: mix a a = _
    rw [BitVec.xor_self, mix_self a]; rfl

theorem mix_append (a b c d : List (BitVec 8)) (h : a.length = c.length) : mix (a ++ b) (c ++ d) = mix a c ++ mix b d := by
  unfold mix
  exact List.zipWith_append h

/-- a text of which one byte is turned has another sum -/
theorem turned_told (a b : List (BitVec 8)) (c m : BitVec 8) (h : m ≠ 0#8) : sum (a ++ (c ^^^ m) :: b) ≠ sum (a ++ c :: b) := by
  intro e
  have x := sum_mix (a ++ (c ^^^ m) :: b) (a ++ c :: b) (by simp)
  rw [e, BitVec.xor_self, mix_append _ _ _ _ rfl, mix_self] at x
  have y : mix ((c ^^^ m) :: b) (c :: b) = m :: List.replicate b.length 0#8 := by
    show (c ^^^ m ^^^ c) :: mix b b = _
    rw [mix_self, BitVec.xor_comm c m, BitVec.xor_assoc, BitVec.xor_self, BitVec.xor_zero]
  rw [y] at x
  exact one_told _ _ _ h x.symm

/-- the sum's own two bytes behind a text leave nothing -/
def hiOf (s : BitVec 16) : BitVec 8 := (s >>> 8).setWidth 8
def loOf (s : BitVec 16) : BitVec 8 := s.setWidth 8

theorem halves (s : BitVec 16) : s = up (hiOf s) ^^^ (loOf s).setWidth 16 := by
  apply BitVec.eq_of_getLsbD_eq
  intro i hi
  unfold up hiOf loOf
  by_cases g : i < 8
  · simp [g, hi]
  · simp [g, hi, show i - 8 < 8 by omega, show 8 + (i - 8) = i by omega]

theorem steps_low (b : BitVec 8) : steps 8 (b.setWidth 16) = up b := by
  have h : ∀ b : BitVec 8, steps 8 (b.setWidth 16) = up b := by decide
  exact h b

theorem byte_hi (s : BitVec 16) : byte s (hiOf s) = up (loOf s) := by
  unfold byte
  have h : s ^^^ up (hiOf s) = (loOf s).setWidth 16 := by
    have g := halves s
    have g2 := congrArg (fun v => v ^^^ up (hiOf s)) g
    rw [g2, BitVec.xor_comm, ← BitVec.xor_assoc, BitVec.xor_self, BitVec.zero_xor]
  rw [h, steps_low]

theorem behind (s : BitVec 16) : more s [hiOf s, loOf s] = 0#16 := by
  show byte (byte s (hiOf s)) (loOf s) = 0#16
  rw [byte_hi]
  unfold byte
  rw [BitVec.xor_self, steps_zero]

theorem sum_behind (l : List (BitVec 8)) : sum (l ++ [hiOf (sum l), loOf (sum l)]) = 0#16 := by
  unfold sum
  rw [more_append]
  exact behind _

/-- a sum that goes on from another start: what n bytes 0 make of the difference -/
theorem more_start (x y : BitVec 16) (b : List (BitVec 8)) : more (x ^^^ y) b = more x b ^^^ more y (List.replicate b.length 0#8) := by
  have h := more_xor b (List.replicate b.length 0#8) x y (by simp)
  rw [← h]
  congr 1
  have z : ∀ b : List (BitVec 8), b = mix b (List.replicate b.length 0#8) := by
    intro b
    induction b with
    | nil => rfl
    | cons c b ih =>
      show c :: b = (c ^^^ 0#8) :: mix b (List.replicate b.length 0#8)
      rw [BitVec.xor_zero, ← ih]
  exact z b

/-- the sum of two texts, one behind the other -/
theorem sum_join (a b : List (BitVec 8)) : sum (a ++ b) = sum b ^^^ more (sum a ^^^ 0xffff#16) (List.replicate b.length 0#8) := by
  unfold sum
  rw [more_append]
  generalize more 0xffff#16 a = s
  rw [← more_start, BitVec.xor_comm s, ← BitVec.xor_assoc, BitVec.xor_self, BitVec.zero_xor]

end Go.Proofs.Ytmacbcbomdnppaa.Crc
