/- Numbers as bytes: of fixed width, the highest first; signed; in as few bytes as can be, seven bits each, the lowest first; zigzag. No program is named here. -/
namespace Go.Proofs.Ytmacbcbomdnppaa.Oct

/-- the lowest k bytes of n, the highest first -/
def be : Nat → Nat → List UInt8
  | 0, _ => []
  | k + 1, n => be k (n / 256) ++ [UInt8.ofNat (n % 256)]

/-- the number that bytes tell, on from a -/
def num (a : Nat) (l : List UInt8) : Nat := l.foldl (fun a c => a * 256 + c.toNat) a

theorem be_length : ∀ k n, (be k n).length = k
  | 0, _ => rfl
  | k + 1, n => by rw [be, List.length_append, be_length k]; rfl

theorem num_append (a : Nat) (l m : List UInt8) : num a (l ++ m) = num (num a l) m := by unfold num; rw [List.foldl_append]
theorem num_one (a : Nat) (c : UInt8) : num a [c] = a * 256 + c.toNat := rfl
theorem byte_of (n : Nat) (h : n < 256) : (UInt8.ofNat n).toNat = n := by rw [UInt8.toNat_ofNat']; omega
theorem of_byte (c : UInt8) : UInt8.ofNat c.toNat = c := by rw [UInt8.ofNat_toNat]

theorem num_be : ∀ k n, num 0 (be k n) = n % 256 ^ k
  | 0, n => by simp [be, num, Nat.mod_one]
  | k + 1, n => by
    rw [be, num_append, num_be k, num_one, byte_of _ (Nat.mod_lt _ (by decide)), Nat.pow_succ, Nat.mul_comm (256 ^ k), Nat.mod_mul]
    omega

theorem num_lt : ∀ (l : List UInt8) (a : Nat), num a l < (a + 1) * 256 ^ l.length
  | [], a => by simp [num]
  | c :: l, a => by
    have h := num_lt l (a * 256 + c.toNat)
    have hc := c.toNat_lt
    have g : (a * 256 + c.toNat + 1) * 256 ^ l.length ≤ (a + 1) * 256 * 256 ^ l.length := Nat.mul_le_mul_right _ (by omega)
    show num (a * 256 + c.toNat) l < (a + 1) * 256 ^ (l.length + 1)
    rw [Nat.pow_succ, Nat.mul_comm (256 ^ l.length), ← Nat.mul_assoc]
    omega

theorem num_lt0 (l : List UInt8) : num 0 l < 256 ^ l.length := by have := num_lt l 0; omega

/-- what is got of any bytes is put so -/
theorem be_num : ∀ (k : Nat) (l : List UInt8), l.length = k → be k (num 0 l) = l
  | 0, l, h => by rw [List.length_eq_zero_iff.1 h]; rfl
  | k + 1, l, h => by
    have hn : l ≠ [] := by intro e; rw [e] at h; cases h
    obtain ⟨m, c, rfl⟩ : ∃ m c, l = m ++ [c] := ⟨l.dropLast, l.getLast hn, (List.dropLast_concat_getLast hn).symm⟩
    rw [List.length_append] at h
    have hc := c.toNat_lt
    rw [num_append, num_one, be, show (num 0 m * 256 + c.toNat) / 256 = num 0 m by omega, show (num 0 m * 256 + c.toNat) % 256 = c.toNat by omega, of_byte, be_num k m (by simpa using h)]

/-- only the lowest bytes count -/
theorem be_mod : ∀ (k n m : Nat), n % 256 ^ k = m % 256 ^ k → be k n = be k m
  | k, n, m, h => by
    have a := be_num k (be k n) (be_length k n)
    have b := be_num k (be k m) (be_length k m)
    rw [num_be] at a b
    rw [← a, ← b, h]

/-- a number of k bytes with a sign -/
def sgn (k m : Nat) : Int := if 2 * m < 256 ^ k then (m : Int) else (m : Int) - ((256 ^ k : Nat) : Int)
/-- whether n has room in k bytes with a sign -/
def fits (k : Nat) (n : Int) : Prop := -((256 ^ k : Nat) : Int) ≤ 2 * n ∧ 2 * n < ((256 ^ k : Nat) : Int)

theorem sgn_back (k : Nat) (n : Int) (h : fits k n) : sgn k (n % ((256 ^ k : Nat) : Int)).toNat = n := by
  obtain ⟨h1, h2⟩ := h
  have p : 0 < 256 ^ k := Nat.pow_pos (by decide)
  unfold sgn
  generalize 256 ^ k = P at *
  have e := Int.emod_nonneg n (show (P : Int) ≠ 0 by omega)
  by_cases g : 0 ≤ n
  · have m : n % (P : Int) = n := Int.emod_eq_of_lt g (by omega)
    rw [m, if_pos (by omega)]; omega
  · have m : n % (P : Int) = n + P := by
      rw [← Int.add_emod_right, Int.emod_eq_of_lt (by omega) (by omega)]
    rw [m, if_neg (by omega)]; omega

/-- seven bits a byte, the lowest first; 128 is added to each byte but the last -/
def var (n : Nat) : List UInt8 :=
  if h : n < 128 then [UInt8.ofNat n] else UInt8.ofNat (n % 128 + 128) :: var (n / 128)
termination_by n
decreasing_by omega

theorem var_low {n : Nat} (h : n < 128) : var n = [UInt8.ofNat n] := by rw [var, dif_pos h]
theorem var_high {n : Nat} (h : ¬ n < 128) : var n = UInt8.ofNat (n % 128 + 128) :: var (n / 128) := by rw [var, dif_neg h]

theorem var_len (k n : Nat) (hk : 1 ≤ k) (h : n < 128 ^ k) : 1 ≤ (var n).length ∧ (var n).length ≤ k := by
  induction k generalizing n with
  | zero => omega
  | succ k ih =>
    by_cases g : n < 128
    · rw [var_low g]; simp
    · rw [var_high g]
      have k1 : 1 ≤ k := by
        by_cases z : k = 0
        · subst z; simp at h; omega
        · omega
      rw [Nat.pow_succ] at h
      have := ih (n / 128) k1 (by omega)
      simp; omega

/-- what a reader of such bytes comes to -/
inductive Read where
  | short
  | form
  | ok (n : Nat) (len : Nat)
  deriving DecidableEq

/-- reading on: i bytes are read, of which a is left; at most ten -/
def read (i a : Nat) : List UInt8 → Read
  | [] => if i < 10 then .short else .form
  | x :: r =>
    if 10 ≤ i then .form
    else if 128 ≤ x.toNat then read (i + 1) (a + (x.toNat - 128) * 128 ^ i) r
    else if 0 < i ∧ x.toNat = 0 ∨ i = 9 ∧ 1 < x.toNat then .form
    else .ok (a + x.toNat * 128 ^ i) (i + 1)

theorem read_var (i a n : Nat) (r : List UInt8) (hn : 0 < i → 0 < n) (hi : i ≤ 9) (h : n * 128 ^ i < 2 * 128 ^ 9) : read i a (var n ++ r) = .ok (a + n * 128 ^ i) (i + (var n).length) := by
  induction n using Nat.strongRecOn generalizing i a with
  | _ n ih =>
    by_cases g : n < 128
    · rw [var_low g]
      show read i a (UInt8.ofNat n :: r) = _
      rw [read, byte_of n (by omega), if_neg (by omega), if_neg (by omega), if_neg (by
        intro c
        rcases c with ⟨c, d⟩ | ⟨c, d⟩
        · have := hn c; omega
        · subst c
          have := Nat.lt_of_mul_lt_mul_right h
          omega)]
      rfl
    · have i9 : i ≠ 9 := by
        intro e
        subst e
        have := Nat.lt_of_mul_lt_mul_right h
        omega
      rw [var_high g]
      show read i a (UInt8.ofNat (n % 128 + 128) :: (var (n / 128) ++ r)) = _
      have e : n / 128 * 128 ^ (i + 1) = n / 128 * 128 * 128 ^ i := by rw [Nat.pow_succ, Nat.mul_comm (128 ^ i), Nat.mul_assoc]
      have le : n / 128 * 128 * 128 ^ i ≤ n * 128 ^ i := Nat.mul_le_mul_right _ (by omega)
      rw [read, byte_of _ (by omega), if_neg (by omega), if_pos (by omega), show n % 128 + 128 - 128 = n % 128 by omega, ih (n / 128) (by omega) (i + 1) _ (fun _ => by omega) (by omega) (by rw [e]; omega)]
      have s : a + n % 128 * 128 ^ i + n / 128 * 128 ^ (i + 1) = a + n * 128 ^ i := by
        rw [e, Nat.add_assoc, ← Nat.add_mul]
        congr 2; omega
      rw [s, List.length_cons]
      congr 1; omega

/-- what is read is written so -/
theorem var_read : ∀ (l : List UInt8) (i a n len : Nat), read i a l = .ok n len → ∃ m, n = a + m * 128 ^ i ∧ len = i + (var m).length ∧ i ≤ 9 ∧ (0 < i → 0 < m) ∧ m * 128 ^ i < 2 * 128 ^ 9 ∧ l.take (len - i) = var m
  | [], i, a, n, len, h => by
    unfold read at h
    split at h <;> cases h
  | x :: r, i, a, n, len, h => by
    unfold read at h
    split at h
    · cases h
    · rename_i hi
      split at h
      · rename_i hx
        obtain ⟨m, e1, e2, e3, e4, e5, e6⟩ := var_read r (i + 1) _ n len h
        have m0 := e4 (by omega)
        have xl := x.toNat_lt
        have q : m * 128 ^ (i + 1) = m * 128 * 128 ^ i := by rw [Nat.pow_succ, Nat.mul_comm (128 ^ i), Nat.mul_assoc]
        have v : var (m * 128 + (x.toNat - 128)) = x :: var m := by
          rw [var_high (by omega), show (m * 128 + (x.toNat - 128)) % 128 + 128 = x.toNat by omega, of_byte, show (m * 128 + (x.toNat - 128)) / 128 = m by omega]
        refine ⟨m * 128 + (x.toNat - 128), ?_, ?_, by omega, fun _ => by omega, ?_, ?_⟩
        · rw [e1, q, Nat.add_mul]; omega
        · rw [v, List.length_cons, e2]; omega
        · have p : 128 ^ 9 = 128 ^ (8 - i) * (128 * 128 ^ i) := by
            rw [← Nat.pow_succ', ← Nat.pow_add, show 8 - i + (i + 1) = 9 by omega]
          have e5' : m * (128 * 128 ^ i) < 2 * 128 ^ (8 - i) * (128 * 128 ^ i) := by
            rw [p, q] at e5
            rw [← Nat.mul_assoc m, Nat.mul_assoc 2]
            exact e5
          have le := Nat.lt_of_mul_lt_mul_right e5'
          rw [p, ← Nat.mul_assoc]
          have lt : m * 128 + (x.toNat - 128) < 2 * 128 ^ (8 - i) * 128 := by omega
          rw [← Nat.mul_assoc (2 * 128 ^ (8 - i))]
          exact Nat.mul_lt_mul_of_pos_right lt (Nat.pow_pos (by decide))
        · rw [v, show len - i = (len - (i + 1)) + 1 by omega, List.take_succ_cons, e6]
      · split at h
        · cases h
        · rename_i hx hc
          injection h with h1 h2
          subst h1 h2
          refine ⟨x.toNat, rfl, by rw [var_low (by omega)]; rfl, by omega, fun z => ?_, ?_, ?_⟩
          · by_cases g : x.toNat = 0
            · exact (hc (Or.inl ⟨z, g⟩)).elim
            · omega
          · by_cases g : i = 9
            · subst g
              have : ¬ 1 < x.toNat := fun c => hc (Or.inr ⟨rfl, c⟩)
              exact Nat.mul_lt_mul_of_pos_right (by omega) (Nat.pow_pos (by decide))
            · have p : 128 ^ 9 = 128 ^ (8 - i) * (128 * 128 ^ i) := by
                rw [← Nat.pow_succ', ← Nat.pow_add, show 8 - i + (i + 1) = 9 by omega]
              have one : 1 ≤ 128 ^ (8 - i) := Nat.pow_pos (by decide)
              have a1 : x.toNat * 128 ^ i < 128 * 128 ^ i := Nat.mul_lt_mul_of_pos_right (by omega) (Nat.pow_pos (by decide))
              have a2 : 1 * (128 * 128 ^ i) ≤ 128 ^ (8 - i) * (128 * 128 ^ i) := Nat.mul_le_mul_right _ one
              omega
          · rw [show i + 1 - i = 1 by omega, var_low (by omega), of_byte]; rfl

/-- 0, -1, 1, -2, .. as 0, 1, 2, 3, .. -/
def zig (n : Int) : Nat := if 0 ≤ n then (2 * n).toNat else (-2 * n - 1).toNat
def zag (m : Nat) : Int := if m % 2 = 0 then ((m / 2 : Nat) : Int) else -((m / 2 : Nat) : Int) - 1
theorem zag_zig (n : Int) : zag (zig n) = n := by
  unfold zag zig
  split <;> split <;> omega
theorem zig_zag (m : Nat) : zig (zag m) = m := by
  unfold zag zig
  split <;> split <;> omega

end Go.Proofs.Ytmacbcbomdnppaa.Oct
