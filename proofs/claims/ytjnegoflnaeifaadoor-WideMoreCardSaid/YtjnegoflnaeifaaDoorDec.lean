/- Decimal numerals: two pieces one behind the other, and read again. No program is named here. -/
import Derived.Lib.ItoaNum
import Derived.Lib.ParseIntB
namespace Go.Proofs.YtjnegoflnaeifaaDoor.Dec
open Go.Lib

theorem dec_one {u : Nat} (h : u < 10) : decDigits u = [UInt8.ofNat (48 + u)] := by rw [decDigits, dif_pos h]
theorem dec_more {u : Nat} (h : ¬ u < 10) : decDigits u = decDigits (u / 10) ++ [UInt8.ofNat (48 + u % 10)] := by rw [decDigits, dif_neg h]

/-- the lowest k digits of t, with noughts ahead -/
def pad : Nat → Nat → List UInt8
  | 0, _ => []
  | k + 1, t => pad k (t / 10) ++ [UInt8.ofNat (48 + t % 10)]

theorem pad_length : ∀ k t, (pad k t).length = k
  | 0, _ => rfl
  | k + 1, t => by rw [pad, List.length_append, pad_length k]; rfl

theorem pad_nought : ∀ k, pad k 0 = List.replicate k 48
  | 0 => rfl
  | k + 1 => by rw [pad, Nat.zero_div, pad_nought k, List.replicate_succ']; rfl

/-- a number of two pieces: the digits of the higher one, and those of the lower one with noughts ahead -/
theorem dec_join : ∀ (k h t : Nat), 1 ≤ h → t < 10 ^ k → decDigits (h * 10 ^ k + t) = decDigits h ++ pad k t
  | 0, h, t, _, ht => by
    rw [Nat.pow_zero] at ht ⊢
    rw [show h * 1 + t = h by omega, pad, List.append_nil]
  | k + 1, h, t, h1, ht => by
    have p := Nat.one_le_pow k 10 (by decide)
    have e : h * 10 ^ (k + 1) = h * 10 ^ k * 10 := by rw [Nat.pow_succ, Nat.mul_assoc]
    have g : 1 * 1 ≤ h * 10 ^ k := Nat.mul_le_mul h1 p
    rw [Nat.pow_succ] at ht
    have d := dec_join k h (t / 10) h1 (by omega)
    rw [e]
    generalize h * 10 ^ k = H at *
    rw [dec_more (by omega), show (H * 10 + t) / 10 = H + t / 10 by omega, show (H * 10 + t) % 10 = t % 10 by omega, d, pad, List.append_assoc]

theorem dec_pad : ∀ (k t : Nat), 1 ≤ k → t < 10 ^ k → pad k t = List.replicate (k - (decDigits t).length) 48 ++ decDigits t ∧ (decDigits t).length ≤ k
  | 1, t, _, ht => by
    have h : t < 10 := by simpa using ht
    rw [dec_one h, pad, pad, Nat.mod_eq_of_lt h]
    exact ⟨rfl, Nat.le_refl _⟩
  | k + 2, t, _, ht => by
    by_cases h : t < 10
    · rw [dec_one h, pad, show t / 10 = 0 by omega, pad_nought, Nat.mod_eq_of_lt h]
      exact ⟨rfl, by simp⟩
    · rw [Nat.pow_succ] at ht
      obtain ⟨a, b⟩ := dec_pad (k + 1) (t / 10) (by omega) (by omega)
      rw [dec_more h, pad, a, List.length_append, List.append_assoc]
      refine ⟨?_, by simp; omega⟩
      congr 2
      simp

/-- reading on from acc -/
def val (acc : Nat) (l : List UInt8) : Nat := l.foldl (fun a c => a * 10 + (c.toNat - 48)) acc

theorem val_le : ∀ (l : List UInt8) (acc : Nat), acc ≤ val acc l
  | [], acc => Nat.le_refl _
  | c :: l, acc => Nat.le_trans (show acc ≤ acc * 10 + (c.toNat - 48) by omega) (val_le l (acc * 10 + (c.toNat - 48)))

theorem val_append (a : Nat) (l m : List UInt8) : val a (l ++ m) = val (val a l) m := by unfold val; rw [List.foldl_append]

theorem digit_toNat (d : Nat) (h : d < 10) : (UInt8.ofNat (48 + d)).toNat = 48 + d := by
  rw [UInt8.toNat_ofNat']; omega

theorem val_pad : ∀ (k acc t : Nat), t < 10 ^ k → val acc (pad k t) = acc * 10 ^ k + t
  | 0, acc, t, ht => by
    rw [Nat.pow_zero] at ht ⊢
    show acc = acc * 1 + t
    omega
  | k + 1, acc, t, ht => by
    rw [Nat.pow_succ] at ht
    rw [pad, val_append, val_pad k acc (t / 10) (by omega)]
    show (acc * 10 ^ k + t / 10) * 10 + ((UInt8.ofNat (48 + t % 10)).toNat - 48) = acc * 10 ^ (k + 1) + t
    rw [digit_toNat _ (by omega), Nat.pow_succ, ← Nat.mul_assoc, Nat.add_mul]
    generalize acc * 10 ^ k * 10 = A
    omega

theorem val_dec (u : Nat) : val 0 (decDigits u) = u := by
  induction u using Nat.strongRecOn with
  | _ u ih =>
    by_cases h : u < 10
    · rw [dec_one h]
      show 0 * 10 + ((UInt8.ofNat (48 + u)).toNat - 48) = u
      rw [digit_toNat _ h]; omega
    · rw [dec_more h, val_append, ih (u / 10) (by omega)]
      show u / 10 * 10 + ((UInt8.ofNat (48 + u % 10)).toNat - 48) = u
      rw [digit_toNat _ (by omega)]; omega

/-- all are digits -/
def Digs (l : List UInt8) : Prop := ∀ c ∈ l, 48 ≤ c.toNat ∧ c.toNat ≤ 57

theorem digs_one (d : Nat) (h : d < 10) : Digs [UInt8.ofNat (48 + d)] := by
  intro c hc
  rw [List.mem_singleton] at hc
  rw [hc, digit_toNat _ h]; omega
theorem Digs.append {l m : List UInt8} (a : Digs l) (b : Digs m) : Digs (l ++ m) := fun c h => (List.mem_append.1 h).elim (a c) (b c)
theorem digs_pad : ∀ k t, Digs (pad k t)
  | 0, _ => fun c h => by cases h
  | k + 1, t => (digs_pad k (t / 10)).append (digs_one _ (by omega))
theorem digs_dec (u : Nat) : Digs (decDigits u) := by
  induction u using Nat.strongRecOn with
  | _ u ih =>
    by_cases h : u < 10
    · rw [dec_one h]; exact digs_one _ h
    · rw [dec_more h]; exact (ih (u / 10) (by omega)).append (digs_one _ (by omega))

/-- digits are read, where the number has room -/
theorem parse_digs : ∀ (l : List UInt8) (acc : Nat), Digs l → val acc l ≤ 18446744073709551615 → parseUintM 18446744073709551615 acc l = .ok (val acc l)
  | [], _, _, _ => rfl
  | c :: l, acc, hd, hv => by
    have h := hd c (List.mem_cons_self ..)
    have le := val_le l (acc * 10 + (c.toNat - 48))
    have hv' : val (acc * 10 + (c.toNat - 48)) l ≤ 18446744073709551615 := hv
    rw [parseUintM, if_pos h, if_neg (by omega), if_neg (by omega)]
    exact parse_digs l _ (fun x hx => hd x (List.mem_cons_of_mem _ hx)) hv'

theorem parse_list (l : List UInt8) (h0 : l ≠ []) (hd : Digs l) (hv : val 0 l ≤ 18446744073709551615) : parseUintB 64 l = .ok (val 0 l) := by
  unfold parseUintB
  rw [if_neg h0, show (2 ^ 64 - 1 : Nat) = 18446744073709551615 by decide]
  exact parse_digs l 0 hd hv

theorem dec_ne (u : Nat) : decDigits u ≠ [] := by
  by_cases h : u < 10
  · rw [dec_one h]; simp
  · rw [dec_more h]; simp

/-- how long a numeral is -/
theorem dec_len (k u : Nat) (hk : 1 ≤ k) (h : u < 10 ^ k) : (decDigits u).length ≤ k := (dec_pad k u hk h).2

end Go.Proofs.YtjnegoflnaeifaaDoor.Dec
