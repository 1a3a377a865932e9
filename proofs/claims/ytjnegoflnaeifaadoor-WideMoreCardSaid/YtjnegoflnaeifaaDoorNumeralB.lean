/- Numerals read digit by digit, and in two pieces: the same. No program is named here. -/
import Derived.Test.YtjnegoflnaeifaaDoorNumeral
namespace Go.Proofs.YtjnegoflnaeifaaDoor.Dec
open Go.Lib

theorem val_shift : ∀ (l : List UInt8) (a : Nat), val a l = a * 10 ^ l.length + val 0 l
  | [], a => by simp [val]
  | c :: l, a => by
    have h1 := val_shift l (a * 10 + (c.toNat - 48))
    have h2 := val_shift l (0 * 10 + (c.toNat - 48))
    show val (a * 10 + (c.toNat - 48)) l = a * 10 ^ (l.length + 1) + val (0 * 10 + (c.toNat - 48)) l
    rw [h1, h2, Nat.pow_succ, Nat.zero_mul, Nat.zero_add, Nat.add_mul, Nat.mul_comm (10 ^ l.length) 10, Nat.mul_assoc]
    omega

theorem val_lt : ∀ (l : List UInt8) (a : Nat), Digs l → val a l < (a + 1) * 10 ^ l.length
  | [], a, _ => by simp [val]
  | c :: l, a, hd => by
    have hc := hd c (List.mem_cons_self ..)
    have h1 := val_lt l (a * 10 + (c.toNat - 48)) (fun x hx => hd x (List.mem_cons_of_mem _ hx))
    show val (a * 10 + (c.toNat - 48)) l < (a + 1) * 10 ^ (l.length + 1)
    have g : (a * 10 + (c.toNat - 48) + 1) * 10 ^ l.length ≤ (a + 1) * 10 * 10 ^ l.length := Nat.mul_le_mul_right _ (by omega)
    rw [Nat.pow_succ, Nat.mul_comm (10 ^ l.length) 10, ← Nat.mul_assoc]
    omega

theorem val_small (l : List UInt8) (hd : Digs l) (hl : l.length ≤ 19) : val 0 l ≤ 9999999999999999999 := by
  have h := val_lt l 0 hd
  have h10 : (10 : Nat) ^ l.length ≤ 10 ^ 19 := Nat.pow_le_pow_right (by decide) hl
  have : (10 : Nat) ^ 19 = 10000000000000000000 := by decide
  omega

theorem valOf_val (l : List UInt8) (hd : Digs l) (hl : l.length ≤ 19) : valOf l = val 0 l := by
  cases l with
  | nil => rfl
  | cons c r =>
    have v := val_small _ hd hl
    unfold valOf
    rw [parse_list _ (by simp) hd (by omega)]

theorem size_val (d : List UInt8) (hd : Digs d) (hl : d.length ≤ 38) : size d = val 0 d := by
  have e : (10 : Nat) ^ 19 = 10000000000000000000 := by decide
  have a := valOf_val (d.take (d.length - 19)) (fun c h => hd c (List.mem_of_mem_take h)) (by rw [List.length_take]; omega)
  have b := valOf_val (d.drop (d.length - 19)) (fun c h => hd c (List.mem_of_mem_drop h)) (by rw [List.length_drop]; omega)
  have j : val 0 d = val (val 0 (d.take (d.length - 19))) (d.drop (d.length - 19)) := by rw [← val_append, List.take_append_drop]
  unfold size
  rw [a, b, j, val_shift (d.drop (d.length - 19)) (val 0 (d.take (d.length - 19)))]
  by_cases h : d.length ≤ 19
  · rw [show d.length - 19 = 0 by omega, List.take_zero]
    simp [val]
  · rw [show (d.drop (d.length - 19)).length = 19 by rw [List.length_drop]; omega, e]

/-- what is behind the sign of a text is all digits, and there are some -/
theorem tail_text (x : Int) : Digs (tail (text x)) ∧ tail (text x) ≠ [] := by
  unfold text
  split
  · rw [tail_cons]; exact ⟨digs_dec _, dec_ne _⟩
  · rw [tail_dec]; exact ⟨digs_dec _, dec_ne _⟩

end Go.Proofs.YtjnegoflnaeifaaDoor.Dec
