/- Bursts by the byte: the first and the last bit in which two bytes are unlike. No program is named here. -/
import Derived.Test.YtaipjhfgkidbfaaCrcBurst
import Derived.Lib.BitFns
namespace Go.Proofs.Ytaipjhfgkidbfaa
open Go.RowKit

def g8 (u : Nat) : Nat → Option (Nat × Nat)
  | 0 => none
  | r + 1 => if u / 2 ^ (7 - r) % 2 = 0 then g8 u r else match g8 u r with
    | none => some (r, r)
    | some (p, _) => some (p, r)
theorem g8_fin : ∀ u : Fin 256, g8 u.val 8 = if u.val = 0 then none else some (8 - Lib.bitLen u.val, 7 - Lib.trailingZeros8 u.val) := by decide +kernel
theorem g8_all (u : Nat) (h : u < 256) : g8 u 8 = if u = 0 then none else some (8 - Lib.bitLen u, 7 - Lib.trailingZeros8 u) := g8_fin ⟨u, h⟩
theorem len8_fin : ∀ u : Fin 256, u.val ≠ 0 → 1 ≤ Lib.bitLen u.val ∧ Lib.bitLen u.val ≤ 8 ∧ Lib.trailingZeros8 u.val ≤ 7 := by decide +kernel
theorem len8_rng (u : Nat) (h : u < 256) (h0 : u ≠ 0) : 1 ≤ Lib.bitLen u ∧ Lib.bitLen u ≤ 8 ∧ Lib.trailingZeros8 u ≤ 7 := len8_fin ⟨u, h⟩ h0
theorem bit_xor (x y : UInt8) (e : Nat) : (x.toNat / 2 ^ e % 2 = y.toNat / 2 ^ e % 2) ↔ ((x ^^^ y).toNat / 2 ^ e % 2 = 0) := by
  have h : (x ^^^ y).toNat.testBit e = (x.toNat.testBit e ^^ y.toNat.testBit e) := by rw [UInt8.toNat_xor, Nat.testBit_xor]
  rw [Nat.testBit_eq_decide_div_mod_eq, Nat.testBit_eq_decide_div_mod_eq, Nat.testBit_eq_decide_div_mod_eq] at h
  have a := Nat.mod_two_eq_zero_or_one (x.toNat / 2 ^ e)
  have b := Nat.mod_two_eq_zero_or_one (y.toNat / 2 ^ e)
  have c := Nat.mod_two_eq_zero_or_one ((x ^^^ y).toNat / 2 ^ e)
  generalize (x ^^^ y).toNat / 2 ^ e % 2 = z at *
  generalize x.toNat / 2 ^ e % 2 = p at *
  generalize y.toNat / 2 ^ e % 2 = q at *
  rcases a with rfl | rfl <;> rcases b with rfl | rfl <;> rcases c with rfl | rfl <;> revert h <;> decide

/-- the byte in which the bits are 1 that are unlike -/
def un (a b : List UInt8) (k : Nat) : UInt8 := a.getD k 0 ^^^ b.getD k 0
theorem bu_byte (a b : List UInt8) (k : Nat) : ∀ r, r ≤ 8 → bu a b (8 * k + r) = match g8 (un a b k).toNat r with
    | none => bu a b (8 * k)
    | some (p, q) => (if (bu a b (8 * k)).1 < 0 then ((8 * k + p : Nat) : Int) else (bu a b (8 * k)).1, ((8 * k + q : Nat) : Int))
  | 0, _ => rfl
  | r + 1, h => by
    have ih := bu_byte a b k r (by omega)
    have e : bu a b (8 * k + (r + 1)) = if bitAt a (8 * k + r) = bitAt b (8 * k + r) then bu a b (8 * k + r) else (if (bu a b (8 * k + r)).1 < 0 then ((8 * k + r : Nat) : Int) else (bu a b (8 * k + r)).1, ((8 * k + r : Nat) : Int)) := rfl
    have e8 : (8 * k + r) / 8 = k := by omega
    have m8 : (8 * k + r) % 8 = r := by omega
    have hb : (bitAt a (8 * k + r) = bitAt b (8 * k + r)) ↔ ((un a b k).toNat / 2 ^ (7 - r) % 2 = 0) := by
      unfold bitAt un
      rw [e8, m8]
      exact bit_xor _ _ _
    have g : g8 (un a b k).toNat (r + 1) = if (un a b k).toNat / 2 ^ (7 - r) % 2 = 0 then g8 (un a b k).toNat r else match g8 (un a b k).toNat r with
      | none => some (r, r)
      | some (p, _) => some (p, r) := rfl
    rw [e, g]
    by_cases hz : (un a b k).toNat / 2 ^ (7 - r) % 2 = 0
    · rw [if_pos (hb.2 hz), if_pos hz]; exact ih
    · rw [if_neg (fun x => hz (hb.1 x)), if_neg hz, ih]
      generalize g8 (un a b k).toNat r = o
      cases o with
      | none => rfl
      | some pq =>
        obtain ⟨p, q⟩ := pq
        simp only
        split
        · rw [if_neg (by omega)]
        · rfl

/-- from and to, k bytes of n gone through -/
def bc (a b : List UInt8) (n : Nat) : Nat → Int × Int
  | 0 => (8 * (n : Int), 8 * (n : Int))
  | k + 1 => if (un a b k).toNat = 0 then bc a b n k else (min (bc a b n k).1 (8 * (k : Int) + (8 - (Lib.bitLen (un a b k).toNat : Int))), 8 * ((k : Int) + 1) - (Lib.trailingZeros8 (un a b k).toNat : Int))
theorem bc_bu (a b : List UInt8) (n : Nat) : ∀ k, k ≤ n → ((bu a b (8 * k)).1 < 0 → bc a b n k = (8 * (n : Int), 8 * (n : Int))) ∧ (¬ (bu a b (8 * k)).1 < 0 → bc a b n k = ((bu a b (8 * k)).1, (bu a b (8 * k)).2 + 1))
  | 0, _ => ⟨fun _ => rfl, fun h => absurd (show (bu a b 0).1 < 0 by simp [bu]) h⟩
  | k + 1, hk => by
    have ih := bc_bu a b n k (by omega)
    have hr := bu_rng a b (8 * k)
    have hu := (un a b k).toNat_lt
    have hu' : (un a b k).toNat < 256 := hu
    have h8 := bu_byte a b k 8 (by omega)
    rw [g8_all _ hu'] at h8
    rw [show 8 * (k + 1) = 8 * k + 8 by omega]
    by_cases h0 : (un a b k).toNat = 0
    · rw [if_pos h0] at h8
      have e : bc a b n (k + 1) = bc a b n k := by rw [bc, if_pos h0]
      simp only at h8
      rw [h8, e]
      exact ih
    · rw [if_neg h0] at h8
      obtain ⟨l1, l2, l3⟩ := len8_rng _ hu' h0
      have e : bc a b n (k + 1) = (min (bc a b n k).1 (8 * (k : Int) + (8 - (Lib.bitLen (un a b k).toNat : Int))), 8 * ((k : Int) + 1) - (Lib.trailingZeros8 (un a b k).toNat : Int)) := by rw [bc, if_neg h0]
      simp only at h8
      rw [e, h8]
      generalize Lib.bitLen (un a b k).toNat = L at *
      generalize Lib.trailingZeros8 (un a b k).toNat = T at *
      by_cases hf : (bu a b (8 * k)).1 < 0
      · rw [if_pos hf, ih.1 hf]
        refine ⟨fun x => ?_, fun _ => ?_⟩
        · simp only at x; omega
        · simp only [Prod.mk.injEq]; omega
      · rw [if_neg hf, ih.2 hf]
        refine ⟨fun x => absurd x hf, fun _ => ?_⟩
        simp only [Prod.mk.injEq]; omega
theorem bc_rng (a b : List UInt8) (n : Nat) (k : Nat) (h : k ≤ n) : 0 ≤ (bc a b n k).1 ∧ (bc a b n k).1 ≤ 8 * (n : Int) ∧ 0 ≤ (bc a b n k).2 ∧ (bc a b n k).2 ≤ 8 * (n : Int) + 1 := by
  have hb := bc_bu a b n k h
  have hr := bu_rng a b (8 * k)
  by_cases hf : (bu a b (8 * k)).1 < 0
  · rw [hb.1 hf]; simp only; omega
  · rw [hb.2 hf]; simp only; omega
theorem burst_bc (a b : List UInt8) (n : Nat) (h : n = min a.length b.length) : burst a b = (bc a b n n).2 - (bc a b n n).1 := by
  have hb := bc_bu a b n n (Nat.le_refl _)
  unfold burst
  rw [← h]
  by_cases hf : (bu a b (8 * n)).1 < 0
  · rw [if_pos hf, hb.1 hf]; simp only; omega
  · rw [if_neg hf, hb.2 hf]; simp only; omega
end Go.Proofs.Ytaipjhfgkidbfaa
