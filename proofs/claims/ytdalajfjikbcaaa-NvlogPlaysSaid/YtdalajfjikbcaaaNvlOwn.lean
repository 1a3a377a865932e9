/- What the landed nvlog must answer: Own19. Saves, plain. -/
import Derived.Test.YtdalajfjikbcaaaNvlRefC
namespace Go.Proofs.Ytdalajfjikbcaaa
open Go.RowKit

/-- the landed nvlog answers so, and the landed slot's Right -/
structure Own19 : Prop where
  right : ∀ (n : Nt) (w : World), Calls Try.prog 17 #[nv n] w fun e w' => e = .returned (.bool (rightN n)) ∧ Below w.heap.size w w'
  new : ∀ (w : World), Calls Try.prog 15 #[] w fun e w' => ∃ b2 c2, e = .returned (.slice b2 24 c2) ∧ Came w' b2 c2 zeroM ∧ Below w.heap.size w w'
  load : ∀ (w : World) (ba : Option Addr) (cap : Nat) (l : List UInt8), Came w ba cap l → l.length ≤ 4000 → Calls Try.prog 13 #[.slice ba l.length cap] w fun e w' => e = .returned (.tuple #[nv (loadF l).1, .int .i64 (loadF l).2]) ∧ Below w.heap.size w w'
  save : ∀ (w : World) (ba : Option Addr) (cap : Nat) (l : List UInt8) (n : Nt) (most : Int), Came w ba cap l → l.length ≤ 4000 → Calls Try.prog 11 #[.slice ba l.length cap, nv n, .int .i64 most] w fun e w' =>
    ∃ b2 c2, e = .returned (.tuple #[.slice b2 (saveF l n most).1.length c2, .int .i64 (saveF l n most).2]) ∧ Came w' b2 c2 (saveF l n most).1 ∧ Below w.heap.size w w'
  write : ∀ (w : World) (ba : Option Addr) (cap : Nat) (l : List UInt8) (n : Nt), Came w ba cap l → l.length ≤ 4000 → Calls Try.prog 9 #[.slice ba l.length cap, nv n] w fun e w' =>
    ∃ b2 c2, e = .returned (.tuple #[.int .i64 (writeF l n).1, .slice b2 (writeF l n).2.1.length c2, .int .i64 (writeF l n).2.2]) ∧ Came w' b2 c2 (writeF l n).2.1 ∧ Below w.heap.size w w'
  spoil : ∀ (w : World) (ba : Option Addr) (cap : Nat) (l : List UInt8) (k : Int), Came w ba cap l → l.length ≤ 4000 → Calls Try.prog 7 #[.slice ba l.length cap, .int .i64 k] w fun e w' =>
    ∃ b2 c2, e = .returned (.slice b2 (spoilF l k).length c2) ∧ Came w' b2 c2 (spoilF l k) ∧ Below w.heap.size w w'

theorem save_right {m : List UInt8} {n : Nt} (h : OkM m) (hn : rightN n = true) (hs : (newF m).2.2 < 2147483648) (most : Int) : saveF m n most = (putF m (12 * toF m) ((slotN n ((newF m).2.2 + 1)).take (mostF most)), 0) := by
  have hw : writeF m n = (toF m, slotN n ((newF m).2.2 + 1), 0) := by
    unfold writeF
    rw [if_neg (by have := h.len; omega), if_neg (by omega), if_neg (by rw [hn]; simp)]
  unfold saveF
  rw [hw]; rfl
theorem save_wrong {m : List UInt8} {n : Nt} (h : OkM m) (hn : rightN n = false ∨ 2147483648 ≤ (newF m).2.2) (most : Int) : (saveF m n most).2 ≠ 0 ∧ (saveF m n most).1 = m := by
  have hw : (writeF m n).2.2 ≠ 0 := by
    unfold writeF
    rw [if_neg (by have := h.len; omega)]
    by_cases k : 2147483648 ≤ (newF m).2.2
    · rw [if_pos k]
      show (8 : Int) ≠ 0
      decide
    · rw [if_neg k, if_pos (hn.resolve_right k)]
      show (1 : Int) ≠ 0
      decide
  unfold saveF
  rw [if_pos hw]
  exact ⟨hw, rfl⟩
theorem most_whole {most : Int} (h : 12 ≤ most) : mostF most = 12 := by unfold mostF; omega
theorem most_torn {most : Int} (h : most < 12) : mostF most < 12 := by unfold mostF; omega
theorem save_ok {m : List UInt8} {n : Nt} (h : OkM m) (hn : rightN n = true) (hs : (newF m).2.2 < 2147483648) (most : Int) :
    (saveF m n most).2 = 0 ∧ OkM (saveF m n most).1 ∧ (12 ≤ most → newF (saveF m n most).1 = ((toF m : Int), n, (newF m).2.2 + 1)) ∧ (most < 12 → newF (saveF m n most).1 = newF m) := by
  rw [save_right h hn hs]
  by_cases hm : most < 12
  · obtain ⟨e, ok⟩ := save_torn (n := n) h (most_torn hm)
    exact ⟨rfl, ok, fun k => by omega, fun _ => e⟩
  · have e12 := most_whole (show 12 ≤ most by omega)
    obtain ⟨e, ok⟩ := save_whole h hn hs
    have et : (slotN n ((newF m).2.2 + 1)).take (mostF most) = slotN n ((newF m).2.2 + 1) := List.take_of_length_le (by rw [slot_length, e12]; exact Nat.le_refl _)
    rw [et]
    exact ⟨rfl, ok, fun _ => e, fun k => absurd k hm⟩
theorem load_of {m : List UInt8} {a : Int} {n : Nt} {s : Nat} (h : newF m = (a, n, s)) : loadF m = if a < 0 then (nt0, 9) else (n, 0) := by unfold loadF; rw [h]
theorem toF_nonneg (m : List UInt8) : ¬ (toF m : Int) < 0 := by omega

theorem pair_of {r : List UInt8 × Int} (h : r.2 = 0) : r = (r.1, 0) := Prod.ext rfl h
/-- the laws' own example -/
theorem awake_facts : ∃ M K L : List UInt8, saveF zeroM ⟨1, 0, 0⟩ 99 = (M, 0) ∧ M.length = 24 ∧ loadF M = (⟨1, 0, 0⟩, 0) ∧ saveF M ⟨3, 0, 0⟩ 5 = (K, 0) ∧ K.length = 24 ∧ loadF K = (⟨1, 0, 0⟩, 0) ∧
    saveF M ⟨3, 0, 0⟩ 12 = (L, 0) ∧ L.length = 24 ∧ loadF L = (⟨3, 0, 0⟩, 0) ∧ loadF zeroM = (nt0, 9) ∧ saveF [] nt0 5 = ([], 1) ∧ (spoilF M 3).length = 24 := by
  have r1 : rightN ⟨1, 0, 0⟩ = true := by decide
  have r3 : rightN ⟨3, 0, 0⟩ = true := by decide
  obtain ⟨a1, a2, a3, _⟩ := save_ok zero_ok r1 (by rw [zero_new]; decide) 99
  have aM := a3 (by decide)
  have hs : (newF (saveF zeroM ⟨1, 0, 0⟩ 99).1).2.2 < 2147483648 := by rw [aM, zero_new]; decide
  obtain ⟨b1, b2, _, b4⟩ := save_ok a2 r3 hs 5
  obtain ⟨c1, c2, c3, _⟩ := save_ok a2 r3 hs 12
  have bM := b4 (by decide)
  have cM := c3 (by decide)
  refine ⟨(saveF zeroM ⟨1, 0, 0⟩ 99).1, (saveF (saveF zeroM ⟨1, 0, 0⟩ 99).1 ⟨3, 0, 0⟩ 5).1, (saveF (saveF zeroM ⟨1, 0, 0⟩ 99).1 ⟨3, 0, 0⟩ 12).1, ?_, a2.len, ?_, ?_, b2.len, ?_, ?_, c2.len, ?_, ?_, rfl, ?_⟩
  · exact pair_of a1
  · rw [load_of aM, if_neg (toF_nonneg _)]
  · exact pair_of b1
  · rw [load_of (bM.trans aM), if_neg (toF_nonneg _)]
  · exact pair_of c1
  · rw [load_of cM, if_neg (toF_nonneg _)]
  · rw [load_of zero_new]; rfl
  · rw [spoil_length]; exact a2.len
end Go.Proofs.Ytdalajfjikbcaaa
