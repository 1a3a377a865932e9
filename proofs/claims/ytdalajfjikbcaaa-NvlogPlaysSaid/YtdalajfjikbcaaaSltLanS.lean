/- The landed slot's Read, Bytes, whole. -/
import Derived.Test.YtdalajfjikbcaaaSltLanR
import Derived.Test.YtdalajfjikbcaaaNtEq
namespace Go.Proofs.Ytdalajfjikbcaaa
open Go.RowKit

namespace Lan18
theorem Read_came {w : World} {ba : Option Addr} {cap : Nat} {l : List UInt8} (C : Came w ba cap l) :
    Calls Try.prog 34 #[.slice ba l.length cap] w fun e w' => e = .returned (.tuple #[nv (readN l).1, .int .u32 (readN l).2.1, .int .i64 (readN l).2.2]) ∧ Below w.heap.size w w' := by
  by_cases h : l.length = 12
  · have hs : numN l < 4294967296 := by
      have := Oct.num_lt0 ((l.drop 1).take 4)
      have e : ((l.drop 1).take 4).length = 4 := part_len l 1 4 (by omega)
      rw [e] at this
      have e2 : (256 : Nat) ^ 4 = 4294967296 := by decide
      rw [e2] at this
      exact this
    have u8 : ∀ a b : UInt8, a ≠ b ↔ a.toNat ≠ b.toNat := fun a b => ⟨fun h k => h (UInt8.toNat_inj.1 k), fun h k => h (by rw [k])⟩
    have hP : ∀ w, Calls Try.prog 41 #[.agg (vals l).toArray] w fun e w' => e = .returned (.tuple #[.agg #[.int .i64 (l.getD 5 0).toNat, .int .i64 (l.getD 6 0).toNat, .int .i64 (l.getD 7 0).toNat], .int .u32 (numN l)]) ∧ Below w.heap.size w w' := fun w => by
      have k5 := (l.getD 5 0).toNat_lt
      have k6 := (l.getD 6 0).toNat_lt
      have k7 := (l.getD 7 0).toNat_lt
      obtain ⟨c0, c1, c2, c3, c4, c5, c6, c7, c8, c9, c10, c11, hl⟩ := twelve l h
      exact parts_core c0 c1 c2 c3 c4 c5 c6 c7 c8 c9 c10 c11 l (numN l) _ _ _ w hl rfl hs (by rw [hl]; rfl) (by rw [hl]; rfl) (by rw [hl]; rfl) (by omega) (by omega) (by omega)
    have hguard : (l.getD 0 0 ≠ guardN (numN l) ∨ l.getD 11 0 ≠ guardN (numN l)) ↔ (l.getD 0 0 ≠ guardN (numN l) ∨ l.getD 11 0 ≠ l.getD 0 0) := by
      by_cases g : l.getD 0 0 = guardN (numN l)
      · rw [g]
      · exact ⟨fun _ => Or.inl g, fun _ => Or.inl g⟩
    have k := read_core C h _ (vals (slotN (ofN l) (numN l))).toArray rfl (l.getD 0 0).toNat (l.getD 11 0).toNat (l.getD 5 0).toNat (l.getD 6 0).toNat (l.getD 7 0).toNat (numN l) (guardN (numN l)).toNat (fitsB (l.take 11)) (rightN (ofN l)) (decide (l = slotN (ofN l) (numN l)))
      (.tuple #[nv (readN l).1, .int .u32 (readN l).2.1, .int .i64 (readN l).2.2]) rfl rfl rfl
      (fun hA => ?_) (fun hA hf => ?_) (fun hA hf hg => ?_) (fun hA hf hg hq => ?_) (Lib.hid hP) (Lib.hid (guard_any (numN l) hs)) (Lib.hid (Right_any (ofN l))) (Lib.hid fun hg w => written_ok (ofN l) (numN l) w hg hs)
      (Lib.hid fun _ w => arr12_eq l (slotN (ofN l) (numN l)) h (slot_length _ _) w)
    · rw [h]; exact k
    · rw [← u8, ← u8, hguard] at hA
      have : readN l = (nt0, 0, 3) := by
        unfold readN
        rw [if_neg (by omega), if_pos hA]
      rw [this]; rfl
    · rw [← u8, ← u8, hguard] at hA
      have : readN l = (nt0, 0, 5) := by
        unfold readN
        rw [if_neg (by omega), if_neg hA, if_pos hf]
      rw [this]; rfl
    · rw [← u8, ← u8] at hA
      have hA2 := hA
      rw [hguard] at hA2
      have : readN l = (nt0, 0, 3) := by
        unfold readN
        rw [if_neg (by omega), if_neg hA2, if_neg (by rw [hf]; simp), if_pos]
        cases hr : rightN (ofN l)
        · exact Or.inl rfl
        · rcases hg with hg | hg
          · rw [hr] at hg; cases hg
          · right
            intro k8
            exact of_decide_eq_false hg ((same_iff h hA hf hr).2 k8).symm
      rw [this]; rfl
    · rw [← u8, ← u8] at hA
      have hA2 := hA
      rw [hguard] at hA2
      have k8 := (same_iff h hA hf hg).1 (of_decide_eq_true hq).symm
      have : readN l = (ofN l, numN l, 0) := by
        unfold readN
        rw [if_neg (by omega), if_neg hA2, if_neg (by rw [hf]; simp), if_neg]
        rintro (k | k)
        · rw [hg] at k; cases k
        · exact k k8
      rw [this]; rfl
  · have : readN l = (nt0, 0, 2) := by
      unfold readN
      rw [if_pos h]
    rw [this]
    have c1 := C.le
    have c2 := C.max
    unfold maxLen at c2
    exact Read_short ba l.length cap w (by simp; omega) (by omega)

theorem Bytes_any (n : Nt) (s : Nat) (w : World) (hs : s < 4294967296) : Calls Try.prog 20 #[nv n, .int .u32 s] w fun e w' =>
    ∃ ba cap, e = .returned (.tuple #[.slice ba (bytesN n s).1.length cap, .int .i64 (bytesN n s).2]) ∧ Came w' ba cap (bytesN n s).1 ∧ Below w.heap.size w w' := by
  cases h : rightN n
  · rw [bytesN_no s h]
    exact (Bytes_no n s w h).mono fun e w' hk => ⟨none, 0, hk.1, none_come w', hk.2⟩
  · rw [bytesN_ok s h]
    exact Bytes_ok n s w h hs
end Lan18
end Go.Proofs.Ytdalajfjikbcaaa
