/- Notes compared; the document's own Bytes, whole. -/
import Derived.Test.YtdalajfjikbcaaaSltRefB
import Derived.Test.YtdalajfjikbcaaaSltRefC
import Derived.Test.YtdalajfjikbcaaaBufOwn
import Derived.ChangeKeysEq
namespace Go.Proofs.Ytdalajfjikbcaaa
open Go.RowKit

theorem bytesN_no {n : Nt} (s : Nat) (h : rightN n = false) : bytesN n s = ([], 1) := by unfold bytesN; rw [h]; rfl
theorem bytesN_ok {n : Nt} (s : Nat) (h : rightN n = true) : bytesN n s = (slotN n s, 0) := by unfold bytesN; rw [h]; rfl
theorem none_come (w : World) : Came w none 0 [] := ⟨Nat.le_refl _, Nat.zero_le _, fun _ => ⟨rfl, rfl⟩, fun h => absurd h (by decide)⟩
theorem Ref18.Bytes_any (n : Nt) (s : Nat) (w : World) (hs : s < 4294967296) : Calls Try.prog 23 #[nv n, .int .u32 s] w fun e w' =>
    ∃ ba cap, e = .returned (.tuple #[.slice ba (bytesN n s).1.length cap, .int .i64 (bytesN n s).2]) ∧ Came w' ba cap (bytesN n s).1 ∧ Below w.heap.size w w' := by
  cases h : rightN n
  · rw [bytesN_no s h]
    exact (Ref18.Bytes_no n s w h).mono fun e w' hk => ⟨none, 0, hk.1, none_come w', hk.2⟩
  · rw [bytesN_ok s h]
    refine (Ref18.Bytes_ok n s w h hs).mono fun e w' hk => ?_
    obtain ⟨u, he, hu⟩ := hk
    obtain ⟨ba, cap, rfl, C⟩ := hu.came
    exact ⟨ba, cap, he, C, hu.below⟩

set_option maxHeartbeats 4000000 in
theorem nt_eq (a b : Nt) (w : World) : (Op.equalIn 10000 26 (nv a) (nv b)).run Try.prog w = .ok (decide (a = b)) w := by
  obtain ⟨x, y, z⟩ := a
  obtain ⟨x', y', z'⟩ := b
  simp only [nv]
  have e : decide (Nt.mk x y z = Nt.mk x' y' z') = (x == x' && (y == y' && z == z')) := by
    rw [Bool.eq_iff_iff]
    simp [Nt.mk.injEq]
  rw [e]
  simp [go_sem]
  by_cases h0 : x = x' <;> by_cases h1 : y = y' <;> by_cases h2 : z = z' <;> simp [h0, h1, h2, go_sem]
end Go.Proofs.Ytdalajfjikbcaaa
