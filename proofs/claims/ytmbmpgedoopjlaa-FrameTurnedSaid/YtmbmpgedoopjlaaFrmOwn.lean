/- What the landed frame must answer: Own14. Frames compared. -/
import Derived.Test.YtmbmpgedoopjlaaFrmB
import Derived.Test.YtmbmpgedoopjlaaFrmRefA
import Derived.Test.YtmbmpgedoopjlaaBufOwn
import Derived.ChangeKeysEq
namespace Go.Proofs.Ytmbmpgedoopjlaa
open Go.RowKit

/-- the landed frame answers so -/
structure Own14 : Prop where
  right : ∀ (f : Fr) (w : World), Calls Try.prog 11 #[fv f] w fun e w' => e = .returned (.bool (rightF f)) ∧ Below w.heap.size w w'
  begins : ∀ (w : World) (ba : Option Addr) (cap : Nat) (l : List UInt8), Came w ba cap l → Calls Try.prog 13 #[.slice ba l.length cap] w fun e w' => e = .returned (.bool (beginsF l)) ∧ Below w.heap.size w w'
  bytes : ∀ (f : Fr) (w : World), rightF f = true → Calls Try.prog 7 #[fv f] w fun e w' => ∃ u, e = .returned (.tuple #[u, .int .i64 0]) ∧ Bytes0 w.heap.size w w' u (frameF f)
  no : ∀ (f : Fr) (w : World), rightF f = false → Calls Try.prog 7 #[fv f] w fun e w' => e = .returned (.tuple #[.slice none 0 0, .int .i64 1]) ∧ Below w.heap.size w w'
  read : ∀ (w : World) (ba : Option Addr) (cap : Nat) (l : List UInt8), Came w ba cap l → l.length ≤ 4000 → Calls Try.prog 9 #[.slice ba l.length cap] w fun e w' => e = .returned (.tuple #[fv (readF l).1, .int .i64 (readF l).2]) ∧ Below w.heap.size w w'

set_option maxHeartbeats 4000000 in
theorem fr_eq (a b : Fr) (w : World) : (Op.equalIn 10000 23 (fv a) (fv b)).run Try.prog w = .ok (decide (a = b)) w := by
  obtain ⟨s, c, x, v⟩ := a
  obtain ⟨s', c', x', v'⟩ := b
  simp only [fv]
  have e : decide (Fr.mk s c x v = Fr.mk s' c' x' v') = (s == s' && (c == c' && (x == x' && v == v'))) := by
    rw [Bool.eq_iff_iff]
    simp [Fr.mk.injEq]
  rw [e]
  simp [go_sem]
  by_cases h0 : s = s' <;> by_cases h1 : c = c' <;> by_cases h2 : x = x' <;> by_cases h3 : v = v' <;> simp [h0, h1, h2, h3, go_sem]

theorem some_any (w : World) : Calls Try.prog 15 #[] w fun e w' => e = .returned (fv ⟨3, 7, true, -2⟩) ∧ Below w.heap.size w w' := by
  have B1 := below1 w (.cells #[.int .i64 3, .int .i64 7, .bool true, .int .i64 (-2)] 23)
  go_enter Try.func15, Try.ntmps15
  go_wp2
  exact bodyPost_ret (v := fv ⟨3, 7, true, -2⟩) (by simp [fv, results, Try.results15, go_sem]) rfl ⟨rfl, B1⟩

/-- the laws' own frame -/
def someF : Fr := ⟨3, 7, true, -2⟩
theorem some_right : rightF someF = true := by decide
theorem some_frame : ∃ x y, frameF someF = [165, 90, 3, 7, 1, 255, 255, 255, 254, x, y] := ⟨_, _, rfl⟩
end Go.Proofs.Ytmbmpgedoopjlaa
