/- Matrices of three rows over numbers of 64 bits: plain mathematics. -/
import Derived.Test.YtjdpcmcekockgaaMatPow
import Derived.Test.YtjdpcmcekockgaaMatSum
import Derived.Test.YtjdpcmcekockgaaMatChar
namespace Go.Proofs.Ytjdpcmcekockgaa
open Go.RowKit
theorem m3_ext {a b : M3} (h0 : a.a.x = b.a.x) (h1 : a.a.y = b.a.y) (h2 : a.a.z = b.a.z) (h3 : a.b.x = b.b.x) (h4 : a.b.y = b.b.y) (h5 : a.b.z = b.b.z) (h6 : a.c.x = b.c.x) (h7 : a.c.y = b.c.y) (h8 : a.c.z = b.c.z) : a = b := by
  obtain ⟨⟨_, _, _⟩, ⟨_, _, _⟩, ⟨_, _, _⟩⟩ := a
  obtain ⟨⟨_, _, _⟩, ⟨_, _, _⟩, ⟨_, _, _⟩⟩ := b
  simp only at h0 h1 h2 h3 h4 h5 h6 h7 h8
  subst h0 h1 h2 h3 h4 h5 h6 h7 h8
  rfl
theorem v3_ext {a b : V3} (h0 : a.x = b.x) (h1 : a.y = b.y) (h2 : a.z = b.z) : a = b := by
  obtain ⟨_, _, _⟩ := a
  obtain ⟨_, _, _⟩ := b
  simp only at h0 h1 h2
  subst h0 h1 h2
  rfl
theorem v_mulw (x y : BitVec 64) : IntKind.i64.wrap (x.toInt * y.toInt) = (x * y).toInt := by
  rw [← v_mul]
  generalize x.toInt * y.toInt = z
  rw [IntKind.wrap_i64]
  unfold wrap64
  omega
theorem mul_assoc3 (a b c : M3) : (a.mul b).mul c = a.mul (b.mul c) := by
  apply m3_ext <;> simp only [M3.mul, M3.times, M3.turn, V3.dot] <;> grind
theorem det_mul (a b : M3) : (a.mul b).det = a.det * b.det := by
  simp only [M3.mul, M3.times, M3.turn, M3.det, V3.dot, V3.cross]; grind
theorem turn_turn (a : M3) : a.turn.turn = a := rfl
theorem turn_mul (a b : M3) : (a.mul b).turn = b.turn.mul a.turn := by
  apply m3_ext <;> simp only [M3.mul, M3.times, M3.turn, V3.dot] <;> grind
theorem trace_mul (a b : M3) : (a.mul b).trace = (b.mul a).trace := by
  simp only [M3.mul, M3.times, M3.turn, M3.trace, V3.dot]; grind
theorem mul_one3 (a : M3) : a.mul (M3.unit 1) = a := by
  apply m3_ext <;> simp only [M3.mul, M3.times, M3.turn, M3.unit, V3.dot] <;> grind
theorem one_mul3 (a : M3) : (M3.unit 1).mul a = a := by
  apply m3_ext <;> simp only [M3.mul, M3.times, M3.turn, M3.unit, V3.dot] <;> grind
theorem mul_adj (a : M3) : a.mul a.adj = M3.unit a.det := by
  apply m3_ext <;> simp only [M3.mul, M3.times, M3.turn, M3.unit, M3.adj, M3.det, V3.dot, V3.cross] <;> grind
theorem adj_mul (a : M3) : a.adj.mul a = M3.unit a.det := by
  apply m3_ext <;> simp only [M3.mul, M3.times, M3.turn, M3.unit, M3.adj, M3.det, V3.dot, V3.cross] <;> grind
theorem times_adj (a : M3) (v : V3) : a.times (a.adj.times v) = v.scale a.det := by
  apply v3_ext <;> simp only [M3.times, M3.turn, M3.adj, M3.det, V3.dot, V3.cross, V3.scale] <;> grind
theorem pow_one (m : M3) : m.pow 1 = m := one_mul3 m
theorem pow_add (m : M3) (n : Nat) : ∀ k, (m.pow n).mul (m.pow k) = m.pow (n + k)
  | 0 => mul_one3 _
  | k + 1 => by
    show (m.pow n).mul ((m.pow k).mul m) = (m.pow (n + k)).mul m
    rw [← mul_assoc3, pow_add m n k]
theorem pow_two (m : M3) : m.pow 2 = m.mul m := by show (m.pow 1).mul m = _; rw [pow_one]
theorem pow_three (m : M3) : m.pow 3 = (m.mul m).mul m := by show (m.pow 2).mul m = _; rw [pow_two]
def M3.zeros : M3 := ⟨⟨0, 0, 0⟩, ⟨0, 0, 0⟩, ⟨0, 0, 0⟩⟩
theorem cayley (a : M3) : ((((a.pow 3).sum (-a.trace) (a.pow 2)).sum a.adj.trace a).sum (-a.det) (M3.unit 1)) = M3.zeros := by
  rw [pow_three, pow_two]
  apply m3_ext <;> simp only [M3.mul, M3.times, M3.turn, M3.unit, M3.adj, M3.det, M3.trace, M3.sum, M3.zeros, V3.dot, V3.cross, V3.add, V3.scale] <;> grind
end Go.Proofs.Ytjdpcmcekockgaa
