/- Bytes that a call has gathered itself, as a string, in every later world. -/
import Derived.Test.YtcnnkgkejafeeaaOctApp
import Derived.Laws.BytesArg
namespace Go.Proofs.Ytcnnkgkejafeeaa
open Go.RowKit

theorem Lies.keep {w w' : World} {b o : Nat} {l : List UInt8} (L : Lies w b o l) (hb : Below w.heap.size w w') : Lies w' b o l := fun j hj => keepc hb (L j hj)

theorem Bytes.lies {B : Nat} {W0 w : World} {v : Value} {l : List UInt8} (h : Bytes B W0 w v l) : v = .slice none 0 0 ∧ l = [] ∨ ∃ g c, v = .slice (some ⟨g, 0, none⟩) l.length c ∧ Lies w g 0 l := by
  have h1 := h.1
  obtain ⟨_, h0 | ⟨g, cap, cur, fz, hv, _, _, _, _, _, _, _⟩⟩ := h.1
  · exact Or.inl ⟨h0.1, List.length_eq_zero_iff.1 h0.2⟩
  · subst hv
    refine Or.inr ⟨g, cap, rfl, fun j hj => ?_⟩
    have hc := World.ownsRowF.cells h1 (g := g) rfl j (.int .u8 ((l.getD j 0).toNat : Int)) (by simp [vals, List.getD, List.getElem?_eq_getElem hj])
    have e : (⟨g, 0, none⟩ : Addr).add j = ⟨g, 0 + j, none⟩ := by unfold Addr.add; split <;> simp_all
    rw [e] at hc
    exact hc

theorem Bytes.cap_le {B : Nat} {W0 w : World} {l : List UInt8} {a : Option Addr} {n c : Nat} (h : Bytes B W0 w (.slice a n c) l) (hn : l ≠ []) : n = l.length ∧ l.length ≤ c ∧ c ≤ maxLen := by
  obtain ⟨_, h0 | ⟨g, cap, cur, fz, hv, _, _, _, hle, hm, _, _⟩⟩ := h.1
  · exact absurd (List.length_eq_zero_iff.1 h0.2) hn
  · injection hv with h1 h2 h3
    subst h2 h3
    exact ⟨rfl, hle, hm⟩

theorem Bytes.string {B : Nat} {W0 w : World} {v : Value} {l : List UInt8} (h : Bytes B W0 w v l) (w' : World) (hb : Below w.heap.size w w') : (convert 22 9 v).run Try.prog w' = .ok (.string ⟨l.toArray⟩) w' := by
  rcases h.lies with ⟨rfl, rfl⟩ | ⟨g, c, rfl, L⟩
  · exact run_convert_bytes_nil w' 22 5 Try.underlying22 Try.underlying5 0 0 9 Try.underlying9
  · exact part_string w' g 0 c l (L.keep hb)

end Go.Proofs.Ytcnnkgkejafeeaa
