
/- Four hypotheses as an array: by value, a place of it, in a block; a block in which all is known, as a whole. -/
import Derived.Test.YtldbkompebefmaaDoorLtVal
import Derived.Test.YtldbkompebefmaaDoorTrNum
import Derived.Test.YtldbkompebefmaaDoorWhole
import Derived.Test.YtldbkompebefmaaDoorYld
namespace Go.Proofs.YtldbkompebefmaaDoor
open Go.RowKit Obs

def qc (q : Qd) : List Value := [.int .i64 q.h0.vL, .int .i64 q.h0.vH, .int .i64 q.h0.bL, .int .i64 q.h0.bH, .bool q.h0.ref, .int .i64 q.h1.vL, .int .i64 q.h1.vH, .int .i64 q.h1.bL, .int .i64 q.h1.bH, .bool q.h1.ref,
  .int .i64 q.h2.vL, .int .i64 q.h2.vH, .int .i64 q.h2.bL, .int .i64 q.h2.bH, .bool q.h2.ref, .int .i64 q.h3.vL, .int .i64 q.h3.vH, .int .i64 q.h3.bL, .int .i64 q.h3.bH, .bool q.h3.ref]
def qa (q : Qd) : Array Value := (qc q).toArray
abbrev qv (q : Qd) : Value := .agg (qa q)
theorem qa_size (q : Qd) : (qa q).size = 20 := rfl
theorem qa_list (q : Qd) : (qa q).toList = qc q := rfl
theorem qc_one (q : Qd) : ∀ v ∈ qc q, v.oneCell' = true := fun v hv => by
  unfold qc at hv
  simp only [List.mem_cons, List.not_mem_nil, or_false] at hv
  rcases hv with rfl | rfl | rfl | rfl | rfl | rfl | rfl | rfl | rfl | rfl | rfl | rfl | rfl | rfl | rfl | rfl | rfl | rfl | rfl | rfl <;> rfl
theorem qa_one (q : Qd) : (qa q).all (·.oneCell') = true := all_oneCell_toArray (qc_one q)
theorem info_q : (Tryd.prog.info? 30).map (·.size) = some 20 := by kernel_rfl
theorem info_qa (q : Qd) : (Tryd.prog.info? 30).map (·.size) = some (qa q).size := by rw [qa_size]; exact info_q
/-- a place of it, by value -/
theorem index_q (q : Qd) : ∀ j : Nat, j < 4 → ∀ w, (Instr.index 30 (.agg (qa q)) (.int .i64 (j : Int))).run Tryd.prog w = .ok (ov (qget q j)) w
  | 0, _, _ => by kernel_rfl
  | 1, _, _ => by kernel_rfl
  | 2, _, _ => by kernel_rfl
  | 3, _, _ => by kernel_rfl
  | n + 4, h, _ => absurd h (by omega)
theorem qget_r6 {q : Qd} (h : QR q) : ∀ j : Nat, j < 4 → OR (qget q j)
  | 0, _ => h.h0
  | 1, _ => h.h1
  | 2, _ => h.h2
  | 3, _ => h.h3
  | n + 4, h => absurd h (by omega)
/-- the cells of a place -/
theorem qc_at (q : Qd) : ∀ (j : Nat), j < 4 → ∀ k : Nat, k < 5 → (qc q)[5 * j + k]? = (ol (qget q j))[k]? := by
  intro j hj k hk
  rcases (show j = 0 ∨ j = 1 ∨ j = 2 ∨ j = 3 by omega) with rfl | rfl | rfl | rfl <;> rcases (show k = 0 ∨ k = 1 ∨ k = 2 ∨ k = 3 ∨ k = 4 by omega) with rfl | rfl | rfl | rfl | rfl <;> rfl
theorem qc_refuted (q : Qd) (j : Nat) (hj : j < 4) : (qc q)[5 * j + 4]? = some (.bool (qget q j).ref) := by rw [qc_at q j hj 4 (by decide)]; rfl
/-- a place of a row that lies in a block, as a row -/
theorem row_part {w : World} {b : Nat} {q : Qd} (h : w.rangeAt b 0 (qc q)) (j : Nat) (hj : j < 4) : w.rangeAt b (5 * j) (ol (qget q j)) := fun k v hv => by
  have hk : k < 5 := (List.getElem?_eq_some_iff.1 hv).1
  have := h (5 * j + k) v (by rw [qc_at q j hj k hk]; exact hv)
  rwa [Nat.zero_add] at this

/-- a block in which all is known, as a whole -/
theorem Sp.range {W w : World} {bs : List (Nat × List (Option Value))} (h : Sp W bs w) (i : Nat) {b : Nat} {l : List Value} (hi : bs[i]? = some (b, l.map some)) : w.rangeAt b 0 l := fun j v hv => by
  rw [Nat.zero_add]
  exact h.at i hi j (by rw [List.getElem?_map, hv]; rfl)
theorem Sp.free_row {W w : World} {bs : List (Nat × List (Option Value))} (h : Sp W bs w) (i : Nat) {b : Nat} {l : List (Option Value)} (hi : bs[i]? = some (b, l)) {n : Nat} (hn : l.length = n) : w.there b 0 n := fun j hj => by
  obtain ⟨z, hz, hf⟩ := h.there i hi j (List.getElem?_eq_getElem (by omega : j < l.length))
  rw [Nat.zero_add]
  exact ⟨by rw [hz]; rfl, hf⟩
theorem sp_cells_aux {W : World} {b : Nat} (i : Nat) : ∀ (vs : List Value) (o : Nat) (l : List (Option Value)) (bs : List (Nat × List (Option Value))) (w : World), Sp W bs w → bs[i]? = some (b, l) → o + vs.length ≤ l.length → Sp W (bs.set i (b, l.take o ++ (vs.map some ++ l.drop (o + vs.length)))) (w.setCells b o vs)
  | [], o, l, bs, w, h, hi, _ => by
    have e : l.take o ++ (List.map some ([] : List Value) ++ l.drop (o + ([] : List Value).length)) = l := by
      simp
    rw [e]
    obtain ⟨hlt, he⟩ := List.getElem?_eq_some_iff.1 hi
    rw [← he, List.set_getElem_self hlt]
    exact h
  | v :: r, o, l, bs, w, h, hi, hl => by
    rw [World.setCells]
    have hlt : i < bs.length := (List.getElem?_eq_some_iff.1 hi).1
    have ho : o < l.length := by simp only [List.length_cons] at hl; omega
    have h1 := h.put i hi o v
    have h2 := sp_cells_aux i r (o + 1) (l.set o (some v)) (bs.set i (b, l.set o (some v))) _ h1 (List.getElem?_set_self hlt) (by simp only [List.length_cons, List.length_set] at hl ⊢; omega)
    rw [List.set_set] at h2
    have e : (l.set o (some v)).take (o + 1) ++ (r.map some ++ (l.set o (some v)).drop (o + 1 + r.length)) = l.take o ++ ((v :: r).map some ++ l.drop (o + (v :: r).length)) := by
      rw [List.drop_set_of_lt (by omega), List.take_succ_eq_append_getElem (by rw [List.length_set]; exact ho), List.getElem_set_self, List.take_set_of_le (Nat.le_refl o), List.append_assoc, List.length_cons, show o + 1 + r.length = o + (r.length + 1) by omega]
      rfl
    rw [e] at h2
    exact h2
/-- a whole row stored into a block -/
theorem Sp.row {W w : World} {bs : List (Nat × List (Option Value))} (h : Sp W bs w) (i : Nat) {b : Nat} {l : List (Option Value)} (hi : bs[i]? = some (b, l)) (vs : List Value) (hl : vs.length = l.length) : Sp W (bs.set i (b, vs.map some)) (w.setCells b 0 vs) := by
  have := sp_cells_aux i vs 0 l bs w h hi (by omega)
  rw [List.take_zero, List.nil_append, List.drop_eq_nil_of_le (by omega), List.append_nil] at this
  exact this
end Go.Proofs.YtldbkompebefmaaDoor
