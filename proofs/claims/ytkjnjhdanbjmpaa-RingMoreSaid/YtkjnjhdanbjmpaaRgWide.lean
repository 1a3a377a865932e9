/- A wide number in a block of the call's own: loaded and stored in a drawn region. No program's calls. -/
import Derived.Test.YtkjnjhdanbjmpaaWhole
import Derived.Deep.MidRow
namespace Go.Proofs.Ytkjnjhdanbjmpaa
open Go.RowKit

/-- a block that a call has made itself, written over in whole -/
theorem below_setCellsW {B b : Nat} {W : World} (hb : B ≤ b) : ∀ (vs : List Value) (o : Nat) (w : World), Below B W w → Below B W (w.setCells b o vs)
  | [], _, _, h => h
  | v :: r, o, w, h => by
    rw [World.setCells]
    exact below_setCellsW hb r (o + 1) _ (h.setCell (p := ⟨b, o, none⟩) hb v)
theorem sizeW : (Try.prog.info? 42).map (·.size) = some 2 := by kernel_rfl
section
variable {o : Oper} {a : Act} {w : World} {K : Act → World → Prop} {Q : Exit → Act → World → Prop}
theorem oper_load_w {x : Operand} {b : Nat} {u v : Value} (O : Own2 w b u v) (ho : o.op = .load 42 x) (hx : a.eval x = .pointer (some ⟨b, 0, none⟩))
    (h : K (a.put o.dst (.agg #[u, v])) w) : Oper.wp Try.prog o a w K Q :=
  wp_load_mid 42 x ho b 0 hx [u, v] _ (fun j z hz => by
    rw [Nat.zero_add]
    match j, hz with
    | 0, hz => injection hz with hz; subst hz; exact O.c0
    | 1, hz => injection hz with hz; subst hz; exact O.c1) Try.underlying42 rfl sizeW h
theorem oper_put_w {x y : Operand} {b : Nat} {u v : Value} {p q : Int} (O : Own2 w b u v) (ho : o.op = .store 42 x y) (hx : a.eval x = .pointer (some ⟨b, 0, none⟩)) (hy : a.eval y = .agg #[.int .i64 p, .int .u64 q])
    (h : ∀ w', Own2 w' b (.int .i64 p) (.int .u64 q) → (∀ (B : Nat) (W : World), B ≤ b → Below B W w → Below B W w') → K (a.put o.dst undef) w') : Oper.wp Try.prog o a w K Q := by
  have T : w.there b 0 2 := fun j hj => by
    rw [Nat.zero_add]
    match j, hj with
    | 0, _ => exact ⟨by rw [O.c0]; rfl, O.f0⟩
    | 1, _ => exact ⟨by rw [O.c1]; rfl, O.f1⟩
  refine wp_store_mid _ x y ho b 0 #[.int .i64 p, .int .u64 q] hx hy T sizeW (all_oneCell_toArray (cs := [.int .i64 p, .int .u64 q]) (fun z hz => by simp at hz; rcases hz with rfl | rfl <;> rfl)) ?_
  have R := World.rangeAt_setCells_same w b 0 [.int .i64 p, .int .u64 q] T
  have T2 := World.there_setCells T b 0 [.int .i64 p, .int .u64 q]
  refine h _ ⟨?_, ?_, ?_, ?_⟩ (fun B W hB hb => below_setCellsW hB _ 0 _ hb)
  · exact R 0 _ rfl
  · exact R 1 _ rfl
  · exact (T2 0 (by decide)).2
  · exact (T2 1 (by decide)).2
end
end Go.Proofs.Ytkjnjhdanbjmpaa
