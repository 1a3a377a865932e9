/- Bytes of the call's own that may be written in place. -/
import Derived.Test.YtmacbcbomdnppaaBufCame
import Derived.Laws.OwnMore
namespace Go.Proofs.Ytmacbcbomdnppaa
open Go.RowKit

/-- as Bytes, and no cell is frozen -/
def Bytes0 (B : Nat) (W0 w : World) (v : Value) (l : List UInt8) : Prop := w.ownsRow B 5 1 v l.length (vals l) ∧ Below B W0 w ∧ B ≤ w.heap.size
theorem Bytes0.bytes {B : Nat} {W0 w : World} {v : Value} {l : List UInt8} (h : Bytes0 B W0 w v l) : Bytes B W0 w v l := ⟨World.ownsRowF_of h.1, h.2.1, h.2.2⟩
theorem Bytes0.below {B : Nat} {W0 w : World} {v : Value} {l : List UInt8} (h : Bytes0 B W0 w v l) : Below B W0 w := h.2.1
theorem empty_bytes0 (w : World) (t : TypeId) (ht : t = 5) : Bytes0 w.heap.size w (w.alloc (.cells #[] t)) (.slice (some ⟨w.heap.size, 0, none⟩) 0 0) [] := by
  subst ht
  exact ⟨⟨rfl, Or.inr ⟨w.heap.size, 0, #[], rfl, Nat.le_refl _, by show (w.heap.push _)[w.heap.size]? = _; simp, Nat.le_refl _, by decide, rfl, rfl⟩⟩, below1 w _, by simp⟩

theorem append_came0 {B : Nat} {W0 w : World} {v : Value} {l m : List UInt8} {ba : Option Addr} {c : Nat} (ty : TypeId) (hb : Bytes0 B W0 w v l) (C : Came w ba c m) (hlen : l.length + m.length ≤ 140737488355328) :
    ∃ v' w', (Builtin.append_ #[24, 24] ty #[v, .slice ba m.length c]).run Try.prog w = .ok v' w' ∧ Bytes0 B W0 w' v' (l ++ m) := by
  obtain ⟨i0, hi, hz0, hz1, hz2⟩ := info_parts info8
  have fin : ∀ (a : Addr), (∀ j u, (vals m)[j]? = some u → w.cell? (a.add j) = some u) → ∃ v' w', (Builtin.append_ #[24, 24] ty #[v, .slice (some a) m.length c]).run Try.prog w = .ok v' w' ∧ Bytes0 B W0 w' v' (l ++ m) := fun a ha => by
    obtain ⟨v', w', hr, h2, h3, _⟩ := run_append_own (P := Try.prog) w B 24 ty 5 i0 (.int .u8 0) 1 1 Try.underlying24 hi hz0 hz1 hz2 rfl (by decide) v l.length (vals l) hb.1 a m.length c (vals m) (by simp [vals]) ha (vals_oneA m) (by unfold maxLen; omega) (by omega) hb.2.2
    have k := Lib.OwnBuf.grown hb.bytes (World.ownsRowF_of h2) h3
    refine ⟨v', w', hr, ?_, k.2⟩
    rw [vals_app, List.length_append]
    exact h2
  by_cases h0 : 0 < m.length
  · obtain ⟨g, o, rfl, L⟩ := C.lies h0
    exact fin _ L.cellsA
  · obtain rfl : m = [] := List.length_eq_zero_iff.1 (by omega)
    match ba, C, fin with
    | none, C, _ =>
      obtain ⟨_, rfl⟩ := C.nil rfl
      rw [List.append_nil]
      exact ⟨v, w, run_append_owned_none (P := Try.prog) w B 24 ty 5 i0 1 Try.underlying24 hi v l.length (vals l) hb.1, hb⟩
    | some a, _, fin => exact fin a (fun j u h => by simp [vals] at h)

section
variable {ops : Array Oper} {rest : List Oper} {o : Oper} {a : Act} {w : World} {Q : Exit → Act → World → Prop} {B : Nat} {W0 : World} {v : Value} {l : List UInt8}
theorem list_append_came0 {s x : Operand} {m : List UInt8} {ba : Option Addr} {c : Nat} (hgd : o.guard = none) (ho : o.op = .call { callee := .builtin .append, args := #[s, x], argTypes := #[24, 24] })
    (hs : a.eval s = v) (hb : Bytes0 B W0 w v l) (hx : a.eval x = .slice ba m.length c) (C : Came w ba c m) (hlen : l.length + m.length ≤ 140737488355328)
    (h : ∀ v' w', Bytes0 B W0 w' v' (l ++ m) → wpList Try.prog ops Q rest (a.put o.dst v') w') : wpList Try.prog ops Q (o :: rest) a w :=
  wpList_plain hgd fun K hK => by
    obtain ⟨v', w', hr, h2⟩ := append_came0 o.type (c := c) hb C hlen
    unfold Oper.wp execOp
    simp only [ho, resolve, invoke, builtin, Sem.run_bind, Sem.run_pure, Result.andThen_ok, List.map_toArray, List.map_cons, List.map_nil, hs, hx, hr]
    exact hK _ _ (h v' w' h2)
end

/-- bytes in a block of the call's own: they lie there, and may be written -/
structure Mine (B : Nat) (W0 w : World) (g cap : Nat) (l : List UInt8) : Prop where
  lies : Lies w g 0 l
  free : ∀ j, j < l.length → w.frozen? ⟨g, j, none⟩ = false
  base : B ≤ g
  below : Below B W0 w
  le : l.length ≤ cap
  max : cap ≤ maxLen
theorem Bytes0.mine {B : Nat} {W0 w : World} {v : Value} {l : List UInt8} (h : Bytes0 B W0 w v l) (h0 : 0 < l.length) : ∃ g cap, v = .slice (some ⟨g, 0, none⟩) l.length cap ∧ Mine B W0 w g cap l := by
  rcases h.bytes.lies with ⟨_, e⟩ | ⟨g, c, rfl, L⟩
  · subst e; simp at h0
  · obtain ⟨_, h1, h2⟩ := h.bytes.cap_le (by intro e; subst e; simp at h0)
    refine ⟨g, c, rfl, L, fun j _ => World.ownsRow.frozenAt h.1 j, ?_, h.below, h1, h2⟩
    obtain ⟨_, ⟨e, _⟩ | ⟨g', cap, cur, e, hg, _⟩⟩ := h.1
    · cases e
    · injection e with e1; injection e1 with e1; injection e1 with e1; subst e1; exact hg
theorem Mine.keep {B : Nat} {W0 w w' : World} {g cap : Nat} {l : List UInt8} (h : Mine B W0 w g cap l) (hB : B ≤ w.heap.size) (hb : Below w.heap.size w w') : Mine B W0 w' g cap l :=
  ⟨h.lies.keep hb, fun j hj => keepf hb (by have := h.lies j hj; rw [Nat.zero_add] at this; exact this) (h.free j hj), h.base, h.below.trans (hb.mono hB), h.le, h.max⟩
theorem Mine.set {B : Nat} {W0 w : World} {g cap : Nat} {l : List UInt8} (h : Mine B W0 w g cap l) (i : Nat) (y : UInt8) : Mine B W0 (w.setCell ⟨g, i, none⟩ (.int .u8 (y.toNat : Int))) g cap (l.set i y) := by
  refine ⟨fun j hj => ?_, fun j hj => ?_, h.base, h.below.setCell (p := ⟨g, i, none⟩) h.base _, by rw [List.length_set]; exact h.le, h.max⟩
  · rw [List.length_set] at hj
    have hc := h.lies j hj
    by_cases e : j = i
    · subst e
      rw [Nat.zero_add] at hc ⊢
      rw [World.cell?_setCell_same _ _ _ hc]
      simp [List.getD, hj]
    · rw [World.cell?_setCell_other _ _ _ _ (by intro k; injection k with _ k; omega), hc]
      simp [List.getD, Ne.symm e]
  · rw [List.length_set] at hj
    rw [World.frozen?_setCell]; exact h.free j hj
theorem Mine.came {B : Nat} {W0 w : World} {g cap : Nat} {l : List UInt8} (h : Mine B W0 w g cap l) : Came w (some ⟨g, 0, none⟩) cap l := ⟨h.le, h.max, fun e => (by cases e), fun _ => ⟨_, _, rfl, h.lies⟩⟩

set_option maxRecDepth 100000 in
/-- the first bytes of a slice that came in -/
theorem came_head {w : World} {ba : Option Addr} {cap : Nat} {l : List UInt8} (C : Came w ba cap l) (n : Nat) (h : n ≤ l.length) (W : World) :
    (Instr.sliceAt 24 (.slice ba l.length cap) none (some (.int .i64 (n : Int))) none).run Try.prog W = .ok (.slice ba n cap) W := by
  have hu : Try.prog.underlying 24 = some (.slice (Try.prog.elem 24)) := Try.underlying24
  have hs : (sizeOf (Try.prog.elem 24)).run Try.prog W = .ok 1 W := by kernel_rfl
  have hc := C.le
  rw [run_sliceAt_slice (h := hu), run_slice_h (ht := hu) (h0 := by omega) (h2 := by omega), hs]
  show Result.ok (sliced ba 0 (n : Int).toNat cap 1) W = _
  unfold sliced
  rw [Int.toNat_natCast, Nat.zero_mul, Nat.sub_zero, Nat.sub_zero]
  split
  · rfl
  · by_cases h0 : 0 < l.length
    · obtain ⟨b, o, rfl, _⟩ := C.lies h0
      rfl
    · match ba with
      | none => rfl
      | some a =>
        rw [Option.map_some]
        have e : a.add 0 = a := by unfold Addr.add; split <;> simp_all
        rw [e]

set_option maxRecDepth 100000 in
/-- the rest of a slice that came in -/
theorem came_tail {w : World} {ba : Option Addr} {cap : Nat} {l : List UInt8} (C : Came w ba cap l) (n : Nat) (h : n ≤ l.length) :
    ∃ ba' cap', (∀ W, (Instr.sliceAt 24 (.slice ba l.length cap) (some (.int .i64 (n : Int))) none none).run Try.prog W = .ok (.slice ba' (l.drop n).length cap') W) ∧ Came w ba' cap' (l.drop n) := by
  have hu : Try.prog.underlying 24 = some (.slice (Try.prog.elem 24)) := Try.underlying24
  have hs : ∀ W, (sizeOf (Try.prog.elem 24)).run Try.prog W = .ok 1 W := fun W => by kernel_rfl
  have hc := C.le
  have hm := C.max
  have hl : (l.drop n).length = l.length - n := List.length_drop
  have hr : ∀ W, (Instr.sliceAt 24 (.slice ba l.length cap) (some (.int .i64 (n : Int))) none none).run Try.prog W = .ok (sliced ba n l.length cap 1) W := fun W => by
    rw [run_sliceAt_slice (h := hu), run_slice_l (ht := hu) (h0 := by omega) (h1 := by omega), hs]
    show Result.ok (sliced ba (n : Int).toNat l.length cap 1) W = _
    rw [Int.toNat_natCast]
  by_cases hk : n = cap
  · refine ⟨ba, 0, fun W => ?_, by rw [hl]; omega, by unfold maxLen; omega, fun e => ?_, fun h0 => by rw [hl] at h0; omega⟩
    · rw [hr W, hl]
      unfold sliced
      rw [hk, Nat.sub_self, if_pos rfl, show l.length - cap = 0 by omega]
    · obtain ⟨rfl, e2⟩ := C.nil e
      exact ⟨by simp, rfl⟩
  · refine ⟨ba.map (·.add n), cap - n, fun W => ?_, by rw [hl]; omega, by omega, fun e => ?_, fun h0 => ?_⟩
    · rw [hr W, hl]
      unfold sliced
      rw [if_neg (by omega), Nat.mul_one]
    · have : ba = none := by cases ba <;> simp_all
      obtain ⟨rfl, e2⟩ := C.nil this
      exact ⟨by simp, by omega⟩
    · rw [hl] at h0
      obtain ⟨b, o, rfl, L⟩ := C.lies (by omega)
      refine ⟨b, o + n, by simp [Addr.add], fun j hj => ?_⟩
      rw [hl] at hj
      have := L (n + j) (by omega)
      rw [← Nat.add_assoc] at this
      rw [this]
      simp [List.getD]

theorem xor_u8 (x y : UInt8) : bits .xor .u8 (x.toNat : Int) (y.toNat : Int) = ((x ^^^ y).toNat : Int) := by
  have o : ∀ x : UInt8, BitVec.ofInt 8 (x.toNat : Int) = x.toBitVec := fun x => by
    apply BitVec.eq_of_toNat_eq
    rw [BitVec.toNat_ofInt]
    have := x.toNat_lt
    show _ = x.toNat
    omega
  show IntKind.u8.wrap ((BitVec.ofInt 8 (x.toNat : Int) ^^^ BitVec.ofInt 8 (y.toNat : Int)).toNat : Int) = _
  rw [o, o, IntKind.wrap_u8]
  have := (x ^^^ y).toNat_lt
  show ((x ^^^ y).toNat : Int) % 256 = _
  omega

end Go.Proofs.Ytmacbcbomdnppaa
