/- Bytes in memory, with no program's calls: those that came in, those that a call has gathered itself; appends, texts. (What XOctPut, XOctGet, XOctText, XOctApp, XBytesStr, XAppOper, XOctOpen, XCame say for layer 5, for any seat that knows []uint8 and string.) -/
import Derived.Test.YtmacbcbomdnppaaMem
import Derived.WalkKit
import Derived.WalkSpells
import Derived.WalkLawsBesides
import Derived.Lib.Hide
import Derived.Lib.AppendStr
import Derived.OwnWalk
import Derived.Lib.BufSteps
import Derived.Laws.BytesArg
import Derived.Laws.AppendOwnNone
import Derived.LoopN
import Derived.OpenShut
import Derived.ChangeSlices
import Derived.WideShapes
namespace Go.Proofs.Ytmacbcbomdnppaa
open Go.ChangeShapes Go.WideShapes Go.RowKit

theorem byte_of' (n : Nat) (h : n < 256) : (UInt8.ofNat n).toNat = n := by rw [UInt8.toNat_ofNat']; omega
/-- bytes as cells -/
def vals (l : List UInt8) : List Value := l.map fun b => Value.int .u8 (b.toNat : Int)
theorem vals_app (l m : List UInt8) : vals (l ++ m) = vals l ++ vals m := List.map_append
/-- bytes that lie in memory, from a place of a block on -/
def Lies (w : World) (b o : Nat) (l : List UInt8) : Prop := ∀ j, j < l.length → w.cell? ⟨b, o + j, none⟩ = some (.int .u8 ((l.getD j 0).toNat : Int))
/-- bytes of a part, as a string -/
theorem part_string (w : World) (b o cap : Nat) (l : List UInt8) (L : Lies w b o l) :
    (convert 24 9 (.slice (some ⟨b, o, none⟩) l.length cap)).run Try.prog w = .ok (.string ⟨l.toArray⟩) w :=
  run_convert_bytes_back w 24 9 5 ⟨b, o, none⟩ cap l Try.underlying24 Try.underlying5 Try.underlying9 fun j hj => by
    have h := L j hj
    have e : (⟨b, o, none⟩ : Addr).add j = ⟨b, o + j, none⟩ := by unfold Addr.add; split <;> simp_all
    rw [e, h]
    simp [List.getD, List.getElem?_eq_getElem hj]

theorem Lies.part {w : World} {b o : Nat} {l : List UInt8} (L : Lies w b o l) (k n : Nat) (h : k + n ≤ l.length) : Lies w b (o + k) ((l.drop k).take n) := by
  intro j hj
  rw [List.length_take, List.length_drop] at hj
  have e : ((l.drop k).take n).getD j 0 = l.getD (k + j) 0 := by
    simp [List.getD, List.getElem?_drop, show j < n by omega]
  rw [e, Nat.add_assoc]
  exact L (k + j) (by omega)
theorem part_len (l : List UInt8) (k n : Nat) (h : k + n ≤ l.length) : ((l.drop k).take n).length = n := by
  rw [List.length_take, List.length_drop]; omega

/-- a slice of the call's own (from block B on; below it the world is as W0) holds these bytes -/
def Bytes (B : Nat) (W0 w : World) (v : Value) (l : List UInt8) : Prop := Lib.OwnBuf B 5 v l.length (vals l) W0 w
theorem Bytes.below {B : Nat} {W0 w : World} {v : Value} {l : List UInt8} (h : Bytes B W0 w v l) : Below B W0 w := h.2.1

theorem info8 : (Try.prog.info? 5).map (fun i => (i.zero, i.size, i.bytes)) = some (some (.int .u8 0), 1, 1) := by kernel_rfl

theorem strCells_vals (s : ByteArray) : Lib.strCells s = vals s.data.toList := rfl

theorem Lies.keep {w w' : World} {b o : Nat} {l : List UInt8} (L : Lies w b o l) (hb : Below w.heap.size w w') : Lies w' b o l := fun j hj => keepc hb (L j hj)

theorem Bytes.lies {B : Nat} {W0 w : World} {v : Value} {l : List UInt8} (h : Bytes B W0 w v l) : v = .slice none 0 0 ∧ l = [] ∨ ∃ g c, v = .slice (some ⟨g, 0, none⟩) l.length c ∧ Lies w g 0 l := by
  have h1 := h.1
  obtain ⟨_, h0 | ⟨g, cap, cur, fz, hv, _, _, _, _, _, _, _⟩⟩ := h.1
  · exact Or.inl ⟨h0.1, List.length_eq_zero_iff.1 h0.2⟩
  · subst hv
    refine Or.inr ⟨g, cap, rfl, fun j hj => ?_⟩
    have hc := World.ownsRowF.cells h1 (g := g) rfl j (.int .u8 ((l.getD j 0).toNat : Int)) (by simp [vals, List.getD, List.getElem?_eq_getElem hj])
    have e : (⟨g, 0, none⟩ : Addr).add j = ⟨g, 0 + j, none⟩ := by unfold Addr.add; split <;> simp_all
    rw [e] at hc
    exact hc

theorem Bytes.cap_le {B : Nat} {W0 w : World} {l : List UInt8} {a : Option Addr} {n c : Nat} (h : Bytes B W0 w (.slice a n c) l) (hn : l ≠ []) : n = l.length ∧ l.length ≤ c ∧ c ≤ maxLen := by
  obtain ⟨_, h0 | ⟨g, cap, cur, fz, hv, _, _, _, hle, hm, _, _⟩⟩ := h.1
  · exact absurd (List.length_eq_zero_iff.1 h0.2) hn
  · injection hv with h1 h2 h3
    subst h2 h3
    exact ⟨rfl, hle, hm⟩

theorem Bytes.string {B : Nat} {W0 w : World} {v : Value} {l : List UInt8} (h : Bytes B W0 w v l) (w' : World) (hb : Below w.heap.size w w') : (convert 24 9 v).run Try.prog w' = .ok (.string ⟨l.toArray⟩) w' := by
  rcases h.lies with ⟨rfl, rfl⟩ | ⟨g, c, rfl, L⟩
  · exact run_convert_bytes_nil w' 24 5 Try.underlying24 Try.underlying5 0 0 9 Try.underlying9
  · exact part_string w' g 0 c l (L.keep hb)

theorem Lies.cellsA {w : World} {b o : Nat} {l : List UInt8} (L : Lies w b o l) : ∀ j u, (vals l)[j]? = some u → w.cell? ((⟨b, o, none⟩ : Addr).add j) = some u := by
  intro j u hj
  have hl : j < l.length := by
    have := (List.getElem?_eq_some_iff.1 hj).1
    simpa [vals] using this
  have e : (⟨b, o, none⟩ : Addr).add j = ⟨b, o + j, none⟩ := by unfold Addr.add; split <;> simp_all
  rw [e, L j hl]
  simpa [vals, List.getD, List.getElem?_eq_getElem hl] using hj
theorem vals_oneA (l : List UInt8) : ∀ u ∈ vals l, u.oneCell' = true := by
  intro u hu
  simp only [vals, List.mem_map] at hu
  obtain ⟨c, _, rfl⟩ := hu
  rfl

theorem append_bytes {B : Nat} {W0 w : World} {v : Value} {l m : List UInt8} {g o c : Nat} (ty : TypeId) (hb : Bytes B W0 w v l) (L : Lies w g o m) (hlen : l.length + m.length ≤ 140737488355328) :
    ∃ v' w', (Builtin.append_ #[24, 24] ty #[v, .slice (some ⟨g, o, none⟩) m.length c]).run Try.prog w = .ok v' w' ∧ Bytes B W0 w' v' (l ++ m) := by
  obtain ⟨i0, hi, hz0, hz1, hz2⟩ := info_parts info8
  obtain ⟨v', w', hr, h2, h3, _⟩ := run_append_ownF (P := Try.prog) w B 24 ty 5 i0 (.int .u8 0) 1 1 Try.underlying24 hi hz0 hz1 hz2 rfl (by decide) v l.length (vals l) hb.1 ⟨g, o, none⟩ m.length c (vals m) (by simp [vals]) L.cellsA (vals_oneA m) (by unfold maxLen; omega) (by omega) hb.2.2
  refine ⟨v', w', hr, ?_⟩
  have k := Lib.OwnBuf.grown hb h2 h3
  unfold Bytes
  rw [vals_app, List.length_append]
  exact k

theorem append_text {B : Nat} {W0 w : World} {v : Value} {l : List UInt8} (ty : TypeId) (hb : Bytes B W0 w v l) (s : ByteArray) (hlen : l.length + s.size ≤ 140737488355328) :
    ∃ v' w', (Builtin.append_ #[24, 9] ty #[v, .string s]).run Try.prog w = .ok v' w' ∧ Bytes B W0 w' v' (l ++ s.data.toList) := by
  obtain ⟨i0, hi, hz0, hz1, hz2⟩ := info_parts info8
  obtain ⟨v', w', hr, h2, h3, _⟩ := Lib.run_append_own_stringF (P := Try.prog) w B 24 9 ty 5 i0 Try.underlying24 Try.underlying9 hi hz0 hz1 hz2 v l.length (vals l) hb.1 s (by unfold maxLen; omega) hlen hb.2.2
  refine ⟨v', w', hr, ?_⟩
  have k := Lib.OwnBuf.grown hb h2 h3
  unfold Bytes
  rw [vals_app, List.length_append, ← strCells_vals, show s.data.toList.length = s.size from Array.length_toList]
  exact k

section
variable {o : Oper} {a : Act} {w : World} {K : Act → World → Prop} {Q : Exit → Act → World → Prop} {B : Nat} {W0 : World} {v : Value} {l : List UInt8}

theorem oper_append_bytes {s x : Operand} {m : List UInt8} {g c : Nat} (ho : o.op = .call { callee := .builtin .append, args := #[s, x], argTypes := #[24, 24] })
    (hs : a.eval s = v) (hb : Bytes B W0 w v l) (hx : a.eval x = .slice (some ⟨g, 0, none⟩) m.length c) (L : Lies w g 0 m) (hlen : l.length + m.length ≤ 140737488355328)
    (h : ∀ v' w', Bytes B W0 w' v' (l ++ m) → K (a.put o.dst v') w') : Oper.wp Try.prog o a w K Q := by
  obtain ⟨v', w', hr, h2⟩ := append_bytes o.type (c := c) hb L hlen
  unfold Oper.wp execOp
  simp only [ho, resolve, invoke, builtin, Sem.run_bind, Sem.run_pure, Result.andThen_ok, List.map_toArray, List.map_cons, List.map_nil, hs, hx, hr]
  exact h v' w' h2

theorem oper_append_text {s x : Operand} {t : ByteArray} (ho : o.op = .call { callee := .builtin .append, args := #[s, x], argTypes := #[24, 9] })
    (hs : a.eval s = v) (hb : Bytes B W0 w v l) (hx : a.eval x = .string t) (hlen : l.length + t.size ≤ 140737488355328)
    (h : ∀ v' w', Bytes B W0 w' v' (l ++ t.data.toList) → K (a.put o.dst v') w') : Oper.wp Try.prog o a w K Q := by
  obtain ⟨v', w', hr, h2⟩ := append_text o.type hb t hlen
  unfold Oper.wp execOp
  simp only [ho, resolve, invoke, builtin, Sem.run_bind, Sem.run_pure, Result.andThen_ok, List.map_toArray, List.map_cons, List.map_nil, hs, hx, hr]
  exact h v' w' h2
end

section
variable {ops : Array Oper} {rest : List Oper} {o : Oper} {a : Act} {w : World} {Q : Exit → Act → World → Prop} {B : Nat} {W0 : World} {v : Value} {l : List UInt8}

theorem list_append_bytes {s x : Operand} {m : List UInt8} {g c : Nat} (hgd : o.guard = none) (ho : o.op = .call { callee := .builtin .append, args := #[s, x], argTypes := #[24, 24] })
    (hs : a.eval s = v) (hb : Bytes B W0 w v l) (hx : a.eval x = .slice (some ⟨g, 0, none⟩) m.length c) (L : Lies w g 0 m) (hlen : l.length + m.length ≤ 140737488355328)
    (h : ∀ v' w', Bytes B W0 w' v' (l ++ m) → wpList Try.prog ops Q rest (a.put o.dst v') w') : wpList Try.prog ops Q (o :: rest) a w :=
  wpList_plain hgd fun _ hK => oper_append_bytes ho hs hb hx L hlen fun v' w' k => hK _ _ (h v' w' k)
theorem list_append_text {s x : Operand} {t : ByteArray} (hgd : o.guard = none) (ho : o.op = .call { callee := .builtin .append, args := #[s, x], argTypes := #[24, 9] })
    (hs : a.eval s = v) (hb : Bytes B W0 w v l) (hx : a.eval x = .string t) (hlen : l.length + t.size ≤ 140737488355328)
    (h : ∀ v' w', Bytes B W0 w' v' (l ++ t.data.toList) → wpList Try.prog ops Q rest (a.put o.dst v') w') : wpList Try.prog ops Q (o :: rest) a w :=
  wpList_plain hgd fun _ hK => oper_append_text ho hs hb hx hlen fun v' w' k => hK _ _ (h v' w' k)
end

/-- a fresh empty slice -/
theorem empty_bytes (w : World) (t : TypeId) (ht : t = 5) : Bytes w.heap.size w (w.alloc (.cells #[] t)) (.slice (some ⟨w.heap.size, 0, none⟩) 0 0) [] := by
  subst ht
  exact ⟨⟨rfl, Or.inr ⟨w.heap.size, 0, #[], (0, 0), rfl, Nat.le_refl _, by show (w.heap.push _)[w.heap.size]? = _; simp, Nat.le_refl _, Nat.le_refl _, by decide, rfl, rfl⟩⟩, below1 w _, by simp⟩
theorem empty_bytes_drew (w : World) (t : TypeId) (ht : t = 5) : Bytes w.heap.size w (w.drew.alloc (.cells #[] t)) (.slice (some ⟨w.heap.size, 0, none⟩) 0 0) [] := by
  subst ht
  exact ⟨⟨rfl, Or.inr ⟨w.heap.size, 0, #[], (0, 0), rfl, Nat.le_refl _, by show (w.heap.push _)[w.heap.size]? = _; simp, Nat.le_refl _, Nat.le_refl _, by decide, rfl, rfl⟩⟩, (Below.refl _ _).drew.alloc (Nat.le_refl _) _, by show _ ≤ (w.heap.push _).size; simp⟩

theorem Bytes.alloc {B : Nat} {W0 w : World} {v : Value} {l : List UInt8} (h : Bytes B W0 w v l) (o : Obj) : Bytes B W0 (w.alloc o) v l := Lib.OwnBuf.alloc h o

/-- a text's bytes, in memory of the call's own -/
theorem bytes_of (w : World) (s : ByteArray) (hs : s.size ≤ 1024) : ∃ g c w', (convert 9 24 (.string s)).run Try.prog w = .ok (.slice (some ⟨g, 0, none⟩) s.size c) w' ∧ Below w.heap.size w w' ∧ Lies w' g 0 s.data.toList ∧ s.size ≤ c ∧ c ≤ maxLen := by
  refine ⟨_, _, _, run_bytes_of_string w 9 24 5 s Try.underlying9 Try.underlying24 Try.underlying5, (Below.refl _ _).drew.alloc (Nat.le_refl _) _, ?_, grownCap_ge w s.size 0 _, grownCap_le_maxLen w s.size 0 _ (by unfold maxLen; omega)⟩
  intro j hj
  have hj' : j < s.data.size := by simpa using hj
  have e : w.heap.size = w.drew.heap.size := rfl
  rw [e, World.cell?_alloc_mark]
  have hj2 : j < s.size := hj'
  simp [bytesRow, List.getD, hj2, Array.getElem?_append]

theorem lies_alloc (w : World) (l : List UInt8) (t : TypeId) : Lies (w.alloc (.cells (vals l).toArray t)) w.heap.size 0 l := by
  intro j hj
  simp [vals, List.getD, hj]

theorem bytes_alloc (w : World) (l : List UInt8) (t : TypeId) (ht : t = 5) (hl : l.length ≤ 1024) :
    Bytes w.heap.size w (w.alloc (.cells (vals l).toArray t)) (.slice (some ⟨w.heap.size, 0, none⟩) l.length l.length) l := by
  subst ht
  refine ⟨⟨by simp [vals], Or.inr ⟨w.heap.size, l.length, (vals l).toArray, (0, 0), rfl, Nat.le_refl _, by show (w.heap.push _)[w.heap.size]? = _; simp, Nat.zero_le _, Nat.le_refl _, by unfold maxLen; omega, by simp [vals], ?_⟩⟩, below1 w _, by simp⟩
  rw [List.take_of_length_le (by simp [vals])]

theorem cells8 : Try.prog.cellsOf 5 = 1 := by kernel_rfl

theorem byte_wf {n : Int} (h : (Lit.int .u8 n).wf = true) : 0 ≤ n ∧ n ≤ 255 := by
  simp only [Lit.wf, Bool.and_eq_true, decide_eq_true_eq] at h
  rw [show IntKind.u8.min = 0 by decide, show IntKind.u8.max = 255 by decide] at h
  exact h

section
variable {H : Type} {enc : TypeId × Value → H} {w : World} {base : Nat} {held : Bool}

set_option maxRecDepth 100000 in
theorem bytes_open {r : Reach} {b0 : Nat} {v : Value} {d : DataW H} {p : List MemPlace} (hv : Value.okWide Try.prog w r b0 24 v) (h : DataW.Trod enc Try.prog w base (fun _ => true) held 24 v d p) :
    ∃ (ba : Option Addr) (cap : Nat) (l : List UInt8), v = .slice ba l.length cap ∧ l.length ≤ cap ∧ cap ≤ maxLen ∧ (0 < l.length → ∃ b o, ba = some ⟨b, o, none⟩ ∧ Lies w b o l) ∧ (ba = none → l = [] ∧ cap = 0) := by
  obtain ⟨a0, len, cap, rfl⟩ := okWide_slice Try.underlying24 hv
  obtain ⟨fuel, hf⟩ := h
  rcases open_ints Try.underlying24 Try.underlying5 cells8 hf with ⟨hcs, hx⟩ | ⟨a, len', cap', zs, hcs, _, hl, hm, hz, hx, hcell, hwz⟩
  · simp [Value.cells] at hcs
    obtain ⟨rfl, rfl, rfl⟩ := hcs
    exact ⟨none, 0, [], rfl, Nat.le_refl _, Nat.zero_le _, fun h => absurd h (by decide), fun _ => ⟨rfl, rfl⟩⟩
  · simp [Value.cells] at hcs
    obtain ⟨rfl, rfl, rfl⟩ := hcs
    simp only [if_true] at hz
    have hlen : ((zs.take len).map fun n => UInt8.ofNat n.toNat).length = len := by rw [List.length_map, List.length_take]; omega
    refine ⟨some a, cap, (zs.take len).map fun n => UInt8.ofNat n.toNat, by rw [hlen], by rw [hlen]; exact hl, hm, fun h0 => ?_, fun h => by cases h⟩
    rw [hlen] at h0
    obtain ⟨b, o, rfl, hc⟩ := ints_at hcell (by omega)
    refine ⟨b, o, rfl, fun j hj => ?_⟩
    rw [hlen] at hj
    have hz' : j < zs.length := by omega
    have hw := byte_wf (hwz zs[j] (List.getElem_mem hz'))
    have e : zs.getD j 0 = zs[j] := by simp [List.getD, List.getElem?_eq_getElem hz']
    have g : ((zs.take len).map fun n => UInt8.ofNat n.toNat).getD j 0 = UInt8.ofNat zs[j].toNat := by
      simp [List.getD, hj, hz']
    rw [hc j hz', g, e, byte_of' _ (by omega), Int.toNat_of_nonneg hw.1]
end

/-- a slice of bytes that came in -/
structure Came (w : World) (ba : Option Addr) (cap : Nat) (l : List UInt8) : Prop where
  le : l.length ≤ cap
  max : cap ≤ maxLen
  nil : ba = none → l = [] ∧ cap = 0
  lies : 0 < l.length → ∃ b o, ba = some ⟨b, o, none⟩ ∧ Lies w b o l

theorem Came.keep {w w' : World} {ba : Option Addr} {cap : Nat} {l : List UInt8} (C : Came w ba cap l) (hb : Below w.heap.size w w') : Came w' ba cap l :=
  ⟨C.le, C.max, C.nil, fun h => by obtain ⟨b, o, e, L⟩ := C.lies h; exact ⟨b, o, e, L.keep hb⟩⟩

theorem Came.string {w : World} {ba : Option Addr} {cap : Nat} {l : List UInt8} (C : Came w ba cap l) :
    (convert 24 9 (.slice ba l.length cap)).run Try.prog w = .ok (.string ⟨l.toArray⟩) w := by
  by_cases h : 0 < l.length
  · obtain ⟨b, o, rfl, L⟩ := C.lies h
    exact part_string w b o cap l L
  · obtain rfl : l = [] := List.length_eq_zero_iff.1 (by omega)
    match ba with
    | none => exact run_convert_bytes_nil w 24 5 Try.underlying24 Try.underlying5 0 cap 9 Try.underlying9
    | some a => exact run_convert_bytes_back w 24 9 5 a cap [] Try.underlying24 Try.underlying5 Try.underlying9 fun j hj => by simp at hj

section
variable {H : Type} {enc : TypeId × Value → H} {w : World} {base : Nat} {held : Bool}
set_option maxRecDepth 100000 in
theorem bytes_came {r : Reach} {b0 : Nat} {v : Value} {d : DataW H} {p : List MemPlace} (hv : Value.okWide Try.prog w r b0 24 v) (h : DataW.Trod enc Try.prog w base (fun _ => true) held 24 v d p) :
    ∃ (ba : Option Addr) (cap : Nat) (l : List UInt8), v = .slice ba l.length cap ∧ Came w ba cap l := by
  obtain ⟨ba, cap, l, e, h1, h2, h3, h4⟩ := bytes_open hv h
  exact ⟨ba, cap, l, e, h1, h2, h4, h3⟩
end

theorem Bytes.came {B : Nat} {W0 w : World} {v : Value} {l : List UInt8} (h : Bytes B W0 w v l) : ∃ ba cap, v = .slice ba l.length cap ∧ Came w ba cap l := by
  rcases h.lies with ⟨rfl, rfl⟩ | ⟨g, c, rfl, L⟩
  · exact ⟨none, 0, rfl, Nat.le_refl _, Nat.zero_le _, fun _ => ⟨rfl, rfl⟩, fun h => absurd h (by decide)⟩
  · refine ⟨some ⟨g, 0, none⟩, c, rfl, ?_, ?_, fun e => (by cases e), fun _ => ⟨g, 0, rfl, L⟩⟩
    · by_cases hl : l = []
      · subst hl; exact Nat.zero_le _
      · exact (h.cap_le hl).2.1
    · obtain ⟨_, h0 | ⟨g', cap, cur, fz, hv, _, _, _, hle, hm, _, _⟩⟩ := h.1
      · cases h0.1
      · injection hv with h1 h2 h3
        rw [h3]; exact hm
theorem below_of {w w' : World} (h : w = w') : Below w.heap.size w w' := by subst h; exact Below.refl _ _

end Go.Proofs.Ytmacbcbomdnppaa
