/- Readings in memory (twelve numbers and twelve bools each): by value, come in, or gathered by the call itself one by one; read back. No program's calls. -/
import Derived.Test.YtkjkmnclnedfhaaDoorYld
import Derived.WalkKit
import Derived.WalkSpells
import Derived.WalkLawsBesides
import Derived.Lib.Hide
import Derived.OwnWalk
import Derived.ArgAppend
import Derived.Lib.BufSteps
import Derived.Laws.AppendOwnNone
import Derived.LoopN
import Derived.OpenShut
import Derived.Deep.WholeRow
import Derived.Deep.CutBlock
import Derived.Deep.CutRange
import Derived.Deep.MidRow
import Derived.ChangeKeysEq
namespace Go.Proofs.YtkjkmnclnedfhaaDoor
open Go.RowKit

/-- a reading: twelve numbers that have room in 64 bits, and which of them are there -/
structure Rd where
  val : List Int
  there : List Bool
  hv : val.length = 12
  ht : there.length = 12
  hr : ∀ n ∈ val, -9223372036854775808 ≤ n ∧ n ≤ 9223372036854775807
theorem Rd.same {a b : Rd} (h : a.val = b.val) (k : a.there = b.there) : a = b := by
  cases a; cases b; cases h; cases k; rfl
def rd0 : Rd := ⟨List.replicate 12 0, List.replicate 12 false, by decide, by decide, by decide⟩
/-- a reading's cells -/
def rc (r : Rd) : List Value := (r.val.map fun n => Value.int .i64 n) ++ r.there.map fun b => Value.bool b
theorem rc_len (r : Rd) : (rc r).length = 24 := by simp [rc, r.hv, r.ht]
theorem rc_one (r : Rd) : ∀ v ∈ rc r, v.oneCell' = true := fun v hv => by
  rcases List.mem_append.1 hv with hv | hv
  · obtain ⟨z, _, rfl⟩ := List.mem_map.1 hv; rfl
  · obtain ⟨z, _, rfl⟩ := List.mem_map.1 hv; rfl
theorem rc_val (r : Rd) (i : Nat) (hi : i < 12) : (rc r)[i]? = some (.int .i64 (r.val.getD i 0)) := by
  unfold rc
  rw [List.getElem?_append_left (by rw [List.length_map, r.hv]; exact hi), List.getElem?_map, List.getD_eq_getElem?_getD, List.getElem?_eq_getElem (by rw [r.hv]; exact hi)]
  rfl
theorem rc_there (r : Rd) (i : Nat) (hi : i < 12) : (rc r)[12 + i]? = some (.bool (r.there.getD i false)) := by
  unfold rc
  rw [List.getElem?_append_right (by rw [List.length_map, r.hv]; omega), List.length_map, r.hv, Nat.add_sub_cancel_left, List.getElem?_map, List.getD_eq_getElem?_getD, List.getElem?_eq_getElem (by rw [r.ht]; exact hi)]
  rfl
/-- by value -/
def ra (r : Rd) : Array Value := (rc r).toArray
def rv (r : Rd) : Value := .agg (ra r)
theorem ra_size (r : Rd) : (ra r).size = 24 := by simp [ra, rc_len]
theorem ra_one (r : Rd) : (ra r).all (·.oneCell') = true := all_oneCell_toArray (rc_one r)
theorem ra_list (r : Rd) : (ra r).toList = rc r := rfl
theorem infoRd : (Tryd.prog.info? 55).map (fun i => (i.zero, i.size, i.bytes)) = some (some (rv rd0), 24, 112) := by kernel_rfl
theorem infoRd_parts : ∃ i, Tryd.prog.info? 55 = some i ∧ i.zero = some (rv rd0) ∧ i.size = 24 ∧ i.bytes = 112 := by
  have h := infoRd
  cases hi : Tryd.prog.info? 55 with
  | none => rw [hi] at h; cases h
  | some i =>
    rw [hi] at h
    injection h with h
    injection h with h1 h2
    injection h2 with h2 h3
    exact ⟨i, rfl, h1, h2, h3⟩
theorem sizeRd (r : Rd) : (Tryd.prog.info? 55).map (·.size) = some (ra r).size := by
  obtain ⟨i, hi, _, hs, _⟩ := infoRd_parts
  rw [hi, ra_size]
  show some i.size = _
  rw [hs]

def rcs : List Rd → List Value
  | [] => []
  | f :: l => rc f ++ rcs l
theorem rcs_app (l m : List Rd) : rcs (l ++ m) = rcs l ++ rcs m := by
  induction l with
  | nil => rfl
  | cons f l ih => show rc f ++ rcs (l ++ m) = rc f ++ rcs l ++ rcs m; rw [ih, List.append_assoc]
theorem rcs_one (f : Rd) : rcs [f] = rc f := List.append_nil _
theorem rcs_length (l : List Rd) : (rcs l).length = l.length * 24 := by
  induction l with
  | nil => rfl
  | cons f l ih => show (rc f ++ rcs l).length = _; rw [List.length_append, ih, List.length_cons, rc_len]; omega
theorem rcs_cell (l : List Rd) : ∀ v ∈ rcs l, v.oneCell' = true := by
  induction l with
  | nil => intro v hv; cases hv
  | cons f l ih => exact fun v hv => (List.mem_append.1 hv).elim (rc_one f v) (ih v)
theorem rcs_get : ∀ (l : List Rd) (j k : Nat), j < l.length → k < 24 → (rcs l)[j * 24 + k]? = (rc (l.getD j rd0))[k]?
  | [], j, k, h, _ => absurd h (Nat.not_lt_zero j)
  | f :: l, 0, k, _, hk => by
    show (rc f ++ rcs l)[0 * 24 + k]? = (rc f)[k]?
    rw [Nat.zero_mul, Nat.zero_add, List.getElem?_append_left (by rw [rc_len]; exact hk)]
  | f :: l, j + 1, k, h, hk => by
    show (rc f ++ rcs l)[(j + 1) * 24 + k]? = _
    rw [List.getElem?_append_right (by rw [rc_len]; omega)]
    have e : (j + 1) * 24 + k - (rc f).length = j * 24 + k := by rw [rc_len]; omega
    rw [e, rcs_get l j k (by simpa using h) hk]
    rfl
/-- readings that lie in memory -/
def LiesRd (w : World) (b o : Nat) (l : List Rd) : Prop := ∀ j, j < l.length → w.rangeAt b (o + j * 24) (rc (l.getD j rd0))
theorem LiesRd.keep {w w' : World} {b o : Nat} {l : List Rd} (L : LiesRd w b o l) (hb : Below w.heap.size w w') : LiesRd w' b o l := fun j hj k v hv => keepc hb (L j hj k v hv)
theorem LiesRd.cells {w : World} {b o : Nat} {l : List Rd} (L : LiesRd w b o l) (j : Nat) (v : Value) (hv : (rcs l)[j]? = some v) : w.cell? ⟨b, o + j, none⟩ = some v := by
  have hj := (List.getElem?_eq_some_iff.1 hv).1
  rw [rcs_length] at hj
  have e : j / 24 * 24 + j % 24 = j := by omega
  have hd : j / 24 < l.length := by omega
  rw [← e, rcs_get l (j / 24) (j % 24) hd (Nat.mod_lt _ (by decide))] at hv
  have := L (j / 24) hd (j % 24) v hv
  rwa [Nat.add_assoc, e] at this
theorem LiesRd.tail {w : World} {b o : Nat} {l : List Rd} (L : LiesRd w b o l) (k : Nat) : LiesRd w b (o + k * 24) (l.drop k) := fun j hj => by
  rw [List.length_drop] at hj
  have := L (k + j) (by omega)
  have e : (l.drop k).getD j rd0 = l.getD (k + j) rd0 := by simp [List.getD]
  rw [e, show o + k * 24 + j * 24 = o + (k + j) * 24 by omega]
  exact this
/-- readings that came in, or that a call gave -/
structure CameRd (w : World) (ba : Option Addr) (cap : Nat) (l : List Rd) : Prop where
  le : l.length ≤ cap
  max : cap ≤ maxLen
  lies : 0 < l.length → ∃ b o, ba = some ⟨b, o, none⟩ ∧ LiesRd w b o l
  nil : ba = none → l = [] ∧ cap = 0
theorem CameRd.keep {w w' : World} {ba : Option Addr} {cap : Nat} {l : List Rd} (C : CameRd w ba cap l) (hb : Below w.heap.size w w') : CameRd w' ba cap l :=
  ⟨C.le, C.max, fun h => by obtain ⟨b, o, e, L⟩ := C.lies h; exact ⟨b, o, e, L.keep hb⟩, C.nil⟩
theorem CameRd.nought (w : World) : CameRd w none 0 [] := ⟨Nat.le_refl _, Nat.zero_le _, fun k => absurd k (by decide), fun _ => ⟨rfl, rfl⟩⟩

/-- a slice of the call's own (from block B on; below it the world is as W0) holds these readings -/
def Rds (B : Nat) (W0 w : World) (v : Value) (l : List Rd) : Prop := w.ownsRowF B 55 24 v l.length (rcs l) ∧ Below B W0 w ∧ B ≤ w.heap.size
theorem Rds.below {B : Nat} {W0 w : World} {v : Value} {l : List Rd} (h : Rds B W0 w v l) : Below B W0 w := h.2.1
theorem Rds.nil (w : World) : Rds w.heap.size w w (.slice none 0 0) [] := ⟨World.ownsRowF_nil _ _ _ _, Below.refl _ _, Nat.le_refl _⟩
theorem Rds.alloc {B : Nat} {W0 w : World} {v : Value} {l : List Rd} (h : Rds B W0 w v l) (o : Obj) : Rds B W0 (w.alloc o) v l :=
  ⟨h.1.alloc o, h.2.1.alloc h.2.2 o, Nat.le_trans h.2.2 ((Below.refl 0 w).alloc (Nat.zero_le _) o).size⟩
theorem Rds.came {B : Nat} {W0 w : World} {v : Value} {l : List Rd} (h : Rds B W0 w v l) : ∃ ba cap, v = .slice ba l.length cap ∧ CameRd w ba cap l := by
  have h1 := h.1
  obtain ⟨_, h0 | ⟨g, cap, cur, fz, hv, _, _, _, hle, hm, _, _⟩⟩ := h.1
  · have hl : l = [] := List.length_eq_zero_iff.1 h0.2
    subst hl
    exact ⟨.none, 0, h0.1, CameRd.nought w⟩
  · subst hv
    refine ⟨_, _, rfl, hle, hm, fun _ => ⟨g, 0, rfl, fun j hj k v hv => ?_⟩, fun e => by cases e⟩
    have hk : k < 24 := by
      have := (List.getElem?_eq_some_iff.1 hv).1
      rwa [rc_len] at this
    have hc := World.ownsRowF.cells h1 (g := g) rfl (j * 24 + k) v (by rw [rcs_get l j k hj hk]; exact hv)
    have e : (⟨g, 0, none⟩ : Addr).add (j * 24 + k) = ⟨g, 0 + j * 24 + k, none⟩ := by unfold Addr.add; split <;> simp_all
    rw [e] at hc
    exact hc
theorem Rds.keep {B : Nat} {W0 w w' : World} {v : Value} {l : List Rd} (h : Rds B W0 w v l) (hb : Below w.heap.size w w') : Rds B W0 w' v l := by
  refine ⟨⟨h.1.1, ?_⟩, h.2.1.trans (hb.mono h.2.2), Nat.le_trans h.2.2 hb.size⟩
  rcases h.1.2 with hn | ⟨g, cap, cur, fz, rfl, h1, hg, rest⟩
  · exact .inl hn
  · exact .inr ⟨g, cap, cur, fz, rfl, h1, by rw [hb.block g (Array.getElem?_eq_some_iff.1 hg).1]; exact hg, rest⟩

theorem own_free {w : World} {B : Nat} {e : TypeId} {s : Nat} {v : Value} {n : Nat} {xs : List Value} (h : w.ownsRow B e s v n xs) : w.ownsRowF B e s v n xs :=
  ⟨h.1, h.2.elim .inl fun ⟨g, cap, cur, h1, h2, h3, h4, h5, h6, h7⟩ => .inr ⟨g, cap, cur, (0, 0), h1, h2, h3, Nat.zero_le _, h4, h5, h6, h7⟩⟩
/-- a reading that lies in a block, from its begin on -/
def RdAt (w : World) (b : Nat) (r : Rd) : Prop := w.rangeAt b 0 (rc r)
theorem RdAt.keep {w w' : World} {b : Nat} {r : Rd} (h : RdAt w b r) (hb : Below w.heap.size w w') : RdAt w' b r := range_keep h hb
theorem RdAt.new (w : World) (r : Rd) (t : TypeId) : RdAt (w.alloc (.cells (ra r) t)) w.heap.size r := range_new w (ra r) t
theorem RdAt.val {w : World} {b : Nat} {r : Rd} (h : RdAt w b r) (i : Nat) (hi : i < 12) : w.cell? ⟨b, i, none⟩ = some (.int .i64 (r.val.getD i 0)) := by
  have := h i _ (rc_val r i hi)
  rwa [Nat.zero_add] at this
theorem RdAt.there {w : World} {b : Nat} {r : Rd} (h : RdAt w b r) (i : Nat) (hi : i < 12) : w.cell? ⟨b, 12 + i, none⟩ = some (.bool (r.there.getD i false)) := by
  have := h (12 + i) _ (rc_there r i hi)
  rwa [Nat.zero_add] at this
theorem RdAt.cells {w : World} {g : Nat} {r : Rd} (h : RdAt w g r) (j : Nat) (u : Value) (hj : (rc r)[j]? = some u) : w.cell? ((⟨g, 0, none⟩ : Addr).add j) = some u := by
  rw [Addr.add_lit]
  exact h j u hj
theorem RdAt.lt {w : World} {g : Nat} {r : Rd} (h : RdAt w g r) : g < w.heap.size := World.block_lt_of_cell? w _ (h.val 0 (by decide))
/-- it lies elsewhere than in block g -/
def Off (ba : Option Addr) (g : Nat) : Prop := ∀ a, ba = some a → a.block ≠ g

/-- one more behind those that came in, which have no room behind: they lie in new memory -/
theorem append_full {w : World} {ba : Option Addr} {l : List Rd} (ty : TypeId) (C : CameRd w ba l.length l) {g : Nat} {f : Rd} (R : RdAt w g f) (hlen : l.length + 1 ≤ 1000000000000) :
    ∃ ba' cap' w', (Builtin.append_ #[63, 63] ty #[.slice ba l.length l.length, .slice (some ⟨g, 0, none⟩) 1 1]).run Tryd.prog w = .ok (.slice ba' (l.length + 1) cap') w' ∧
      CameRd w' ba' cap' (l ++ [f]) ∧ Below w.heap.size w w' ∧ ∀ k, k < w.heap.size → Off ba' k := by
  obtain ⟨i, hi, hz, hsize, hby⟩ := infoRd_parts
  have fin : ∀ v' w', w'.ownsRow w.heap.size 55 24 v' (l.length + 1) (rcs l ++ rc f) → w.grownBy w' none → ∃ ba' cap', v' = .slice ba' (l.length + 1) cap' ∧ CameRd w' ba' cap' (l ++ [f]) ∧ Below w.heap.size w w' ∧ ∀ k, k < w.heap.size → Off ba' k := fun v' w' ho hg => by
    have hk : Rds w.heap.size w w' v' (l ++ [f]) :=
      ⟨by rw [rcs_app, List.length_append, rcs_one]; exact own_free ho, (Below.refl _ _).grown hg (Nat.le_refl _) (fun k hk => by cases hk), hg.size⟩
    obtain ⟨ba', cap', hv', C2⟩ := hk.came
    rw [List.length_append, List.length_singleton] at hv'
    refine ⟨ba', cap', hv', C2, hk.below, fun k hlt a ha e => ?_⟩
    subst hv' ha
    rcases ho.2 with ⟨h0, _⟩ | ⟨g', cap2, cur, h0, hle, _⟩
    · cases h0
    · injection h0 with h0 _ _
      injection h0 with h0
      subst h0
      simp only at e
      omega
  cases ba with
  | none =>
    obtain ⟨e1, _⟩ := C.nil rfl
    subst e1
    obtain ⟨v', w', hrun, r1, r2, _⟩ := run_append_own (P := Tryd.prog) w w.heap.size 63 ty 55 i (rv rd0) 24 112 Tryd.underlying63 hi hz hsize hby rfl (by decide) (.slice none 0 0) 0 [] (World.ownsRow_nil w _ _ 24) ⟨g, 0, none⟩ 1 1 (rc f) (rc_len f) R.cells (rc_one f) (by unfold maxLen; omega) (by omega) (Nat.le_refl _)
    obtain ⟨ba', cap', rfl, h1, h2, h3⟩ := fin v' w' r1 r2
    exact ⟨ba', cap', w', hrun, h1, h2, h3⟩
  | some b =>
    obtain ⟨v', w', hrun, r1, r2⟩ := run_append_arg_grows (P := Tryd.prog) w 63 ty 55 i (rv rd0) 24 112 Tryd.underlying63 hi hz hsize hby rfl (by decide) b l.length l.length (rcs l) (rcs_length l) (fun j u hj => by
      have h0 : 0 < l.length := by
        have := (List.getElem?_eq_some_iff.1 hj).1
        rw [rcs_length] at this
        omega
      obtain ⟨g2, o2, e2, L⟩ := C.lies h0
      injection e2 with e2
      subst e2
      rw [Addr.add_lit]
      exact L.cells j u hj) ⟨g, 0, none⟩ 1 1 (rc f) (rc_len f) R.cells (by omega) (by unfold maxLen; omega) (by omega)
    obtain ⟨ba', cap', rfl, h1, h2, h3⟩ := fin v' w' r1 r2
    exact ⟨ba', cap', w', hrun, h1, h2, h3⟩

/-- one more behind those of the call's own -/
theorem append_rd {B : Nat} {W0 w : World} {v : Value} {l : List Rd} (ty : TypeId) (hb : Rds B W0 w v l) {g : Nat} {f : Rd} (R : RdAt w g f) (hlen : l.length + 1 ≤ 1000000000000) :
    ∃ v' w', (Builtin.append_ #[63, 63] ty #[v, .slice (some ⟨g, 0, none⟩) 1 1]).run Tryd.prog w = .ok v' w' ∧ Rds B W0 w' v' (l ++ [f]) ∧ w.grownBy w' v.ownBlock := by
  obtain ⟨i, hi, hz, hsize, hby⟩ := infoRd_parts
  obtain ⟨v', w', hr, h2, h3, _⟩ := run_append_ownF (P := Tryd.prog) w B 63 ty 55 i (rv rd0) 24 112 Tryd.underlying63 hi hz hsize hby rfl (by decide) v l.length (rcs l) hb.1 ⟨g, 0, none⟩ 1 1 (rc f) (rc_len f) R.cells (rc_one f) (by unfold maxLen; omega) (by omega) hb.2.2
  refine ⟨v', w', hr, ⟨?_, hb.2.1.grown h3 hb.2.2 (fun k hk => (hb.1.lt k hk).1), Nat.le_trans hb.2.2 h3.size⟩, h3⟩
  rw [rcs_app, List.length_append, rcs_one]
  exact h2

/-- those that came in, behind those of the call's own -/
theorem append_rds {B : Nat} {W0 w : World} {v : Value} {l m : List Rd} {ba : Option Addr} {c : Nat} (ty : TypeId) (hb : Rds B W0 w v l) (C : CameRd w ba c m) (h0 : 0 < m.length) (hlen : l.length + m.length ≤ 1000000000000) :
    ∃ v' w', (Builtin.append_ #[63, 63] ty #[v, .slice ba m.length c]).run Tryd.prog w = .ok v' w' ∧ Rds B W0 w' v' (l ++ m) ∧ w.grownBy w' v.ownBlock := by
  obtain ⟨i, hi, hz, hsize, hby⟩ := infoRd_parts
  obtain ⟨g, o, rfl, L⟩ := C.lies h0
  obtain ⟨v', w', hr, h2, h3, _⟩ := run_append_ownF (P := Tryd.prog) w B 63 ty 55 i (rv rd0) 24 112 Tryd.underlying63 hi hz hsize hby rfl (by decide) v l.length (rcs l) hb.1 ⟨g, o, none⟩ m.length c (rcs m) (rcs_length m) (fun j u hj => by rw [Addr.add_lit]; exact L.cells j u hj) (rcs_cell m) (by unfold maxLen; omega) (by omega) hb.2.2
  refine ⟨v', w', hr, ⟨?_, hb.2.1.grown h3 hb.2.2 (fun k hk => (hb.1.lt k hk).1), Nat.le_trans hb.2.2 h3.size⟩, h3⟩
  rw [rcs_app, List.length_append]
  exact h2

section
variable {o : Oper} {a : Act} {w : World} {K : Act → World → Prop} {Q : Exit → Act → World → Prop}
theorem oper_append_full {s x : Operand} {ba : Option Addr} {l : List Rd} {g : Nat} {f : Rd} (ho : o.op = .call { callee := .builtin .append, args := #[s, x], argTypes := #[63, 63] })
    (hs : a.eval s = .slice ba l.length l.length) (C : CameRd w ba l.length l) (hx : a.eval x = .slice (some ⟨g, 0, none⟩) 1 1) (R : RdAt w g f) (hlen : l.length + 1 ≤ 1000000000000)
    (h : ∀ ba' cap' w', CameRd w' ba' cap' (l ++ [f]) → Below w.heap.size w w' → (∀ k, k < w.heap.size → Off ba' k) → K (a.put o.dst (.slice ba' (l.length + 1) cap')) w') : Oper.wp Tryd.prog o a w K Q := by
  obtain ⟨ba', cap', w', hr, h1, h2, h3⟩ := append_full o.type C R hlen
  unfold Oper.wp execOp
  simp only [ho, resolve, invoke, builtin, Sem.run_bind, Sem.run_pure, Result.andThen_ok, List.map_toArray, List.map_cons, List.map_nil, hs, hx, hr]
  exact h ba' cap' w' h1 h2 h3
theorem oper_append_rd {s x : Operand} {B : Nat} {W0 : World} {v : Value} {l : List Rd} {g : Nat} {f : Rd} (ho : o.op = .call { callee := .builtin .append, args := #[s, x], argTypes := #[63, 63] })
    (hs : a.eval s = v) (hb : Rds B W0 w v l) (hx : a.eval x = .slice (some ⟨g, 0, none⟩) 1 1) (R : RdAt w g f) (hlen : l.length + 1 ≤ 1000000000000)
    (h : ∀ v' w', Rds B W0 w' v' (l ++ [f]) → w.grownBy w' v.ownBlock → K (a.put o.dst v') w') : Oper.wp Tryd.prog o a w K Q := by
  obtain ⟨v', w', hr, h1, h2⟩ := append_rd o.type hb R hlen
  unfold Oper.wp execOp
  simp only [ho, resolve, invoke, builtin, Sem.run_bind, Sem.run_pure, Result.andThen_ok, List.map_toArray, List.map_cons, List.map_nil, hs, hx, hr]
  exact h v' w' h1 h2
theorem oper_append_rds {s x : Operand} {B : Nat} {W0 : World} {v : Value} {l m : List Rd} {ba : Option Addr} {c : Nat} (ho : o.op = .call { callee := .builtin .append, args := #[s, x], argTypes := #[63, 63] })
    (hs : a.eval s = v) (hb : Rds B W0 w v l) (hx : a.eval x = .slice ba m.length c) (C : CameRd w ba c m) (h0 : 0 < m.length) (hlen : l.length + m.length ≤ 1000000000000)
    (h : ∀ v' w', Rds B W0 w' v' (l ++ m) → w.grownBy w' v.ownBlock → K (a.put o.dst v') w') : Oper.wp Tryd.prog o a w K Q := by
  obtain ⟨v', w', hr, h1, h2⟩ := append_rds o.type hb C h0 hlen
  unfold Oper.wp execOp
  simp only [ho, resolve, invoke, builtin, Sem.run_bind, Sem.run_pure, Result.andThen_ok, List.map_toArray, List.map_cons, List.map_nil, hs, hx, hr]
  exact h v' w' h1 h2
end
section
variable {ops : Array Oper} {rest : List Oper} {o : Oper} {a : Act} {w : World} {Q : Exit → Act → World → Prop}
theorem list_append_rd {s x : Operand} {B : Nat} {W0 : World} {v : Value} {l : List Rd} {g : Nat} {f : Rd} (hgd : o.guard = none) (ho : o.op = .call { callee := .builtin .append, args := #[s, x], argTypes := #[63, 63] })
    (hs : a.eval s = v) (hb : Rds B W0 w v l) (hx : a.eval x = .slice (some ⟨g, 0, none⟩) 1 1) (R : RdAt w g f) (hlen : l.length + 1 ≤ 1000000000000)
    (h : ∀ v' w', Rds B W0 w' v' (l ++ [f]) → w.grownBy w' v.ownBlock → wpList Tryd.prog ops Q rest (a.put o.dst v') w') : wpList Tryd.prog ops Q (o :: rest) a w :=
  wpList_plain hgd fun _ hK => oper_append_rd ho hs hb hx R hlen fun v' w' k k2 => hK _ _ (h v' w' k k2)
theorem list_append_rds {s x : Operand} {B : Nat} {W0 : World} {v : Value} {l m : List Rd} {ba : Option Addr} {c : Nat} (hgd : o.guard = none) (ho : o.op = .call { callee := .builtin .append, args := #[s, x], argTypes := #[63, 63] })
    (hs : a.eval s = v) (hb : Rds B W0 w v l) (hx : a.eval x = .slice ba m.length c) (C : CameRd w ba c m) (h0 : 0 < m.length) (hlen : l.length + m.length ≤ 1000000000000)
    (h : ∀ v' w', Rds B W0 w' v' (l ++ m) → w.grownBy w' v.ownBlock → wpList Tryd.prog ops Q rest (a.put o.dst v') w') : wpList Tryd.prog ops Q (o :: rest) a w :=
  wpList_plain hgd fun _ hK => oper_append_rds ho hs hb hx C h0 hlen fun v' w' k k2 => hK _ _ (h v' w' k k2)
end

/-- a slice literal of one reading -/
theorem build_lit (a0 a1 a2 a3 a4 a5 a6 a7 a8 a9 a10 a11 : Int) (b0 b1 b2 b3 b4 b5 b6 b7 b8 b9 b10 b11 : Bool) (w : World) : (Instr.buildSlice 63 1 #[(0, .agg (([a0, a1, a2, a3, a4, a5, a6, a7, a8, a9, a10, a11].map fun n => Value.int .i64 n) ++ [b0, b1, b2, b3, b4, b5, b6, b7, b8, b9, b10, b11].map fun b => Value.bool b).toArray)]).run Tryd.prog w =
    .ok (.slice (some ⟨w.heap.size, 0, none⟩) 1 1) (w.alloc (.cells (([a0, a1, a2, a3, a4, a5, a6, a7, a8, a9, a10, a11].map fun n => Value.int .i64 n) ++ [b0, b1, b2, b3, b4, b5, b6, b7, b8, b9, b10, b11].map fun b => Value.bool b).toArray 55)) := by kernel_rfl
theorem build_cells (v : List Int) (t : List Bool) (hv : v.length = 12) (ht : t.length = 12) (w : World) : (Instr.buildSlice 63 1 #[(0, .agg ((v.map fun n => Value.int .i64 n) ++ t.map fun b => Value.bool b).toArray)]).run Tryd.prog w =
    .ok (.slice (some ⟨w.heap.size, 0, none⟩) 1 1) (w.alloc (.cells ((v.map fun n => Value.int .i64 n) ++ t.map fun b => Value.bool b).toArray 55)) :=
  match v, hv, t, ht with
  | [a0, a1, a2, a3, a4, a5, a6, a7, a8, a9, a10, a11], _, [b0, b1, b2, b3, b4, b5, b6, b7, b8, b9, b10, b11], _ => build_lit a0 a1 a2 a3 a4 a5 a6 a7 a8 a9 a10 a11 b0 b1 b2 b3 b4 b5 b6 b7 b8 b9 b10 b11 w
theorem build_rd (r : Rd) (w : World) : (Instr.buildSlice 63 1 #[(0, rv r)]).run Tryd.prog w = .ok (.slice (some ⟨w.heap.size, 0, none⟩) 1 1) (w.alloc (.cells (ra r) 55)) := build_cells r.val r.there r.hv r.ht w
theorem oper_build_rd {o : Oper} {a : Act} {w : World} {K : Act → World → Prop} {Q : Exit → Act → World → Prop} {x : Operand} {r : Rd} (ho : o.op = .buildSlice 63 1 #[(0, x)]) (hx : a.eval x = rv r)
    (h : K (a.put o.dst (.slice (some ⟨w.heap.size, 0, none⟩) 1 1)) (w.alloc (.cells (ra r) 55))) : Oper.wp Tryd.prog o a w K Q := by
  have hb := build_rd r w
  unfold Oper.wp execOp
  simp only [ho, List.map_toArray, List.map_cons, List.map_nil, hx, Sem.run_bind, hb, Result.andThen_ok, Sem.run_pure]
  exact h
theorem list_build_rd {ops : Array Oper} {rest : List Oper} {o : Oper} {a : Act} {w : World} {Q : Exit → Act → World → Prop} {x : Operand} {r : Rd} (hgd : o.guard = none) (ho : o.op = .buildSlice 63 1 #[(0, x)]) (hx : a.eval x = rv r)
    (h : wpList Tryd.prog ops Q rest (a.put o.dst (.slice (some ⟨w.heap.size, 0, none⟩) 1 1)) (w.alloc (.cells (ra r) 55))) : wpList Tryd.prog ops Q (o :: rest) a w :=
  wpList_plain hgd fun _ hK => oper_build_rd ho hx (hK _ _ h)

/-- room for a whole reading in a block of the call's own -/
def ThR (w : World) (g : Nat) : Prop := w.there g 0 24
theorem ThR.lt {w : World} {g : Nat} (h : ThR w g) : g < w.heap.size := by
  obtain ⟨h1, _⟩ := h 0 (by decide)
  cases e : w.cell? ⟨g, 0 + 0, none⟩ with
  | none => rw [e] at h1; cases h1
  | some v => exact World.block_lt_of_cell? w _ e
theorem ThR.keep {w w' : World} {g : Nat} (h : ThR w g) (hb : Below w.heap.size w w') : ThR w' g := fun j hj => by
  obtain ⟨h1, h2⟩ := h j hj
  cases e : w.cell? ⟨g, 0 + j, none⟩ with
  | none => rw [e] at h1; cases h1
  | some v => exact ⟨by rw [keepc hb e]; rfl, keepf hb e h2⟩
theorem ThR.new (w : World) (c : Array Value) (hc : c.size = 24) (t : TypeId) : ThR (w.alloc (.cells c t)) w.heap.size := fun j hj => by
  have hh := heap_alloc_last w (Obj.cells c t)
  generalize w.alloc (.cells c t) = w' at hh ⊢
  generalize w.heap.size = g at hh ⊢
  refine ⟨?_, ?_⟩
  · rw [cell_of_row w' g (0 + j) c t (0, 0) hh, Array.getElem?_eq_getElem (by omega)]; rfl
  · simp [World.frozen?, hh]
theorem CameRd.put {w : World} {ba : Option Addr} {cap : Nat} {l : List Rd} (C : CameRd w ba cap l) {g : Nat} (hO : Off ba g) (r : Rd) : CameRd (w.setCells g 0 (rc r)) ba cap l :=
  ⟨C.le, C.max, fun h => by
    obtain ⟨b, o, e, L⟩ := C.lies h
    exact ⟨b, o, e, fun j hj => World.rangeAt_setCells_apart (L j hj) g 0 (rc r) (Or.inl (hO ⟨b, o, none⟩ e))⟩, C.nil⟩
theorem RdAt.put {w : World} {g : Nat} (T : ThR w g) (r : Rd) : RdAt (w.setCells g 0 (rc r)) g r := World.rangeAt_setCells_same w g 0 (rc r) (by rw [rc_len]; exact T)
theorem RdAt.apart {w : World} {g k : Nat} {r : Rd} (h : RdAt w k r) (hk : k ≠ g) (q : Rd) : RdAt (w.setCells g 0 (rc q)) k r := World.rangeAt_setCells_apart h g 0 (rc q) (Or.inl hk)
theorem ThR.put {w : World} {k : Nat} (T : ThR w k) (g : Nat) (r : Rd) : ThR (w.setCells g 0 (rc r)) k := World.there_setCells T g 0 (rc r)
section
variable {o : Oper} {a : Act} {w : World} {K : Act → World → Prop} {Q : Exit → Act → World → Prop}
/-- a whole reading stored -/
theorem oper_put_rd {x y : Operand} (ho : o.op = .store 55 x y) {g : Nat} {r : Rd}
    (hx : a.eval x = .pointer (some ⟨g, 0, none⟩)) (hy : a.eval y = rv r) (T : ThR w g) (h : K (a.put o.dst undef) (w.setCells g 0 (rc r))) : Oper.wp Tryd.prog o a w K Q :=
  wp_store_mid _ x y ho g 0 (ra r) hx hy (by rw [ra_size]; exact T) (sizeRd r) (ra_one r) h
end
section
variable {ops : Array Oper} {rest : List Oper} {op : Oper} {a : Act} {w : World} {Q : Exit → Act → World → Prop}
theorem list_put_rd {x y : Operand} (hgd : op.guard = none) (ho : op.op = .store 55 x y) {g : Nat} {r : Rd}
    (hx : a.eval x = .pointer (some ⟨g, 0, none⟩)) (hy : a.eval y = rv r) (T : ThR w g) (h : wpList Tryd.prog ops Q rest (a.put op.dst undef) (w.setCells g 0 (rc r))) : wpList Tryd.prog ops Q (op :: rest) a w :=
  wpList_plain hgd fun _ hK => oper_put_rd ho hx hy T (hK _ _ h)
/-- load of a whole reading at a list's head, guarded or not -/
theorem list_load_rd (hw : Region.wanted op (yielded ops a.tmps) = true) (x : Operand) (ho : op.op = .load 55 x)
    (b o : Nat) (hx : a.eval x = .pointer (some ⟨b, o, none⟩)) (r : Rd) (hc : w.rangeAt b o (rc r))
    (h : wpList Tryd.prog ops Q rest (a.put op.dst (rv r)) w) : wpList Tryd.prog ops Q (op :: rest) a w :=
  wpList_step fun K hK => by
    rw [if_pos hw]
    exact wp_load_mid 55 x ho b o hx (rc r) _ hc Tryd.underlying55 rfl (by rw [sizeRd r, ra_size, rc_len]) (hK _ _ h)
/-- store of a whole reading into the block that was made last -/
theorem list_store_rd (hgd : op.guard = none) (x y : Operand) (ho : op.op = .store 55 x y)
    (c : Array Value) (r : Rd) (hx : a.eval x = .pointer (some ⟨w.heap.size, 0, none⟩)) (hy : a.eval y = rv r) (hs : c.size = 24)
    (h : wpList Tryd.prog ops Q rest (a.put op.dst undef) (w.alloc (.cells (ra r) 55))) : wpList Tryd.prog ops Q (op :: rest) a (w.alloc (.cells c 55)) :=
  list_store_new hgd 55 x y ho c (ra r) hx hy (sizeRd r) (by rw [hs, ra_size]) (ra_one r) h
/-- load of a whole reading in a drawn region -/
theorem yields_load_rd {S : World → Prop} (hw : Region.wanted op (yielded ops a.tmps) = true) (x : Operand) (ho : op.op = .load 55 x)
    (b o : Nat) (hx : a.eval x = .pointer (some ⟨b, o, none⟩)) (r : Rd) (hS : ∀ w, S w → w.rangeAt b o (rc r)) : YieldsIf Tryd.prog ops S op (rv r) a :=
  yieldsIf_load_mid (P := Tryd.prog) hw _ x ho b o hx (rc r) _ hS Tryd.underlying55 rfl (by rw [sizeRd r, ra_size, rc_len])
end
theorem load_rd {w : World} {b : Nat} {r : Rd} (h : RdAt w b r) : (loadVar 55 ⟨b, 0, none⟩).run Tryd.prog w = .ok (rv r) w :=
  run_loadVar_mid (P := Tryd.prog) w b 0 _ (rc r) _ h Tryd.underlying55 rfl (by rw [sizeRd r, ra_size, rc_len])

/-- a part of those that came in, no room behind it -/
theorem came_cut {w : World} {ba : Option Addr} {cap : Nat} {l : List Rd} (C : CameRd w ba cap l) (k : Nat) (hk : k ≤ l.length) :
    ∃ ba', (∀ g, Off ba g → Off ba' g) ∧ (∀ W, (Instr.sliceAt 63 (.slice ba l.length cap) (some (.int .i64 (k : Int))) (some (.int .i64 (l.length : Int))) (some (.int .i64 (l.length : Int)))).run Tryd.prog W = .ok (.slice ba' (l.drop k).length (l.drop k).length) W) ∧ CameRd w ba' (l.drop k).length (l.drop k) := by
  have hu : Tryd.prog.underlying 63 = some (.slice (Tryd.prog.elem 63)) := Tryd.underlying63
  have hs : ∀ W, (sizeOf (Tryd.prog.elem 63)).run Tryd.prog W = .ok 24 W := fun W => by kernel_rfl
  have hc := C.le
  have hm := C.max
  have hl : (l.drop k).length = l.length - k := List.length_drop
  have hr : ∀ W, (Instr.sliceAt 63 (.slice ba l.length cap) (some (.int .i64 (k : Int))) (some (.int .i64 (l.length : Int))) (some (.int .i64 (l.length : Int)))).run Tryd.prog W = .ok (sliced ba k l.length l.length 24) W := fun W => by
    rw [run_sliceAt_slice (h := hu), run_slice_lhm (ht := hu) (h0 := by omega) (h1 := by omega) (h2 := by omega) (h3 := by omega), hs]
    show Result.ok (sliced ba (k : Int).toNat (l.length : Int).toNat (l.length : Int).toNat 24) W = _
    rw [Int.toNat_natCast, Int.toNat_natCast]
  by_cases h : l.length = k
  · refine ⟨ba, fun _ h => h, fun W => ?_, by omega, by omega, fun h0 => by rw [hl] at h0; omega, fun e => ?_⟩
    · rw [hr W, hl]
      unfold sliced
      rw [if_pos h]
    · obtain ⟨rfl, _⟩ := C.nil e
      exact ⟨by simp, by simp⟩
  · obtain ⟨b, o, rfl, L⟩ := C.lies (by omega)
    refine ⟨some ⟨b, o + k * 24, none⟩, fun g h a e => (by cases e; exact h ⟨b, o, none⟩ rfl), fun W => ?_, by omega, by omega, fun _ => ⟨b, o + k * 24, rfl, L.tail k⟩, fun e => by cases e⟩
    rw [hr W, hl]
    unfold sliced
    rw [if_neg h, Option.map_some, Addr.add_lit]

/-! a reading is the same as itself -/
theorem cells_n : Tryd.prog.cellsOf 2 = 1 := by kernel_rfl
theorem cells_b : Tryd.prog.cellsOf 4 = 1 := by kernel_rfl
theorem fields_rd : (Tryd.prog.fieldsOf 55).toList.map (fun f => (f.name, f.type, f.offset)) = [("Value", 52, 0), ("There", 53, 12)] := by kernel_rfl
theorem some_n : (Tryd.prog.info? 2).isSome = true := by kernel_rfl
theorem some_b : (Tryd.prog.info? 4).isSome = true := by kernel_rfl
theorem part_n (xs : Array Value) (i : Nat) (n : Int) (h : xs[i]? = some (.int .i64 n)) (w : World) : (part 2 xs (i * 1)).run Tryd.prog w = .ok (.int .i64 n) w := by
  have hi := (Array.getElem?_eq_some_iff.1 h).1
  simp [part, go_sem, h]
theorem part_b (xs : Array Value) (i : Nat) (n : Bool) (h : xs[i]? = some (.bool n)) (w : World) : (part 4 xs (i * 1)).run Tryd.prog w = .ok (.bool n) w := by
  have hi := (Array.getElem?_eq_some_iff.1 h).1
  simp [part, go_sem, h]
theorem items_n (xs : Array Value) (w : World) : ∀ is : List Nat, (∀ i ∈ is, ∃ n : Int, xs[i]? = some (.int .i64 n)) → (Op.eqItems 9998 2 1 xs xs is).run Tryd.prog w = .ok true w
  | [], _ => by simp [Op.eqItems]
  | i :: is, h => by
    obtain ⟨n, h1⟩ := h i (List.mem_cons_self ..)
    have ih := items_n xs w is (fun j hj => h j (List.mem_cons_of_mem _ hj))
    have he : (Op.equalIn 9998 2 (.int .i64 n) (.int .i64 n)).run Tryd.prog w = .ok true w := by simp [go_sem]
    simp only [Op.eqItems, Sem.run_bind, part_n xs i n h1, he, Result.andThen_ok]
    simpa using ih
theorem items_b (xs : Array Value) (w : World) : ∀ is : List Nat, (∀ i ∈ is, ∃ n : Bool, xs[i]? = some (.bool n)) → (Op.eqItems 9998 4 1 xs xs is).run Tryd.prog w = .ok true w
  | [], _ => by simp [Op.eqItems]
  | i :: is, h => by
    obtain ⟨n, h1⟩ := h i (List.mem_cons_self ..)
    have ih := items_b xs w is (fun j hj => h j (List.mem_cons_of_mem _ hj))
    have he : (Op.equalIn 9998 4 (.bool n) (.bool n)).run Tryd.prog w = .ok true w := by simp [go_sem]
    simp only [Op.eqItems, Sem.run_bind, part_b xs i n h1, he, Result.andThen_ok]
    simpa using ih
def rva (r : Rd) : Array Value := (r.val.map fun n => Value.int .i64 n).toArray
def rta (r : Rd) : Array Value := (r.there.map fun b => Value.bool b).toArray
theorem ext_va (r : Rd) : (ra r).extract 0 12 = rva r := by
  apply Array.ext'
  simp [ra, rc, rva, r.hv]
theorem ext_ta (r : Rd) : (ra r).extract 12 24 = rta r := by
  apply Array.ext'
  have e : List.take 12 (List.map (fun b => Value.bool b) r.there) = List.map (fun b => Value.bool b) r.there := List.take_of_length_le (by simp [r.ht])
  simp [ra, rc, rta, r.hv, e]
theorem rva_at (r : Rd) (i : Nat) (hi : i < 12) : ∃ n : Int, (rva r)[i]? = some (.int .i64 n) := ⟨r.val.getD i 0, by simp [rva, List.getD, r.hv, hi]⟩
theorem rta_at (r : Rd) (i : Nat) (hi : i < 12) : ∃ n : Bool, (rta r)[i]? = some (.bool n) := ⟨r.there.getD i false, by simp [rta, List.getD, r.ht, hi]⟩
theorem same_va (r : Rd) (w : World) : (Op.equalIn 9999 52 (.agg (rva r)) (.agg (rva r))).run Tryd.prog w = .ok true w := by
  obtain ⟨i0, hi⟩ := Option.isSome_iff_exists.1 some_n
  rw [show (9999 : Nat) = 9998 + 1 from rfl, run_equalIn_array w 9998 _ _ Tryd.underlying52 hi, cells_n, items_n (rva r) w (List.range 12) (fun i hi => rva_at r i (List.mem_range.1 hi))]
theorem same_ta (r : Rd) (w : World) : (Op.equalIn 9999 53 (.agg (rta r)) (.agg (rta r))).run Tryd.prog w = .ok true w := by
  obtain ⟨i0, hi⟩ := Option.isSome_iff_exists.1 some_b
  rw [show (9999 : Nat) = 9998 + 1 from rfl, run_equalIn_array w 9998 _ _ Tryd.underlying53 hi, cells_b, items_b (rta r) w (List.range 12) (fun i hi => rta_at r i (List.mem_range.1 hi))]
theorem rd_same (r : Rd) (w : World) : (Op.equalIn 10000 55 (.agg (ra r)) (.agg (ra r))).run Tryd.prog w = .ok true w := by
  have ht : Tryd.prog.underlying 55 = some (.struct (Tryd.prog.fieldsOf 55)) := by kernel_rfl
  have hp : Tryd.prog.stoodInHeld 55 = false := by kernel_rfl
  rw [show (10000 : Nat) = 9999 + 1 from rfl, run_equalIn_struct w 9999 _ _ _ ht hp]
  have hf := fields_rd
  generalize (Tryd.prog.fieldsOf 55).toList = fs at hf
  have e1 := ext_va r
  have e2 := ext_ta r
  have e3 := same_va r
  have e4 := same_ta r
  cases fs with
  | nil => simp at hf
  | cons f fs =>
    cases fs with
    | nil => simp at hf
    | cons g fs =>
      cases fs with
      | cons _ _ => simp at hf
      | nil =>
        simp only [List.map_cons, List.map_nil, List.cons.injEq, Prod.mk.injEq, and_true] at hf
        obtain ⟨⟨f1, f2, f3⟩, g1, g2, g3⟩ := hf
        simp [Op.eqFields, f1, f2, f3, g1, g2, g3, e1, e2, e3, e4, go_sem]
end Go.Proofs.YtkjkmnclnedfhaaDoor
