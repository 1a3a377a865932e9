/- Whole runs appended: bytes beside frames, frames beside bytes; what came in and lies elsewhere stays. No program's calls. -/
import Derived.Test.YtnafodnaolmffaaTwo
namespace Go.Proofs.Ytnafodnaolmffaa
open Go.RowKit

theorem Came.grown {w w' : World} {ba : Option Addr} {cap : Nat} {l : List UInt8} {row : Option Nat} (C : Came w ba cap l) (hg : w.grownBy w' row) (hne : ∀ a, ba = some a → row ≠ some a.block) : Came w' ba cap l :=
  ⟨C.le, C.max, C.nil, fun h => by
    obtain ⟨b, o, e, L⟩ := C.lies h
    exact ⟨b, o, e, fun j hj => hg.cell (L j hj) (fun k => hne _ e k.symm)⟩⟩

theorem append_none_any {P : Program} {w : World} (base : Nat) (t ty e : TypeId) (i : TypeInfo) (size : Nat) (ht : P.underlying t = some (.slice e)) (hi : P.info? e = some i)
    (v : Value) (n c : Nat) (xs : List Value) (hown : w.ownsRowF base e size v n xs) : (Builtin.append_ #[t, t] ty #[v, .slice none 0 c]).run P w = .ok v w := by
  rcases hown.2 with ⟨rfl, rfl⟩ | ⟨g, cap, cur, fz, rfl, _, _, _, hnc, _⟩
  · simp [Builtin.append_, run_underlying ht, sizeOf, typeInfo, hi, Builtin.lenOf, Builtin.firstCells]
  · simp [Builtin.append_, run_underlying ht, sizeOf, typeInfo, hi, Builtin.lenOf, Builtin.firstCells, hnc, storeCells]

theorem list_append_came3 {ops : Array Oper} {rest : List Oper} {o : Oper} {a : Act} {w : World} {Q : Exit → Act → World → Prop} {B : Nat} {W0 : World} {v : Value} {l : List UInt8}
    {s x : Operand} {m : List UInt8} {ba : Option Addr} {c : Nat} {u : Value} {fs : List Fr} (hgd : o.guard = none) (ho : o.op = .call { callee := .builtin .append, args := #[s, x], argTypes := #[22, 22] })
    (hs : a.eval s = v) (hb : Bytes B W0 w v l) (hu : Frs B W0 w u fs) (hx : a.eval x = .slice ba m.length c) (C : Came w ba c m) (hlen : l.length + m.length ≤ 140737488355328)
    (h : ∀ v' w', Bytes B W0 w' v' (l ++ m) → Frs B W0 w' u fs → w.grownBy w' v.ownBlock → wpList Try.prog ops Q rest (a.put o.dst v') w') : wpList Try.prog ops Q (o :: rest) a w := by
  by_cases hm : 0 < m.length
  · exact list_append_came2 hgd ho hs hb hu hx C hm hlen h
  · obtain rfl : m = [] := List.length_eq_zero_iff.1 (by omega)
    refine wpList_plain hgd fun K hK => ?_
    obtain ⟨i0, hi, hz0, hz1, hz2⟩ := info_parts info8
    have hstay : (Builtin.append_ #[22, 22] o.type #[v, .slice ba ([] : List UInt8).length c]).run Try.prog w = .ok v w ∨
        ∃ v' w', (Builtin.append_ #[22, 22] o.type #[v, .slice ba ([] : List UInt8).length c]).run Try.prog w = .ok v' w' ∧ Bytes B W0 w' v' l ∧ w.grownBy w' v.ownBlock := by
      match ba with
      | none => exact .inl (append_none_any (P := Try.prog) B 22 o.type 5 i0 1 Try.underlying22 hi v l.length c (vals l) hb.1)
      | some ad =>
        obtain ⟨v', w', hr, h2, h3, _⟩ := run_append_ownF (P := Try.prog) w B 22 o.type 5 i0 (.int .u8 0) 1 1 Try.underlying22 hi hz0 hz1 hz2 rfl (by decide) v l.length (vals l) hb.1 ad 0 c [] rfl (fun j u h => by simp at h) (fun u h => by simp at h) (by unfold maxLen; simp at hlen; omega) (by simp at hlen; omega) hb.2.2
        have k := Lib.OwnBuf.grown hb h2 h3
        rw [List.append_nil, Nat.add_zero] at k
        exact .inr ⟨v', w', hr, k, h3⟩
    rcases hstay with hr | ⟨v', w', hr, hb', hg⟩
    · unfold Oper.wp execOp
      simp only [ho, resolve, invoke, builtin, Sem.run_bind, Sem.run_pure, Result.andThen_ok, List.map_toArray, List.map_cons, List.map_nil, hs, hx, hr]
      exact hK _ _ (h v w (by rw [List.append_nil]; exact hb) hu (World.grownBy.refl _ _))
    · unfold Oper.wp execOp
      simp only [ho, resolve, invoke, builtin, Sem.run_bind, Sem.run_pure, Result.andThen_ok, List.map_toArray, List.map_cons, List.map_nil, hs, hx, hr]
      exact hK _ _ (h v' w' (by rw [List.append_nil]; exact hb') ⟨hu.1.kept hg (apart_or (own_apart hu.1 hb.1)), hb'.2.1, hb'.2.2⟩ hg)

theorem fcs_plain (l : List Fr) : ∀ u ∈ fcs l, u.oneCell' = true := by
  induction l with
  | nil => intro u hu; cases hu
  | cons f l ih =>
    intro u hu
    rcases List.mem_append.1 (show u ∈ fc f ++ fcs l from hu) with hu | hu
    · simp only [fc, List.mem_cons, List.not_mem_nil, or_false] at hu
      rcases hu with rfl | rfl | rfl | rfl <;> rfl
    · exact ih u hu

theorem list_append_frs {ops : Array Oper} {rest : List Oper} {o : Oper} {a : Act} {w : World} {Q : Exit → Act → World → Prop} (hgd : o.guard = none) {s x : Operand}
    (ho : o.op = .call { callee := .builtin .append, args := #[s, x], argTypes := #[24, 24] })
    {B : Nat} {W0 : World} {v u : Value} {l m : List Fr} {bs : List UInt8} {ba : Option Addr} {c : Nat} (hs : a.eval s = v) (hb : Frs B W0 w v l) (hu : Bytes B W0 w u bs)
    (hx : a.eval x = .slice ba m.length c) (C : CameFr w ba c m) (hlen : l.length + m.length ≤ 1000000000000)
    (h : ∀ v' w', Frs B W0 w' v' (l ++ m) → Bytes B W0 w' u bs → w.grownBy w' v.ownBlock → wpList Try.prog ops Q rest (a.put o.dst v') w') : wpList Try.prog ops Q (o :: rest) a w := by
  refine wpList_plain hgd fun K hK => ?_
  obtain ⟨i, hi, hz, hsize, hby⟩ := infoFr_parts
  have hstay : ∃ v' w', (Builtin.append_ #[24, 24] o.type #[v, .slice ba m.length c]).run Try.prog w = .ok v' w' ∧ w'.ownsRowF B 35 4 v' (l.length + m.length) (fcs l ++ fcs m) ∧ w.grownBy w' v.ownBlock := by
    by_cases hm : 0 < m.length
    · obtain ⟨b, off, rfl, L⟩ := C.lies hm
      have hcells : ∀ j u, (fcs m)[j]? = some u → w.cell? ((⟨b, off, none⟩ : Addr).add j) = some u := fun j u hj => by
        have hj' : j < m.length * 4 := by
          have := (List.getElem?_eq_some_iff.1 hj).1
          rw [fcs_length] at this
          exact this
        have e1 : j / 4 * 4 + j % 4 = j := by omega
        have hjm : j / 4 < m.length := by omega
        have hk : (fc (m.getD (j / 4) fr0))[j % 4]? = some u := by
          rw [← fcs_get m (j / 4) (j % 4) hjm (by omega), e1]
          exact hj
        have := L (j / 4) hjm (j % 4) u hk
        rw [Nat.add_assoc, e1] at this
        rw [Go.WideShapes.add_plain]
        exact this
      obtain ⟨v', w', hr, h2, h3, _⟩ := run_append_ownF (P := Try.prog) w B 24 o.type 35 i (fv fr0) 4 32 Try.underlying24 hi hz hsize hby rfl (by decide) v l.length (fcs l) hb.1 ⟨b, off, none⟩ m.length c (fcs m) (fcs_length m) hcells (fcs_plain m) (by unfold maxLen; omega) (by omega) hb.2.2
      exact ⟨v', w', hr, h2, h3⟩
    · obtain rfl : m = [] := List.length_eq_zero_iff.1 (by omega)
      match ba with
      | none => exact ⟨v, w, append_none_any (P := Try.prog) B 24 o.type 35 i 4 Try.underlying24 hi v l.length c (fcs l) hb.1, by rw [show fcs [] = [] from rfl, List.append_nil]; exact hb.1, World.grownBy.refl _ _⟩
      | some ad =>
        obtain ⟨v', w', hr, h2, h3, _⟩ := run_append_ownF (P := Try.prog) w B 24 o.type 35 i (fv fr0) 4 32 Try.underlying24 hi hz hsize hby rfl (by decide) v l.length (fcs l) hb.1 ad 0 c [] rfl (fun j u h => by simp at h) (fun u h => by simp at h) (by unfold maxLen; simp at hlen; omega) (by simp at hlen; omega) hb.2.2
        exact ⟨v', w', hr, h2, h3⟩
  obtain ⟨v', w', hr, h2, h3⟩ := hstay
  have b1 := hb.2.1.grown h3 hb.2.2 (fun k hk => (hb.1.lt k hk).1)
  have b2 := Nat.le_trans hb.2.2 h3.size
  unfold Oper.wp execOp
  simp only [ho, resolve, invoke, builtin, Sem.run_bind, Sem.run_pure, Result.andThen_ok, List.map_toArray, List.map_cons, List.map_nil, hs, hx, hr]
  refine hK _ _ (h v' w' ⟨?_, b1, b2⟩ ⟨hu.1.kept h3 (apart_or fun g hg' hv => own_apart hb.1 hu.1 g hv hg'), b1, b2⟩ h3)
  rw [fcs_app, List.length_append]
  exact h2
end Go.Proofs.Ytnafodnaolmffaa
