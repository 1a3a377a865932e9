
/- The landed geom's Cone, config's Usual; the law's own example of what is known of a quantity of the air. -/
import Derived.Test.YtkjkmnclnedfhaaDoorObLanA
import Derived.Test.YtkjkmnclnedfhaaDoorWhole
import Derived.Deep.MidRow
namespace Go.Proofs.YtkjkmnclnedfhaaDoor
open Go.RowKit Obs

/-- geom's own six axes, as they are laid -/
def coneNums : List Int := [10, 0, 5, 5, 9, 5, -5, 9, 6, -10, 1, 5, -5, -9, 5, 6, -9, 5]
def coneCells : Array Value := (coneNums.map fun z => Value.int .i64 z).toArray
def ConeAt (w : World) : Prop := w.rangeAt 1 0 coneCells.toList
theorem ConeAt.keep {w w' : World} (h : ConeAt w) (b : Below w.heap.size w w') : ConeAt w' := range_keep h b
theorem info_cone : (Tryd.prog.info? 59).map (·.size) = some 18 := by kernel_rfl
theorem cone_size : coneCells.size = 18 := by decide
theorem ints_one (l : List Int) : (l.map fun z => Value.int .i64 z).toArray.all (·.oneCell') = true := all_oneCell_toArray fun v hv => by
  obtain ⟨z, _, rfl⟩ := List.mem_map.1 hv
  rfl

set_option maxHeartbeats 8000000 in
set_option maxRecDepth 100000 in
theorem Cone_any (w : World) (n : ConeAt w) :
    Calls Tryd.prog 30 #[] w fun e w' => e = .returned (.agg coneCells) ∧ Below w.heap.size w w' := by
  have hL := n.keep (below1 w (.cells #[.int .i64 0, .int .i64 0, .int .i64 0, .int .i64 0, .int .i64 0, .int .i64 0, .int .i64 0, .int .i64 0, .int .i64 0, .int .i64 0, .int .i64 0, .int .i64 0, .int .i64 0, .int .i64 0, .int .i64 0, .int .i64 0, .int .i64 0, .int .i64 0] 59))
  have B1 := below1 w (.cells coneCells 59)
  have hR := range_new w coneCells 59
  have h1 : coneCells.all (·.oneCell') = true := ints_one _
  have hz := cone_size
  have hs := info_cone
  unfold ConeAt at hL
  rw [← hz] at hs
  generalize coneCells = arr at *
  go_enter Tryd.func30, Tryd.ntmps30
  go_upto_region 1 with fail
  refine wp_region_lit ?_
  refine list_load_row rfl 59 _ rfl 1 rfl arr _ hL Tryd.underlying59 rfl hs ?_
  refine list_store_new rfl 59 _ _ rfl _ arr rfl rfl hs (by rw [hz]; rfl) h1 ?_
  clear hL
  go_wp2
  exact bodyPost_ret (results_row rfl rfl hR Tryd.underlying59 rfl hs) rfl ⟨rfl, B1⟩

/-- what is usually known of the altitude, of the speed -/
def alt0 : Ai := ⟨5, 5, 30, true, true, false, 200, 1, 20, 60000⟩
def speed0 : Ai := ⟨4, 4, 6, false, false, true, 80, 2, 15, 1000⟩
def confCells : Array Value := ((coneNums ++ [3, 4000, 100000, 40000, 100000, 3, 4]).map (fun z => Value.int .i64 z) ++ al alt0 ++ al speed0).toArray
theorem conf_size : confCells.size = 45 := by decide
theorem conf_one : confCells.all (·.oneCell') = true := by
  unfold confCells
  refine all_oneCell_toArray fun v hv => ?_
  simp only [List.mem_append, al, List.mem_cons, List.not_mem_nil, or_false] at hv
  rcases hv with (hv | hv) | hv
  · obtain ⟨z, _, rfl⟩ := List.mem_map.1 hv; rfl
  · rcases hv with rfl | rfl | rfl | rfl | rfl | rfl | rfl | rfl | rfl | rfl <;> rfl
  · rcases hv with rfl | rfl | rfl | rfl | rfl | rfl | rfl | rfl | rfl | rfl <;> rfl
theorem al_one (a : Ai) : (al a).toArray.all (·.oneCell') = true := all_oneCell_toArray fun v hv => by
  simp only [al, List.mem_cons, List.not_mem_nil, or_false] at hv
  rcases hv with rfl | rfl | rfl | rfl | rfl | rfl | rfl | rfl | rfl | rfl <;> rfl
theorem info_conf : (Tryd.prog.info? 61).map (·.size) = some 45 := by kernel_rfl
theorem build_conf (w : World) : (Instr.build 61 #[(0, .agg coneCells), (1, .int .i64 3), (2, .int .i64 4000), (3, .int .i64 100000), (4, .int .i64 40000), (5, .int .i64 100000), (6, .int .i64 3), (7, .int .i64 4), (8, av alt0), (9, av speed0)]).run Tryd.prog w = .ok (.agg confCells) w := by kernel_rfl
theorem field_conf (w : World) : (Instr.field 61 (.agg confCells) 9).run Tryd.prog w = .ok (av speed0) w := by kernel_rfl

theorem there_new (w : World) (c : Array Value) (n : Nat) (hc : c.size = n) (t : TypeId) : (w.alloc (.cells c t)).there w.heap.size 0 n := fun j hj => by
  have hh := heap_alloc_last w (Obj.cells c t)
  generalize w.alloc (.cells c t) = w' at hh ⊢
  generalize w.heap.size = g at hh ⊢
  refine ⟨?_, ?_⟩
  · rw [cell_of_row w' g (0 + j) c t (0, 0) hh, Array.getElem?_eq_getElem (by omega)]; rfl
  · simp [World.frozen?, hh]
theorem there_keep {w w' : World} {g n : Nat} (h : w.there g 0 n) (hb : Below w.heap.size w w') : w'.there g 0 n := fun j hj => by
  obtain ⟨h1, h2⟩ := h j hj
  cases e : w.cell? ⟨g, 0 + j, none⟩ with
  | none => rw [e] at h1; cases h1
  | some v => exact ⟨by rw [keepc hb e]; rfl, keepf hb e h2⟩
theorem below_cells {B b : Nat} {W : World} (hb : B ≤ b) : ∀ (vs : List Value) (o : Nat) (w : World), Below B W w → Below B W (w.setCells b o vs)
  | [], _, _, h => h
  | v :: r, o, w, h => by
    rw [World.setCells]
    exact below_cells hb r (o + 1) _ (h.setCell (p := ⟨b, o, none⟩) hb v)

theorem list_build_conf {ops : Array Oper} {rest : List Oper} {o : Oper} {a : Act} {w : World} {Q : Exit → Act → World → Prop} {x y z : Operand} (hgd : o.guard = none)
    (ho : o.op = .build 61 #[(0, x), (1, .const (.int .i64 3)), (2, .const (.int .i64 4000)), (3, .const (.int .i64 100000)), (4, .const (.int .i64 40000)), (5, .const (.int .i64 100000)), (6, .const (.int .i64 3)), (7, .const (.int .i64 4)), (8, y), (9, z)])
    (hx : a.eval x = .agg coneCells) (hy : a.eval y = av alt0) (hz : a.eval z = av speed0) (h : wpList Tryd.prog ops Q rest (a.put o.dst (.agg confCells)) w) : wpList Tryd.prog ops Q (o :: rest) a w :=
  wpList_plain hgd fun _ hK => by
    have hb := build_conf w
    have e : ∀ v, a.eval (.const v) = v := fun _ => rfl
    unfold Oper.wp execOp
    simp only [ho, List.map_toArray, List.map_cons, List.map_nil, hx, hy, hz, e, Sem.run_bind, hb, Result.andThen_ok, Sem.run_pure]
    exact hK _ _ h

def ai0 : Ai := ⟨0, 0, 0, false, false, false, 0, 0, 0, 0⟩
def confZero : Array Value := (List.replicate 25 (Value.int .i64 0) ++ (al ai0 ++ al ai0)).toArray
set_option maxHeartbeats 8000000 in
set_option maxRecDepth 100000 in
theorem Usual_any (w : World) (n : ConeAt w) :
    Calls Tryd.prog 17 #[] w fun e w' => e = .returned (.agg confCells) ∧ Below w.heap.size w w' := by
  obtain ⟨zc, hzc⟩ : ∃ c : Array Value, c = confZero := ⟨_, rfl⟩
  have hT0 := there_new w zc 45 (by rw [hzc]; decide) 61
  obtain ⟨W0, hW⟩ : ∃ W0, W0 = w.alloc (.cells zc 61) := ⟨_, rfl⟩
  have hB0 : Below w.heap.size w W0 := hW ▸ below1 w _
  rw [← hW] at hT0
  have CO := Lib.hid (Cone_any W0 (n.keep hB0))
  have HT := Lib.hid hT0
  have HB := Lib.hid hB0
  clear hT0 hB0 n
  go_enter Tryd.func17, Tryd.ntmps17
  go_upto_region 1 with fail
  change Code.wp _ _ _ _ (w.alloc (.cells confZero 61))
  rw [← hzc, ← hW]
  clear hW hzc
  go_wp2_with fail
  refine CO.out.mono ?_; rintro e w1 ⟨rfl, hb1⟩
  have HT1 := Lib.hid (there_keep HT.out hb1)
  have hi : (Tryd.prog.info? 61).map (·.size) = some confCells.size := by rw [conf_size]; exact info_conf
  have HT2 : Hid (w1.there w.heap.size 0 confCells.size) := Lib.hid (by rw [conf_size]; exact HT1.out)
  have HR := Lib.hid (World.rangeAt_setCells_same w1 w.heap.size 0 confCells.toList HT2.out)
  have HB2 := Lib.hid (below_cells (b := w.heap.size) (Nat.le_refl _) confCells.toList 0 w1 (belowT HB.out hb1))
  have h1 := conf_one
  clear HT HT1 HB CO hb1
  go_wp2_with (first | refine list_build_conf rfl rfl rfl rfl rfl ?_ | refine wpList_store_mid rfl 61 _ _ rfl w.heap.size 0 confCells rfl rfl HT2.out hi h1 ?_)
  exact bodyPost_ret (results_row rfl rfl HR.out Tryd.underlying61 rfl hi) rfl ⟨rfl, HB2.out⟩

end Go.Proofs.YtkjkmnclnedfhaaDoor
