/- The readings of one quantity, tick by tick: a range over a function of the landed air's own. -/
import Derived.RangeFuncNested
import Derived.RangeFuncBound
import Derived.RangeFuncCalls
import Derived.RangeFuncLeaves
import Derived.Shelf.Abstract
import Derived.Shelf.RegionOpen
import Derived.WalkKit
import Derived.OwnWalkIn
import Derived.TacticsInMore
import Derived.LoopNIn
import Derived.LoopIn
import Derived.Test.YtkjkmnclnedfhaaDoorAiP
namespace Go.Proofs.YtkjkmnclnedfhaaDoor
open Go.RowKit Go.Shelf Obs

attribute [local go_sem] Oper.semAt_some

section
variable {F : Fence} {n : Nat} {ops : Array Oper} {rest : List Oper} {o : Oper} {a : Act} {w : World} {Q : Exit → Act → World → Prop}
/-- load of a whole reading, in a fence -/
theorem listIn_load_rd (hg : o.guard = none) (x : Operand) (ho : o.op = .load 55 x) (b off : Nat) (hx : a.eval x = .pointer (some ⟨b, off, none⟩)) (r : Rd) (hc : w.rangeAt b off (rc r))
    (h : wpListIn F n Tryd.prog ops Q rest (a.put o.dst (rv r)) w) : wpListIn F n Tryd.prog ops Q (o :: rest) a w := by
  refine wpListIn_plain hg fun K hK => ?_
  have hr := run_loadAt_mid (P := Tryd.prog) w b off 55 (rc r) _ hc Tryd.underlying55 rfl (by rw [sizeRd r, ra_size, rc_len])
  unfold Oper.wpIn
  refine ⟨?_, ?_⟩
  · simp [Oper.about, ho]
  · rw [Oper.semAt_plain F _ _ (by rw [ho]; intro c hc; cases hc)]
    simp only [execOp, ho, hx, Sem.run_bind, hr, Result.andThen_ok, Sem.run_pure]
    exact hK _ _ h
/-- store of a whole reading into the block that was made last, in a fence -/
theorem listIn_store_rd (hg : o.guard = none) (x y : Operand) (ho : o.op = .store 55 x y) (c : Array Value) (r : Rd) (hx : a.eval x = .pointer (some ⟨w.heap.size, 0, none⟩)) (hy : a.eval y = rv r) (hs : c.size = 24)
    (h : wpListIn F n Tryd.prog ops Q rest (a.put o.dst undef) (w.alloc (.cells (ra r) 55))) : wpListIn F n Tryd.prog ops Q (o :: rest) a (w.alloc (.cells c 55)) := by
  refine wpListIn_plain hg fun K hK => ?_
  have hr := run_storeAt_new (P := Tryd.prog) w 55 c (ra r) (sizeRd r) (by rw [hs, ra_size]) (ra_one r)
  unfold Oper.wpIn
  refine ⟨?_, ?_⟩
  · simp [Oper.about, ho]
  · rw [Oper.semAt_plain F _ _ (by rw [ho]; intro c hc; cases hc)]
    have hy' : a.eval y = .agg (ra r) := hy
    simp only [execOp, ho, hx, hy', Sem.run_bind, hr, Result.andThen_ok, Sem.run_pure]
    exact hK _ _ h
/-- load of a whole array, in a fence -/
theorem listIn_load_any (hg : o.guard = none) (ty : TypeId) (x : Operand) (ho : o.op = .load ty x) (b off : Nat) (hx : a.eval x = .pointer (some ⟨b, off, none⟩)) (c : Array Value) (d : TypeDesc) (hc : w.rangeAt b off c.toList)
    (hu : Tryd.prog.underlying ty = some d) (hd : d.isRow = true) (hi : (Tryd.prog.info? ty).map (·.size) = some c.size)
    (h : wpListIn F n Tryd.prog ops Q rest (a.put o.dst (.agg c)) w) : wpListIn F n Tryd.prog ops Q (o :: rest) a w := by
  refine wpListIn_plain hg fun K hK => ?_
  have hr := run_loadAt_mid (P := Tryd.prog) w b off ty c.toList d hc hu hd (by rw [hi]; simp)
  unfold Oper.wpIn
  refine ⟨?_, ?_⟩
  · simp [Oper.about, ho]
  · rw [Oper.semAt_plain F _ _ (by rw [ho]; intro c hc; cases hc)]
    simp only [execOp, ho, hx, Sem.run_bind, hr, Result.andThen_ok, Sem.run_pure]
    exact hK _ _ (by simpa using h)
/-- store of a whole array, in a fence -/
theorem listIn_store_any (hg : o.guard = none) (ty : TypeId) (x y : Operand) (ho : o.op = .store ty x y) (g : Nat) (c : Array Value) (hx : a.eval x = .pointer (some ⟨g, 0, none⟩)) (hy : a.eval y = .agg c)
    (T : w.there g 0 c.size) (hi : (Tryd.prog.info? ty).map (·.size) = some c.size) (h1 : c.all (·.oneCell') = true)
    (h : wpListIn F n Tryd.prog ops Q rest (a.put o.dst undef) (w.setCells g 0 c.toList)) : wpListIn F n Tryd.prog ops Q (o :: rest) a w := by
  refine wpListIn_plain hg fun K hK => ?_
  have hr := run_storeAt_mid (P := Tryd.prog) w g 0 ty c T hi h1
  unfold Oper.wpIn
  refine ⟨?_, ?_⟩
  · simp [Oper.about, ho]
  · rw [Oper.semAt_plain F _ _ (by rw [ho]; intro c hc; cases hc)]
    simp only [execOp, ho, hx, hy, Sem.run_bind, hr, Result.andThen_ok, Sem.run_pure]
    exact hK _ _ h
end

theorem below_grows {w w' : World} (h : Below w.heap.size w w') : w.grownBy w' Option.none := ⟨h.os, h.tape, h.output, h.size, fun k hk _ => h.block k hk⟩
/-- what a round keeps: whatever lay below B, and the blocks g and h -/
def KpC (B g h : Nat) (W W' : World) : Prop := Below B W W' ∧ W'.heap[g]? = W.heap[g]? ∧ W'.heap[h]? = W.heap[h]?
theorem KpC.t {B g h : Nat} {X Y Z : World} (a : KpC B g h X Y) (b : KpC B g h Y Z) : KpC B g h X Z := ⟨a.1.trans b.1, b.2.1.trans a.2.1, b.2.2.trans a.2.2⟩
theorem take_next (l : List Rd) (j : Nat) (h : j < l.length) : l.take j ++ [l.getD j rd0] = l.take (j + 1) := by
  rw [List.take_add_one, List.getD_eq_getElem?_getD, List.getElem?_eq_getElem h]
  rfl

set_option maxRecDepth 100000 in
set_option maxHeartbeats 4000000 in
theorem parts1_in (k : Nat) (fr : Int) (PT : Hid (∀ r w, Calls Tryd.prog 18 #[rv r, .int .i64 fr] w fun e w' => e = .returned (.tuple #[p3 k r, t3 k r]) ∧ Below w.heap.size w w'))
    (n : Nat) (hn : 1 ≤ n) (lp Bs Bf : Nat) (w0 : World) (ba : Option Addr) (cap : Nat) (l : List Rd) (C : CameRd w0 ba cap l) (J Jx : List Rd → World → Prop) (W : World) (hJ : AbidesFrom W.heap.size J)
    (hY : ∀ pre x W, J pre W → pre.length < l.length → YieldAt Fence.wide (n - 1) Tryd.prog lp #[p3 k x, t3 k x] W fun e W' =>
      (e = .returned (.bool true) ∧ J (pre ++ [x]) W' ∧ KpC w0.heap.size Bs Bf W W') ∨ (e = .returned (.bool false) ∧ Jx (pre ++ [x]) W'))
    (hW : Below w0.heap.size w0 W) (hBs : W.cell? ⟨Bs, 0, none⟩ = some (.slice ba l.length cap)) (hBf : W.cell? ⟨Bf, 0, none⟩ = some (.int .i64 fr)) (h0 : J [] W) :
    CallsIn Fence.wide n Tryd.prog 43 #[.func (.yield lp) #[] #[], .pointer (some ⟨Bs, 0, none⟩), .pointer (some ⟨Bf, 0, none⟩)] W fun e W' => (∃ v, e = .returned v) ∧
      ((∃ ys, ys = l ∧ J ys W') ∨ (∃ pre, (∃ j, j ≤ l.length ∧ pre = l.take j) ∧ Jx pre W')) := by
  have hl : (l.length : Int) ≤ 9223372036854775807 := by
    have := C.le
    have := C.max
    unfold maxLen at this
    omega
  refine callsIn_of_wp Tryd.func43 rfl trivial ?_ rfl
  simp only [Tryd.ntmps43, List.size_toArray, List.length_cons, List.length_nil, Nat.reduceAdd, Nat.reduceSub, Array.replicate_succ, Array.replicate_zero, List.push_toArray, List.append_toArray, List.nil_append, List.cons_append]
  gi_wp2
  gi_loopw [8] (fun i wr => ∃ j : Nat, j ≤ l.length ∧ i = .int .i64 (j : Int) ∧ J (l.take j) wr ∧ Below w0.heap.size w0 wr ∧ wr.heap[Bs]? = W.heap[Bs]? ∧ wr.heap[Bf]? = W.heap[Bf]?)
    (fun i _ => l.length - (intOf i).toNat)
  case atStart => exact ⟨0, Nat.zero_le _, rfl, h0, hW, rfl, rfl⟩
  case round =>
    obtain ⟨j, hj, rfl, hJs, hB, hg, hf⟩ := hrel
    have hcs : wr.cell? ⟨Bs, 0, none⟩ = some (.slice ba l.length cap) := (World.cell?_of_block (a := ⟨Bs, 0, none⟩) hg).trans hBs
    have hcf : wr.cell? ⟨Bf, 0, none⟩ = some (.int .i64 fr) := (World.cell?_of_block (a := ⟨Bf, 0, none⟩) hf).trans hBf
    by_cases hlt : (j : Int) < l.length
    · obtain ⟨b, o, rfl, L⟩ := (C.keep hB).lies (by omega)
      have hx := L j (by omega)
      have htk := take_next l j (by omega)
      obtain ⟨r, hr⟩ : ∃ r, r = l.getD j rd0 := ⟨_, rfl⟩
      rw [← hr] at hx htk
      have h0 : (0 : Int) ≤ (j : Int) := by omega
      have hgl : Bs < wr.heap.size := World.block_lt_of_cell? wr _ hcs
      have hfl : Bf < wr.heap.size := World.block_lt_of_cell? wr _ hcf
      have HX := Lib.hid hx
      have HT := Lib.hid htk
      have R1 := Lib.hid (RdAt.new wr r 55)
      have B1 := below1 wr (.cells (ra r) 55)
      have hcf1 := keepc B1 hcf
      have HB1 := Lib.hid B1
      have HG := Lib.hid hg
      have HF := Lib.hid hf
      have HBB := Lib.hid hB
      have HJS := Lib.hid hJs
      clear L hx hr htk B1 hg hf hB hJs hcs
      gi_wp2_with (first | refine listIn_store_rd rfl _ _ rfl _ r rfl rfl rfl ?_ | refine listIn_load_rd rfl _ rfl b (o + j * 24) rfl r HX.out ?_ | refine listIn_load_rd rfl _ rfl wr.heap.size 0 rfl r R1.out ?_)
      refine ⟨trivial, ?_⟩
      refine (callsIn_wide.2 (PT.out r _)).mono ?_
      rintro e w3 ⟨rfl, hb3⟩
      have B3 := belowT HB1.out hb3
      obtain ⟨fn, tmps, assign, body, hy, hR⟩ := hY _ r w3 (hJ _ wr w3 none HJS.out (below_grows B3) (fun r e => by cases e)) (by rw [List.length_take]; omega)
      rw [HT.out] at hR
      have KB := Lib.hid B3
      clear B3 hb3 hcf1 hcf
      gi_wp2_with fail
      refine hR.mono ?_
      rintro e W3 (⟨rfl, hJ3, hk3⟩ | ⟨rfl, hJx3⟩)
      · gi_wp2
        go_roundw
        case rel => exact ⟨j + 1, by omega, rfl, hJ3, HBB.out.trans ((KB.out.mono HBB.out.size).trans hk3.1), hk3.2.1.trans ((KB.out.block _ hgl).trans HG.out), hk3.2.2.trans ((KB.out.block _ hfl).trans HF.out)⟩
        case measure => simp [intOf]; omega
      · gi_wp2
        refine bodyPost_ret (results_none rfl _ _ _) rfl ?_
        exact ⟨⟨_, rfl⟩, .inr ⟨_, ⟨j + 1, by omega, rfl⟩, hJx3⟩⟩
    · obtain rfl : j = l.length := by omega
      rw [List.take_length] at hJs
      gi_wp2
      go_end0
      exact ⟨⟨_, rfl⟩, .inl hJs⟩

set_option maxHeartbeats 1000000 in
/-- parts(reads, from): both are boxed; the function value captures the boxes -/
theorem parts_in (ba : Option Addr) (len cap n : Nat) (fr : Int) (w : World) :
    CallsIn Fence.wide n Tryd.prog 39 #[.slice ba len cap, .int .i64 fr] w fun e w' => e = .returned (.func (.func 43) #[] #[.pointer (some ⟨w.heap.size, 0, none⟩), .pointer (some ⟨w.heap.size + 1, 0, none⟩)]) ∧ w' = (w.alloc (.cells #[.slice ba len cap] 63)).alloc (.cells #[.int .i64 fr] 3) := by
  refine callsIn_of_wp Tryd.func39 rfl trivial ?_ rfl
  simp only [Tryd.ntmps39, List.size_toArray, List.length_cons, List.length_nil, Nat.reduceAdd, Nat.reduceSub, Array.replicate_succ, Array.replicate_zero, List.push_toArray, List.append_toArray, List.nil_append, List.cons_append]
  gi_wp2
  go_ret
  exact ⟨rfl, rfl⟩

/-- it hands over all; or as many as were asked for -/
theorem parts_stops (k : Nat) (fr : Int) (PT : Hid (∀ r w, Calls Tryd.prog 18 #[rv r, .int .i64 fr] w fun e w' => e = .returned (.tuple #[p3 k r, t3 k r]) ∧ Below w.heap.size w w'))
    (n : Nat) (hn : 1 ≤ n) (Bs Bf : Nat) (w0 w : World) (ba : Option Addr) (cap : Nat) (l : List Rd) (C : CameRd w0 ba cap l) (hw : Below w0.heap.size w0 w) (hBs : Bs < w.heap.size) (hBf : Bf < w.heap.size)
    (hc : w.cell? ⟨Bs, 0, none⟩ = some (.slice ba l.length cap)) (hf : w.cell? ⟨Bf, 0, none⟩ = some (.int .i64 fr)) :
    SeqStopsK Fence.wide n Tryd.prog 43 #[.pointer (some ⟨Bs, 0, none⟩), .pointer (some ⟨Bf, 0, none⟩)] (fun x : Rd => #[p3 k x, t3 k x]) (KpC w0.heap.size Bs Bf) (fun ys => ys = l) (fun pre => ∃ j, j ≤ l.length ∧ pre = l.take j) l.length w := fun lp J Jx W hW hJ _ hY h0 =>
  parts1_in k fr PT n hn lp Bs Bf w0 ba cap l C J Jx W hJ hY (hw.trans (hW.mono hw.size)) ((hW.cell (p := ⟨Bs, 0, none⟩) hBs).trans hc) ((hW.cell (p := ⟨Bf, 0, none⟩) hBf).trans hf) h0
end Go.Proofs.YtkjkmnclnedfhaaDoor
