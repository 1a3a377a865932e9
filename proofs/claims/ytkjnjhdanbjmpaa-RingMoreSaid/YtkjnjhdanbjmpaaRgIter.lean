/- slices.Backward at readings: a range over a function. What it hands to each round, the last one first. -/
import Derived.RangeFuncNested
import Derived.RangeFuncBound
import Derived.RangeFuncCalls
import Derived.RangeFuncLeaves
import Derived.Shelf.Abstract
import Derived.Shelf.RegionOpen
import Derived.WalkKit
import Derived.OwnWalkIn
import Derived.TacticsInMore
import Derived.LoopNIn
import Derived.LoopIn
import Derived.Test.YtkjnjhdanbjmpaaRgNum
namespace Go.Proofs.Ytkjnjhdanbjmpaa
open Go.RowKit Go.Shelf

attribute [local go_sem] Oper.semAt_some

section
variable {F : Fence} {n : Nat} {ops : Array Oper} {rest : List Oper} {o : Oper} {a : Act} {w : World} {Q : Exit → Act → World → Prop}
/-- load of a whole reading, in a fence -/
theorem listIn_load_rd (hg : o.guard = none) (x : Operand) (ho : o.op = .load 27 x) (b off : Nat) (hx : a.eval x = .pointer (some ⟨b, off, none⟩)) (r : Rd) (hc : w.rangeAt b off (rc r))
    (h : wpListIn F n Try.prog ops Q rest (a.put o.dst (rv r)) w) : wpListIn F n Try.prog ops Q (o :: rest) a w := by
  refine wpListIn_plain hg fun K hK => ?_
  have hr := run_loadAt_mid (P := Try.prog) w b off 27 (rc r) _ hc Try.underlying27 rfl (by rw [sizeRd r, ra_size, rc_len])
  unfold Oper.wpIn
  refine ⟨?_, ?_⟩
  · simp [Oper.about, ho]
  · rw [Oper.semAt_plain F _ _ (by rw [ho]; intro c hc; cases hc)]
    simp only [execOp, ho, hx, Sem.run_bind, hr, Result.andThen_ok, Sem.run_pure]
    exact hK _ _ h
/-- store of a whole reading into the block that was made last, in a fence -/
theorem listIn_store_rd (hg : o.guard = none) (x y : Operand) (ho : o.op = .store 27 x y) (c : Array Value) (r : Rd) (hx : a.eval x = .pointer (some ⟨w.heap.size, 0, none⟩)) (hy : a.eval y = rv r) (hs : c.size = 24)
    (h : wpListIn F n Try.prog ops Q rest (a.put o.dst undef) (w.alloc (.cells (ra r) 27))) : wpListIn F n Try.prog ops Q (o :: rest) a (w.alloc (.cells c 27)) := by
  refine wpListIn_plain hg fun K hK => ?_
  have hr := run_storeAt_new (P := Try.prog) w 27 c (ra r) (sizeRd r) (by rw [hs, ra_size]) (ra_one r)
  unfold Oper.wpIn
  refine ⟨?_, ?_⟩
  · simp [Oper.about, ho]
  · rw [Oper.semAt_plain F _ _ (by rw [ho]; intro c hc; cases hc)]
    have hy' : a.eval y = .agg (ra r) := hy
    simp only [execOp, ho, hx, hy', Sem.run_bind, hr, Result.andThen_ok, Sem.run_pure]
    exact hK _ _ h
end

/-- what has come when k rounds are over: the last k, the last one first -/
def back (l : List Rd) (k : Nat) : List (Nat × Rd) := (List.range k).map fun j => (l.length - 1 - j, l.getD (l.length - 1 - j) rd0)
theorem back_next (l : List Rd) (k : Nat) : back l (k + 1) = back l k ++ [(l.length - 1 - k, l.getD (l.length - 1 - k) rd0)] := by unfold back; rw [List.range_succ, List.map_append]; rfl
theorem back_len (l : List Rd) (k : Nat) : (back l k).length = k := by unfold back; rw [List.length_map, List.length_range]

/-- what a round keeps: whatever lay below B, and the block g -/
def KpB (B g : Nat) (W W' : World) : Prop := Below B W W' ∧ W'.heap[g]? = W.heap[g]?
theorem KpB.t {B g : Nat} {X Y Z : World} (h : KpB B g X Y) (k : KpB B g Y Z) : KpB B g X Z := ⟨h.1.trans k.1, k.2.trans h.2⟩

set_option maxRecDepth 100000 in
set_option maxHeartbeats 4000000 in
theorem back1_in (F : Fence) (n : Nat) (hf : F.fn 34) (hro : F.round = none) (hn : 1 ≤ n) (lp Bs : Nat) (w0 : World) (ba : Option Addr) (cap : Nat) (l : List Rd) (C : CameRd w0 ba cap l) (J Jx : List (Nat × Rd) → World → Prop)
    (hY : ∀ pre x W, J pre W → pre.length < l.length → YieldAt F (n - 1) Try.prog lp #[.int .i64 (x.1 : Int), rv x.2] W fun e W' =>
      (e = .returned (.bool true) ∧ J (pre ++ [x]) W' ∧ KpB w0.heap.size Bs W W') ∨ (e = .returned (.bool false) ∧ Jx (pre ++ [x]) W'))
    (W : World) (hW : Below w0.heap.size w0 W) (hBs : W.cell? ⟨Bs, 0, none⟩ = some (.slice ba l.length cap)) (h0 : J [] W) :
    CallsIn F n Try.prog 34 #[.func (.yield lp) #[] #[], .pointer (some ⟨Bs, 0, none⟩)] W fun e W' => (∃ v, e = .returned v) ∧
      ((∃ ys, ys = back l l.length ∧ J ys W') ∨ (∃ pre, (∃ k, k ≤ l.length ∧ pre = back l k) ∧ Jx pre W')) := by
  have hl : (l.length : Int) ≤ 9223372036854775807 := by
    have := C.le
    have := C.max
    unfold maxLen at this
    omega
  refine callsIn_of_wp Try.func34 rfl hf ?_ hro
  simp only [Try.ntmps34, List.size_toArray, List.length_cons, List.length_nil, Nat.reduceAdd, Nat.reduceSub, Array.replicate_succ, Array.replicate_zero, List.push_toArray, List.append_toArray, List.nil_append, List.cons_append]
  gi_wp2
  gi_loopw [3] (fun i wr => ∃ k : Nat, k ≤ l.length ∧ i = .int .i64 ((l.length : Int) - 1 - k) ∧ J (back l k) wr ∧ Below w0.heap.size w0 wr ∧ wr.heap[Bs]? = W.heap[Bs]?)
    (fun i _ => (intOf i + 1).toNat)
  case atStart => exact ⟨0, Nat.zero_le _, by simp, h0, hW, rfl⟩
  case round =>
    obtain ⟨k, hk, rfl, hJs, hB, hg⟩ := hrel
    have hcs : wr.cell? ⟨Bs, 0, none⟩ = some (.slice ba l.length cap) := (World.cell?_of_block (a := ⟨Bs, 0, none⟩) hg).trans hBs
    by_cases hlt : k < l.length
    · obtain ⟨b, o, rfl, L⟩ := (C.keep hB).lies (by omega)
      have hx := L (l.length - 1 - k) (by omega)
      obtain ⟨fn, tmps, assign, body, hy, hR⟩ := hY _ (l.length - 1 - k, l.getD (l.length - 1 - k) rd0) wr hJs (by rw [back_len]; exact hlt)
      rw [← back_next] at hR
      dsimp only at hy
      have hm : (l.length : Int) - 1 - k = ((l.length - 1 - k : Nat) : Int) := by omega
      have hm0 : l.length - 1 - k < l.length := by omega
      have hm2 : ((l.length - 1 - k : Nat) : Int) + 1 = (l.length : Int) - k := by omega
      rw [hm]
      generalize hr : l.getD (l.length - 1 - k) rd0 = r at *
      generalize hmm : l.length - 1 - k = m at *
      have h0 : (0 : Int) ≤ (m : Int) := by omega
      have hmi : (m : Int) < l.length := by omega
      have HX := Lib.hid hx
      clear L hx hr
      gi_wp2_with (refine listIn_load_rd rfl _ rfl b (o + m * 24) rfl r HX.out ?_)
      refine hR.mono ?_
      rintro e W3 (⟨rfl, hJ3, hk3⟩ | ⟨rfl, hJx3⟩)
      · gi_wp2
        go_roundw
        case rel => exact ⟨k + 1, by omega, by rw [show (l.length : Int) - 1 - ((k + 1 : Nat) : Int) = (m : Int) - 1 by omega], hJ3, hB.trans hk3.1, hk3.2.trans hg⟩
        case measure => simp [intOf]
      · gi_wp2
        refine bodyPost_ret (results_none rfl _ _ _) rfl ?_
        exact ⟨⟨_, rfl⟩, .inr ⟨_, ⟨k + 1, by omega, rfl⟩, hJx3⟩⟩
    · obtain rfl : k = l.length := by omega
      rw [show (l.length : Int) - 1 - (l.length : Int) = -1 by omega]
      gi_wp2
      go_end0
      exact ⟨⟨_, rfl⟩, .inl ⟨_, rfl, hJs⟩⟩

set_option maxHeartbeats 1000000 in
/-- slices.Backward(l): the slice is boxed; the function value captures the box -/
theorem back_in (F : Fence) (n : Nat) (hf : F.fn 24) (hro : F.round = none) (ba : Option Addr) (len cap : Nat) (w : World) :
    CallsIn F n Try.prog 24 #[.slice ba len cap] w fun e w' => e = .returned (.func (.func 34) #[] #[.pointer (some ⟨w.heap.size, 0, none⟩)]) ∧ w' = w.alloc (.cells #[.slice ba len cap] 22) := by
  refine callsIn_of_wp Try.func24 rfl hf ?_ hro
  simp only [Try.ntmps24, List.size_toArray, List.length_cons, List.length_nil, Nat.reduceAdd, Nat.reduceSub, Array.replicate_succ, Array.replicate_zero, List.push_toArray, List.append_toArray, List.nil_append, List.cons_append]
  gi_wp2
  go_ret
  exact ⟨rfl, rfl⟩

/-- it hands over all, the last one first; or as many as were asked for -/
theorem back_stops (F : Fence) (n : Nat) (hf : F.fn 34) (hro : F.round = none) (hn : 1 ≤ n) (Bs : Nat) (w0 w : World) (ba : Option Addr) (cap : Nat) (l : List Rd) (C : CameRd w0 ba cap l) (hw : Below w0.heap.size w0 w) (hBs : Bs < w.heap.size)
    (hc : w.cell? ⟨Bs, 0, none⟩ = some (.slice ba l.length cap)) :
    SeqStopsK F n Try.prog 34 #[.pointer (some ⟨Bs, 0, none⟩)] (fun x : Nat × Rd => #[Value.int .i64 (x.1 : Int), rv x.2]) (KpB w0.heap.size Bs) (fun ys => ys = back l l.length) (fun pre => ∃ k, k ≤ l.length ∧ pre = back l k) l.length w := fun lp J Jx W hW _ _ hY h0 =>
  back1_in F n hf hro hn lp Bs w0 ba cap l C J Jx hY W (hw.trans (hW.mono hw.size)) ((hW.cell (p := ⟨Bs, 0, none⟩) hBs).trans hc) h0
end Go.Proofs.Ytkjnjhdanbjmpaa
