/- Dot, Cross, Det, Scale, One of the document's own answers for layer 7. -/
import Derived.Test.YtjdpcmcekockgaaV64
import Derived.Test.YtjdpcmcekockgaaRebase
import Derived.Deep.CutBlock
import Derived.Deep.CutRange
import Derived.Lib.MinMax
import Derived.BigRegion
namespace Go.Proofs.Ytjdpcmcekockgaa
open Go.RowKit

/-- three numbers -/
structure V3 where
  x : BitVec 64
  y : BitVec 64
  z : BitVec 64
  deriving DecidableEq
namespace V3
def dot (a b : V3) : BitVec 64 := a.x * b.x + a.y * b.y + a.z * b.z
def cross (a b : V3) : V3 := ⟨a.y * b.z - a.z * b.y, a.z * b.x - a.x * b.z, a.x * b.y - a.y * b.x⟩
def add (a b : V3) : V3 := ⟨a.x + b.x, a.y + b.y, a.z + b.z⟩
def sub (a b : V3) : V3 := ⟨a.x - b.x, a.y - b.y, a.z - b.z⟩
def scale (a : V3) (k : BitVec 64) : V3 := ⟨a.x * k, a.y * k, a.z * k⟩
def one (i : Int) : V3 := ⟨if i = 0 then 1 else 0, if i = 1 then 1 else 0, if i = 2 then 1 else 0⟩
end V3
/-- as a value -/
abbrev vv (a : V3) : Value := .agg #[.int .i64 a.x.toInt, .int .i64 a.y.toInt, .int .i64 a.z.toInt]

namespace Ref7

set_option maxHeartbeats 1000000 in
theorem Dot_any (a b : V3) (w : World) :
    Calls Try.prog 47 #[vv a, vv b] w fun e w' => e = .returned (.int .i64 (a.dot b).toInt) ∧ Below w.heap.size w w' := by
  have p0 := v_mul a.x b.x; have p1 := v_mul a.y b.y; have p2 := v_mul a.z b.z
  have s0 := v_add (a.x * b.x) (a.y * b.y); have s1 := v_add (a.x * b.x + a.y * b.y) (a.z * b.z)
  unfold V3.dot vv
  generalize (a.x * b.x + a.y * b.y + a.z * b.z).toInt = r1 at *
  generalize (a.x * b.x + a.y * b.y).toInt = r0 at *
  generalize (a.x * b.x).toInt = q0 at *
  generalize (a.y * b.y).toInt = q1 at *
  generalize (a.z * b.z).toInt = q2 at *
  generalize a.x.toInt = a0 at *; generalize a.y.toInt = a1 at *; generalize a.z.toInt = a2 at *
  generalize b.x.toInt = b0 at *; generalize b.y.toInt = b1 at *; generalize b.z.toInt = b2 at *
  go_enter Try.func47, Try.ntmps47
  go_wp2
  go_ret
  exact ⟨by show Ending.returned (.int .i64 (wrap64 (r0 + q2))) = _; rw [s1], below2 w _ _⟩

set_option maxHeartbeats 4000000 in
theorem Cross_any (a b : V3) (w : World) :
    Calls Try.prog 43 #[vv a, vv b] w fun e w' => e = .returned (vv (a.cross b)) ∧ Below w.heap.size w w' := by
  have p0 := v_mul a.y b.z; have p1 := v_mul a.z b.y; have p2 := v_mul a.z b.x; have p3 := v_mul a.x b.z; have p4 := v_mul a.x b.y; have p5 := v_mul a.y b.x
  have s0 := v_sub (a.y * b.z) (a.z * b.y); have s1 := v_sub (a.z * b.x) (a.x * b.z); have s2 := v_sub (a.x * b.y) (a.y * b.x)
  unfold V3.cross vv
  simp only
  generalize (a.y * b.z - a.z * b.y).toInt = r0 at *; generalize (a.z * b.x - a.x * b.z).toInt = r1 at *; generalize (a.x * b.y - a.y * b.x).toInt = r2 at *
  generalize (a.y * b.z).toInt = q0 at *; generalize (a.z * b.y).toInt = q1 at *; generalize (a.z * b.x).toInt = q2 at *
  generalize (a.x * b.z).toInt = q3 at *; generalize (a.x * b.y).toInt = q4 at *; generalize (a.y * b.x).toInt = q5 at *
  generalize a.x.toInt = a0 at *; generalize a.y.toInt = a1 at *; generalize a.z.toInt = a2 at *
  generalize b.x.toInt = b0 at *; generalize b.y.toInt = b1 at *; generalize b.z.toInt = b2 at *
  go_enter Try.func43, Try.ntmps43
  go_wp2
  exact bodyPost_ret (v := .agg #[.int .i64 r0, .int .i64 r1, .int .i64 r2]) (by simp [results, Try.results43, go_sem, *]) rfl ⟨rfl, below3 w _ _ _⟩

set_option maxHeartbeats 4000000 in
theorem Scale_any (a : V3) (k : BitVec 64) (w : World) :
    Calls Try.prog 46 #[vv a, .int .i64 k.toInt] w fun e w' => e = .returned (vv (a.scale k)) ∧ Below w.heap.size w w' := by
  have p0 := v_mul a.x k; have p1 := v_mul a.y k; have p2 := v_mul a.z k
  unfold V3.scale vv
  simp only
  generalize (a.x * k).toInt = q0 at *; generalize (a.y * k).toInt = q1 at *; generalize (a.z * k).toInt = q2 at *
  generalize a.x.toInt = a0 at *; generalize a.y.toInt = a1 at *; generalize a.z.toInt = a2 at *
  generalize k.toInt = kk at *
  go_enter Try.func46, Try.ntmps46
  go_wp2
  refine wp_loop_rounds 4 ?_
  iterate 4 (rw [rounds_succ]; go_wp2)
  exact bodyPost_ret (v := .agg #[.int .i64 q0, .int .i64 q1, .int .i64 q2]) (by simp [results, Try.results46, go_sem, *]) rfl ⟨rfl, below2 w _ _⟩

/-- The operations of a drawn region, as the translation has them. -/
def det1 : Array Oper := #[
  { dst := some 7, op := .load 23 (.tmp 3), type := 23, pos := "ref.go:19", after := #[], guard := none },
  { dst := some 8, op := .load 23 (.tmp 4), type := 23, pos := "ref.go:19", after := #[], guard := none },
  { dst := some 9, op := .load 23 (.tmp 5), type := 23, pos := "ref.go:19", after := #[], guard := none },
  { dst := some 10, op := .call { callee := .value (.func 43), args := #[.tmp 8, .tmp 9], argTypes := #[23, 23] }, type := 23, pos := "ref.go:19", after := #[{ on := 1, ground := .data }, { on := 2, ground := .data }], guard := none },
  { dst := some 11, op := .call { callee := .value (.func 47), args := #[.tmp 7, .tmp 10], argTypes := #[23, 23] }, type := 2, pos := "ref.go:19", after := #[{ on := 0, ground := .data }, { on := 3, ground := .data }, { on := 3, ground := .chain }], guard := none },
  { dst := some 6, op := .assign (.tmp 11), type := 2, pos := "ref.go:19", after := #[{ on := 4, ground := .data }, { on := 4, ground := .chain }, { on := 0, ground := .phase }, { on := 1, ground := .phase }, { on := 2, ground := .phase }, { on := 3, ground := .phase }, { on := 4, ground := .phase }], guard := none }]
theorem det1_plain : Region.noSelect det1 = true := by kernel_rfl

set_option maxHeartbeats 4000000 in
theorem Det_any (a b c : V3) (w : World) :
    Calls Try.prog 48 #[vv a, vv b, vv c] w fun e w' => e = .returned (.int .i64 (a.dot (b.cross c)).toInt) ∧ Below w.heap.size w w' := by
  have CR := Lib.hid (Cross_any b c)
  have DO := Lib.hid (Dot_any a (b.cross c))
  obtain ⟨W0, hW0⟩ : ∃ W0, W0 = ((w.alloc (.cells #[.int .i64 a.x.toInt, .int .i64 a.y.toInt, .int .i64 a.z.toInt] 23)).alloc (.cells #[.int .i64 b.x.toInt, .int .i64 b.y.toInt, .int .i64 b.z.toInt] 23)).alloc (.cells #[.int .i64 c.x.toInt, .int .i64 c.y.toInt, .int .i64 c.z.toInt] 23) := ⟨_, rfl⟩
  have D3 := below3 w (.cells #[.int .i64 a.x.toInt, .int .i64 a.y.toInt, .int .i64 a.z.toInt] 23) (.cells #[.int .i64 b.x.toInt, .int .i64 b.y.toInt, .int .i64 b.z.toInt] 23) (.cells #[.int .i64 c.x.toInt, .int .i64 c.y.toInt, .int .i64 c.z.toInt] 23)
  have HA : Has3 (((w.alloc (.cells #[.int .i64 a.x.toInt, .int .i64 a.y.toInt, .int .i64 a.z.toInt] 23)).alloc (.cells #[.int .i64 b.x.toInt, .int .i64 b.y.toInt, .int .i64 b.z.toInt] 23)).alloc (.cells #[.int .i64 c.x.toInt, .int .i64 c.y.toInt, .int .i64 c.z.toInt] 23)) w.heap.size (.int .i64 a.x.toInt) (.int .i64 a.y.toInt) (.int .i64 a.z.toInt) := ((has3 w _ _ _ _).more _).more _
  have HB : Has3 (((w.alloc (.cells #[.int .i64 a.x.toInt, .int .i64 a.y.toInt, .int .i64 a.z.toInt] 23)).alloc (.cells #[.int .i64 b.x.toInt, .int .i64 b.y.toInt, .int .i64 b.z.toInt] 23)).alloc (.cells #[.int .i64 c.x.toInt, .int .i64 c.y.toInt, .int .i64 c.z.toInt] 23)) (w.heap.size + 1) (.int .i64 b.x.toInt) (.int .i64 b.y.toInt) (.int .i64 b.z.toInt) := (has3b w _ _ _ _ _).more _
  have HC : Has3 (((w.alloc (.cells #[.int .i64 a.x.toInt, .int .i64 a.y.toInt, .int .i64 a.z.toInt] 23)).alloc (.cells #[.int .i64 b.x.toInt, .int .i64 b.y.toInt, .int .i64 b.z.toInt] 23)).alloc (.cells #[.int .i64 c.x.toInt, .int .i64 c.y.toInt, .int .i64 c.z.toInt] 23)) (w.heap.size + 1 + 1) (.int .i64 c.x.toInt) (.int .i64 c.y.toInt) (.int .i64 c.z.toInt) := has3c w _ _ _ _ _ _
  rw [← hW0] at D3 HA HB HC
  have HW := Lib.hid hW0
  clear hW0
  generalize (a.dot (b.cross c)).toInt = r at *
  generalize b.cross c = x at *
  go_enter Try.func48, Try.ntmps48
  go_upto_region 1 with fail
  rw [← HW.out]
  have a0 : ∀ w', Below W0.heap.size W0 w' → w'.cell? ⟨w.heap.size, 0, none⟩ = some (.int .i64 a.x.toInt) := fun w' h => (HA.keep h).c0
  have a1 : ∀ w', Below W0.heap.size W0 w' → w'.cell? ⟨w.heap.size, 1, none⟩ = some (.int .i64 a.y.toInt) := fun w' h => (HA.keep h).c1
  have a2 : ∀ w', Below W0.heap.size W0 w' → w'.cell? ⟨w.heap.size, 2, none⟩ = some (.int .i64 a.z.toInt) := fun w' h => (HA.keep h).c2
  have b0 : ∀ w', Below W0.heap.size W0 w' → w'.cell? ⟨w.heap.size + 1, 0, none⟩ = some (.int .i64 b.x.toInt) := fun w' h => (HB.keep h).c0
  have b1 : ∀ w', Below W0.heap.size W0 w' → w'.cell? ⟨w.heap.size + 1, 1, none⟩ = some (.int .i64 b.y.toInt) := fun w' h => (HB.keep h).c1
  have b2 : ∀ w', Below W0.heap.size W0 w' → w'.cell? ⟨w.heap.size + 1, 2, none⟩ = some (.int .i64 b.z.toInt) := fun w' h => (HB.keep h).c2
  have c0 : ∀ w', Below W0.heap.size W0 w' → w'.cell? ⟨w.heap.size + 1 + 1, 0, none⟩ = some (.int .i64 c.x.toInt) := fun w' h => (HC.keep h).c0
  have c1 : ∀ w', Below W0.heap.size W0 w' → w'.cell? ⟨w.heap.size + 1 + 1, 1, none⟩ = some (.int .i64 c.y.toInt) := fun w' h => (HC.keep h).c1
  have c2 : ∀ w', Below W0.heap.size W0 w' → w'.cell? ⟨w.heap.size + 1 + 1, 2, none⟩ = some (.int .i64 c.z.toInt) := fun w' h => (HC.keep h).c2
  clear HA HB HC HW
  change (Code.region 1 det1 true).wp Try.prog _ _ _
  refine wp_region_noPanic ?_
  refine wp_region_held_drew (S := fun w' => Below W0.heap.size W0 w') (by kernel_rfl) ((Below.refl _ _).drew) (fun hHeld => ?_)
  refine wpAnyH_take (i := 0) (oi := ({ dst := some 7, op := .load 23 (.tmp 3), type := 23, pos := "ref.go:19", after := #[], guard := none } : Oper)) (v := ?vs1_0) rfl det1_plain (by as_aux_lemma => kernel_rfl) (by as_aux_lemma => kernel_rfl) (fun _ _ _ h => h) (Or.inl ⟨by rfl, ?ys1_0⟩) (by assumption) ?rs1_0
  case ys1_0 => (intro w hSw; (try dsimp only at hSw); go_simp; try with_reducible rfl)
  try simp only [Act.put, List.setIfInBounds_toArray, List.set_cons_zero, List.set_cons_succ]
  refine wpAnyH_take (i := 1) (oi := ({ dst := some 8, op := .load 23 (.tmp 4), type := 23, pos := "ref.go:19", after := #[], guard := none } : Oper)) (v := ?vs1_1) rfl det1_plain (by as_aux_lemma => kernel_rfl) (by as_aux_lemma => kernel_rfl) (fun _ _ _ h => h) (Or.inl ⟨by rfl, ?ys1_1⟩) (by assumption) ?rs1_1
  case ys1_1 => (intro w hSw; (try dsimp only at hSw); go_simp; try with_reducible rfl)
  try simp only [Act.put, List.setIfInBounds_toArray, List.set_cons_zero, List.set_cons_succ]
  refine wpAnyH_take (i := 2) (oi := ({ dst := some 9, op := .load 23 (.tmp 5), type := 23, pos := "ref.go:19", after := #[], guard := none } : Oper)) (v := ?vs1_2) rfl det1_plain (by as_aux_lemma => kernel_rfl) (by as_aux_lemma => kernel_rfl) (fun _ _ _ h => h) (Or.inl ⟨by rfl, ?ys1_2⟩) (by assumption) ?rs1_2
  case ys1_2 => (intro w hSw; (try dsimp only at hSw); go_simp; try with_reducible rfl)
  try simp only [Act.put, List.setIfInBounds_toArray, List.set_cons_zero, List.set_cons_succ]
  refine wpAnyH_ready (rs := [3]) (by as_aux_lemma => kernel_rfl) (by simp) ?_
  refine AllReadyH.cons (o := ({ dst := some 10, op := .call { callee := .value (.func 43), args := #[.tmp 8, .tmp 9], argTypes := #[23, 23] }, type := 23, pos := "ref.go:19", after := #[{ on := 1, ground := .data }, { on := 2, ground := .data }], guard := none } : Oper)) rfl (fun KK hK => ?_) AllReadyH.nil
  rw [if_pos (by rfl)]
  go_simp
  go_at_call 43; refine (CR.out _).mono ?_; rintro e w1 ⟨rfl, hb1⟩
  go_wp2_with fail
  refine hK.out _ _ ?_ (fun hHeld1 => ?_)
  · exact belowT (by assumption) hb1
  clear hK KK hb1
  try simp only [Act.put, List.setIfInBounds_toArray, List.set_cons_zero, List.set_cons_succ]
  refine wpAnyH_ready (rs := [4]) (by as_aux_lemma => kernel_rfl) (by simp) ?_
  refine AllReadyH.cons (o := ({ dst := some 11, op := .call { callee := .value (.func 47), args := #[.tmp 7, .tmp 10], argTypes := #[23, 23] }, type := 2, pos := "ref.go:19", after := #[{ on := 0, ground := .data }, { on := 3, ground := .data }, { on := 3, ground := .chain }], guard := none } : Oper)) rfl (fun KK hK => ?_) AllReadyH.nil
  rw [if_pos (by rfl)]
  go_simp
  go_at_call 47; refine (DO.out _).mono ?_; rintro e w2 ⟨rfl, hb2⟩
  go_wp2_with fail
  refine hK.out _ _ ?_ (fun hHeld2 => ?_)
  · exact belowT (by assumption) hb2
  clear hK KK hb2 hHeld1
  try simp only [Act.put, List.setIfInBounds_toArray, List.set_cons_zero, List.set_cons_succ]
  refine wpAnyH_take (i := 5) (oi := ({ dst := some 6, op := .assign (.tmp 11), type := 2, pos := "ref.go:19", after := #[{ on := 4, ground := .data }, { on := 4, ground := .chain }, { on := 0, ground := .phase }, { on := 1, ground := .phase }, { on := 2, ground := .phase }, { on := 3, ground := .phase }, { on := 4, ground := .phase }], guard := none } : Oper)) (v := ?vs1_5) rfl det1_plain (by as_aux_lemma => kernel_rfl) (by as_aux_lemma => kernel_rfl) (fun _ _ _ h => h) (Or.inl ⟨by rfl, ?ys1_5⟩) (by assumption) ?rs1_5
  case ys1_5 => (intro w hSw; (try dsimp only at hSw); go_simp; try with_reducible rfl)
  try simp only [Act.put, List.setIfInBounds_toArray, List.set_cons_zero, List.set_cons_succ]
  refine wpAnyH_done (by as_aux_lemma => kernel_rfl) ?_ _
  refine NoPanic.normal ?_
  go_wp2_with fail
  go_ret
  exact ⟨rfl, belowT D3 (by assumption)⟩

set_option maxHeartbeats 4000000 in
theorem One_any (i : Int) (w : World) :
    Calls Try.prog 44 #[.int .i64 i] w fun e w' => e = .returned (vv (V3.one i)) ∧ Below w.heap.size w w' := by
  by_cases h0 : i = 0
  · subst h0
    go_enter Try.func44, Try.ntmps44
    go_wp2
    exact bodyPost_ret (v := .agg #[.int .i64 1, .int .i64 0, .int .i64 0]) (by simp [results, Try.results44, go_sem]) rfl ⟨rfl, below2 w _ _⟩
  by_cases h1 : i = 1
  · subst h1
    go_enter Try.func44, Try.ntmps44
    go_wp2
    exact bodyPost_ret (v := .agg #[.int .i64 0, .int .i64 1, .int .i64 0]) (by simp [results, Try.results44, go_sem]) rfl ⟨rfl, below2 w _ _⟩
  by_cases h2 : i = 2
  · subst h2
    go_enter Try.func44, Try.ntmps44
    go_wp2
    exact bodyPost_ret (v := .agg #[.int .i64 0, .int .i64 0, .int .i64 1]) (by simp [results, Try.results44, go_sem]) rfl ⟨rfl, below2 w _ _⟩
  have e : V3.one i = ⟨0, 0, 0⟩ := by unfold V3.one; rw [if_neg h0, if_neg h1, if_neg h2]
  rw [e]
  by_cases hn : 0 ≤ i
  · have d : decide (i < 3) = false := decide_eq_false (by omega)
    go_enter Try.func44, Try.ntmps44
    go_wp2
    exact bodyPost_ret (v := .agg #[.int .i64 0, .int .i64 0, .int .i64 0]) (by simp [results, Try.results44, go_sem]) rfl ⟨rfl, below2 w _ _⟩
  · have d : decide (0 ≤ i) = false := decide_eq_false hn
    go_enter Try.func44, Try.ntmps44
    go_wp2
    exact bodyPost_ret (v := .agg #[.int .i64 0, .int .i64 0, .int .i64 0]) (by simp [results, Try.results44, go_sem]) rfl ⟨rfl, below2 w _ _⟩

end Ref7
end Go.Proofs.Ytjdpcmcekockgaa
