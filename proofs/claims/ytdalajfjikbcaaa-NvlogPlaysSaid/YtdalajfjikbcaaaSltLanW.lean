/- The landed slot's written, Bytes. -/
import Derived.Test.YtdalajfjikbcaaaSltLanA
import Derived.Test.YtdalajfjikbcaaaSltRefB
import Derived.Test.YtdalajfjikbcaaaByArr
import Derived.Test.YtdalajfjikbcaaaLanPut
import Derived.Test.YtdalajfjikbcaaaLanCrcA
import Derived.Test.YtdalajfjikbcaaaRebase
namespace Go.Proofs.Ytdalajfjikbcaaa
open Go.RowKit

namespace Lan18
theorem info12 : (Try.prog.info? 57).map (·.size) = some 12 := by kernel_rfl
/-- The operations of a drawn region, as the translation has them. -/
def wr1 : Array Oper := #[
  { dst := some 6, op := .move (.tmp 1), type := 45, pos := "slot.go:53", after := #[], guard := none },
  { dst := some 7, op := .call { callee := .value (.func 35), args := #[.tmp 6], argTypes := #[45] }, type := 5, pos := "slot.go:54", after := #[{ on := 0, ground := .data }], guard := none },
  { dst := some 8, op := .fieldAddr 26 (.tmp 2) 0, type := 0, pos := "slot.go:53", after := #[], guard := none },
  { dst := some 9, op := .load 3 (.tmp 8), type := 3, pos := "slot.go:53", after := #[{ on := 2, ground := .data }], guard := none },
  { dst := some 10, op := .convert 3 5 (.tmp 9), type := 5, pos := "slot.go:53", after := #[{ on := 3, ground := .data }], guard := none },
  { dst := some 11, op := .fieldAddr 26 (.tmp 2) 1, type := 0, pos := "slot.go:53", after := #[], guard := none },
  { dst := some 12, op := .load 3 (.tmp 11), type := 3, pos := "slot.go:53", after := #[{ on := 5, ground := .data }], guard := none },
  { dst := some 13, op := .convert 3 5 (.tmp 12), type := 5, pos := "slot.go:53", after := #[{ on := 6, ground := .data }], guard := none },
  { dst := some 14, op := .fieldAddr 26 (.tmp 2) 2, type := 0, pos := "slot.go:53", after := #[], guard := none },
  { dst := some 15, op := .load 3 (.tmp 14), type := 3, pos := "slot.go:53", after := #[{ on := 8, ground := .data }], guard := none },
  { dst := some 16, op := .convert 3 5 (.tmp 15), type := 5, pos := "slot.go:53", after := #[{ on := 9, ground := .data }], guard := none },
  { dst := some 17, op := .move (.tmp 1), type := 45, pos := "slot.go:53", after := #[], guard := none },
  { dst := some 18, op := .call { callee := .value (.func 35), args := #[.tmp 17], argTypes := #[45] }, type := 5, pos := "slot.go:59", after := #[{ on := 11, ground := .data }, { on := 1, ground := .chain }], guard := none },
  { dst := some 19, op := .build 57 #[(0, .tmp 7), (5, .tmp 10), (6, .tmp 13), (7, .tmp 16), (8, .const (.int .u8 1)), (11, .tmp 18)], type := 57, pos := "slot.go:53", after := #[{ on := 1, ground := .data }, { on := 4, ground := .data }, { on := 7, ground := .data }, { on := 10, ground := .data }, { on := 12, ground := .data }], guard := none },
  { dst := some 5, op := .alloc 57, type := 0, pos := "slot.go:53", after := #[], guard := none },
  { dst := none, op := .store 57 (.tmp 5) (.tmp 19), type := 0, pos := "slot.go:53", after := #[{ on := 14, ground := .data }, { on := 13, ground := .data }, { on := 12, ground := .chain }, { on := 0, ground := .phase }, { on := 1, ground := .phase }, { on := 2, ground := .phase }, { on := 3, ground := .phase }, { on := 4, ground := .phase }, { on := 5, ground := .phase }, { on := 6, ground := .phase }, { on := 7, ground := .phase }, { on := 8, ground := .phase }, { on := 9, ground := .phase }, { on := 10, ground := .phase }, { on := 11, ground := .phase }, { on := 12, ground := .phase }, { on := 13, ground := .phase }, { on := 14, ground := .phase }], guard := none }]
theorem wr1_plain : Region.noSelect wr1 = true := by kernel_rfl

/-- The operations of a drawn region, as the translation has them. -/
def wr2 : Array Oper := #[
  { dst := some 20, op := .slice 57 (.tmp 5) (some (.const (.int .i64 1))) none none, type := 22, pos := "slot.go:61", after := #[], guard := none },
  { dst := some 21, op := .move (.tmp 1), type := 45, pos := "slot.go:61", after := #[], guard := none },
  { dst := some 22, op := .convert 45 42 (.tmp 21), type := 42, pos := "slot.go:61", after := #[{ on := 1, ground := .data }], guard := none },
  { dst := some 23, op := .call { callee := .value (.func 36), args := #[.tmp 22, .const (.int .i64 4)], argTypes := #[42, 3] }, type := 22, pos := "slot.go:61", after := #[{ on := 2, ground := .data }], guard := none },
  { dst := some 24, op := .call { callee := .builtin .copy, args := #[.tmp 20, .tmp 23], argTypes := #[22, 22] }, type := 3, pos := "slot.go:61", after := #[{ on := 0, ground := .data }, { on := 3, ground := .data }, { on := 3, ground := .chain }], guard := none }]
theorem wr2_plain : Region.noSelect wr2 = true := by kernel_rfl

/-- The operations of a drawn region, as the translation has them. -/
def wr3 : Array Oper := #[
  { dst := some 25, op := .slice 57 (.tmp 5) (some (.const (.int .i64 9))) none none, type := 22, pos := "slot.go:62", after := #[], guard := none },
  { dst := some 26, op := .slice 57 (.tmp 5) none (some (.const (.int .i64 9))) none, type := 22, pos := "slot.go:62", after := #[], guard := none },
  { dst := some 27, op := .call { callee := .value (.func 37), args := #[.tmp 26], argTypes := #[22] }, type := 63, pos := "slot.go:62", after := #[{ on := 1, ground := .data }], guard := none },
  { dst := some 28, op := .convert 63 42 (.tmp 27), type := 42, pos := "slot.go:62", after := #[{ on := 2, ground := .data }], guard := none },
  { dst := some 29, op := .call { callee := .value (.func 36), args := #[.tmp 28, .const (.int .i64 2)], argTypes := #[42, 3] }, type := 22, pos := "slot.go:62", after := #[{ on := 3, ground := .data }, { on := 2, ground := .chain }], guard := none },
  { dst := some 30, op := .call { callee := .builtin .copy, args := #[.tmp 25, .tmp 29], argTypes := #[22, 22] }, type := 3, pos := "slot.go:62", after := #[{ on := 0, ground := .data }, { on := 4, ground := .data }, { on := 4, ground := .chain }], guard := none }]
theorem wr3_plain : Region.noSelect wr3 = true := by kernel_rfl

set_option maxHeartbeats 8000000 in
set_option maxRecDepth 100000 in
theorem written_core (x y z : Int) (s : Nat) (g c5 c6 c7 : UInt8) (l0 l1 l2 l9 : List UInt8) (X : BitVec 16) (V : Array Value) (w : World)
    (e5 : IntKind.u8.wrap x = (c5.toNat : Int)) (e6 : IntKind.u8.wrap y = (c6.toNat : Int)) (e7 : IntKind.u8.wrap z = (c7.toNat : Int)) (hs : (s : Int) ≤ 4294967295)
    (h0 : [g, 0, 0, 0, 0, c5, c6, c7, 1, 0, 0, g] = l0) (h1 : putL l0 1 (Oct.be 4 s) = l1) (hl1 : l1.length = 12) (h9 : l1.take 9 = l9) (hx : sumOf l9 = X) (h2 : putL l1 9 [hiB X, loB X] = l2) (hV : (vals l2).toArray = V)
    (HG : Hid (∀ w, Calls Try.prog 35 #[.int .u32 s] w fun e w' => e = .returned (.int .u8 (g.toNat : Int)) ∧ Below w.heap.size w w')) :
    Calls Try.prog 27 #[.agg #[.int .i64 x, .int .i64 y, .int .i64 z], .int .u32 s] w fun e w' => e = .returned (.agg V) ∧ Below w.heap.size w w' := by
  have hl0 : l0.length = 12 := by rw [← h0]; rfl
  have HV0 := Lib.hid (show ([.int .u8 (g.toNat : Int), .int .u8 0, .int .u8 0, .int .u8 0, .int .u8 0, .int .u8 (c5.toNat : Int), .int .u8 (c6.toNat : Int), .int .u8 (c7.toNat : Int), .int .u8 1, .int .u8 0, .int .u8 0, .int .u8 (g.toNat : Int)] : List Value) = vals l0 from by rw [← h0]; rfl)
  have HL0 := Lib.hid (And.intro hl0 (And.intro h1 (And.intro hl1 (And.intro h9 (And.intro hx (And.intro h2 hV))))))
  have hbe : (Oct.be 4 s).length = 4 := Oct.be_length 4 s
  have hs64 : (s : Int) ≤ 18446744073709551615 := by omega
  have ews : IntKind.u64.wrap (s : Int) = (s : Int) := by rw [IntKind.wrap_u64]; omega
  have B1 := Lib.hid (below2 w (.cells #[.int .i64 x, .int .i64 y, .int .i64 z] 26) (.cells #[.int .u8 0, .int .u8 0, .int .u8 0, .int .u8 0, .int .u8 0, .int .u8 0, .int .u8 0, .int .u8 0, .int .u8 0, .int .u8 0, .int .u8 0, .int .u8 0] 57))
  have H1 := Lib.hid ((hasl w [.int .i64 x, .int .i64 y, .int .i64 z] 26).keep (below1 _ (.cells #[.int .u8 0, .int .u8 0, .int .u8 0, .int .u8 0, .int .u8 0, .int .u8 0, .int .u8 0, .int .u8 0, .int .u8 0, .int .u8 0, .int .u8 0, .int .u8 0] 57)))
  have O1 := Lib.hid (ownl (w.alloc (.cells #[.int .i64 x, .int .i64 y, .int .i64 z] 26)) [.int .u8 0, .int .u8 0, .int .u8 0, .int .u8 0, .int .u8 0, .int .u8 0, .int .u8 0, .int .u8 0, .int .u8 0, .int .u8 0, .int .u8 0, .int .u8 0] 57)
  rw [heap1] at O1
  clear h0 h1 hl1 h9 hx h2 hV hl0 hs
  go_enter Try.func27, Try.ntmps27
  go_upto_region 1 with fail
  obtain ⟨W0, hW0⟩ : ∃ W0, W0 = (w.alloc (.cells #[.int .i64 x, .int .i64 y, .int .i64 z] 26)).alloc (.cells #[.int .u8 0, .int .u8 0, .int .u8 0, .int .u8 0, .int .u8 0, .int .u8 0, .int .u8 0, .int .u8 0, .int .u8 0, .int .u8 0, .int .u8 0, .int .u8 0] 57) := ⟨_, rfl⟩
  have hlt : Hid (w.heap.size + 1 < W0.heap.size) := Lib.hid (by rw [hW0]; simp)
  rw [← hW0] at B1 H1 O1 ⊢
  clear hW0
  have q0 := H1.out.at 0 rfl
  have q1 := H1.out.at 1 rfl
  have q2 := H1.out.at 2 rfl
  have r0 : ∀ w', Below W0.heap.size W0 w' → w'.cell? ⟨w.heap.size, 0, none⟩ = some (.int .i64 x) := fun w' h => keepc h q0
  have r1 : ∀ w', Below W0.heap.size W0 w' → w'.cell? ⟨w.heap.size, 1, none⟩ = some (.int .i64 y) := fun w' h => keepc h q1
  have r2 : ∀ w', Below W0.heap.size W0 w' → w'.cell? ⟨w.heap.size, 2, none⟩ = some (.int .i64 z) := fun w' h => keepc h q2
  clear q0 q1 q2 H1
  go_cut [5] from 5 to 32 (fun u5 wx => ∃ gs, u5 = .pointer (some ⟨gs, 0, none⟩) ∧ Below W0.heap.size W0 wx ∧ W0.heap.size ≤ gs ∧ OwnL wx gs [.int .u8 (g.toNat : Int), .int .u8 0, .int .u8 0, .int .u8 0, .int .u8 0, .int .u8 (c5.toNat : Int), .int .u8 (c6.toNat : Int), .int .u8 (c7.toNat : Int), .int .u8 1, .int .u8 0, .int .u8 0, .int .u8 (g.toNat : Int)])
  case first =>
    change (Code.region 1 wr1 true).wp Try.prog _ _ _
    refine wp_region_noPanic ?_
    refine wp_region_held_drew (S := fun w' => Below W0.heap.size W0 w') (by kernel_rfl) ((Below.refl _ _).drew) (fun hHeld => ?_)
    refine wpAnyH_take (i := 0) (oi := ({ dst := some 6, op := .move (.tmp 1), type := 45, pos := "slot.go:53", after := #[], guard := none } : Oper)) (v := ?vv6_1_) rfl wr1_plain (by as_aux_lemma => kernel_rfl) (by as_aux_lemma => kernel_rfl) (fun _ _ _ h => h) (Or.inl ⟨by rfl, ?yv6_1_⟩) (by assumption) ?rv6_1_
    case yv6_1_ => (intro w hSw; (try dsimp only at hSw); go_simp; try with_reducible rfl)
    try simp only [Act.put, List.setIfInBounds_toArray, List.set_cons_zero, List.set_cons_succ]
    refine wpAnyH_take (i := 2) (oi := ({ dst := some 8, op := .fieldAddr 26 (.tmp 2) 0, type := 0, pos := "slot.go:53", after := #[], guard := none } : Oper)) (v := ?vv6_2_) rfl wr1_plain (by as_aux_lemma => kernel_rfl) (by as_aux_lemma => kernel_rfl) (fun _ _ _ h => h) (Or.inl ⟨by rfl, ?yv6_2_⟩) (by assumption) ?rv6_2_
    case yv6_2_ => (intro w hSw; (try dsimp only at hSw); go_simp; try with_reducible rfl)
    try simp only [Act.put, List.setIfInBounds_toArray, List.set_cons_zero, List.set_cons_succ]
    refine wpAnyH_take (i := 3) (oi := ({ dst := some 9, op := .load 3 (.tmp 8), type := 3, pos := "slot.go:53", after := #[{ on := 2, ground := .data }], guard := none } : Oper)) (v := ?vv6_3_) rfl wr1_plain (by as_aux_lemma => kernel_rfl) (by as_aux_lemma => kernel_rfl) (fun _ _ _ h => h) (Or.inl ⟨by rfl, ?yv6_3_⟩) (by assumption) ?rv6_3_
    case yv6_3_ => (intro w hSw; (try dsimp only at hSw); go_simp; try with_reducible rfl)
    try simp only [Act.put, List.setIfInBounds_toArray, List.set_cons_zero, List.set_cons_succ]
    refine wpAnyH_take (i := 4) (oi := ({ dst := some 10, op := .convert 3 5 (.tmp 9), type := 5, pos := "slot.go:53", after := #[{ on := 3, ground := .data }], guard := none } : Oper)) (v := ?vv6_4_) rfl wr1_plain (by as_aux_lemma => kernel_rfl) (by as_aux_lemma => kernel_rfl) (fun _ _ _ h => h) (Or.inl ⟨by rfl, ?yv6_4_⟩) (by assumption) ?rv6_4_
    case yv6_4_ => (intro w hSw; (try dsimp only at hSw); go_simp; try with_reducible rfl)
    try simp only [Act.put, List.setIfInBounds_toArray, List.set_cons_zero, List.set_cons_succ]
    refine wpAnyH_take (i := 5) (oi := ({ dst := some 11, op := .fieldAddr 26 (.tmp 2) 1, type := 0, pos := "slot.go:53", after := #[], guard := none } : Oper)) (v := ?vv6_5_) rfl wr1_plain (by as_aux_lemma => kernel_rfl) (by as_aux_lemma => kernel_rfl) (fun _ _ _ h => h) (Or.inl ⟨by rfl, ?yv6_5_⟩) (by assumption) ?rv6_5_
    case yv6_5_ => (intro w hSw; (try dsimp only at hSw); go_simp; try with_reducible rfl)
    try simp only [Act.put, List.setIfInBounds_toArray, List.set_cons_zero, List.set_cons_succ]
    refine wpAnyH_take (i := 6) (oi := ({ dst := some 12, op := .load 3 (.tmp 11), type := 3, pos := "slot.go:53", after := #[{ on := 5, ground := .data }], guard := none } : Oper)) (v := ?vv6_6_) rfl wr1_plain (by as_aux_lemma => kernel_rfl) (by as_aux_lemma => kernel_rfl) (fun _ _ _ h => h) (Or.inl ⟨by rfl, ?yv6_6_⟩) (by assumption) ?rv6_6_
    case yv6_6_ => (intro w hSw; (try dsimp only at hSw); go_simp; try with_reducible rfl)
    try simp only [Act.put, List.setIfInBounds_toArray, List.set_cons_zero, List.set_cons_succ]
    refine wpAnyH_take (i := 7) (oi := ({ dst := some 13, op := .convert 3 5 (.tmp 12), type := 5, pos := "slot.go:53", after := #[{ on := 6, ground := .data }], guard := none } : Oper)) (v := ?vv6_7_) rfl wr1_plain (by as_aux_lemma => kernel_rfl) (by as_aux_lemma => kernel_rfl) (fun _ _ _ h => h) (Or.inl ⟨by rfl, ?yv6_7_⟩) (by assumption) ?rv6_7_
    case yv6_7_ => (intro w hSw; (try dsimp only at hSw); go_simp; try with_reducible rfl)
    try simp only [Act.put, List.setIfInBounds_toArray, List.set_cons_zero, List.set_cons_succ]
    refine wpAnyH_take (i := 8) (oi := ({ dst := some 14, op := .fieldAddr 26 (.tmp 2) 2, type := 0, pos := "slot.go:53", after := #[], guard := none } : Oper)) (v := ?vv6_8_) rfl wr1_plain (by as_aux_lemma => kernel_rfl) (by as_aux_lemma => kernel_rfl) (fun _ _ _ h => h) (Or.inl ⟨by rfl, ?yv6_8_⟩) (by assumption) ?rv6_8_
    case yv6_8_ => (intro w hSw; (try dsimp only at hSw); go_simp; try with_reducible rfl)
    try simp only [Act.put, List.setIfInBounds_toArray, List.set_cons_zero, List.set_cons_succ]
    refine wpAnyH_take (i := 9) (oi := ({ dst := some 15, op := .load 3 (.tmp 14), type := 3, pos := "slot.go:53", after := #[{ on := 8, ground := .data }], guard := none } : Oper)) (v := ?vv6_9_) rfl wr1_plain (by as_aux_lemma => kernel_rfl) (by as_aux_lemma => kernel_rfl) (fun _ _ _ h => h) (Or.inl ⟨by rfl, ?yv6_9_⟩) (by assumption) ?rv6_9_
    case yv6_9_ => (intro w hSw; (try dsimp only at hSw); go_simp; try with_reducible rfl)
    try simp only [Act.put, List.setIfInBounds_toArray, List.set_cons_zero, List.set_cons_succ]
    refine wpAnyH_take (i := 10) (oi := ({ dst := some 16, op := .convert 3 5 (.tmp 15), type := 5, pos := "slot.go:53", after := #[{ on := 9, ground := .data }], guard := none } : Oper)) (v := ?vv6_10_) rfl wr1_plain (by as_aux_lemma => kernel_rfl) (by as_aux_lemma => kernel_rfl) (fun _ _ _ h => h) (Or.inl ⟨by rfl, ?yv6_10_⟩) (by assumption) ?rv6_10_
    case yv6_10_ => (intro w hSw; (try dsimp only at hSw); go_simp; try with_reducible rfl)
    try simp only [Act.put, List.setIfInBounds_toArray, List.set_cons_zero, List.set_cons_succ]
    refine wpAnyH_take (i := 11) (oi := ({ dst := some 17, op := .move (.tmp 1), type := 45, pos := "slot.go:53", after := #[], guard := none } : Oper)) (v := ?vv6_11_) rfl wr1_plain (by as_aux_lemma => kernel_rfl) (by as_aux_lemma => kernel_rfl) (fun _ _ _ h => h) (Or.inl ⟨by rfl, ?yv6_11_⟩) (by assumption) ?rv6_11_
    case yv6_11_ => (intro w hSw; (try dsimp only at hSw); go_simp; try with_reducible rfl)
    try simp only [Act.put, List.setIfInBounds_toArray, List.set_cons_zero, List.set_cons_succ]
    refine wpAnyH_ready (rs := [1, 14]) (by as_aux_lemma => kernel_rfl) (by simp) ?_
    refine AllReadyH.cons (o := ({ dst := some 7, op := .call { callee := .value (.func 35), args := #[.tmp 6], argTypes := #[45] }, type := 5, pos := "slot.go:54", after := #[{ on := 0, ground := .data }], guard := none } : Oper)) rfl (fun KK hK => ?_) (AllReadyH.cons (o := ({ dst := some 5, op := .alloc 57, type := 0, pos := "slot.go:53", after := #[], guard := none } : Oper)) rfl (fun KK hK => ?_) AllReadyH.nil)
    · skip
      rw [if_pos (by rfl)]
      go_simp
      go_at_call 35; refine (HG.out _).mono ?_; rintro e w1 ⟨rfl, hb1⟩
      go_wp2_with fail
      refine hK.out _ _ ?_ (fun hHeld1 => ?_)
      · exact belowT (by assumption) hb1
      have H1 : Below W0.heap.size W0 w1 := by assumption
      have S1 := H1.size
      clear hK KK hb1
      try simp only [Act.put, List.setIfInBounds_toArray, List.set_cons_zero, List.set_cons_succ]
      refine wpAnyH_ready (rs := [12, 14]) (by as_aux_lemma => kernel_rfl) (by simp) ?_
      refine AllReadyH.cons (o := ({ dst := some 18, op := .call { callee := .value (.func 35), args := #[.tmp 17], argTypes := #[45] }, type := 5, pos := "slot.go:59", after := #[{ on := 11, ground := .data }, { on := 1, ground := .chain }], guard := none } : Oper)) rfl (fun KK hK => ?_) (AllReadyH.cons (o := ({ dst := some 5, op := .alloc 57, type := 0, pos := "slot.go:53", after := #[], guard := none } : Oper)) rfl (fun KK hK => ?_) AllReadyH.nil)
      · skip
        rw [if_pos (by rfl)]
        go_simp
        go_at_call 35; refine (HG.out _).mono ?_; rintro e w2 ⟨rfl, hb2⟩
        go_wp2_with fail
        refine hK.out _ _ ?_ (fun hHeld2 => ?_)
        · exact belowT (by assumption) hb2
        have H2 : Below W0.heap.size W0 w2 := by assumption
        have S2 := H2.size
        clear hK KK hb2
        try simp only [Act.put, List.setIfInBounds_toArray, List.set_cons_zero, List.set_cons_succ]
        refine wpAnyH_take (i := 13) (oi := ({ dst := some 19, op := .build 57 #[(0, .tmp 7), (5, .tmp 10), (6, .tmp 13), (7, .tmp 16), (8, .const (.int .u8 1)), (11, .tmp 18)], type := 57, pos := "slot.go:53", after := #[{ on := 1, ground := .data }, { on := 4, ground := .data }, { on := 7, ground := .data }, { on := 10, ground := .data }, { on := 12, ground := .data }], guard := none } : Oper)) (v := ?vv6_12_) rfl wr1_plain (by as_aux_lemma => kernel_rfl) (by as_aux_lemma => kernel_rfl) (fun _ _ _ h => h) (Or.inl ⟨by rfl, ?yv6_12_⟩) (by assumption) ?rv6_12_
        case yv6_12_ => (intro w hSw; (try dsimp only at hSw); go_simp; try with_reducible rfl)
        try simp only [Act.put, List.setIfInBounds_toArray, List.set_cons_zero, List.set_cons_succ]
        refine wpAnyH_ready (rs := [14]) (by as_aux_lemma => kernel_rfl) (by simp) ?_
        refine AllReadyH.cons (o := ({ dst := some 5, op := .alloc 57, type := 0, pos := "slot.go:53", after := #[], guard := none } : Oper)) rfl (fun KK hK => ?_) AllReadyH.nil
        rw [if_pos (by rfl)]
        go_simp
        refine hK.out _ _ ?_ (fun _hHeldA => ?_)
        · first | exact belowT (by assumption) (below1 _ _) | exact (belowT (by assumption) (below1 _ _)).drew
        clear hK KK
        try simp only [Act.put, List.setIfInBounds_toArray, List.set_cons_zero, List.set_cons_succ]
        refine wpAnyH_ready (rs := [15]) (by as_aux_lemma => kernel_rfl) (by simp) ?_
        refine AllReadyH.cons (o := ({ dst := none, op := .store 57 (.tmp 5) (.tmp 19), type := 0, pos := "slot.go:53", after := #[{ on := 14, ground := .data }, { on := 13, ground := .data }, { on := 12, ground := .chain }, { on := 0, ground := .phase }, { on := 1, ground := .phase }, { on := 2, ground := .phase }, { on := 3, ground := .phase }, { on := 4, ground := .phase }, { on := 5, ground := .phase }, { on := 6, ground := .phase }, { on := 7, ground := .phase }, { on := 8, ground := .phase }, { on := 9, ground := .phase }, { on := 10, ground := .phase }, { on := 11, ground := .phase }, { on := 12, ground := .phase }, { on := 13, ground := .phase }, { on := 14, ground := .phase }], guard := none } : Oper)) rfl (fun KK hK => ?_) AllReadyH.nil
        rw [if_pos (by rfl)]
        have p0 := (ownl w2 [.int .u8 0, .int .u8 0, .int .u8 0, .int .u8 0, .int .u8 0, .int .u8 0, .int .u8 0, .int .u8 0, .int .u8 0, .int .u8 0, .int .u8 0, .int .u8 0] 57).1.at 0 rfl
        have q0 := (ownl w2 [.int .u8 0, .int .u8 0, .int .u8 0, .int .u8 0, .int .u8 0, .int .u8 0, .int .u8 0, .int .u8 0, .int .u8 0, .int .u8 0, .int .u8 0, .int .u8 0] 57).2 0 (by simp)
        have p1 := (ownl w2 [.int .u8 0, .int .u8 0, .int .u8 0, .int .u8 0, .int .u8 0, .int .u8 0, .int .u8 0, .int .u8 0, .int .u8 0, .int .u8 0, .int .u8 0, .int .u8 0] 57).1.at 1 rfl
        have q1 := (ownl w2 [.int .u8 0, .int .u8 0, .int .u8 0, .int .u8 0, .int .u8 0, .int .u8 0, .int .u8 0, .int .u8 0, .int .u8 0, .int .u8 0, .int .u8 0, .int .u8 0] 57).2 1 (by simp)
        have p2 := (ownl w2 [.int .u8 0, .int .u8 0, .int .u8 0, .int .u8 0, .int .u8 0, .int .u8 0, .int .u8 0, .int .u8 0, .int .u8 0, .int .u8 0, .int .u8 0, .int .u8 0] 57).1.at 2 rfl
        have q2 := (ownl w2 [.int .u8 0, .int .u8 0, .int .u8 0, .int .u8 0, .int .u8 0, .int .u8 0, .int .u8 0, .int .u8 0, .int .u8 0, .int .u8 0, .int .u8 0, .int .u8 0] 57).2 2 (by simp)
        have p3 := (ownl w2 [.int .u8 0, .int .u8 0, .int .u8 0, .int .u8 0, .int .u8 0, .int .u8 0, .int .u8 0, .int .u8 0, .int .u8 0, .int .u8 0, .int .u8 0, .int .u8 0] 57).1.at 3 rfl
        have q3 := (ownl w2 [.int .u8 0, .int .u8 0, .int .u8 0, .int .u8 0, .int .u8 0, .int .u8 0, .int .u8 0, .int .u8 0, .int .u8 0, .int .u8 0, .int .u8 0, .int .u8 0] 57).2 3 (by simp)
        have p4 := (ownl w2 [.int .u8 0, .int .u8 0, .int .u8 0, .int .u8 0, .int .u8 0, .int .u8 0, .int .u8 0, .int .u8 0, .int .u8 0, .int .u8 0, .int .u8 0, .int .u8 0] 57).1.at 4 rfl
        have q4 := (ownl w2 [.int .u8 0, .int .u8 0, .int .u8 0, .int .u8 0, .int .u8 0, .int .u8 0, .int .u8 0, .int .u8 0, .int .u8 0, .int .u8 0, .int .u8 0, .int .u8 0] 57).2 4 (by simp)
        have p5 := (ownl w2 [.int .u8 0, .int .u8 0, .int .u8 0, .int .u8 0, .int .u8 0, .int .u8 0, .int .u8 0, .int .u8 0, .int .u8 0, .int .u8 0, .int .u8 0, .int .u8 0] 57).1.at 5 rfl
        have q5 := (ownl w2 [.int .u8 0, .int .u8 0, .int .u8 0, .int .u8 0, .int .u8 0, .int .u8 0, .int .u8 0, .int .u8 0, .int .u8 0, .int .u8 0, .int .u8 0, .int .u8 0] 57).2 5 (by simp)
        have p6 := (ownl w2 [.int .u8 0, .int .u8 0, .int .u8 0, .int .u8 0, .int .u8 0, .int .u8 0, .int .u8 0, .int .u8 0, .int .u8 0, .int .u8 0, .int .u8 0, .int .u8 0] 57).1.at 6 rfl
        have q6 := (ownl w2 [.int .u8 0, .int .u8 0, .int .u8 0, .int .u8 0, .int .u8 0, .int .u8 0, .int .u8 0, .int .u8 0, .int .u8 0, .int .u8 0, .int .u8 0, .int .u8 0] 57).2 6 (by simp)
        have p7 := (ownl w2 [.int .u8 0, .int .u8 0, .int .u8 0, .int .u8 0, .int .u8 0, .int .u8 0, .int .u8 0, .int .u8 0, .int .u8 0, .int .u8 0, .int .u8 0, .int .u8 0] 57).1.at 7 rfl
        have q7 := (ownl w2 [.int .u8 0, .int .u8 0, .int .u8 0, .int .u8 0, .int .u8 0, .int .u8 0, .int .u8 0, .int .u8 0, .int .u8 0, .int .u8 0, .int .u8 0, .int .u8 0] 57).2 7 (by simp)
        have p8 := (ownl w2 [.int .u8 0, .int .u8 0, .int .u8 0, .int .u8 0, .int .u8 0, .int .u8 0, .int .u8 0, .int .u8 0, .int .u8 0, .int .u8 0, .int .u8 0, .int .u8 0] 57).1.at 8 rfl
        have q8 := (ownl w2 [.int .u8 0, .int .u8 0, .int .u8 0, .int .u8 0, .int .u8 0, .int .u8 0, .int .u8 0, .int .u8 0, .int .u8 0, .int .u8 0, .int .u8 0, .int .u8 0] 57).2 8 (by simp)
        have p9 := (ownl w2 [.int .u8 0, .int .u8 0, .int .u8 0, .int .u8 0, .int .u8 0, .int .u8 0, .int .u8 0, .int .u8 0, .int .u8 0, .int .u8 0, .int .u8 0, .int .u8 0] 57).1.at 9 rfl
        have q9 := (ownl w2 [.int .u8 0, .int .u8 0, .int .u8 0, .int .u8 0, .int .u8 0, .int .u8 0, .int .u8 0, .int .u8 0, .int .u8 0, .int .u8 0, .int .u8 0, .int .u8 0] 57).2 9 (by simp)
        have p10 := (ownl w2 [.int .u8 0, .int .u8 0, .int .u8 0, .int .u8 0, .int .u8 0, .int .u8 0, .int .u8 0, .int .u8 0, .int .u8 0, .int .u8 0, .int .u8 0, .int .u8 0] 57).1.at 10 rfl
        have q10 := (ownl w2 [.int .u8 0, .int .u8 0, .int .u8 0, .int .u8 0, .int .u8 0, .int .u8 0, .int .u8 0, .int .u8 0, .int .u8 0, .int .u8 0, .int .u8 0, .int .u8 0] 57).2 10 (by simp)
        have p11 := (ownl w2 [.int .u8 0, .int .u8 0, .int .u8 0, .int .u8 0, .int .u8 0, .int .u8 0, .int .u8 0, .int .u8 0, .int .u8 0, .int .u8 0, .int .u8 0, .int .u8 0] 57).1.at 11 rfl
        have q11 := (ownl w2 [.int .u8 0, .int .u8 0, .int .u8 0, .int .u8 0, .int .u8 0, .int .u8 0, .int .u8 0, .int .u8 0, .int .u8 0, .int .u8 0, .int .u8 0, .int .u8 0] 57).2 11 (by simp)
        go_simp
        refine hK.out _ _ ?_ (fun _hHeldS => ?_)
        · exact belowT H2 (below1 w2 (.cells #[.int .u8 (g.toNat : Int), .int .u8 0, .int .u8 0, .int .u8 0, .int .u8 0, .int .u8 (c5.toNat : Int), .int .u8 (c6.toNat : Int), .int .u8 (c7.toNat : Int), .int .u8 1, .int .u8 0, .int .u8 0, .int .u8 (g.toNat : Int)] 57))
        clear hK KK
        try simp only [Act.put, List.setIfInBounds_toArray, List.set_cons_zero, List.set_cons_succ]
        refine wpAnyH_done (by as_aux_lemma => kernel_rfl) ?_ _
        refine NoPanic.normal ?_
        go_wp2_with fail
        go_meet
        exact ⟨_, rfl, belowT H2 (below1 w2 (.cells #[.int .u8 (g.toNat : Int), .int .u8 0, .int .u8 0, .int .u8 0, .int .u8 0, .int .u8 (c5.toNat : Int), .int .u8 (c6.toNat : Int), .int .u8 (c7.toNat : Int), .int .u8 1, .int .u8 0, .int .u8 0, .int .u8 (g.toNat : Int)] 57)), by omega, ownl w2 [.int .u8 (g.toNat : Int), .int .u8 0, .int .u8 0, .int .u8 0, .int .u8 0, .int .u8 (c5.toNat : Int), .int .u8 (c6.toNat : Int), .int .u8 (c7.toNat : Int), .int .u8 1, .int .u8 0, .int .u8 0, .int .u8 (g.toNat : Int)] 57⟩
      · skip
        rw [if_pos (by rfl)]
        go_simp
        refine hK.out _ _ ?_ (fun _hHeldA => ?_)
        · first | exact belowT (by assumption) (below1 _ _) | exact (belowT (by assumption) (below1 _ _)).drew
        clear hK KK
        try simp only [Act.put, List.setIfInBounds_toArray, List.set_cons_zero, List.set_cons_succ]
        refine wpAnyH_ready (rs := [12]) (by as_aux_lemma => kernel_rfl) (by simp) ?_
        refine AllReadyH.cons (o := ({ dst := some 18, op := .call { callee := .value (.func 35), args := #[.tmp 17], argTypes := #[45] }, type := 5, pos := "slot.go:59", after := #[{ on := 11, ground := .data }, { on := 1, ground := .chain }], guard := none } : Oper)) rfl (fun KK hK => ?_) AllReadyH.nil
        rw [if_pos (by rfl)]
        go_simp
        go_at_call 35; refine (HG.out _).mono ?_; rintro e w2 ⟨rfl, hb2⟩
        go_wp2_with fail
        refine hK.out _ _ ?_ (fun hHeld2 => ?_)
        · exact belowT (by assumption) hb2
        have OA := (ownl w1 [.int .u8 0, .int .u8 0, .int .u8 0, .int .u8 0, .int .u8 0, .int .u8 0, .int .u8 0, .int .u8 0, .int .u8 0, .int .u8 0, .int .u8 0, .int .u8 0] 57).keep hb2
        have H2 : Below W0.heap.size W0 w2 := by assumption
        have S2 := H2.size
        clear hK KK hb2
        try simp only [Act.put, List.setIfInBounds_toArray, List.set_cons_zero, List.set_cons_succ]
        refine wpAnyH_take (i := 13) (oi := ({ dst := some 19, op := .build 57 #[(0, .tmp 7), (5, .tmp 10), (6, .tmp 13), (7, .tmp 16), (8, .const (.int .u8 1)), (11, .tmp 18)], type := 57, pos := "slot.go:53", after := #[{ on := 1, ground := .data }, { on := 4, ground := .data }, { on := 7, ground := .data }, { on := 10, ground := .data }, { on := 12, ground := .data }], guard := none } : Oper)) (v := ?vv6_13_) rfl wr1_plain (by as_aux_lemma => kernel_rfl) (by as_aux_lemma => kernel_rfl) (fun _ _ _ h => h) (Or.inl ⟨by rfl, ?yv6_13_⟩) (by assumption) ?rv6_13_
        case yv6_13_ => (intro w hSw; (try dsimp only at hSw); go_simp; try with_reducible rfl)
        try simp only [Act.put, List.setIfInBounds_toArray, List.set_cons_zero, List.set_cons_succ]
        refine wpAnyH_ready (rs := [15]) (by as_aux_lemma => kernel_rfl) (by simp) ?_
        refine AllReadyH.cons (o := ({ dst := none, op := .store 57 (.tmp 5) (.tmp 19), type := 0, pos := "slot.go:53", after := #[{ on := 14, ground := .data }, { on := 13, ground := .data }, { on := 12, ground := .chain }, { on := 0, ground := .phase }, { on := 1, ground := .phase }, { on := 2, ground := .phase }, { on := 3, ground := .phase }, { on := 4, ground := .phase }, { on := 5, ground := .phase }, { on := 6, ground := .phase }, { on := 7, ground := .phase }, { on := 8, ground := .phase }, { on := 9, ground := .phase }, { on := 10, ground := .phase }, { on := 11, ground := .phase }, { on := 12, ground := .phase }, { on := 13, ground := .phase }, { on := 14, ground := .phase }], guard := none } : Oper)) rfl (fun KK hK => ?_) AllReadyH.nil
        rw [if_pos (by rfl)]
        have p0 := (OA).1.at 0 rfl
        have q0 := (OA).2 0 (by simp)
        have p1 := (OA).1.at 1 rfl
        have q1 := (OA).2 1 (by simp)
        have p2 := (OA).1.at 2 rfl
        have q2 := (OA).2 2 (by simp)
        have p3 := (OA).1.at 3 rfl
        have q3 := (OA).2 3 (by simp)
        have p4 := (OA).1.at 4 rfl
        have q4 := (OA).2 4 (by simp)
        have p5 := (OA).1.at 5 rfl
        have q5 := (OA).2 5 (by simp)
        have p6 := (OA).1.at 6 rfl
        have q6 := (OA).2 6 (by simp)
        have p7 := (OA).1.at 7 rfl
        have q7 := (OA).2 7 (by simp)
        have p8 := (OA).1.at 8 rfl
        have q8 := (OA).2 8 (by simp)
        have p9 := (OA).1.at 9 rfl
        have q9 := (OA).2 9 (by simp)
        have p10 := (OA).1.at 10 rfl
        have q10 := (OA).2 10 (by simp)
        have p11 := (OA).1.at 11 rfl
        have q11 := (OA).2 11 (by simp)
        go_simp
        refine hK.out _ _ ?_ (fun _hHeldS => ?_)
        · exact ((((((((((((H2).setCell (p := ⟨w1.heap.size, 0, none⟩) (show W0.heap.size ≤ w1.heap.size by omega) (.int .u8 (g.toNat : Int))).setCell (p := ⟨w1.heap.size, 1, none⟩) (show W0.heap.size ≤ w1.heap.size by omega) (.int .u8 0)).setCell (p := ⟨w1.heap.size, 2, none⟩) (show W0.heap.size ≤ w1.heap.size by omega) (.int .u8 0)).setCell (p := ⟨w1.heap.size, 3, none⟩) (show W0.heap.size ≤ w1.heap.size by omega) (.int .u8 0)).setCell (p := ⟨w1.heap.size, 4, none⟩) (show W0.heap.size ≤ w1.heap.size by omega) (.int .u8 0)).setCell (p := ⟨w1.heap.size, 5, none⟩) (show W0.heap.size ≤ w1.heap.size by omega) (.int .u8 (c5.toNat : Int))).setCell (p := ⟨w1.heap.size, 6, none⟩) (show W0.heap.size ≤ w1.heap.size by omega) (.int .u8 (c6.toNat : Int))).setCell (p := ⟨w1.heap.size, 7, none⟩) (show W0.heap.size ≤ w1.heap.size by omega) (.int .u8 (c7.toNat : Int))).setCell (p := ⟨w1.heap.size, 8, none⟩) (show W0.heap.size ≤ w1.heap.size by omega) (.int .u8 1)).setCell (p := ⟨w1.heap.size, 9, none⟩) (show W0.heap.size ≤ w1.heap.size by omega) (.int .u8 0)).setCell (p := ⟨w1.heap.size, 10, none⟩) (show W0.heap.size ≤ w1.heap.size by omega) (.int .u8 0)).setCell (p := ⟨w1.heap.size, 11, none⟩) (show W0.heap.size ≤ w1.heap.size by omega) (.int .u8 (g.toNat : Int))
        clear hK KK
        try simp only [Act.put, List.setIfInBounds_toArray, List.set_cons_zero, List.set_cons_succ]
        refine wpAnyH_done (by as_aux_lemma => kernel_rfl) ?_ _
        refine NoPanic.normal ?_
        go_wp2_with fail
        go_meet
        exact ⟨_, rfl, ((((((((((((H2).setCell (p := ⟨w1.heap.size, 0, none⟩) (show W0.heap.size ≤ w1.heap.size by omega) (.int .u8 (g.toNat : Int))).setCell (p := ⟨w1.heap.size, 1, none⟩) (show W0.heap.size ≤ w1.heap.size by omega) (.int .u8 0)).setCell (p := ⟨w1.heap.size, 2, none⟩) (show W0.heap.size ≤ w1.heap.size by omega) (.int .u8 0)).setCell (p := ⟨w1.heap.size, 3, none⟩) (show W0.heap.size ≤ w1.heap.size by omega) (.int .u8 0)).setCell (p := ⟨w1.heap.size, 4, none⟩) (show W0.heap.size ≤ w1.heap.size by omega) (.int .u8 0)).setCell (p := ⟨w1.heap.size, 5, none⟩) (show W0.heap.size ≤ w1.heap.size by omega) (.int .u8 (c5.toNat : Int))).setCell (p := ⟨w1.heap.size, 6, none⟩) (show W0.heap.size ≤ w1.heap.size by omega) (.int .u8 (c6.toNat : Int))).setCell (p := ⟨w1.heap.size, 7, none⟩) (show W0.heap.size ≤ w1.heap.size by omega) (.int .u8 (c7.toNat : Int))).setCell (p := ⟨w1.heap.size, 8, none⟩) (show W0.heap.size ≤ w1.heap.size by omega) (.int .u8 1)).setCell (p := ⟨w1.heap.size, 9, none⟩) (show W0.heap.size ≤ w1.heap.size by omega) (.int .u8 0)).setCell (p := ⟨w1.heap.size, 10, none⟩) (show W0.heap.size ≤ w1.heap.size by omega) (.int .u8 0)).setCell (p := ⟨w1.heap.size, 11, none⟩) (show W0.heap.size ≤ w1.heap.size by omega) (.int .u8 (g.toNat : Int)), by omega, ((((((((((((OA).set 0 (.int .u8 (g.toNat : Int))).set 1 (.int .u8 0)).set 2 (.int .u8 0)).set 3 (.int .u8 0)).set 4 (.int .u8 0)).set 5 (.int .u8 (c5.toNat : Int))).set 6 (.int .u8 (c6.toNat : Int))).set 7 (.int .u8 (c7.toNat : Int))).set 8 (.int .u8 1)).set 9 (.int .u8 0)).set 10 (.int .u8 0)).set 11 (.int .u8 (g.toNat : Int))⟩
    · skip
      rw [if_pos (by rfl)]
      go_simp
      refine hK.out _ _ ?_ (fun _hHeldA => ?_)
      · first | exact below1 W0 (.cells #[.int .u8 0, .int .u8 0, .int .u8 0, .int .u8 0, .int .u8 0, .int .u8 0, .int .u8 0, .int .u8 0, .int .u8 0, .int .u8 0, .int .u8 0, .int .u8 0] 57) | exact (below1 W0 (.cells #[.int .u8 0, .int .u8 0, .int .u8 0, .int .u8 0, .int .u8 0, .int .u8 0, .int .u8 0, .int .u8 0, .int .u8 0, .int .u8 0, .int .u8 0, .int .u8 0] 57)).drew
      clear hK KK
      try simp only [Act.put, List.setIfInBounds_toArray, List.set_cons_zero, List.set_cons_succ]
      refine wpAnyH_ready (rs := [1]) (by as_aux_lemma => kernel_rfl) (by simp) ?_
      refine AllReadyH.cons (o := ({ dst := some 7, op := .call { callee := .value (.func 35), args := #[.tmp 6], argTypes := #[45] }, type := 5, pos := "slot.go:54", after := #[{ on := 0, ground := .data }], guard := none } : Oper)) rfl (fun KK hK => ?_) AllReadyH.nil
      rw [if_pos (by rfl)]
      go_simp
      go_at_call 35; refine (HG.out _).mono ?_; rintro e w1 ⟨rfl, hb1⟩
      go_wp2_with fail
      refine hK.out _ _ ?_ (fun hHeld1 => ?_)
      · exact belowT (by assumption) hb1
      have OA := ((ownl W0 [.int .u8 0, .int .u8 0, .int .u8 0, .int .u8 0, .int .u8 0, .int .u8 0, .int .u8 0, .int .u8 0, .int .u8 0, .int .u8 0, .int .u8 0, .int .u8 0] 57).drew).keep hb1
      have H1 : Below W0.heap.size W0 w1 := by assumption
      have S1 := H1.size
      clear hK KK hb1
      try simp only [Act.put, List.setIfInBounds_toArray, List.set_cons_zero, List.set_cons_succ]
      refine wpAnyH_ready (rs := [12]) (by as_aux_lemma => kernel_rfl) (by simp) ?_
      refine AllReadyH.cons (o := ({ dst := some 18, op := .call { callee := .value (.func 35), args := #[.tmp 17], argTypes := #[45] }, type := 5, pos := "slot.go:59", after := #[{ on := 11, ground := .data }, { on := 1, ground := .chain }], guard := none } : Oper)) rfl (fun KK hK => ?_) AllReadyH.nil
      rw [if_pos (by rfl)]
      go_simp
      go_at_call 35; refine (HG.out _).mono ?_; rintro e w2 ⟨rfl, hb2⟩
      go_wp2_with fail
      refine hK.out _ _ ?_ (fun hHeld2 => ?_)
      · exact belowT (by assumption) hb2
      replace OA := (OA).keep hb2
      have H2 : Below W0.heap.size W0 w2 := by assumption
      have S2 := H2.size
      clear hK KK hb2
      try simp only [Act.put, List.setIfInBounds_toArray, List.set_cons_zero, List.set_cons_succ]
      refine wpAnyH_take (i := 13) (oi := ({ dst := some 19, op := .build 57 #[(0, .tmp 7), (5, .tmp 10), (6, .tmp 13), (7, .tmp 16), (8, .const (.int .u8 1)), (11, .tmp 18)], type := 57, pos := "slot.go:53", after := #[{ on := 1, ground := .data }, { on := 4, ground := .data }, { on := 7, ground := .data }, { on := 10, ground := .data }, { on := 12, ground := .data }], guard := none } : Oper)) (v := ?vv6_14_) rfl wr1_plain (by as_aux_lemma => kernel_rfl) (by as_aux_lemma => kernel_rfl) (fun _ _ _ h => h) (Or.inl ⟨by rfl, ?yv6_14_⟩) (by assumption) ?rv6_14_
      case yv6_14_ => (intro w hSw; (try dsimp only at hSw); go_simp; try with_reducible rfl)
      try simp only [Act.put, List.setIfInBounds_toArray, List.set_cons_zero, List.set_cons_succ]
      refine wpAnyH_ready (rs := [15]) (by as_aux_lemma => kernel_rfl) (by simp) ?_
      refine AllReadyH.cons (o := ({ dst := none, op := .store 57 (.tmp 5) (.tmp 19), type := 0, pos := "slot.go:53", after := #[{ on := 14, ground := .data }, { on := 13, ground := .data }, { on := 12, ground := .chain }, { on := 0, ground := .phase }, { on := 1, ground := .phase }, { on := 2, ground := .phase }, { on := 3, ground := .phase }, { on := 4, ground := .phase }, { on := 5, ground := .phase }, { on := 6, ground := .phase }, { on := 7, ground := .phase }, { on := 8, ground := .phase }, { on := 9, ground := .phase }, { on := 10, ground := .phase }, { on := 11, ground := .phase }, { on := 12, ground := .phase }, { on := 13, ground := .phase }, { on := 14, ground := .phase }], guard := none } : Oper)) rfl (fun KK hK => ?_) AllReadyH.nil
      rw [if_pos (by rfl)]
      have p0 := (OA).1.at 0 rfl
      have q0 := (OA).2 0 (by simp)
      have p1 := (OA).1.at 1 rfl
      have q1 := (OA).2 1 (by simp)
      have p2 := (OA).1.at 2 rfl
      have q2 := (OA).2 2 (by simp)
      have p3 := (OA).1.at 3 rfl
      have q3 := (OA).2 3 (by simp)
      have p4 := (OA).1.at 4 rfl
      have q4 := (OA).2 4 (by simp)
      have p5 := (OA).1.at 5 rfl
      have q5 := (OA).2 5 (by simp)
      have p6 := (OA).1.at 6 rfl
      have q6 := (OA).2 6 (by simp)
      have p7 := (OA).1.at 7 rfl
      have q7 := (OA).2 7 (by simp)
      have p8 := (OA).1.at 8 rfl
      have q8 := (OA).2 8 (by simp)
      have p9 := (OA).1.at 9 rfl
      have q9 := (OA).2 9 (by simp)
      have p10 := (OA).1.at 10 rfl
      have q10 := (OA).2 10 (by simp)
      have p11 := (OA).1.at 11 rfl
      have q11 := (OA).2 11 (by simp)
      go_simp
      refine hK.out _ _ ?_ (fun _hHeldS => ?_)
      · exact ((((((((((((H2).setCell (p := ⟨W0.heap.size, 0, none⟩) (show W0.heap.size ≤ W0.heap.size by omega) (.int .u8 (g.toNat : Int))).setCell (p := ⟨W0.heap.size, 1, none⟩) (show W0.heap.size ≤ W0.heap.size by omega) (.int .u8 0)).setCell (p := ⟨W0.heap.size, 2, none⟩) (show W0.heap.size ≤ W0.heap.size by omega) (.int .u8 0)).setCell (p := ⟨W0.heap.size, 3, none⟩) (show W0.heap.size ≤ W0.heap.size by omega) (.int .u8 0)).setCell (p := ⟨W0.heap.size, 4, none⟩) (show W0.heap.size ≤ W0.heap.size by omega) (.int .u8 0)).setCell (p := ⟨W0.heap.size, 5, none⟩) (show W0.heap.size ≤ W0.heap.size by omega) (.int .u8 (c5.toNat : Int))).setCell (p := ⟨W0.heap.size, 6, none⟩) (show W0.heap.size ≤ W0.heap.size by omega) (.int .u8 (c6.toNat : Int))).setCell (p := ⟨W0.heap.size, 7, none⟩) (show W0.heap.size ≤ W0.heap.size by omega) (.int .u8 (c7.toNat : Int))).setCell (p := ⟨W0.heap.size, 8, none⟩) (show W0.heap.size ≤ W0.heap.size by omega) (.int .u8 1)).setCell (p := ⟨W0.heap.size, 9, none⟩) (show W0.heap.size ≤ W0.heap.size by omega) (.int .u8 0)).setCell (p := ⟨W0.heap.size, 10, none⟩) (show W0.heap.size ≤ W0.heap.size by omega) (.int .u8 0)).setCell (p := ⟨W0.heap.size, 11, none⟩) (show W0.heap.size ≤ W0.heap.size by omega) (.int .u8 (g.toNat : Int))
      clear hK KK
      try simp only [Act.put, List.setIfInBounds_toArray, List.set_cons_zero, List.set_cons_succ]
      refine wpAnyH_done (by as_aux_lemma => kernel_rfl) ?_ _
      refine NoPanic.normal ?_
      go_wp2_with fail
      go_meet
      exact ⟨_, rfl, ((((((((((((H2).setCell (p := ⟨W0.heap.size, 0, none⟩) (show W0.heap.size ≤ W0.heap.size by omega) (.int .u8 (g.toNat : Int))).setCell (p := ⟨W0.heap.size, 1, none⟩) (show W0.heap.size ≤ W0.heap.size by omega) (.int .u8 0)).setCell (p := ⟨W0.heap.size, 2, none⟩) (show W0.heap.size ≤ W0.heap.size by omega) (.int .u8 0)).setCell (p := ⟨W0.heap.size, 3, none⟩) (show W0.heap.size ≤ W0.heap.size by omega) (.int .u8 0)).setCell (p := ⟨W0.heap.size, 4, none⟩) (show W0.heap.size ≤ W0.heap.size by omega) (.int .u8 0)).setCell (p := ⟨W0.heap.size, 5, none⟩) (show W0.heap.size ≤ W0.heap.size by omega) (.int .u8 (c5.toNat : Int))).setCell (p := ⟨W0.heap.size, 6, none⟩) (show W0.heap.size ≤ W0.heap.size by omega) (.int .u8 (c6.toNat : Int))).setCell (p := ⟨W0.heap.size, 7, none⟩) (show W0.heap.size ≤ W0.heap.size by omega) (.int .u8 (c7.toNat : Int))).setCell (p := ⟨W0.heap.size, 8, none⟩) (show W0.heap.size ≤ W0.heap.size by omega) (.int .u8 1)).setCell (p := ⟨W0.heap.size, 9, none⟩) (show W0.heap.size ≤ W0.heap.size by omega) (.int .u8 0)).setCell (p := ⟨W0.heap.size, 10, none⟩) (show W0.heap.size ≤ W0.heap.size by omega) (.int .u8 0)).setCell (p := ⟨W0.heap.size, 11, none⟩) (show W0.heap.size ≤ W0.heap.size by omega) (.int .u8 (g.toNat : Int)), by omega, ((((((((((((OA).set 0 (.int .u8 (g.toNat : Int))).set 1 (.int .u8 0)).set 2 (.int .u8 0)).set 3 (.int .u8 0)).set 4 (.int .u8 0)).set 5 (.int .u8 (c5.toNat : Int))).set 6 (.int .u8 (c6.toNat : Int))).set 7 (.int .u8 (c7.toNat : Int))).set 8 (.int .u8 1)).set 9 (.int .u8 0)).set 10 (.int .u8 0)).set 11 (.int .u8 (g.toNat : Int))⟩
  case rest =>
    rename World => wx
    obtain ⟨gs, rfl, hbx, hgs, ho⟩ := hcut
    rw [HV0.out] at ho
    have hpr : Pair wx gs l0 (w.heap.size + 1) [.int .u8 0, .int .u8 0, .int .u8 0, .int .u8 0, .int .u8 0, .int .u8 0, .int .u8 0, .int .u8 0, .int .u8 0, .int .u8 0, .int .u8 0, .int .u8 0] := ⟨OwnB.of ho, O1.out.keep hbx, by have := hlt.out; omega⟩
    have HB2 := Lib.hid (belowT B1.out hbx)
    have HGS := Lib.hid (show w.heap.size ≤ gs from by have := B1.out.size; omega)
    clear r0 r1 r2 hbx ho hgs HV0 HG O1 B1 hlt e5 e6 e7
    go_upto_region 2 with fail
    obtain ⟨W1, rfl⟩ : ∃ W1, W1 = wx := ⟨_, rfl⟩
    go_cut [] from 20 to 32 (fun wy => Below w.heap.size w wy ∧ Pair wy gs l1 (w.heap.size + 1) [.int .u8 0, .int .u8 0, .int .u8 0, .int .u8 0, .int .u8 0, .int .u8 0, .int .u8 0, .int .u8 0, .int .u8 0, .int .u8 0, .int .u8 0, .int .u8 0])
    case first =>
      change (Code.region 2 wr2 true).wp Try.prog _ _ _
      refine wp_region_noPanic ?_
      refine wp_region_held_drew (S := fun w' => Below w.heap.size w w') (by kernel_rfl) (HB2.out.drew) (fun hHeld => ?_)
      obtain ⟨w2, hX⟩ : ∃ x, x = W1.drew := ⟨_, rfl⟩
      have hb : Below W1.heap.size W1 w2 := hX ▸ (Below.refl _ _).drew
      rw [← hX] at hHeld ⊢
      have HB := hHeld; clear hHeld
      replace hpr := hpr.keep hb
      clear hb hX
      refine wpAnyH_take (i := 0) (oi := ({ dst := some 20, op := .slice 57 (.tmp 5) (some (.const (.int .i64 1))) none none, type := 22, pos := "slot.go:61", after := #[], guard := none } : Oper)) (v := ?vt7_1_) rfl wr2_plain (by as_aux_lemma => kernel_rfl) (by as_aux_lemma => kernel_rfl) (fun _ _ _ h => h) (Or.inl ⟨by rfl, ?yt7_1_⟩) HB ?rt7_1_
      case yt7_1_ => (intro w hSw; (try dsimp only at hSw); go_simp; try with_reducible rfl)
      try simp only [Act.put, List.setIfInBounds_toArray, List.set_cons_zero, List.set_cons_succ]
      refine wpAnyH_take (i := 1) (oi := ({ dst := some 21, op := .move (.tmp 1), type := 45, pos := "slot.go:61", after := #[], guard := none } : Oper)) (v := ?vt7_2_) rfl wr2_plain (by as_aux_lemma => kernel_rfl) (by as_aux_lemma => kernel_rfl) (fun _ _ _ h => h) (Or.inl ⟨by rfl, ?yt7_2_⟩) HB ?rt7_2_
      case yt7_2_ => (intro w hSw; (try dsimp only at hSw); go_simp; try with_reducible rfl)
      try simp only [Act.put, List.setIfInBounds_toArray, List.set_cons_zero, List.set_cons_succ]
      refine wpAnyH_take (i := 2) (oi := ({ dst := some 22, op := .convert 45 42 (.tmp 21), type := 42, pos := "slot.go:61", after := #[{ on := 1, ground := .data }], guard := none } : Oper)) (v := ?vt7_3_) rfl wr2_plain (by as_aux_lemma => kernel_rfl) (by as_aux_lemma => kernel_rfl) (fun _ _ _ h => h) (Or.inl ⟨by rfl, ?yt7_3_⟩) HB ?rt7_3_
      case yt7_3_ => (intro w hSw; (try dsimp only at hSw); go_simp; try with_reducible rfl)
      try simp only [Act.put, List.setIfInBounds_toArray, List.set_cons_zero, List.set_cons_succ]
      refine wpAnyH_ready (rs := [3]) (by as_aux_lemma => kernel_rfl) (by simp) ?_
      refine AllReadyH.cons (o := ({ dst := some 23, op := .call { callee := .value (.func 36), args := #[.tmp 22, .const (.int .i64 4)], argTypes := #[42, 3] }, type := 22, pos := "slot.go:61", after := #[{ on := 2, ground := .data }], guard := none } : Oper)) rfl (fun KK hK => ?_) AllReadyH.nil
      rw [if_pos (by rfl)]
      go_simp
      go_at_call 36; refine (Own.Put_any s 4 4 w2 hs64 (by decide)).mono ?_; rintro e w3 ⟨rfl, hw⟩
      have hp : Lies w3 w2.heap.size 0 (Oct.be 4 s) := hw ▸ lies_alloc _ _ _
      have hb : Below w2.heap.size w2 w3 := hw ▸ below1 _ _
      clear hw
      obtain ⟨gp, hgp⟩ : ∃ g, g = w2.heap.size := ⟨_, rfl⟩
      rw [← hgp] at hp ⊢
      clear hgp
      go_wp2_with fail
      refine hK.out _ _ ?_ (fun hHeld => ?_)
      · exact belowT HB hb
      replace HB := hHeld; clear hHeld hK KK
      replace hpr := hpr.keep hb
      clear hb
      try simp only [Act.put, List.setIfInBounds_toArray, List.set_cons_zero, List.set_cons_succ]
      refine wpAnyH_ready (rs := [4]) (by as_aux_lemma => kernel_rfl) (by simp) ?_
      refine AllReadyH.cons (o := ({ dst := some 24, op := .call { callee := .builtin .copy, args := #[.tmp 20, .tmp 23], argTypes := #[22, 22] }, type := 3, pos := "slot.go:61", after := #[{ on := 0, ground := .data }, { on := 3, ground := .data }, { on := 3, ground := .chain }], guard := none } : Oper)) rfl (fun KK hK => ?_) AllReadyH.nil
      rw [if_pos (by rfl)]
      refine oper_copy_pair (g := gs) (l := l0) (m := Oct.be 4 s) (k := 1) (c := 4) rfl hpr HB HGS.out rfl (by rw [hbe]; rfl) (lies_came hp (by rw [hbe]; decide) (by decide)) (by rw [hbe]; decide) (by rw [hbe]; decide) (by rw [hbe, HL0.out.1]; decide) (fun w4 hq HN => ?_)
      refine hK.out _ _ ?_ (fun hHeld => ?_)
      · exact HN
      replace HB := hHeld; clear hHeld hK KK HN
      clear hpr hp
      try simp only [Act.put, List.setIfInBounds_toArray, List.set_cons_zero, List.set_cons_succ]
      refine wpAnyH_done (by as_aux_lemma => kernel_rfl) ?_ _
      refine NoPanic.normal ?_
      go_wp2_with fail
      go_meet
      rw [HL0.out.2.1] at hq
      exact ⟨HB, hq⟩
    case rest =>
      rename World => wy
      obtain ⟨HBy, hpy⟩ := hcut
      have HB3 := Lib.hid HBy
      have hbe2 : Oct.be 2 X.toNat = [hiB X, loB X] := be2_sum X
      have hx1 : (X.toNat : Int) ≤ 18446744073709551615 := by have := X.isLt; omega
      have ewx : IntKind.u64.wrap (X.toNat : Int) = (X.toNat : Int) := by rw [IntKind.wrap_u64]; omega
      have hl9 : Hid (l9.length = 9) := Lib.hid (by rw [← HL0.out.2.2.2.1, List.length_take, HL0.out.2.2.1]; rfl)
      have HOF : Hid (∀ W, Pair W gs l1 (w.heap.size + 1) [.int .u8 0, .int .u8 0, .int .u8 0, .int .u8 0, .int .u8 0, .int .u8 0, .int .u8 0, .int .u8 0, .int .u8 0, .int .u8 0, .int .u8 0, .int .u8 0] → Calls Try.prog 37 #[.slice (some ⟨gs, 0, none⟩) 9 12] W fun e w' => e = .returned (.int .u16 (X.toNat : Int)) ∧ Below W.heap.size W w') := Lib.hid fun W hP => by
        have C := hP.1.came 9 (cap := 12) (by have := HL0.out.2.2.1; omega) (by decide) (by decide)
        rw [HL0.out.2.2.2.1] at C
        have k := Own6.Of_came C (by have := hl9.out; omega)
        rw [hl9.out] at k
        have ex : Crc.sum (bv l9) = X := HL0.out.2.2.2.2.1
        rw [ex] at k
        exact k
      clear HBy hpr HB2 hbe ews hs64
      go_upto_region 3 with fail
      obtain ⟨W2, rfl⟩ : ∃ W2, W2 = wy := ⟨_, rfl⟩
      go_cut [] from 25 to 32 (fun wz => Below w.heap.size w wz ∧ Pair wz gs l2 (w.heap.size + 1) [.int .u8 0, .int .u8 0, .int .u8 0, .int .u8 0, .int .u8 0, .int .u8 0, .int .u8 0, .int .u8 0, .int .u8 0, .int .u8 0, .int .u8 0, .int .u8 0])
      case first =>
        change (Code.region 3 wr3 true).wp Try.prog _ _ _
        refine wp_region_noPanic ?_
        refine wp_region_held_drew (S := fun w' => Below w.heap.size w w') (by kernel_rfl) (HB3.out.drew) (fun hHeld => ?_)
        obtain ⟨w3, hX⟩ : ∃ x, x = W2.drew := ⟨_, rfl⟩
        have hb : Below W2.heap.size W2 w3 := hX ▸ (Below.refl _ _).drew
        rw [← hX] at hHeld ⊢
        have HB := hHeld; clear hHeld
        replace hpy := hpy.keep hb
        clear hb hX
        refine wpAnyH_take (i := 0) (oi := ({ dst := some 25, op := .slice 57 (.tmp 5) (some (.const (.int .i64 9))) none none, type := 22, pos := "slot.go:62", after := #[], guard := none } : Oper)) (v := ?vt8_1_) rfl wr3_plain (by as_aux_lemma => kernel_rfl) (by as_aux_lemma => kernel_rfl) (fun _ _ _ h => h) (Or.inl ⟨by rfl, ?yt8_1_⟩) HB ?rt8_1_
        case yt8_1_ => (intro w hSw; (try dsimp only at hSw); go_simp; try with_reducible rfl)
        try simp only [Act.put, List.setIfInBounds_toArray, List.set_cons_zero, List.set_cons_succ]
        refine wpAnyH_take (i := 1) (oi := ({ dst := some 26, op := .slice 57 (.tmp 5) none (some (.const (.int .i64 9))) none, type := 22, pos := "slot.go:62", after := #[], guard := none } : Oper)) (v := ?vt8_2_) rfl wr3_plain (by as_aux_lemma => kernel_rfl) (by as_aux_lemma => kernel_rfl) (fun _ _ _ h => h) (Or.inl ⟨by rfl, ?yt8_2_⟩) HB ?rt8_2_
        case yt8_2_ => (intro w hSw; (try dsimp only at hSw); go_simp; try with_reducible rfl)
        try simp only [Act.put, List.setIfInBounds_toArray, List.set_cons_zero, List.set_cons_succ]
        refine wpAnyH_ready (rs := [2]) (by as_aux_lemma => kernel_rfl) (by simp) ?_
        refine AllReadyH.cons (o := ({ dst := some 27, op := .call { callee := .value (.func 37), args := #[.tmp 26], argTypes := #[22] }, type := 63, pos := "slot.go:62", after := #[{ on := 1, ground := .data }], guard := none } : Oper)) rfl (fun KK hK => ?_) AllReadyH.nil
        rw [if_pos (by rfl)]
        go_simp
        go_at_call 37; refine (HOF.out w3 hpy).mono ?_; rintro e w4 ⟨rfl, hb⟩
        go_wp2_with fail
        refine hK.out _ _ ?_ (fun hHeld => ?_)
        · exact belowT HB hb
        replace HB := hHeld; clear hHeld hK KK
        replace hpy := hpy.keep hb
        clear hb
        try simp only [Act.put, List.setIfInBounds_toArray, List.set_cons_zero, List.set_cons_succ]
        refine wpAnyH_take (i := 3) (oi := ({ dst := some 28, op := .convert 63 42 (.tmp 27), type := 42, pos := "slot.go:62", after := #[{ on := 2, ground := .data }], guard := none } : Oper)) (v := ?vt8_3_) rfl wr3_plain (by as_aux_lemma => kernel_rfl) (by as_aux_lemma => kernel_rfl) (fun _ _ _ h => h) (Or.inl ⟨by rfl, ?yt8_3_⟩) HB ?rt8_3_
        case yt8_3_ => (intro w hSw; (try dsimp only at hSw); go_simp; try with_reducible rfl)
        try simp only [Act.put, List.setIfInBounds_toArray, List.set_cons_zero, List.set_cons_succ]
        refine wpAnyH_ready (rs := [4]) (by as_aux_lemma => kernel_rfl) (by simp) ?_
        refine AllReadyH.cons (o := ({ dst := some 29, op := .call { callee := .value (.func 36), args := #[.tmp 28, .const (.int .i64 2)], argTypes := #[42, 3] }, type := 22, pos := "slot.go:62", after := #[{ on := 3, ground := .data }, { on := 2, ground := .chain }], guard := none } : Oper)) rfl (fun KK hK => ?_) AllReadyH.nil
        rw [if_pos (by rfl)]
        go_simp
        go_at_call 36; refine (Own.Put_any X.toNat 2 2 w4 hx1 (by decide)).mono ?_; rintro e w5 ⟨rfl, hw⟩
        have hp : Lies w5 w4.heap.size 0 (Oct.be 2 X.toNat) := hw ▸ lies_alloc _ _ _
        have hb : Below w4.heap.size w4 w5 := hw ▸ below1 _ _
        clear hw
        obtain ⟨gp, hgp⟩ : ∃ g, g = w4.heap.size := ⟨_, rfl⟩
        rw [← hgp] at hp ⊢
        clear hgp
        rw [hbe2] at hp
        go_wp2_with fail
        refine hK.out _ _ ?_ (fun hHeld => ?_)
        · exact belowT HB hb
        replace HB := hHeld; clear hHeld hK KK
        replace hpy := hpy.keep hb
        clear hb
        try simp only [Act.put, List.setIfInBounds_toArray, List.set_cons_zero, List.set_cons_succ]
        refine wpAnyH_ready (rs := [5]) (by as_aux_lemma => kernel_rfl) (by simp) ?_
        refine AllReadyH.cons (o := ({ dst := some 30, op := .call { callee := .builtin .copy, args := #[.tmp 25, .tmp 29], argTypes := #[22, 22] }, type := 3, pos := "slot.go:62", after := #[{ on := 0, ground := .data }, { on := 4, ground := .data }, { on := 4, ground := .chain }], guard := none } : Oper)) rfl (fun KK hK => ?_) AllReadyH.nil
        rw [if_pos (by rfl)]
        refine oper_copy_pair (g := gs) (l := l1) (m := [hiB X, loB X]) (k := 9) (c := 2) rfl hpy HB HGS.out rfl rfl (lies_came hp (by simp) (by decide)) (by simp) (by simp) (by rw [HL0.out.2.2.1]; simp) (fun w6 hq HN => ?_)
        refine hK.out _ _ ?_ (fun hHeld => ?_)
        · exact HN
        replace HB := hHeld; clear hHeld hK KK HN
        clear hpy hp
        try simp only [Act.put, List.setIfInBounds_toArray, List.set_cons_zero, List.set_cons_succ]
        refine wpAnyH_done (by as_aux_lemma => kernel_rfl) ?_ _
        refine NoPanic.normal ?_
        go_wp2_with fail
        go_meet
        rw [HL0.out.2.2.2.2.2.1] at hq
        exact ⟨HB, hq⟩
      case rest =>
        rename World => wz
        obtain ⟨HBz, hpz⟩ := hcut
        have hs12 := info12
        have hl2 : l2.length = 12 := by rw [← HL0.out.2.2.2.2.2.1, putL_length (by rw [HL0.out.2.2.1]; simp)]; exact HL0.out.2.2.1
        have hVs : V.size = 12 := by rw [← HL0.out.2.2.2.2.2.2, List.size_toArray, vals_length, hl2]
        have hL : wz.rangeAt gs 0 V.toList := by rw [← HL0.out.2.2.2.2.2.2]; exact hpz.1.range
        have hone : V.all (·.oneCell') = true := by rw [← HL0.out.2.2.2.2.2.2]; exact all_oneCell_toArray (vals_oneA l2)
        have hth : wz.there (w.heap.size + 1) 0 V.size := by rw [hVs]; exact there_of hpz.2.1
        have hR := World.rangeAt_setCells_same wz (w.heap.size + 1) 0 V.toList (by rw [Array.length_toList]; exact hth)
        have hB := Lib.hid (below_cells (Nat.le_succ w.heap.size) V.toList 0 _ HBz)
        rw [← hVs] at hs12
        clear HL0 hpy HB3 hpz HBz hbe2 hx1 ewx hl9 HOF hl2 hVs HGS
        go_upto_region 4 with fail
        refine wp_region_lit ?_
        refine list_load_row rfl 57 _ rfl gs rfl V _ hL Try.underlying57 rfl hs12 ?_
        refine wpList_store_mid rfl 57 _ _ rfl (w.heap.size + 1) 0 V rfl rfl hth hs12 hone ?_
        clear hL hth
        go_wp2
        exact bodyPost_ret (results_row rfl rfl hR Try.underlying57 rfl hs12) rfl ⟨rfl, hB.out⟩

theorem written_ok (n : Nt) (s : Nat) (w : World) (h : rightN n = true) (hs : s < 4294967296) :
    Calls Try.prog 27 #[nv n, .int .u32 s] w fun e w' => e = .returned (.agg (vals (slotN n s)).toArray) ∧ Below w.heap.size w w' := by
  obtain ⟨h1, h2, h3, h4, h5, h6⟩ := (rightN_iff n).1 h
  obtain ⟨a, b, c, d, e, eb⟩ := body_nine n s
  have el : slotN n s = [guardN s, a, b, c, d, UInt8.ofNat n.ex.toNat, UInt8.ofNat n.inh.toNat, UInt8.ofNat n.mode.toNat, 1, hiB (sumOf (bodyN n s)), loB (sumOf (bodyN n s)), guardN s] := by
    unfold slotN withSum
    rw [eb]; rfl
  exact written_core n.ex n.inh n.mode s (guardN s) (UInt8.ofNat n.ex.toNat) (UInt8.ofNat n.inh.toNat) (UInt8.ofNat n.mode.toNat) _
    [guardN s, a, b, c, d, UInt8.ofNat n.ex.toNat, UInt8.ofNat n.inh.toNat, UInt8.ofNat n.mode.toNat, 1, 0, 0, guardN s] (slotN n s) (bodyN n s) (sumOf (bodyN n s)) _ w
    (u8_nat _ h1 (by omega)) (u8_nat _ h3 (by omega)) (u8_nat _ h5 (by omega)) (by omega) rfl (by rw [e]; rfl) rfl (by rw [eb]; rfl) rfl (by rw [el]; rfl) rfl (Lib.hid (guard_any s hs))

set_option maxRecDepth 100000 in
theorem Bytes_no (n : Nt) (s : Nat) (w : World) (h : rightN n = false) :
    Calls Try.prog 20 #[nv n, .int .u32 s] w fun e w' => e = .returned (.tuple #[.slice none 0 0, .int .i64 1]) ∧ Below w.heap.size w w' := by
  have HR := Lib.hid fun w => Right_any n w
  rw [h] at HR
  obtain ⟨x, y, z⟩ := n
  simp only [nv] at HR ⊢
  have B1 := Lib.hid (below1 w (.cells #[.int .i64 x, .int .i64 y, .int .i64 z] 26))
  go_enter Try.func20, Try.ntmps20
  go_wp2_with fail
  refine (HR.out _).mono ?_; rintro e w1 ⟨rfl, hb1⟩
  have HB := Lib.hid (belowT B1.out hb1)
  clear hb1 B1
  go_wp2
  go_ret2
  exact ⟨rfl, HB.out⟩

set_option maxHeartbeats 4000000 in
set_option maxRecDepth 100000 in
theorem Bytes_ok (n : Nt) (s : Nat) (w : World) (h : rightN n = true) (hs : s < 4294967296) :
    Calls Try.prog 20 #[nv n, .int .u32 s] w fun e w' => ∃ ba cap, e = .returned (.tuple #[.slice ba (slotN n s).length cap, .int .i64 0]) ∧ Came w' ba cap (slotN n s) ∧ Below w.heap.size w w' := by
  have HR := Lib.hid fun w => Right_any n w
  rw [h] at HR
  have HW := Lib.hid fun w => written_ok n s w h hs
  have hl := slot_length n s
  obtain ⟨l, hL⟩ : ∃ l, l = slotN n s := ⟨_, rfl⟩
  rw [← hL] at HW hl ⊢
  clear hL
  have hlv : (vals l).length = 12 := by rw [vals_length, hl]
  obtain ⟨V, hV⟩ : ∃ V, V = (vals l).toArray := ⟨_, rfl⟩
  have hVs : V.size = 12 := by rw [hV, List.size_toArray, hlv]
  have hone : V.all (·.oneCell') = true := by rw [hV]; exact all_oneCell_toArray (vals_oneA l)
  have HVV := Lib.hid hV
  rw [← hV] at HW
  rw [hl]
  have HLL := Lib.hid hl
  clear hlv hV hl h hs
  obtain ⟨x, y, z⟩ := n
  simp only [nv] at HR HW ⊢
  have B1 := Lib.hid (below1 w (.cells #[.int .i64 x, .int .i64 y, .int .i64 z] 26))
  have H1 := Lib.hid (hasl w [.int .i64 x, .int .i64 y, .int .i64 z] 26)
  go_enter Try.func20, Try.ntmps20
  go_wp2_with fail
  refine (HR.out _).mono ?_; rintro e w1 ⟨rfl, hb1⟩
  have HB := Lib.hid (belowT B1.out hb1)
  have H2 := H1.out.keep hb1
  have q0 := H2.at 0 rfl
  have q1 := H2.at 1 rfl
  have q2 := H2.at 2 rfl
  clear hb1 B1 H1 H2 HR
  go_wp2_with fail
  refine (HW.out _).mono ?_; rintro e w2 ⟨rfl, hb2⟩
  have HB2 := Lib.hid (belowT HB.out hb2)
  clear hb2 HB q0 q1 q2 HW
  have hs12 := info12
  rw [← hVs] at hs12
  have hst := run_storeCells_new (P := Try.prog) w2 57 #[.int .u8 0, .int .u8 0, .int .u8 0, .int .u8 0, .int .u8 0, .int .u8 0, .int .u8 0, .int .u8 0, .int .u8 0, .int .u8 0, .int .u8 0, .int .u8 0] V hs12 (by rw [hVs]; rfl) hone
  have HB3 := Lib.hid (belowT HB2.out (below1 w2 (.cells V 57)))
  have HC : Hid (Came (w2.alloc (.cells V 57)) (some ⟨w2.heap.size, 0, none⟩) 12 l) := Lib.hid (by
    have L := lies_alloc w2 l 57
    rw [← HVV.out] at L
    exact lies_came L (by rw [HLL.out]; decide) (by decide))
  clear HB2 HVV
  go_wp2
  go_ret2
  exact ⟨_, _, rfl, HC.out, HB3.out⟩
end Lan18
end Go.Proofs.Ytdalajfjikbcaaa
