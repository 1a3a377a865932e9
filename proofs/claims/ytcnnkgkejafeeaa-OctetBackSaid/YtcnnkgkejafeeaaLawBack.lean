/- OctetBack: the walk, over contracts. -/
import Derived.Test.YtcnnkgkejafeeaaAppOper
import Derived.Test.YtcnnkgkejafeeaaOwnAwake
import Derived.Test.YtcnnkgkejafeeaaRebase
import Derived.Deep.CutBlock
import Derived.Deep.CutRange
namespace Go.Proofs.Ytcnnkgkejafeeaa
open Go.RowKit

/-- The operations of a drawn region, as the translation has them. -/
def back7 : Array Oper := #[
  { dst := some 47, op := .buildSlice 22 0 #[], type := 22, pos := "law.go:47", after := #[], guard := none },
  { dst := some 48, op := .move (.tmp 7), type := 22, pos := "law.go:47", after := #[], guard := none },
  { dst := some 49, op := .call { callee := .builtin .append, args := #[.tmp 47, .tmp 48], argTypes := #[22, 22] }, type := 22, pos := "law.go:47", after := #[{ on := 0, ground := .data }, { on := 1, ground := .data }], guard := none },
  { dst := some 50, op := .move (.tmp 8), type := 22, pos := "law.go:47", after := #[], guard := none },
  { dst := some 51, op := .call { callee := .builtin .append, args := #[.tmp 49, .tmp 50], argTypes := #[22, 22] }, type := 22, pos := "law.go:47", after := #[{ on := 2, ground := .data }, { on := 3, ground := .data }, { on := 2, ground := .chain }], guard := none },
  { dst := some 52, op := .indexAddr 38 (.tmp 4) (.const (.int .i64 0)), type := 0, pos := "law.go:47", after := #[], guard := none },
  { dst := some 53, op := .load 9 (.tmp 52), type := 9, pos := "law.go:47", after := #[{ on := 5, ground := .data }], guard := none },
  { dst := some 54, op := .call { callee := .builtin .append, args := #[.tmp 51, .tmp 53], argTypes := #[22, 9] }, type := 22, pos := "law.go:47", after := #[{ on := 4, ground := .data }, { on := 6, ground := .data }, { on := 4, ground := .chain }], guard := none },
  { dst := some 55, op := .move (.tmp 7), type := 22, pos := "law.go:47", after := #[], guard := none },
  { dst := some 56, op := .call { callee := .builtin .len, args := #[.tmp 55], argTypes := #[22] }, type := 3, pos := "law.go:47", after := #[{ on := 8, ground := .data }], guard := none },
  { dst := some 57, op := .move (.tmp 2), type := 3, pos := "law.go:47", after := #[], guard := none },
  { dst := some 58, op := .call { callee := .value (.func 12), args := #[.tmp 54, .tmp 56, .tmp 57], argTypes := #[22, 3, 3] }, type := 31, pos := "law.go:47", after := #[{ on := 7, ground := .data }, { on := 9, ground := .data }, { on := 10, ground := .data }, { on := 7, ground := .chain }], guard := none },
  { dst := some 46, op := .move (.tmp 58), type := 31, pos := "law.go:47", after := #[{ on := 11, ground := .data }], guard := none },
  { dst := some 59, op := .extract (.tmp 46) 0, type := 2, pos := "law.go:47", after := #[{ on := 12, ground := .data }], guard := none },
  { dst := some 60, op := .extract (.tmp 46) 1, type := 25, pos := "law.go:47", after := #[{ on := 12, ground := .data }, { on := 15, ground := .gcOnly Go.Departure.lateStores }], guard := none },
  { dst := some 10, op := .assign (.tmp 59), type := 2, pos := "law.go:47", after := #[{ on := 13, ground := .data }, { on := 11, ground := .chain }, { on := 0, ground := .phase }, { on := 1, ground := .phase }, { on := 2, ground := .phase }, { on := 3, ground := .phase }, { on := 4, ground := .phase }, { on := 5, ground := .phase }, { on := 6, ground := .phase }, { on := 7, ground := .phase }, { on := 8, ground := .phase }, { on := 9, ground := .phase }, { on := 10, ground := .phase }, { on := 11, ground := .phase }, { on := 12, ground := .phase }, { on := 13, ground := .phase }, { on := 14, ground := .textOnly Go.Departure.lateStores }], guard := none },
  { dst := some 11, op := .assign (.tmp 60), type := 25, pos := "law.go:47", after := #[{ on := 14, ground := .data }, { on := 15, ground := .chain }, { on := 0, ground := .phase }, { on := 1, ground := .phase }, { on := 2, ground := .phase }, { on := 3, ground := .phase }, { on := 4, ground := .phase }, { on := 5, ground := .phase }, { on := 6, ground := .phase }, { on := 7, ground := .phase }, { on := 8, ground := .phase }, { on := 9, ground := .phase }, { on := 10, ground := .phase }, { on := 11, ground := .phase }, { on := 12, ground := .phase }, { on := 13, ground := .phase }, { on := 14, ground := .phase }, { on := 15, ground := .phase }], guard := none }]
theorem back7_plain : Region.noSelect back7 = true := by kernel_rfl

/-- The operations of a drawn region, as the translation has them. -/
def back17 : Array Oper := #[
  { dst := some 129, op := .move (.tmp 18), type := 25, pos := "law.go:61", after := #[], guard := none },
  { dst := some 130, op := .binOp .neq 25 (.tmp 129) (.const (.int .i64 0)) 25, type := 4, pos := "law.go:61", after := #[{ on := 0, ground := .data }], guard := none },
  { dst := some 131, op := .move (.tmp 130), type := 4, pos := "law.go:61", after := #[{ on := 1, ground := .data }], guard := none },
  { dst := some 132, op := .move (.tmp 17), type := 28, pos := "law.go:61", after := #[{ on := 2, ground := .guard }], guard := some (2, false) },
  { dst := some 133, op := .move (.tmp 2), type := 3, pos := "law.go:61", after := #[{ on := 2, ground := .guard }], guard := some (2, false) },
  { dst := some 134, op := .call { callee := .value (.func 18), args := #[.tmp 132, .tmp 133], argTypes := #[28, 3] }, type := 22, pos := "law.go:61", after := #[{ on := 3, ground := .data }, { on := 4, ground := .data }, { on := 2, ground := .chain }, { on := 2, ground := .guard }], guard := some (2, false) },
  { dst := some 135, op := .convert 22 9 (.tmp 134), type := 9, pos := "law.go:61", after := #[{ on := 5, ground := .data }, { on := 2, ground := .guard }], guard := some (2, false) },
  { dst := some 136, op := .indexAddr 38 (.tmp 4) (.const (.int .i64 1)), type := 0, pos := "law.go:61", after := #[{ on := 2, ground := .guard }], guard := some (2, false) },
  { dst := some 137, op := .load 9 (.tmp 136), type := 9, pos := "law.go:61", after := #[{ on := 7, ground := .data }, { on := 2, ground := .guard }], guard := some (2, false) },
  { dst := some 138, op := .move (.tmp 2), type := 3, pos := "law.go:61", after := #[{ on := 2, ground := .guard }], guard := some (2, false) },
  { dst := some 139, op := .slice 9 (.tmp 137) none (some (.tmp 138)) none, type := 9, pos := "law.go:61", after := #[{ on := 8, ground := .data }, { on := 9, ground := .data }, { on := 2, ground := .guard }], guard := some (2, false) },
  { dst := some 140, op := .binOp .eql 9 (.tmp 135) (.tmp 139) 9, type := 4, pos := "law.go:61", after := #[{ on := 6, ground := .data }, { on := 10, ground := .data }, { on := 2, ground := .guard }], guard := some (2, false) },
  { dst := some 141, op := .pick (.tmp 131) (.const (.bool true)) (.tmp 140), type := 4, pos := "law.go:61", after := #[{ on := 2, ground := .data }, { on := 11, ground := .data }], guard := none },
  { dst := some 142, op := .move (.tmp 141), type := 4, pos := "law.go:61", after := #[{ on := 12, ground := .data }, { on := 5, ground := .chain }], guard := none },
  { dst := some 143, op := .call { callee := .value (.func 7), args := #[], argTypes := #[] }, type := 4, pos := "law.go:61", after := #[{ on := 13, ground := .chain }, { on := 13, ground := .guard }], guard := some (13, true) },
  { dst := some 144, op := .pick (.tmp 142) (.tmp 143) (.const (.bool false)), type := 4, pos := "law.go:61", after := #[{ on := 13, ground := .data }, { on := 14, ground := .data }], guard := none },
  { dst := some 6, op := .assign (.tmp 144), type := 4, pos := "law.go:61", after := #[{ on := 15, ground := .data }, { on := 14, ground := .chain }, { on := 0, ground := .phase }, { on := 1, ground := .phase }, { on := 2, ground := .phase }, { on := 3, ground := .phase }, { on := 4, ground := .phase }, { on := 5, ground := .phase }, { on := 6, ground := .phase }, { on := 7, ground := .phase }, { on := 8, ground := .phase }, { on := 9, ground := .phase }, { on := 10, ground := .phase }, { on := 11, ground := .phase }, { on := 12, ground := .phase }, { on := 13, ground := .phase }, { on := 14, ground := .phase }, { on := 15, ground := .phase }], guard := none }]
theorem back17_plain : Region.noSelect back17 = true := by kernel_rfl


set_option maxHeartbeats 4000000 in
set_option maxRecDepth 100000 in
theorem back_long0 (n width : Int) (s0 s1 : ByteArray) (w : World) (h0 : (255 : Int) < s0.size)
    (AW : Hid (∀ w, Calls Try.prog 7 #[] w fun e w' => e = .returned (.bool true) ∧ Below w.heap.size w w')) :
    Calls Try.prog 4 #[.int .i64 n, .agg #[.string s0, .string s1], .int .i64 width] w fun e w' => e = .returned (.bool true) ∧ Below w.heap.size w w' := by
  go_enter Try.func4, Try.ntmps4
  go_wp2_with fail
  refine (AW.out _).mono ?_; rintro e w1 ⟨rfl, hb1⟩
  have B1 := belowT (below1 w _) hb1
  go_wp2_with fail
  go_ret
  exact ⟨rfl, B1⟩
set_option maxHeartbeats 4000000 in
set_option maxRecDepth 100000 in
theorem back_long1 (n width : Int) (s0 s1 : ByteArray) (w : World) (h0 : (s0.size : Int) ≤ 255) (h1 : (300 : Int) < s1.size)
    (AW : Hid (∀ w, Calls Try.prog 7 #[] w fun e w' => e = .returned (.bool true) ∧ Below w.heap.size w w')) :
    Calls Try.prog 4 #[.int .i64 n, .agg #[.string s0, .string s1], .int .i64 width] w fun e w' => e = .returned (.bool true) ∧ Below w.heap.size w w' := by
  have d0 : decide ((255 : Int) < s0.size) = false := decide_eq_false (by omega)
  go_enter Try.func4, Try.ntmps4
  go_wp2_with fail
  refine (AW.out _).mono ?_; rintro e w1 ⟨rfl, hb1⟩
  have B1 := belowT (below1 w _) hb1
  go_wp2_with fail
  go_ret
  exact ⟨rfl, B1⟩

set_option maxHeartbeats 8000000 in
set_option maxRecDepth 100000 in
theorem back_core (n width e1 u2 g2 : Int) (k : Nat) (s0 s1 : ByteArray) (lp ls lq lo1 lo2 : List UInt8) (w : World) (h0 : (s0.size : Int) ≤ 255) (h1 : (s1.size : Int) ≤ 300) (_hk1 : (1 : Int) ≤ k) (_hk2 : (k : Int) ≤ 8)
    (hk : wrap64 (1 + wrap64 ((IntKind.u64.wrap width).tmod 8)) = (k : Int)) (hls : (ls.length : Int) ≤ 256) (hlo1 : s1.data.toList ++ lp ++ s0.data.toList = lo1) (hlo2 : s1.data.toList ++ ls ++ [1, 2] = lo2)
    (PS : Hid (∀ w, Calls Try.prog 8 #[.int .i64 n, .int .i64 k] w fun e w' => ∃ v, e = .returned (.tuple #[v, .int .i64 e1]) ∧ Bytes w.heap.size w w' v lp))
    (he : (e1 == 0) = false ∨ (e1 == 0) = true ∧ lp.length = k)
    (SG : Hid (∀ g c w', lo1.length ≤ c → c ≤ maxLen → Lies w' g 0 lo1 → (e1 == 0) = true → Calls Try.prog 12 #[.slice (some ⟨g, 0, none⟩) lo1.length c, .int .i64 s1.size, .int .i64 k] w' fun e w'' => e = .returned (.tuple #[.int .i64 n, .int .i64 0]) ∧ Below w'.heap.size w' w''))
    (TX : Hid (∀ w, Calls Try.prog 14 #[.string s0] w fun e w' => ∃ v, e = .returned (.tuple #[v, .int .i64 0]) ∧ Bytes w.heap.size w w' v ls)) (hl0 : ls ≠ [])
    (RT : Hid (∀ g c w', lo2.length ≤ c → c ≤ maxLen → Lies w' g 0 lo2 → Calls Try.prog 16 #[.slice (some ⟨g, 0, none⟩) lo2.length c, .int .i64 s1.size] w' fun e w'' => e = .returned (.tuple #[.string s0, .int .i64 ((s1.size : Int) + ls.length), .int .i64 0]) ∧ Below w'.heap.size w' w''))
    (GT : Hid (∀ g c w', s1.size ≤ c → c ≤ maxLen → Lies w' g 0 s1.data.toList → Calls Try.prog 10 #[.slice (some ⟨g, 0, none⟩) s1.size c, .int .i64 0, .int .i64 k] w' fun e w'' => e = .returned (.tuple #[.int .u64 u2, .int .i64 g2]) ∧ Below w'.heap.size w' w''))
    (PU : Hid (∀ w, Calls Try.prog 18 #[.int .u64 u2, .int .i64 k] w fun e w' => ∃ v, e = .returned v ∧ Bytes w.heap.size w w' v lq))
    (hg : (g2 == 0) = false ∧ (g2 != 0) = true ∨ (g2 == 0) = true ∧ (g2 != 0) = false ∧ (k : Int) ≤ s1.size ∧ (∀ w', (Instr.sliceAt 9 (.string s1) none (some (.int .i64 k)) none).run Try.prog w' = .ok (.string ⟨lq.toArray⟩) w'))
    (AW : Hid (∀ w, Calls Try.prog 7 #[] w fun e w' => e = .returned (.bool true) ∧ Below w.heap.size w w')) :
    Calls Try.prog 4 #[.int .i64 n, .agg #[.string s0, .string s1], .int .i64 width] w fun e w' => e = .returned (.bool true) ∧ Below w.heap.size w w' := by
  have d0 : decide ((255 : Int) < s0.size) = false := decide_eq_false (by omega)
  have d1 : decide ((300 : Int) < s1.size) = false := decide_eq_false (by omega)
  have z1 : s1.data.toList.length = s1.size := Array.length_toList
  have z0 : s0.data.toList.length = s0.size := Array.length_toList
  have HE := Lib.hid he; have HG := Lib.hid hg; have HL := Lib.hid hl0; have HS := Lib.hid hls; have Z1 := Lib.hid z1; have Z0 := Lib.hid z0
  have O1 := Lib.hid hlo1; have O2 := Lib.hid hlo2
  clear he hg hl0 hls z1 z0 hlo1 hlo2
  obtain ⟨gA, c, w2, hcv, hb2, L2, hc1, hc2⟩ := bytes_of (w.alloc (.cells #[.string s0, .string s1] 38)) s1 (by omega)
  have HC := Lib.hid hc1; have HD := Lib.hid hc2
  clear hc1 hc2
  have B2 := belowT (below1 w _) hb2
  have X2 := (own2 w _ _ _).keep hb2; have X2a := X2.c0; have X2b := X2.c1
  go_enter Try.func4, Try.ntmps4
  go_wp2_with fail
  refine (PS.out _).mono ?_; rintro e w3 ⟨v3, rfl, hv3⟩
  have hb3 := hv3.below
  have B3 := belowT B2 hb3
  have X3 := X2.keep hb3; have X3a := X3.c0; have X3b := X3.c1
  have L3 := L2.keep hb3
  go_upto_if 45 with fail
  go_cut [] from 10 to 73 (fun wx => Below w3.heap.size w3 wx)
  case first =>
    rcases HE.out with he | ⟨he, hlp⟩
    · go_wp2_with fail
      go_meet
      exact Below.refl _ _
    · obtain ⟨rfl, h0⟩ | ⟨g3, c3, rfl, LP⟩ := hv3.lies
      · rw [h0] at hlp; simp at hlp; omega
      subst hlp
      go_upto_region 7 with fail
      have b0 := empty_bytes_drew w3 _ rfl
      have xr0 : ∀ w', Below w3.heap.size w3 w' → w'.cell? ⟨w.heap.size, 0, none⟩ = some (.string s0) := fun w' h => keepc h X3a
      change (Code.region 7 back7 true).wp Try.prog _ _ _
      refine wp_region_noPanic ?_
      refine wp_region_held_drew (S := fun w' => Below w3.heap.size w3 w') (by kernel_rfl) ((Below.refl _ _).drew) (fun hHeld => ?_)
      refine wpAnyH_take (i := 1) (oi := ({ dst := some 48, op := .move (.tmp 7), type := 22, pos := "law.go:47", after := #[], guard := none } : Oper)) (v := ?vs1_1) rfl back7_plain (by as_aux_lemma => kernel_rfl) (by as_aux_lemma => kernel_rfl) (fun _ _ _ h => h) (Or.inl ⟨by rfl, ?ys1_1⟩) (by assumption) ?rs1_1
      case ys1_1 => (intro w hSw; (try dsimp only at hSw); go_simp; try with_reducible rfl)
      try simp only [Act.put, List.setIfInBounds_toArray, List.set_cons_zero, List.set_cons_succ]
      refine wpAnyH_take (i := 3) (oi := ({ dst := some 50, op := .move (.tmp 8), type := 22, pos := "law.go:47", after := #[], guard := none } : Oper)) (v := ?vs1_3) rfl back7_plain (by as_aux_lemma => kernel_rfl) (by as_aux_lemma => kernel_rfl) (fun _ _ _ h => h) (Or.inl ⟨by rfl, ?ys1_3⟩) (by assumption) ?rs1_3
      case ys1_3 => (intro w hSw; (try dsimp only at hSw); go_simp; try with_reducible rfl)
      try simp only [Act.put, List.setIfInBounds_toArray, List.set_cons_zero, List.set_cons_succ]
      refine wpAnyH_take (i := 5) (oi := ({ dst := some 52, op := .indexAddr 38 (.tmp 4) (.const (.int .i64 0)), type := 0, pos := "law.go:47", after := #[], guard := none } : Oper)) (v := ?vs1_5) rfl back7_plain (by as_aux_lemma => kernel_rfl) (by as_aux_lemma => kernel_rfl) (fun _ _ _ h => h) (Or.inl ⟨by rfl, ?ys1_5⟩) (by assumption) ?rs1_5
      case ys1_5 => (intro w hSw; (try dsimp only at hSw); go_simp; try with_reducible rfl)
      try simp only [Act.put, List.setIfInBounds_toArray, List.set_cons_zero, List.set_cons_succ]
      refine wpAnyH_take (i := 6) (oi := ({ dst := some 53, op := .load 9 (.tmp 52), type := 9, pos := "law.go:47", after := #[{ on := 5, ground := .data }], guard := none } : Oper)) (v := ?vs1_6) rfl back7_plain (by as_aux_lemma => kernel_rfl) (by as_aux_lemma => kernel_rfl) (fun _ _ _ h => h) (Or.inl ⟨by rfl, ?ys1_6⟩) (by assumption) ?rs1_6
      case ys1_6 => (intro w hSw; (try dsimp only at hSw); go_simp; try with_reducible rfl)
      try simp only [Act.put, List.setIfInBounds_toArray, List.set_cons_zero, List.set_cons_succ]
      refine wpAnyH_take (i := 8) (oi := ({ dst := some 55, op := .move (.tmp 7), type := 22, pos := "law.go:47", after := #[], guard := none } : Oper)) (v := ?vs1_8) rfl back7_plain (by as_aux_lemma => kernel_rfl) (by as_aux_lemma => kernel_rfl) (fun _ _ _ h => h) (Or.inl ⟨by rfl, ?ys1_8⟩) (by assumption) ?rs1_8
      case ys1_8 => (intro w hSw; (try dsimp only at hSw); go_simp; try with_reducible rfl)
      try simp only [Act.put, List.setIfInBounds_toArray, List.set_cons_zero, List.set_cons_succ]
      refine wpAnyH_take (i := 9) (oi := ({ dst := some 56, op := .call { callee := .builtin .len, args := #[.tmp 55], argTypes := #[22] }, type := 3, pos := "law.go:47", after := #[{ on := 8, ground := .data }], guard := none } : Oper)) (v := ?vs1_9) rfl back7_plain (by as_aux_lemma => kernel_rfl) (by as_aux_lemma => kernel_rfl) (fun _ _ _ h => h) (Or.inl ⟨by rfl, ?ys1_9⟩) (by assumption) ?rs1_9
      case ys1_9 => (intro w hSw; (try dsimp only at hSw); go_simp; try with_reducible rfl)
      try simp only [Act.put, List.setIfInBounds_toArray, List.set_cons_zero, List.set_cons_succ]
      refine wpAnyH_take (i := 10) (oi := ({ dst := some 57, op := .move (.tmp 2), type := 3, pos := "law.go:47", after := #[], guard := none } : Oper)) (v := ?vs1_10) rfl back7_plain (by as_aux_lemma => kernel_rfl) (by as_aux_lemma => kernel_rfl) (fun _ _ _ h => h) (Or.inl ⟨by rfl, ?ys1_10⟩) (by assumption) ?rs1_10
      case ys1_10 => (intro w hSw; (try dsimp only at hSw); go_simp; try with_reducible rfl)
      try simp only [Act.put, List.setIfInBounds_toArray, List.set_cons_zero, List.set_cons_succ]
      refine wpAnyH_ready (rs := [0]) (by as_aux_lemma => kernel_rfl) (by simp) ?_
      refine AllReadyH.cons (o := ({ dst := some 47, op := .buildSlice 22 0 #[], type := 22, pos := "law.go:47", after := #[], guard := none } : Oper)) rfl (fun KK hK => ?_) AllReadyH.nil
      rw [if_pos (by rfl)]
      go_simp
      refine hK.out _ _ ?_ (fun hHeldA => ?_)
      · exact b0.below
      clear hK KK
      try simp only [Act.put, List.setIfInBounds_toArray, List.set_cons_zero, List.set_cons_succ]
      refine wpAnyH_ready (rs := [2]) (by as_aux_lemma => kernel_rfl) (by simp) ?_
      refine AllReadyH.cons (o := ({ dst := some 49, op := .call { callee := .builtin .append, args := #[.tmp 47, .tmp 48], argTypes := #[22, 22] }, type := 22, pos := "law.go:47", after := #[{ on := 0, ground := .data }, { on := 1, ground := .data }], guard := none } : Oper)) rfl (fun KK hK => ?_) AllReadyH.nil
      rw [if_pos (by rfl)]
      refine oper_append_bytes (v := .slice (some ⟨w3.heap.size, 0, none⟩) 0 0) rfl rfl b0 rfl (L3.keep b0.below) (by simp [Z1.out]; omega) (fun v4 w4 hv4 => ?_)
      refine hK.out _ _ ?_ (fun hHeld4 => ?_)
      · exact hv4.below
      clear hK KK
      try simp only [Act.put, List.setIfInBounds_toArray, List.set_cons_zero, List.set_cons_succ]
      refine wpAnyH_ready (rs := [4]) (by as_aux_lemma => kernel_rfl) (by simp) ?_
      refine AllReadyH.cons (o := ({ dst := some 51, op := .call { callee := .builtin .append, args := #[.tmp 49, .tmp 50], argTypes := #[22, 22] }, type := 22, pos := "law.go:47", after := #[{ on := 2, ground := .data }, { on := 3, ground := .data }, { on := 2, ground := .chain }], guard := none } : Oper)) rfl (fun KK hK => ?_) AllReadyH.nil
      rw [if_pos (by rfl)]
      refine oper_append_bytes (v := v4) (m := lp) rfl rfl hv4 rfl (LP.keep hv4.below) (by simp [Z1.out]; omega) (fun v5 w5 hv5 => ?_)
      refine hK.out _ _ ?_ (fun hHeld5 => ?_)
      · exact hv5.below
      clear hK KK
      try simp only [Act.put, List.setIfInBounds_toArray, List.set_cons_zero, List.set_cons_succ]
      refine wpAnyH_ready (rs := [7]) (by as_aux_lemma => kernel_rfl) (by simp) ?_
      refine AllReadyH.cons (o := ({ dst := some 54, op := .call { callee := .builtin .append, args := #[.tmp 51, .tmp 53], argTypes := #[22, 9] }, type := 22, pos := "law.go:47", after := #[{ on := 4, ground := .data }, { on := 6, ground := .data }, { on := 4, ground := .chain }], guard := none } : Oper)) rfl (fun KK hK => ?_) AllReadyH.nil
      rw [if_pos (by rfl)]
      refine oper_append_text (v := v5) rfl rfl hv5 rfl (by simp [Z1.out]; omega) (fun v7 w7 hv7 => ?_)
      rw [List.nil_append, O1.out] at hv7
      refine hK.out _ _ ?_ (fun hHeld7 => ?_)
      · exact hv7.below
      clear hK KK
      obtain ⟨rfl, h0⟩ | ⟨g7, c7, rfl, L7⟩ := hv7.lies
      · (have h9 := congrArg List.length (O1.out.trans h0); simp only [List.length_append, List.length_nil] at h9; omega)
      obtain ⟨_, hc7, hc8⟩ := hv7.cap_le (fun h0 => by have h9 := congrArg List.length (O1.out.trans h0); simp only [List.length_append, List.length_nil] at h9; omega)
      try simp only [Act.put, List.setIfInBounds_toArray, List.set_cons_zero, List.set_cons_succ]
      refine wpAnyH_ready (rs := [11]) (by as_aux_lemma => kernel_rfl) (by simp) ?_
      refine AllReadyH.cons (o := ({ dst := some 58, op := .call { callee := .value (.func 12), args := #[.tmp 54, .tmp 56, .tmp 57], argTypes := #[22, 3, 3] }, type := 31, pos := "law.go:47", after := #[{ on := 7, ground := .data }, { on := 9, ground := .data }, { on := 10, ground := .data }, { on := 7, ground := .chain }], guard := none } : Oper)) rfl (fun KK hK => ?_) AllReadyH.nil
      rw [if_pos (by rfl)]
      go_simp
      go_at_call 12; refine (SG.out g7 c7 _ hc7 hc8 L7 he).mono ?_; rintro e w8 ⟨rfl, hb8⟩
      go_wp2_with fail
      refine hK.out _ _ ?_ (fun hHeld8 => ?_)
      · exact belowT (by assumption) hb8
      clear hK KK hb8
      try simp only [Act.put, List.setIfInBounds_toArray, List.set_cons_zero, List.set_cons_succ]
      refine wpAnyH_take (i := 12) (oi := ({ dst := some 46, op := .move (.tmp 58), type := 31, pos := "law.go:47", after := #[{ on := 11, ground := .data }], guard := none } : Oper)) (v := ?vs1_12) rfl back7_plain (by as_aux_lemma => kernel_rfl) (by as_aux_lemma => kernel_rfl) (fun _ _ _ h => h) (Or.inl ⟨by rfl, ?ys1_12⟩) (by assumption) ?rs1_12
      case ys1_12 => (intro w hSw; (try dsimp only at hSw); go_simp; try with_reducible rfl)
      try simp only [Act.put, List.setIfInBounds_toArray, List.set_cons_zero, List.set_cons_succ]
      refine wpAnyH_take (i := 13) (oi := ({ dst := some 59, op := .extract (.tmp 46) 0, type := 2, pos := "law.go:47", after := #[{ on := 12, ground := .data }], guard := none } : Oper)) (v := ?vs1_13) rfl back7_plain (by as_aux_lemma => kernel_rfl) (by as_aux_lemma => kernel_rfl) (fun _ _ _ h => h) (Or.inl ⟨by rfl, ?ys1_13⟩) (by assumption) ?rs1_13
      case ys1_13 => (intro w hSw; (try dsimp only at hSw); go_simp; try with_reducible rfl)
      try simp only [Act.put, List.setIfInBounds_toArray, List.set_cons_zero, List.set_cons_succ]
      refine wpAnyH_take (i := 14) (oi := ({ dst := some 60, op := .extract (.tmp 46) 1, type := 25, pos := "law.go:47", after := #[{ on := 12, ground := .data }, { on := 15, ground := .gcOnly Go.Departure.lateStores }], guard := none } : Oper)) (v := ?vs1_14) rfl back7_plain (by as_aux_lemma => kernel_rfl) (by as_aux_lemma => kernel_rfl) (fun _ _ _ h => h) (Or.inl ⟨by rfl, ?ys1_14⟩) (by assumption) ?rs1_14
      case ys1_14 => (intro w hSw; (try dsimp only at hSw); go_simp; try with_reducible rfl)
      try simp only [Act.put, List.setIfInBounds_toArray, List.set_cons_zero, List.set_cons_succ]
      refine wpAnyH_take (i := 15) (oi := ({ dst := some 10, op := .assign (.tmp 59), type := 2, pos := "law.go:47", after := #[{ on := 13, ground := .data }, { on := 11, ground := .chain }, { on := 0, ground := .phase }, { on := 1, ground := .phase }, { on := 2, ground := .phase }, { on := 3, ground := .phase }, { on := 4, ground := .phase }, { on := 5, ground := .phase }, { on := 6, ground := .phase }, { on := 7, ground := .phase }, { on := 8, ground := .phase }, { on := 9, ground := .phase }, { on := 10, ground := .phase }, { on := 11, ground := .phase }, { on := 12, ground := .phase }, { on := 13, ground := .phase }, { on := 14, ground := .textOnly Go.Departure.lateStores }], guard := none } : Oper)) (v := ?vs1_15) rfl back7_plain (by as_aux_lemma => kernel_rfl) (by as_aux_lemma => kernel_rfl) (fun _ _ _ h => h) (Or.inl ⟨by rfl, ?ys1_15⟩) (by assumption) ?rs1_15
      case ys1_15 => (intro w hSw; (try dsimp only at hSw); go_simp; try with_reducible rfl)
      try simp only [Act.put, List.setIfInBounds_toArray, List.set_cons_zero, List.set_cons_succ]
      refine wpAnyH_take (i := 16) (oi := ({ dst := some 11, op := .assign (.tmp 60), type := 25, pos := "law.go:47", after := #[{ on := 14, ground := .data }, { on := 15, ground := .chain }, { on := 0, ground := .phase }, { on := 1, ground := .phase }, { on := 2, ground := .phase }, { on := 3, ground := .phase }, { on := 4, ground := .phase }, { on := 5, ground := .phase }, { on := 6, ground := .phase }, { on := 7, ground := .phase }, { on := 8, ground := .phase }, { on := 9, ground := .phase }, { on := 10, ground := .phase }, { on := 11, ground := .phase }, { on := 12, ground := .phase }, { on := 13, ground := .phase }, { on := 14, ground := .phase }, { on := 15, ground := .phase }], guard := none } : Oper)) (v := ?vs1_16) rfl back7_plain (by as_aux_lemma => kernel_rfl) (by as_aux_lemma => kernel_rfl) (fun _ _ _ h => h) (Or.inl ⟨by rfl, ?ys1_16⟩) (by assumption) ?rs1_16
      case ys1_16 => (intro w hSw; (try dsimp only at hSw); go_simp; try with_reducible rfl)
      try simp only [Act.put, List.setIfInBounds_toArray, List.set_cons_zero, List.set_cons_succ]
      refine wpAnyH_done (by as_aux_lemma => kernel_rfl) ?_ _
      refine NoPanic.normal ?_
      go_wp2_with fail
      go_meet
      assumption
  case rest =>
    rename World => wx
    have BX := belowT B3 hcut
    have XX := X3.keep hcut; have XXa := XX.c0; have XXb := XX.c1
    have LX := L3.keep hcut
    go_wp2_with fail
    refine (TX.out _).mono ?_; rintro e w5 ⟨v5, rfl, hv5⟩
    have B5 := belowT BX hv5.below
    have X5 := XX.keep hv5.below
    have L5 := LX.keep hv5.below
    obtain ⟨rfl, h0⟩ | ⟨g5, c5, rfl, LT⟩ := hv5.lies
    · exact absurd h0 HL.out
    have b0 := empty_bytes w5 _ rfl
    go_wp2_with (at_builtin; refine list_append_bytes (v := .slice (some ⟨w5.heap.size, 0, none⟩) 0 0) rfl rfl rfl b0 rfl (L5.keep b0.below) ?c1 ?_)
    case c1 => simp [Z1.out]; omega
    intro v6 w6 hv6
    go_wp2_with (at_builtin; refine list_append_bytes (v := v6) rfl rfl rfl hv6 rfl (LT.keep hv6.below) ?c2 ?_)
    case c2 => have := HS.out; simp [Z1.out]; omega
    intro v7 w7 hv7
    have L12 : Lies (w7.alloc (.cells #[.int .u8 1, .int .u8 2] 5)) w7.heap.size 0 [1, 2] := lies_alloc w7 [1, 2] _
    go_wp2_with (at_builtin; refine list_append_bytes (v := v7) (m := [1, 2]) rfl rfl rfl (hv7.alloc _) rfl L12 ?c3 ?_)
    case c3 => have := HS.out; simp [Z1.out]; omega
    intro v8 w8 hv8
    have hv8 : Bytes w5.heap.size w5 w8 v8 lo2 := by rw [← O2.out, List.append_assoc]; exact hv8
    have B8 := belowT B5 hv8.below
    have X8 := X5.keep hv8.below; have X8a := X8.c0; have X8b := X8.c1
    have L8 := L5.keep hv8.below
    obtain ⟨rfl, h0⟩ | ⟨g8, c8, rfl, LR⟩ := hv8.lies
    · exact absurd (O2.out.trans h0) (by simp)
    obtain ⟨_, hc8, hc9⟩ := hv8.cap_le (fun h0 => absurd (O2.out.trans h0) (by simp))
    have RT8 := Lib.hid (RT.out g8 c8 _ hc8 hc9 LR)
    clear hc8 hc9
    go_wp2_with fail
    refine RT8.out.mono ?_; rintro e w9 ⟨rfl, hb9⟩
    have hlsI := HS.out
    have B9 := belowT B8 hb9
    have X9 := X8.keep hb9; have X9a := X9.c0; have X9b := X9.c1
    have L9 := L8.keep hb9
    go_wp2_with fail
    refine (GT.out gA c _ HC.out HD.out L9).mono ?_; rintro e w10 ⟨rfl, hb10⟩
    have B10 := belowT B9 hb10
    have X10 := X9.keep hb10
    have xr1 : ∀ w', Below w10.heap.size w10 w' → w'.cell? ⟨w.heap.size, 1, none⟩ = some (.string s1) := fun w' h => keepc h X10.c1
    rcases HG.out with ⟨hg, hg'⟩ | ⟨hg, hg', hks, hsl⟩
    · go_upto_region 17 with fail
      change (Code.region 17 back17 true).wp Try.prog _ _ _
      refine wp_region_noPanic ?_
      refine wp_region_held_drew (S := fun w' => Below w10.heap.size w10 w') (by kernel_rfl) ((Below.refl _ _).drew) (fun hHeld => ?_)
      refine wpAnyH_take (i := 0) (oi := ({ dst := some 129, op := .move (.tmp 18), type := 25, pos := "law.go:61", after := #[], guard := none } : Oper)) (v := ?vs2_0) rfl back17_plain (by as_aux_lemma => kernel_rfl) (by as_aux_lemma => kernel_rfl) (fun _ _ _ h => h) (Or.inl ⟨by rfl, ?ys2_0⟩) (by assumption) ?rs2_0
      case ys2_0 => (intro w hSw; (try dsimp only at hSw); go_simp; try with_reducible rfl)
      try simp only [Act.put, List.setIfInBounds_toArray, List.set_cons_zero, List.set_cons_succ]
      refine wpAnyH_take (i := 1) (oi := ({ dst := some 130, op := .binOp .neq 25 (.tmp 129) (.const (.int .i64 0)) 25, type := 4, pos := "law.go:61", after := #[{ on := 0, ground := .data }], guard := none } : Oper)) (v := ?vs2_1) rfl back17_plain (by as_aux_lemma => kernel_rfl) (by as_aux_lemma => kernel_rfl) (fun _ _ _ h => h) (Or.inl ⟨by rfl, ?ys2_1⟩) (by assumption) ?rs2_1
      case ys2_1 => (intro w hSw; (try dsimp only at hSw); go_simp; try with_reducible rfl)
      try simp only [Act.put, List.setIfInBounds_toArray, List.set_cons_zero, List.set_cons_succ]
      refine wpAnyH_take (i := 2) (oi := ({ dst := some 131, op := .move (.tmp 130), type := 4, pos := "law.go:61", after := #[{ on := 1, ground := .data }], guard := none } : Oper)) (v := ?vs2_2) rfl back17_plain (by as_aux_lemma => kernel_rfl) (by as_aux_lemma => kernel_rfl) (fun _ _ _ h => h) (Or.inl ⟨by rfl, ?ys2_2⟩) (by assumption) ?rs2_2
      case ys2_2 => (intro w hSw; (try dsimp only at hSw); go_simp; try with_reducible rfl)
      try simp only [Act.put, List.setIfInBounds_toArray, List.set_cons_zero, List.set_cons_succ]
      refine wpAnyH_take (i := 3) (oi := ({ dst := some 132, op := .move (.tmp 17), type := 28, pos := "law.go:61", after := #[{ on := 2, ground := .guard }], guard := some (2, false) } : Oper)) (v := undef) rfl back17_plain (by as_aux_lemma => kernel_rfl) (by as_aux_lemma => kernel_rfl) (fun _ _ _ h => h) (Or.inr ⟨by rfl, rfl⟩) (by assumption) ?_
      try simp only [Act.put, List.setIfInBounds_toArray, List.set_cons_zero, List.set_cons_succ]
      refine wpAnyH_take (i := 4) (oi := ({ dst := some 133, op := .move (.tmp 2), type := 3, pos := "law.go:61", after := #[{ on := 2, ground := .guard }], guard := some (2, false) } : Oper)) (v := undef) rfl back17_plain (by as_aux_lemma => kernel_rfl) (by as_aux_lemma => kernel_rfl) (fun _ _ _ h => h) (Or.inr ⟨by rfl, rfl⟩) (by assumption) ?_
      try simp only [Act.put, List.setIfInBounds_toArray, List.set_cons_zero, List.set_cons_succ]
      refine wpAnyH_take (i := 5) (oi := ({ dst := some 134, op := .call { callee := .value (.func 18), args := #[.tmp 132, .tmp 133], argTypes := #[28, 3] }, type := 22, pos := "law.go:61", after := #[{ on := 3, ground := .data }, { on := 4, ground := .data }, { on := 2, ground := .chain }, { on := 2, ground := .guard }], guard := some (2, false) } : Oper)) (v := undef) rfl back17_plain (by as_aux_lemma => kernel_rfl) (by as_aux_lemma => kernel_rfl) (fun _ _ _ h => h) (Or.inr ⟨by rfl, rfl⟩) (by assumption) ?_
      try simp only [Act.put, List.setIfInBounds_toArray, List.set_cons_zero, List.set_cons_succ]
      refine wpAnyH_take (i := 6) (oi := ({ dst := some 135, op := .convert 22 9 (.tmp 134), type := 9, pos := "law.go:61", after := #[{ on := 5, ground := .data }, { on := 2, ground := .guard }], guard := some (2, false) } : Oper)) (v := undef) rfl back17_plain (by as_aux_lemma => kernel_rfl) (by as_aux_lemma => kernel_rfl) (fun _ _ _ h => h) (Or.inr ⟨by rfl, rfl⟩) (by assumption) ?_
      try simp only [Act.put, List.setIfInBounds_toArray, List.set_cons_zero, List.set_cons_succ]
      refine wpAnyH_take (i := 7) (oi := ({ dst := some 136, op := .indexAddr 38 (.tmp 4) (.const (.int .i64 1)), type := 0, pos := "law.go:61", after := #[{ on := 2, ground := .guard }], guard := some (2, false) } : Oper)) (v := undef) rfl back17_plain (by as_aux_lemma => kernel_rfl) (by as_aux_lemma => kernel_rfl) (fun _ _ _ h => h) (Or.inr ⟨by rfl, rfl⟩) (by assumption) ?_
      try simp only [Act.put, List.setIfInBounds_toArray, List.set_cons_zero, List.set_cons_succ]
      refine wpAnyH_take (i := 8) (oi := ({ dst := some 137, op := .load 9 (.tmp 136), type := 9, pos := "law.go:61", after := #[{ on := 7, ground := .data }, { on := 2, ground := .guard }], guard := some (2, false) } : Oper)) (v := undef) rfl back17_plain (by as_aux_lemma => kernel_rfl) (by as_aux_lemma => kernel_rfl) (fun _ _ _ h => h) (Or.inr ⟨by rfl, rfl⟩) (by assumption) ?_
      try simp only [Act.put, List.setIfInBounds_toArray, List.set_cons_zero, List.set_cons_succ]
      refine wpAnyH_take (i := 9) (oi := ({ dst := some 138, op := .move (.tmp 2), type := 3, pos := "law.go:61", after := #[{ on := 2, ground := .guard }], guard := some (2, false) } : Oper)) (v := undef) rfl back17_plain (by as_aux_lemma => kernel_rfl) (by as_aux_lemma => kernel_rfl) (fun _ _ _ h => h) (Or.inr ⟨by rfl, rfl⟩) (by assumption) ?_
      try simp only [Act.put, List.setIfInBounds_toArray, List.set_cons_zero, List.set_cons_succ]
      refine wpAnyH_take (i := 10) (oi := ({ dst := some 139, op := .slice 9 (.tmp 137) none (some (.tmp 138)) none, type := 9, pos := "law.go:61", after := #[{ on := 8, ground := .data }, { on := 9, ground := .data }, { on := 2, ground := .guard }], guard := some (2, false) } : Oper)) (v := undef) rfl back17_plain (by as_aux_lemma => kernel_rfl) (by as_aux_lemma => kernel_rfl) (fun _ _ _ h => h) (Or.inr ⟨by rfl, rfl⟩) (by assumption) ?_
      try simp only [Act.put, List.setIfInBounds_toArray, List.set_cons_zero, List.set_cons_succ]
      refine wpAnyH_take (i := 11) (oi := ({ dst := some 140, op := .binOp .eql 9 (.tmp 135) (.tmp 139) 9, type := 4, pos := "law.go:61", after := #[{ on := 6, ground := .data }, { on := 10, ground := .data }, { on := 2, ground := .guard }], guard := some (2, false) } : Oper)) (v := undef) rfl back17_plain (by as_aux_lemma => kernel_rfl) (by as_aux_lemma => kernel_rfl) (fun _ _ _ h => h) (Or.inr ⟨by rfl, rfl⟩) (by assumption) ?_
      try simp only [Act.put, List.setIfInBounds_toArray, List.set_cons_zero, List.set_cons_succ]
      refine wpAnyH_take (i := 12) (oi := ({ dst := some 141, op := .pick (.tmp 131) (.const (.bool true)) (.tmp 140), type := 4, pos := "law.go:61", after := #[{ on := 2, ground := .data }, { on := 11, ground := .data }], guard := none } : Oper)) (v := ?vs2_12) rfl back17_plain (by as_aux_lemma => kernel_rfl) (by as_aux_lemma => kernel_rfl) (fun _ _ _ h => h) (Or.inl ⟨by rfl, ?ys2_12⟩) (by assumption) ?rs2_12
      case ys2_12 => (intro w hSw; (try dsimp only at hSw); go_simp; try with_reducible rfl)
      try simp only [Act.put, List.setIfInBounds_toArray, List.set_cons_zero, List.set_cons_succ]
      refine wpAnyH_take (i := 13) (oi := ({ dst := some 142, op := .move (.tmp 141), type := 4, pos := "law.go:61", after := #[{ on := 12, ground := .data }, { on := 5, ground := .chain }], guard := none } : Oper)) (v := ?vs2_13) rfl back17_plain (by as_aux_lemma => kernel_rfl) (by as_aux_lemma => kernel_rfl) (fun _ _ _ h => h) (Or.inl ⟨by rfl, ?ys2_13⟩) (by assumption) ?rs2_13
      case ys2_13 => (intro w hSw; (try dsimp only at hSw); go_simp; try with_reducible rfl)
      try simp only [Act.put, List.setIfInBounds_toArray, List.set_cons_zero, List.set_cons_succ]
      refine wpAnyH_ready (rs := [14]) (by as_aux_lemma => kernel_rfl) (by simp) ?_
      refine AllReadyH.cons (o := ({ dst := some 143, op := .call { callee := .value (.func 7), args := #[], argTypes := #[] }, type := 4, pos := "law.go:61", after := #[{ on := 13, ground := .chain }, { on := 13, ground := .guard }], guard := some (13, true) } : Oper)) rfl (fun KK hK => ?_) AllReadyH.nil
      rw [if_pos (by rfl)]
      go_simp
      go_at_call 7; refine (AW.out _).mono ?_; rintro e w11 ⟨rfl, hb11⟩
      go_wp2_with fail
      refine hK.out _ _ ?_ (fun hHeld11 => ?_)
      · exact belowT (by assumption) hb11
      clear hK KK hb11
      try simp only [Act.put, List.setIfInBounds_toArray, List.set_cons_zero, List.set_cons_succ]
      refine wpAnyH_take (i := 15) (oi := ({ dst := some 144, op := .pick (.tmp 142) (.tmp 143) (.const (.bool false)), type := 4, pos := "law.go:61", after := #[{ on := 13, ground := .data }, { on := 14, ground := .data }], guard := none } : Oper)) (v := ?vs2_15) rfl back17_plain (by as_aux_lemma => kernel_rfl) (by as_aux_lemma => kernel_rfl) (fun _ _ _ h => h) (Or.inl ⟨by rfl, ?ys2_15⟩) (by assumption) ?rs2_15
      case ys2_15 => (intro w hSw; (try dsimp only at hSw); go_simp; try with_reducible rfl)
      try simp only [Act.put, List.setIfInBounds_toArray, List.set_cons_zero, List.set_cons_succ]
      refine wpAnyH_take (i := 16) (oi := ({ dst := some 6, op := .assign (.tmp 144), type := 4, pos := "law.go:61", after := #[{ on := 15, ground := .data }, { on := 14, ground := .chain }, { on := 0, ground := .phase }, { on := 1, ground := .phase }, { on := 2, ground := .phase }, { on := 3, ground := .phase }, { on := 4, ground := .phase }, { on := 5, ground := .phase }, { on := 6, ground := .phase }, { on := 7, ground := .phase }, { on := 8, ground := .phase }, { on := 9, ground := .phase }, { on := 10, ground := .phase }, { on := 11, ground := .phase }, { on := 12, ground := .phase }, { on := 13, ground := .phase }, { on := 14, ground := .phase }, { on := 15, ground := .phase }], guard := none } : Oper)) (v := ?vs2_16) rfl back17_plain (by as_aux_lemma => kernel_rfl) (by as_aux_lemma => kernel_rfl) (fun _ _ _ h => h) (Or.inl ⟨by rfl, ?ys2_16⟩) (by assumption) ?rs2_16
      case ys2_16 => (intro w hSw; (try dsimp only at hSw); go_simp; try with_reducible rfl)
      try simp only [Act.put, List.setIfInBounds_toArray, List.set_cons_zero, List.set_cons_succ]
      refine wpAnyH_done (by as_aux_lemma => kernel_rfl) ?_ _
      refine NoPanic.normal ?_
      go_wp2_with fail
      go_ret
      exact ⟨rfl, belowT B10 (by assumption)⟩
    · have hks1 : decide ((s1.size : Int) < (k : Int)) = false := decide_eq_false (by omega)
      go_upto_region 17 with fail
      change (Code.region 17 back17 true).wp Try.prog _ _ _
      refine wp_region_noPanic ?_
      refine wp_region_held_drew (S := fun w' => Below w10.heap.size w10 w') (by kernel_rfl) ((Below.refl _ _).drew) (fun hHeld => ?_)
      refine wpAnyH_take (i := 0) (oi := ({ dst := some 129, op := .move (.tmp 18), type := 25, pos := "law.go:61", after := #[], guard := none } : Oper)) (v := ?vs3_0) rfl back17_plain (by as_aux_lemma => kernel_rfl) (by as_aux_lemma => kernel_rfl) (fun _ _ _ h => h) (Or.inl ⟨by rfl, ?ys3_0⟩) (by assumption) ?rs3_0
      case ys3_0 => (intro w hSw; (try dsimp only at hSw); go_simp; try with_reducible rfl)
      try simp only [Act.put, List.setIfInBounds_toArray, List.set_cons_zero, List.set_cons_succ]
      refine wpAnyH_take (i := 1) (oi := ({ dst := some 130, op := .binOp .neq 25 (.tmp 129) (.const (.int .i64 0)) 25, type := 4, pos := "law.go:61", after := #[{ on := 0, ground := .data }], guard := none } : Oper)) (v := ?vs3_1) rfl back17_plain (by as_aux_lemma => kernel_rfl) (by as_aux_lemma => kernel_rfl) (fun _ _ _ h => h) (Or.inl ⟨by rfl, ?ys3_1⟩) (by assumption) ?rs3_1
      case ys3_1 => (intro w hSw; (try dsimp only at hSw); go_simp; try with_reducible rfl)
      try simp only [Act.put, List.setIfInBounds_toArray, List.set_cons_zero, List.set_cons_succ]
      refine wpAnyH_take (i := 2) (oi := ({ dst := some 131, op := .move (.tmp 130), type := 4, pos := "law.go:61", after := #[{ on := 1, ground := .data }], guard := none } : Oper)) (v := ?vs3_2) rfl back17_plain (by as_aux_lemma => kernel_rfl) (by as_aux_lemma => kernel_rfl) (fun _ _ _ h => h) (Or.inl ⟨by rfl, ?ys3_2⟩) (by assumption) ?rs3_2
      case ys3_2 => (intro w hSw; (try dsimp only at hSw); go_simp; try with_reducible rfl)
      try simp only [Act.put, List.setIfInBounds_toArray, List.set_cons_zero, List.set_cons_succ]
      refine wpAnyH_take (i := 3) (oi := ({ dst := some 132, op := .move (.tmp 17), type := 28, pos := "law.go:61", after := #[{ on := 2, ground := .guard }], guard := some (2, false) } : Oper)) (v := ?vs3_3) rfl back17_plain (by as_aux_lemma => kernel_rfl) (by as_aux_lemma => kernel_rfl) (fun _ _ _ h => h) (Or.inl ⟨by rfl, ?ys3_3⟩) (by assumption) ?rs3_3
      case ys3_3 => (intro w hSw; (try dsimp only at hSw); go_simp; try with_reducible rfl)
      try simp only [Act.put, List.setIfInBounds_toArray, List.set_cons_zero, List.set_cons_succ]
      refine wpAnyH_take (i := 4) (oi := ({ dst := some 133, op := .move (.tmp 2), type := 3, pos := "law.go:61", after := #[{ on := 2, ground := .guard }], guard := some (2, false) } : Oper)) (v := ?vs3_4) rfl back17_plain (by as_aux_lemma => kernel_rfl) (by as_aux_lemma => kernel_rfl) (fun _ _ _ h => h) (Or.inl ⟨by rfl, ?ys3_4⟩) (by assumption) ?rs3_4
      case ys3_4 => (intro w hSw; (try dsimp only at hSw); go_simp; try with_reducible rfl)
      try simp only [Act.put, List.setIfInBounds_toArray, List.set_cons_zero, List.set_cons_succ]
      refine wpAnyH_take (i := 7) (oi := ({ dst := some 136, op := .indexAddr 38 (.tmp 4) (.const (.int .i64 1)), type := 0, pos := "law.go:61", after := #[{ on := 2, ground := .guard }], guard := some (2, false) } : Oper)) (v := ?vs3_7) rfl back17_plain (by as_aux_lemma => kernel_rfl) (by as_aux_lemma => kernel_rfl) (fun _ _ _ h => h) (Or.inl ⟨by rfl, ?ys3_7⟩) (by assumption) ?rs3_7
      case ys3_7 => (intro w hSw; (try dsimp only at hSw); go_simp; try with_reducible rfl)
      try simp only [Act.put, List.setIfInBounds_toArray, List.set_cons_zero, List.set_cons_succ]
      refine wpAnyH_take (i := 8) (oi := ({ dst := some 137, op := .load 9 (.tmp 136), type := 9, pos := "law.go:61", after := #[{ on := 7, ground := .data }, { on := 2, ground := .guard }], guard := some (2, false) } : Oper)) (v := ?vs3_8) rfl back17_plain (by as_aux_lemma => kernel_rfl) (by as_aux_lemma => kernel_rfl) (fun _ _ _ h => h) (Or.inl ⟨by rfl, ?ys3_8⟩) (by assumption) ?rs3_8
      case ys3_8 => (intro w hSw; (try dsimp only at hSw); go_simp; try with_reducible rfl)
      try simp only [Act.put, List.setIfInBounds_toArray, List.set_cons_zero, List.set_cons_succ]
      refine wpAnyH_take (i := 9) (oi := ({ dst := some 138, op := .move (.tmp 2), type := 3, pos := "law.go:61", after := #[{ on := 2, ground := .guard }], guard := some (2, false) } : Oper)) (v := ?vs3_9) rfl back17_plain (by as_aux_lemma => kernel_rfl) (by as_aux_lemma => kernel_rfl) (fun _ _ _ h => h) (Or.inl ⟨by rfl, ?ys3_9⟩) (by assumption) ?rs3_9
      case ys3_9 => (intro w hSw; (try dsimp only at hSw); go_simp; try with_reducible rfl)
      try simp only [Act.put, List.setIfInBounds_toArray, List.set_cons_zero, List.set_cons_succ]
      refine wpAnyH_take (i := 10) (oi := ({ dst := some 139, op := .slice 9 (.tmp 137) none (some (.tmp 138)) none, type := 9, pos := "law.go:61", after := #[{ on := 8, ground := .data }, { on := 9, ground := .data }, { on := 2, ground := .guard }], guard := some (2, false) } : Oper)) (v := ?vs3_10) rfl back17_plain (by as_aux_lemma => kernel_rfl) (by as_aux_lemma => kernel_rfl) (fun _ _ _ h => h) (Or.inl ⟨by rfl, ?ys3_10⟩) (by assumption) ?rs3_10
      case ys3_10 => (intro w hSw; (try dsimp only at hSw); go_simp; try with_reducible rfl)
      try simp only [Act.put, List.setIfInBounds_toArray, List.set_cons_zero, List.set_cons_succ]
      refine wpAnyH_ready (rs := [5]) (by as_aux_lemma => kernel_rfl) (by simp) ?_
      refine AllReadyH.cons (o := ({ dst := some 134, op := .call { callee := .value (.func 18), args := #[.tmp 132, .tmp 133], argTypes := #[28, 3] }, type := 22, pos := "law.go:61", after := #[{ on := 3, ground := .data }, { on := 4, ground := .data }, { on := 2, ground := .chain }, { on := 2, ground := .guard }], guard := some (2, false) } : Oper)) rfl (fun KK hK => ?_) AllReadyH.nil
      rw [if_pos (by rfl)]
      go_simp
      go_at_call 18; refine (PU.out _).mono ?_; rintro e w11 ⟨v11, rfl, hv11⟩
      have hb11 := hv11.below
      have cv11 := hv11.string
      go_wp2_with fail
      refine hK.out _ _ ?_ (fun hHeld11 => ?_)
      · exact belowT (by assumption) hb11
      refine wpAnyH_rebase (S' := fun w' => Below w11.heap.size w11 w') (fun w' h => belowT hHeld11 h) _ _ _ _ ?_
      have hHeldR11 := Below.refl w11.heap.size w11
      clear hK KK
      try simp only [Act.put, List.setIfInBounds_toArray, List.set_cons_zero, List.set_cons_succ]
      refine wpAnyH_take (i := 6) (oi := ({ dst := some 135, op := .convert 22 9 (.tmp 134), type := 9, pos := "law.go:61", after := #[{ on := 5, ground := .data }, { on := 2, ground := .guard }], guard := some (2, false) } : Oper)) (v := ?vs3_6) rfl back17_plain (by as_aux_lemma => kernel_rfl) (by as_aux_lemma => kernel_rfl) (fun _ _ _ h => h) (Or.inl ⟨by rfl, ?ys3_6⟩) (by assumption) ?rs3_6
      case ys3_6 => (intro w hSw; (try dsimp only at hSw); have hS0 := belowT hHeld11 hSw; go_simp; try with_reducible rfl)
      try simp only [Act.put, List.setIfInBounds_toArray, List.set_cons_zero, List.set_cons_succ]
      refine wpAnyH_take (i := 11) (oi := ({ dst := some 140, op := .binOp .eql 9 (.tmp 135) (.tmp 139) 9, type := 4, pos := "law.go:61", after := #[{ on := 6, ground := .data }, { on := 10, ground := .data }, { on := 2, ground := .guard }], guard := some (2, false) } : Oper)) (v := ?vs3_11) rfl back17_plain (by as_aux_lemma => kernel_rfl) (by as_aux_lemma => kernel_rfl) (fun _ _ _ h => h) (Or.inl ⟨by rfl, ?ys3_11⟩) (by assumption) ?rs3_11
      case ys3_11 => (intro w hSw; (try dsimp only at hSw); have hS0 := belowT hHeld11 hSw; go_simp; try with_reducible rfl)
      try simp only [Act.put, List.setIfInBounds_toArray, List.set_cons_zero, List.set_cons_succ]
      refine wpAnyH_take (i := 12) (oi := ({ dst := some 141, op := .pick (.tmp 131) (.const (.bool true)) (.tmp 140), type := 4, pos := "law.go:61", after := #[{ on := 2, ground := .data }, { on := 11, ground := .data }], guard := none } : Oper)) (v := ?vs3_12) rfl back17_plain (by as_aux_lemma => kernel_rfl) (by as_aux_lemma => kernel_rfl) (fun _ _ _ h => h) (Or.inl ⟨by rfl, ?ys3_12⟩) (by assumption) ?rs3_12
      case ys3_12 => (intro w hSw; (try dsimp only at hSw); have hS0 := belowT hHeld11 hSw; go_simp; try with_reducible rfl)
      try simp only [Act.put, List.setIfInBounds_toArray, List.set_cons_zero, List.set_cons_succ]
      refine wpAnyH_take (i := 13) (oi := ({ dst := some 142, op := .move (.tmp 141), type := 4, pos := "law.go:61", after := #[{ on := 12, ground := .data }, { on := 5, ground := .chain }], guard := none } : Oper)) (v := ?vs3_13) rfl back17_plain (by as_aux_lemma => kernel_rfl) (by as_aux_lemma => kernel_rfl) (fun _ _ _ h => h) (Or.inl ⟨by rfl, ?ys3_13⟩) (by assumption) ?rs3_13
      case ys3_13 => (intro w hSw; (try dsimp only at hSw); have hS0 := belowT hHeld11 hSw; go_simp; try with_reducible rfl)
      try simp only [Act.put, List.setIfInBounds_toArray, List.set_cons_zero, List.set_cons_succ]
      refine wpAnyH_ready (rs := [14]) (by as_aux_lemma => kernel_rfl) (by simp) ?_
      refine AllReadyH.cons (o := ({ dst := some 143, op := .call { callee := .value (.func 7), args := #[], argTypes := #[] }, type := 4, pos := "law.go:61", after := #[{ on := 13, ground := .chain }, { on := 13, ground := .guard }], guard := some (13, true) } : Oper)) rfl (fun KK hK => ?_) AllReadyH.nil
      rw [if_pos (by rfl)]
      go_simp
      go_at_call 7; refine (AW.out _).mono ?_; rintro e w12 ⟨rfl, hb12⟩
      go_wp2_with fail
      refine hK.out _ _ ?_ (fun hHeld12 => ?_)
      · exact belowT (by assumption) hb12
      clear hK KK hb12
      try simp only [Act.put, List.setIfInBounds_toArray, List.set_cons_zero, List.set_cons_succ]
      refine wpAnyH_take (i := 15) (oi := ({ dst := some 144, op := .pick (.tmp 142) (.tmp 143) (.const (.bool false)), type := 4, pos := "law.go:61", after := #[{ on := 13, ground := .data }, { on := 14, ground := .data }], guard := none } : Oper)) (v := ?vs3_15) rfl back17_plain (by as_aux_lemma => kernel_rfl) (by as_aux_lemma => kernel_rfl) (fun _ _ _ h => h) (Or.inl ⟨by rfl, ?ys3_15⟩) (by assumption) ?rs3_15
      case ys3_15 => (intro w hSw; (try dsimp only at hSw); have hS0 := belowT hHeld11 hSw; go_simp; try with_reducible rfl)
      try simp only [Act.put, List.setIfInBounds_toArray, List.set_cons_zero, List.set_cons_succ]
      refine wpAnyH_take (i := 16) (oi := ({ dst := some 6, op := .assign (.tmp 144), type := 4, pos := "law.go:61", after := #[{ on := 15, ground := .data }, { on := 14, ground := .chain }, { on := 0, ground := .phase }, { on := 1, ground := .phase }, { on := 2, ground := .phase }, { on := 3, ground := .phase }, { on := 4, ground := .phase }, { on := 5, ground := .phase }, { on := 6, ground := .phase }, { on := 7, ground := .phase }, { on := 8, ground := .phase }, { on := 9, ground := .phase }, { on := 10, ground := .phase }, { on := 11, ground := .phase }, { on := 12, ground := .phase }, { on := 13, ground := .phase }, { on := 14, ground := .phase }, { on := 15, ground := .phase }], guard := none } : Oper)) (v := ?vs3_16) rfl back17_plain (by as_aux_lemma => kernel_rfl) (by as_aux_lemma => kernel_rfl) (fun _ _ _ h => h) (Or.inl ⟨by rfl, ?ys3_16⟩) (by assumption) ?rs3_16
      case ys3_16 => (intro w hSw; (try dsimp only at hSw); have hS0 := belowT hHeld11 hSw; go_simp; try with_reducible rfl)
      try simp only [Act.put, List.setIfInBounds_toArray, List.set_cons_zero, List.set_cons_succ]
      refine wpAnyH_done (by as_aux_lemma => kernel_rfl) ?_ _
      refine NoPanic.normal ?_
      go_wp2_with fail
      go_ret
      exact ⟨rfl, belowT B10 (belowT hHeld11 (by assumption))⟩

end Go.Proofs.Ytcnnkgkejafeeaa
