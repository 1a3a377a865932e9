
/- The landed subset's Place, Hypos. -/
import Derived.Test.YtldbkompebefmaaDoorLtLanC
namespace Go.Proofs.YtldbkompebefmaaDoor
open Go.RowKit

/-- the array's numbers, k of them written -/
def hl (k : Nat) : List Int := hypoNums.take k ++ List.replicate (22 - k) 0
def hrow (k : Nat) : List (Option Value) := (hl k).map fun z => some (.int .i64 z)
theorem hl_set (k : Nat) (h : k < 22) : (hl k).set k (hypoNums.getD k 0) = hl (k + 1) := by
  have g : ∀ k : Fin 22, (hl k.val).set k.val (hypoNums.getD k.val 0) = hl (k.val + 1) := by decide +kernel
  exact g ⟨k, h⟩
theorem hrow_set (k : Nat) (h : k < 22) : (hrow k).set k (some (.int .i64 (hypoNums.getD k 0))) = hrow (k + 1) := by
  unfold hrow
  rw [← hl_set k h, List.map_set]
theorem hl_len (k : Nat) (h : k ≤ 22) : (hl k).length = 22 := by
  have g : ∀ k : Fin 23, (hl k.val).length = 22 := by decide +kernel
  exact g ⟨k, by omega⟩
theorem hrow_there (k : Nat) (h : k < 22) : ∃ x, (hrow k)[k]? = some x := by
  have : k < (hrow k).length := by unfold hrow; rw [List.length_map, hl_len k (by omega)]; exact h
  exact ⟨_, List.getElem?_eq_getElem this⟩
theorem hrow_zero : hrow 1 = hrow 0 := by
  have : hl 1 = hl 0 := by decide +kernel
  unfold hrow
  rw [this]
theorem hrow_first : hrow 0 = [.int .i64 0, .int .i64 0, .int .i64 0, .int .i64 0, .int .i64 0, .int .i64 0, .int .i64 0, .int .i64 0, .int .i64 0, .int .i64 0, .int .i64 0, .int .i64 0, .int .i64 0, .int .i64 0, .int .i64 0, .int .i64 0, .int .i64 0, .int .i64 0, .int .i64 0, .int .i64 0, .int .i64 0, .int .i64 0].map some := rfl
theorem hypo_one (k : Nat) (h : k < 6) : withI 0 (k : Int) = hypoNums.getD (1 + k) 0 := by
  have g : ∀ k : Fin 6, withI 0 (k.val : Int) = hypoNums.getD (1 + k.val) 0 := by decide +kernel
  exact g ⟨k, h⟩
def pr0 (j : Nat) : Int := pairNums.getD (2 * j) 0
def pr1 (j : Nat) : Int := pairNums.getD (2 * j + 1) 0
theorem hypo_two (j : Nat) (h : j < 15) : withI (withI 0 (pr0 j)) (pr1 j) = hypoNums.getD (7 + j) 0 := by
  have g : ∀ j : Fin 15, withI (withI 0 (pr0 j.val)) (pr1 j.val) = hypoNums.getD (7 + j.val) 0 := by decide +kernel
  exact g ⟨j, h⟩
theorem hypoCell_at : ∀ j : Nat, j < 22 → ∀ w, (Instr.index 60 (.agg hypoCells) (.int .i64 (j : Int))).run Tryd.prog w = .ok (.int .i64 (hypoNums.getD j 0)) w
  | 0, _, _ => by kernel_rfl
  | 1, _, _ => by kernel_rfl
  | 2, _, _ => by kernel_rfl
  | 3, _, _ => by kernel_rfl
  | 4, _, _ => by kernel_rfl
  | 5, _, _ => by kernel_rfl
  | 6, _, _ => by kernel_rfl
  | 7, _, _ => by kernel_rfl
  | 8, _, _ => by kernel_rfl
  | 9, _, _ => by kernel_rfl
  | 10, _, _ => by kernel_rfl
  | 11, _, _ => by kernel_rfl
  | 12, _, _ => by kernel_rfl
  | 13, _, _ => by kernel_rfl
  | 14, _, _ => by kernel_rfl
  | 15, _, _ => by kernel_rfl
  | 16, _, _ => by kernel_rfl
  | 17, _, _ => by kernel_rfl
  | 18, _, _ => by kernel_rfl
  | 19, _, _ => by kernel_rfl
  | 20, _, _ => by kernel_rfl
  | 21, _, _ => by kernel_rfl
  | n + 22, h, _ => absurd h (by omega)
theorem pair_at : ∀ j : Nat, j < 15 → ∀ w, (Instr.index 65 (.agg pairCells) (.int .i64 (j : Int))).run Tryd.prog w = .ok (.agg #[.int .i64 (pr0 j), .int .i64 (pr1 j)]) w
  | 0, _, _ => by kernel_rfl
  | 1, _, _ => by kernel_rfl
  | 2, _, _ => by kernel_rfl
  | 3, _, _ => by kernel_rfl
  | 4, _, _ => by kernel_rfl
  | 5, _, _ => by kernel_rfl
  | 6, _, _ => by kernel_rfl
  | 7, _, _ => by kernel_rfl
  | 8, _, _ => by kernel_rfl
  | 9, _, _ => by kernel_rfl
  | 10, _, _ => by kernel_rfl
  | 11, _, _ => by kernel_rfl
  | 12, _, _ => by kernel_rfl
  | 13, _, _ => by kernel_rfl
  | 14, _, _ => by kernel_rfl
  | n + 15, h, _ => absurd h (by omega)
theorem info_hypos : (Tryd.prog.info? 60).map (·.size) = some 22 := by kernel_rfl
theorem hypoCells_size : hypoCells.size = 22 := by decide +kernel
theorem hypoCells_row : hypoCells.toList = (hl 22).map fun z => Value.int .i64 z := by
  have : hl 22 = hypoNums := by decide +kernel
  rw [this]; rfl
theorem hypoCells_one : hypoCells.all (·.oneCell') = true := by
  unfold hypoCells
  exact all_oneCell_toArray fun v hv => by
    obtain ⟨z, _, rfl⟩ := List.mem_map.1 hv
    rfl

/-- The operations of a drawn region, as the translation has them. -/
def hyp10 : Array Oper := #[
  { dst := some 19, op := .move (.tmp 3), type := 3, pos := "subset.go:66", after := #[], guard := none },
  { dst := some 20, op := .binOp .add 3 (.const (.int .i64 7)) (.tmp 19) 3, type := 3, pos := "subset.go:66", after := #[{ on := 0, ground := .data }], guard := none },
  { dst := some 21, op := .indexAddr 64 (.tmp 4) (.const (.int .i64 0)), type := 0, pos := "subset.go:66", after := #[], guard := none },
  { dst := some 22, op := .load 3 (.tmp 21), type := 3, pos := "subset.go:66", after := #[{ on := 2, ground := .data }], guard := none },
  { dst := some 23, op := .call { callee := .value (.func 49), args := #[.const (.int .i64 0), .tmp 22], argTypes := #[3, 3] }, type := 3, pos := "subset.go:66", after := #[{ on := 3, ground := .data }], guard := none },
  { dst := some 24, op := .indexAddr 64 (.tmp 4) (.const (.int .i64 1)), type := 0, pos := "subset.go:66", after := #[], guard := none },
  { dst := some 25, op := .load 3 (.tmp 24), type := 3, pos := "subset.go:66", after := #[{ on := 5, ground := .data }], guard := none },
  { dst := some 26, op := .call { callee := .value (.func 49), args := #[.tmp 23, .tmp 25], argTypes := #[3, 3] }, type := 3, pos := "subset.go:66", after := #[{ on := 4, ground := .data }, { on := 6, ground := .data }, { on := 4, ground := .chain }], guard := none },
  { dst := some 27, op := .indexAddr 60 (.tmp 1) (.tmp 20), type := 0, pos := "subset.go:66", after := #[{ on := 1, ground := .data }, { on := 0, ground := .phase }, { on := 1, ground := .phase }, { on := 2, ground := .phase }, { on := 3, ground := .phase }, { on := 4, ground := .phase }, { on := 5, ground := .phase }, { on := 6, ground := .phase }, { on := 7, ground := .phase }], guard := none },
  { dst := none, op := .store 3 (.tmp 27) (.tmp 26), type := 0, pos := "subset.go:66", after := #[{ on := 8, ground := .data }, { on := 7, ground := .data }, { on := 7, ground := .chain }, { on := 0, ground := .phase }, { on := 1, ground := .phase }, { on := 2, ground := .phase }, { on := 3, ground := .phase }, { on := 4, ground := .phase }, { on := 5, ground := .phase }, { on := 6, ground := .phase }, { on := 7, ground := .phase }], guard := none }]
theorem hyp10_plain : Region.noSelect hyp10 = true := by kernel_rfl


namespace Lan11
set_option maxHeartbeats 8000000 in
set_option maxRecDepth 100000 in
theorem Hypos_any (w : World) (n : PairsAt w) :
    Calls Tryd.prog 44 #[] w fun e w' => e = .returned (.agg hypoCells) ∧ Below w.heap.size w w' := by
  obtain ⟨arr2, hA⟩ : ∃ a, a = hypoCells := ⟨_, rfl⟩
  have FA : Hid (arr2.size = 22 ∧ arr2.all (·.oneCell') = true ∧ hrow (7 + 15) = arr2.toList.map some) := Lib.hid (by
    rw [hA]
    exact ⟨hypoCells_size, hypoCells_one, by rw [hypoCells_row]; unfold hrow; rw [List.map_map]; rfl⟩)
  rw [← hA]
  clear hA
  have hS0 := ((Sp.none w).more [.int .i64 0, .int .i64 0, .int .i64 0, .int .i64 0, .int .i64 0, .int .i64 0, .int .i64 0, .int .i64 0, .int .i64 0, .int .i64 0, .int .i64 0, .int .i64 0, .int .i64 0, .int .i64 0, .int .i64 0, .int .i64 0, .int .i64 0, .int .i64 0, .int .i64 0, .int .i64 0, .int .i64 0, .int .i64 0] 60).more [.int .i64 0, .int .i64 0, .int .i64 0, .int .i64 0, .int .i64 0, .int .i64 0, .int .i64 0, .int .i64 0, .int .i64 0, .int .i64 0, .int .i64 0, .int .i64 0, .int .i64 0, .int .i64 0, .int .i64 0, .int .i64 0, .int .i64 0, .int .i64 0, .int .i64 0, .int .i64 0, .int .i64 0, .int .i64 0] 60
  simp only [heap1] at hS0
  have HS0 : Hid (Sp w [(w.heap.size, hrow 0), (w.heap.size + 1, hrow 1)] _) := Lib.hid (hS0.cast (by rw [hrow_zero, hrow_first]; rfl))
  clear hS0
  go_enter Tryd.func44, Tryd.ntmps44
  go_wp2
  go_loopw [5] (fun i wr => ∃ k : Nat, k ≤ 6 ∧ i = .int .i64 k ∧ Sp w [(w.heap.size, hrow 0), (w.heap.size + 1, hrow (1 + k))] wr) (fun i _ => 6 - (intOf i).toNat)
  case atStart => exact ⟨0, by omega, rfl, HS0.out⟩
  case round =>
    clear HS0
    obtain ⟨k, hk, rfl, hS⟩ := hrel
    have HS := Lib.hid hS
    clear hS
    by_cases h6 : (k : Int) < 6
    · go_wp2_with fail
      refine (With_any 0 k wr).mono ?_
      rintro e w1 ⟨rfl, rfl⟩
      rw [hypo_one k (by omega)]
      obtain ⟨x, hx⟩ := hrow_there (1 + k) (by omega)
      obtain ⟨z, hz, hf⟩ := HS.out.there 1 rfl (1 + k) hx
      have hS' := HS.out.put 1 rfl (1 + k) (.int .i64 (hypoNums.getD (1 + k) 0))
      rw [hrow_set _ (by omega)] at hS'
      have HS' := Lib.hid hS'
      clear hS' hx
      generalize hypoNums.getD (1 + k) 0 = v at *
      go_wp2
      go_roundw
      case rel => exact ⟨k + 1, by omega, rfl, HS'.out⟩
      case measure => simp [intOf]; omega
    · obtain rfl : k = 6 := by omega
      go_wp2_with fail
      refine (Own9.Pairs_any wr (n.keep HS.out.below)).mono ?_
      rintro e w1 ⟨rfl, hb1⟩
      have HS1 := Lib.hid (HS.out.keep hb1)
      have HI := Lib.hid pair_at
      clear hb1 HS
      generalize pairCells = arr at *
      go_wp2
      go_loopw [15] (fun i wr => ∃ j : Nat, j ≤ 15 ∧ i = .int .i64 j ∧ Sp w [(w.heap.size, hrow 0), (w.heap.size + 1, hrow (7 + j))] wr) (fun i _ => 15 - (intOf i).toNat)
      case atStart => exact ⟨0, by omega, rfl, HS1.out⟩
      case round =>
        clear HS1
        obtain ⟨j, hj, rfl, hS⟩ := hrel
        rename World => wj
        have HS := Lib.hid hS
        clear hS
        by_cases h15 : (j : Int) < 15
        · have hix := HI.out j (by omega)
          have hv := hypo_two j (by omega)
          obtain ⟨m, hm⟩ : ∃ m : Nat, m = 7 + j := ⟨_, rfl⟩
          have ew : IntKind.i64.wrap (7 + (j : Int)) = (m : Int) := by rw [IntKind.wrap_i64]; omega
          have hm22 : (m : Int) < 22 := by omega
          rw [← hm] at hv
          have hr := hrow_set m (by omega)
          rw [← hv] at hr
          clear hv HI
          generalize pr0 j = p0 at *
          generalize pr1 j = p1 at *
          have C1 : Hid (∀ w, Calls Tryd.prog 49 #[.int .i64 0, .int .i64 p0] w fun e w' => e = .returned (.int .i64 (withI 0 p0)) ∧ Below w.heap.size w w') := Lib.hid fun w => (With_any 0 p0 w).mono fun _ _ h => ⟨h.1, h.2 ▸ Below.refl _ _⟩
          have C2 : Hid (∀ w, Calls Tryd.prog 49 #[.int .i64 (withI 0 p0), .int .i64 p1] w fun e w' => e = .returned (.int .i64 (withI (withI 0 p0) p1)) ∧ Below w.heap.size w w') := Lib.hid fun w => (With_any (withI 0 p0) p1 w).mono fun _ _ h => ⟨h.1, h.2 ▸ Below.refl _ _⟩
          generalize withI (withI 0 p0) p1 = v at *
          generalize withI 0 p0 = q at *
          have HS' : Hid (Sp w [(w.heap.size, hrow 0), (w.heap.size + 1, hrow m)] wj) := Lib.hid (by rw [hm]; exact HS.out)
          obtain ⟨x, hx⟩ := hrow_there m (by omega)
          have HM := Lib.hid hm
          clear HS hm
          have hlen := (List.getElem?_eq_some_iff.1 hx).1
          have hn : ((hrow m).set m none)[m]? = some none := List.getElem?_set_self hlen
          have hss : ((hrow m).set m none).set m (some (.int .i64 v)) = hrow (m + 1) := by rw [List.set_set, hr]
          clear hr hlen
          go_upto_region 10 with fail
          obtain ⟨w2, hX, hS2⟩ := (HS'.out.more [.int .i64 p0, .int .i64 p1] 64).named
          rw [← hX]
          have hS3 := hS2.forget 1 rfl m
          clear hX hS2 HS' hx
          obtain ⟨bs, hbs⟩ : ∃ bs : List (Nat × List (Option Value)), bs = [(w.heap.size, hrow 0), (w.heap.size + 1, (hrow m).set m none), (wj.heap.size, [some (.int .i64 p0), some (.int .i64 p1)])] := ⟨_, rfl⟩
          have hT := hS3.cast hbs
          have c0 : ∀ w', Sp w bs w' → w'.cell? ⟨wj.heap.size, 0, none⟩ = some (.int .i64 p0) := by rw [hbs]; exact fun w' h => h.at 2 rfl 0 rfl
          have c1 : ∀ w', Sp w bs w' → w'.cell? ⟨wj.heap.size, 1, none⟩ = some (.int .i64 p1) := by rw [hbs]; exact fun w' h => h.at 2 rfl 1 rfl
          have o0 : ∀ w', Sp w bs w' → ∃ z, w'.cell? ⟨w.heap.size + 1, m, none⟩ = some z ∧ w'.frozen? ⟨w.heap.size + 1, m, none⟩ = false := by rw [hbs]; exact fun w' h => h.there 1 rfl m hn
          have s0 : ∀ w' z, Sp w bs w' → Sp w bs (w'.setCell ⟨w.heap.size + 1, m, none⟩ z) := by rw [hbs]; exact fun w' z h => h.hit 1 rfl m hn z
          have nx : ∀ w', Sp w bs w' → Sp w [(w.heap.size, hrow 0), (w.heap.size + 1, hrow (m + 1))] (w'.setCell ⟨w.heap.size + 1, m, none⟩ (.int .i64 v)) := by
            rw [hbs, ← hss]
            exact fun w' h => (h.put 1 rfl m (.int .i64 v)).take 2
          have kS : ∀ w1 w2, Sp w bs w1 → Below w1.heap.size w1 w2 → Sp w bs w2 := fun _ _ h hb => h.keep hb
          clear hbs hS3 hn hss
          change (Code.region 10 hyp10 true).wp Tryd.prog _ _ _
          refine wp_region_noPanic ?_
          refine wp_region_held_drew (S := (Sp w bs)) (by kernel_rfl) (hT.drew) (fun hHeld => ?_)
          refine wpAnyH_take (i := 0) (oi := ({ dst := some 19, op := .move (.tmp 3), type := 3, pos := "subset.go:66", after := #[], guard := none } : Oper)) (v := ?vs1_0) rfl hyp10_plain (by as_aux_lemma => kernel_rfl) (by as_aux_lemma => kernel_rfl) (fun _ _ _ h => h) (Or.inl ⟨by rfl, ?ys1_0⟩) (by assumption) ?rs1_0
          case ys1_0 => (intro w hSw; (try dsimp only at hSw); go_simp; try with_reducible rfl)
          try simp only [Act.put, List.setIfInBounds_toArray, List.set_cons_zero, List.set_cons_succ]
          refine wpAnyH_take (i := 1) (oi := ({ dst := some 20, op := .binOp .add 3 (.const (.int .i64 7)) (.tmp 19) 3, type := 3, pos := "subset.go:66", after := #[{ on := 0, ground := .data }], guard := none } : Oper)) (v := ?vs1_1) rfl hyp10_plain (by as_aux_lemma => kernel_rfl) (by as_aux_lemma => kernel_rfl) (fun _ _ _ h => h) (Or.inl ⟨by rfl, ?ys1_1⟩) (by assumption) ?rs1_1
          case ys1_1 => (intro w hSw; (try dsimp only at hSw); go_simp; try with_reducible rfl)
          try simp only [Act.put, List.setIfInBounds_toArray, List.set_cons_zero, List.set_cons_succ]
          refine wpAnyH_take (i := 2) (oi := ({ dst := some 21, op := .indexAddr 64 (.tmp 4) (.const (.int .i64 0)), type := 0, pos := "subset.go:66", after := #[], guard := none } : Oper)) (v := ?vs1_2) rfl hyp10_plain (by as_aux_lemma => kernel_rfl) (by as_aux_lemma => kernel_rfl) (fun _ _ _ h => h) (Or.inl ⟨by rfl, ?ys1_2⟩) (by assumption) ?rs1_2
          case ys1_2 => (intro w hSw; (try dsimp only at hSw); go_simp; try with_reducible rfl)
          try simp only [Act.put, List.setIfInBounds_toArray, List.set_cons_zero, List.set_cons_succ]
          refine wpAnyH_take (i := 3) (oi := ({ dst := some 22, op := .load 3 (.tmp 21), type := 3, pos := "subset.go:66", after := #[{ on := 2, ground := .data }], guard := none } : Oper)) (v := ?vs1_3) rfl hyp10_plain (by as_aux_lemma => kernel_rfl) (by as_aux_lemma => kernel_rfl) (fun _ _ _ h => h) (Or.inl ⟨by rfl, ?ys1_3⟩) (by assumption) ?rs1_3
          case ys1_3 => (intro w hSw; (try dsimp only at hSw); go_simp; try with_reducible rfl)
          try simp only [Act.put, List.setIfInBounds_toArray, List.set_cons_zero, List.set_cons_succ]
          refine wpAnyH_take (i := 5) (oi := ({ dst := some 24, op := .indexAddr 64 (.tmp 4) (.const (.int .i64 1)), type := 0, pos := "subset.go:66", after := #[], guard := none } : Oper)) (v := ?vs1_5) rfl hyp10_plain (by as_aux_lemma => kernel_rfl) (by as_aux_lemma => kernel_rfl) (fun _ _ _ h => h) (Or.inl ⟨by rfl, ?ys1_5⟩) (by assumption) ?rs1_5
          case ys1_5 => (intro w hSw; (try dsimp only at hSw); go_simp; try with_reducible rfl)
          try simp only [Act.put, List.setIfInBounds_toArray, List.set_cons_zero, List.set_cons_succ]
          refine wpAnyH_take (i := 6) (oi := ({ dst := some 25, op := .load 3 (.tmp 24), type := 3, pos := "subset.go:66", after := #[{ on := 5, ground := .data }], guard := none } : Oper)) (v := ?vs1_6) rfl hyp10_plain (by as_aux_lemma => kernel_rfl) (by as_aux_lemma => kernel_rfl) (fun _ _ _ h => h) (Or.inl ⟨by rfl, ?ys1_6⟩) (by assumption) ?rs1_6
          case ys1_6 => (intro w hSw; (try dsimp only at hSw); go_simp; try with_reducible rfl)
          try simp only [Act.put, List.setIfInBounds_toArray, List.set_cons_zero, List.set_cons_succ]
          refine wpAnyH_ready (rs := [4]) (by as_aux_lemma => kernel_rfl) (by simp) ?_
          refine AllReadyH.cons (o := ({ dst := some 23, op := .call { callee := .value (.func 49), args := #[.const (.int .i64 0), .tmp 22], argTypes := #[3, 3] }, type := 3, pos := "subset.go:66", after := #[{ on := 3, ground := .data }], guard := none } : Oper)) rfl (fun KK hK => ?_) AllReadyH.nil
          rw [if_pos (by rfl)]
          go_simp
          go_at_call 49; refine (C1.out _).mono ?_; rintro e w3 ⟨rfl, hb3⟩
          go_wp2_with fail
          refine hK.out _ _ ?_ (fun hHeld3 => ?_)
          · exact kS _ _ (by assumption) hb3
          clear hK KK hb3
          try simp only [Act.put, List.setIfInBounds_toArray, List.set_cons_zero, List.set_cons_succ]
          refine wpAnyH_ready (rs := [7]) (by as_aux_lemma => kernel_rfl) (by simp) ?_
          refine AllReadyH.cons (o := ({ dst := some 26, op := .call { callee := .value (.func 49), args := #[.tmp 23, .tmp 25], argTypes := #[3, 3] }, type := 3, pos := "subset.go:66", after := #[{ on := 4, ground := .data }, { on := 6, ground := .data }, { on := 4, ground := .chain }], guard := none } : Oper)) rfl (fun KK hK => ?_) AllReadyH.nil
          rw [if_pos (by rfl)]
          go_simp
          go_at_call 49; refine (C2.out _).mono ?_; rintro e w4 ⟨rfl, hb4⟩
          go_wp2_with fail
          refine hK.out _ _ ?_ (fun hHeld4 => ?_)
          · exact kS _ _ (by assumption) hb4
          clear hK KK hb4 hHeld3
          try simp only [Act.put, List.setIfInBounds_toArray, List.set_cons_zero, List.set_cons_succ]
          refine wpAnyH_take (i := 8) (oi := ({ dst := some 27, op := .indexAddr 60 (.tmp 1) (.tmp 20), type := 0, pos := "subset.go:66", after := #[{ on := 1, ground := .data }, { on := 0, ground := .phase }, { on := 1, ground := .phase }, { on := 2, ground := .phase }, { on := 3, ground := .phase }, { on := 4, ground := .phase }, { on := 5, ground := .phase }, { on := 6, ground := .phase }, { on := 7, ground := .phase }], guard := none } : Oper)) (v := ?vs1_8) rfl hyp10_plain (by as_aux_lemma => kernel_rfl) (by as_aux_lemma => kernel_rfl) (fun _ _ _ h => h) (Or.inl ⟨by rfl, ?ys1_8⟩) (by assumption) ?rs1_8
          case ys1_8 => (intro w hSw; (try dsimp only at hSw); go_simp; try with_reducible rfl)
          try simp only [Act.put, List.setIfInBounds_toArray, List.set_cons_zero, List.set_cons_succ]
          refine wpAnyH_ready (rs := [9]) (by as_aux_lemma => kernel_rfl) (by simp) ?_
          refine AllReadyH.cons (o := ({ dst := none, op := .store 3 (.tmp 27) (.tmp 26), type := 0, pos := "subset.go:66", after := #[{ on := 8, ground := .data }, { on := 7, ground := .data }, { on := 7, ground := .chain }, { on := 0, ground := .phase }, { on := 1, ground := .phase }, { on := 2, ground := .phase }, { on := 3, ground := .phase }, { on := 4, ground := .phase }, { on := 5, ground := .phase }, { on := 6, ground := .phase }, { on := 7, ground := .phase }], guard := none } : Oper)) rfl (fun KK hK => ?_) AllReadyH.nil
          rw [if_pos (by rfl)]
          obtain ⟨z0, k0, f0⟩ := o0 _ hHeld4
          have N1 := nx _ hHeld4
          go_simp
          refine hK.out _ _ ?_ (fun hHeldS0 => ?_)
          · exact s0 _ _ hHeld4
          clear hK KK
          try simp only [Act.put, List.setIfInBounds_toArray, List.set_cons_zero, List.set_cons_succ]
          refine wpAnyH_done (by as_aux_lemma => kernel_rfl) ?_ _
          refine NoPanic.normal ?_
          have HS := Lib.hid N1
          clear c0 c1 o0 s0 nx kS hT N1 k0 f0
          go_wp2
          go_roundw
          case rel => exact ⟨j + 1, by omega, rfl, by rw [show 7 + (j + 1) = m + 1 by have := HM.out; omega]; exact HS.out⟩
          case measure => simp [intOf]; omega
        · obtain rfl : j = 15 := by omega
          have hs := info_hypos
          obtain ⟨hz, h1, hrow22⟩ := FA.out
          have hL : wj.rangeAt (w.heap.size + 1) 0 arr2.toList := fun i v hv => by
            rw [Nat.zero_add]
            exact HS.out.at 1 rfl i (by rw [hrow22, List.getElem?_map, hv]; rfl)
          have hth : wj.there w.heap.size 0 arr2.size := fun i hi => by
            rw [Nat.zero_add]
            rw [hz] at hi
            have hi0 : i < (hrow 0).length := by unfold hrow; rw [List.length_map, hl_len 0 (by omega)]; exact hi
            obtain ⟨z, hz', hf⟩ := HS.out.there 0 rfl i (List.getElem?_eq_getElem hi0)
            exact ⟨by rw [hz']; rfl, hf⟩
          have hR := World.rangeAt_setCells_same wj w.heap.size 0 arr2.toList (by rw [Array.length_toList]; exact hth)
          have hB := Lib.hid (below_setCells (Nat.le_refl w.heap.size) arr2.toList 0 _ HS.out.below)
          rw [← hz] at hs
          clear HS hrow22 HI FA
          go_upto_region 12 with fail
          refine wp_region_lit ?_
          refine list_load_row rfl 60 _ rfl (w.heap.size + 1) rfl arr2 _ hL Tryd.underlying60 rfl hs ?_
          refine wpList_store_mid rfl 60 _ _ rfl w.heap.size 0 arr2 rfl rfl hth hs h1 ?_
          clear hL hth
          go_wp2
          exact bodyPost_ret (results_row rfl rfl hR Tryd.underlying60 rfl hs) rfl ⟨rfl, hB.out⟩

set_option maxHeartbeats 2000000 in
theorem Place_any (x : Int) (w : World) (n : PairsAt w) :
    Calls Tryd.prog 37 #[.int .i64 x] w fun e w' => e = .returned (.int .i64 (placeI x hypoNums 0)) ∧ Below w.heap.size w w' := by
  obtain ⟨r, hr⟩ : ∃ r, r = placeI x hypoNums 0 := ⟨_, rfl⟩
  rw [← hr]
  have HR := Lib.hid hr
  clear hr
  have HI := Lib.hid hypoCell_at
  have HY := Lib.hid (Hypos_any w n)
  have hlen : hypoNums.length = 22 := by decide +kernel
  generalize hypoCells = arr at *
  generalize hypoNums = l at *
  go_enter Tryd.func37, Tryd.ntmps37
  go_wp2_with fail
  refine HY.out.mono ?_
  rintro e w1 ⟨rfl, hb⟩
  have HB := Lib.hid hb
  clear hb HY
  go_wp2
  go_loop [6] (fun i => ∃ j : Nat, j ≤ 22 ∧ i = .int .i64 j ∧ placeI x (l.drop j) j = r) (fun i => 22 - (intOf i).toNat)
  case atStart => exact ⟨0, by omega, rfl, HR.out.symm⟩
  case round =>
    obtain ⟨j, hj, rfl, hp⟩ := hrel
    clear HR
    by_cases hlt : (j : Int) < 22
    · have hix := HI.out j (by omega)
      rw [Ref11.placeI_step _ _ _ (by omega)] at hp
      generalize l.getD j 0 = z at *
      by_cases hz : z = x
      · rw [if_pos hz] at hp
        have hq : (z == x) = true := by simpa using hz
        have HP := Lib.hid hp
        clear hz hp
        go_wp2
        go_ret
        rw [← HP.out]
        exact ⟨rfl, HB.out⟩
      · rw [if_neg hz] at hp
        have hq : (z == x) = false := by simpa using hz
        have HP := Lib.hid hp
        clear hp hz
        go_wp2
        go_round
        case rel => exact ⟨j + 1, by omega, rfl, HP.out⟩
        case measure => simp [intOf]; omega
    · obtain rfl : j = 22 := by omega
      rw [List.drop_of_length_le (by omega)] at hp
      have HP : Hid (r = -1) := Lib.hid (by rw [← hp]; rfl)
      clear hp
      go_wp2
      go_ret
      rw [HP.out]
      exact ⟨rfl, HB.out⟩
end Lan11
end Go.Proofs.YtldbkompebefmaaDoor
