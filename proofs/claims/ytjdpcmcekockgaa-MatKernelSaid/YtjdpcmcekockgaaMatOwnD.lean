/- The landed mat's own contracts (commit f8f2e27): Rank. -/
import Derived.Test.YtjdpcmcekockgaaMatOwnA
import Derived.Test.YtjdpcmcekockgaaMatRank
namespace Go.Proofs.Ytjdpcmcekockgaa
open Go.RowKit
namespace Own8
/-- The operations of a drawn region, as the translation has them. -/
def orank : Array Oper := #[
  { dst := some 9, op := .load 25 (.tmp 1), type := 25, pos := "mat.go:99", after := #[], guard := none },
  { dst := some 10, op := .call { callee := .value (.func 41), args := #[.tmp 9], argTypes := #[25] }, type := 25, pos := "mat.go:99", after := #[{ on := 0, ground := .data }], guard := none },
  { dst := some 11, op := .load 25 (.tmp 3), type := 25, pos := "mat.go:99", after := #[], guard := none },
  { dst := some 12, op := .binOp .neq 25 (.tmp 10) (.tmp 11) 25, type := 4, pos := "mat.go:99", after := #[{ on := 1, ground := .data }, { on := 2, ground := .data }], guard := none },
  { dst := some 8, op := .assign (.tmp 12), type := 4, pos := "mat.go:99", after := #[{ on := 3, ground := .data }, { on := 1, ground := .chain }], guard := none }]
theorem orank_plain : Region.noSelect orank = true := by kernel_rfl

set_option maxHeartbeats 8000000 in
set_option maxRecDepth 100000 in
theorem Rank_any (m : M3) (w : World) :
    Calls Try.prog 22 #[mv m] w fun e w' => e = .returned (.int .i64 m.rank) ∧ Below w.heap.size w w' := by
  have DE := Lib.hid fun w => Det_any m w
  have CR := Lib.hid fun w => Crosses_any m w
  have ZC := mat_zero m.crosses
  have ZM := mat_zero m
  have d0 := det_zero m.det
  have er : m.rank = if decide (m.det = 0) = false then 3 else if decide (m.crosses = M3.zero) = false then 2 else if decide (m = M3.zero) = true then 0 else 1 := by
    have hc : m.crosses = M3.zero ↔ m.a.cross m.b = V3.zero ∧ m.a.cross m.c = V3.zero ∧ m.b.cross m.c = V3.zero := by
      unfold M3.crosses M3.zero; rw [M3.mk.injEq]
    unfold M3.rank
    by_cases h0 : m.det = 0
    · by_cases h1 : m.a.cross m.b = V3.zero
      · by_cases h2 : m.a.cross m.c = V3.zero
        · by_cases h3 : m.b.cross m.c = V3.zero
          · have hz := hc.2 ⟨h1, h2, h3⟩; simp [h0, h1, h2, h3, hz]
          · have hz : ¬ m.crosses = M3.zero := fun g => h3 (hc.1 g).2.2
            simp [h0, h1, h2, h3, hz]
        · have hz : ¬ m.crosses = M3.zero := fun g => h2 (hc.1 g).2.1
          simp [h0, h1, h2, hz]
      · have hz : ¬ m.crosses = M3.zero := fun g => h1 (hc.1 g).1
        simp [h0, h1, hz]
    · rw [if_pos h0, if_pos (decide_eq_false h0)]
  rw [er]
  clear er
  have hS1 := ((Sp.none w).more [.int .i64 m.a.x.toInt, .int .i64 m.a.y.toInt, .int .i64 m.a.z.toInt, .int .i64 m.b.x.toInt, .int .i64 m.b.y.toInt, .int .i64 m.b.z.toInt, .int .i64 m.c.x.toInt, .int .i64 m.c.y.toInt, .int .i64 m.c.z.toInt] 25).more [.int .i64 0, .int .i64 0, .int .i64 0, .int .i64 0, .int .i64 0, .int .i64 0, .int .i64 0, .int .i64 0, .int .i64 0] 25
  simp only [heap1] at hS1
  have HS1 := Lib.hid hS1
  clear hS1
  generalize decide (m.det = 0) = qd at *; generalize decide (m.crosses = M3.zero) = qc at *; generalize decide (m = M3.zero) = qm at *
  generalize m.det.toInt = d at *; generalize m.crosses = c at *
  go_enter Try.func22, Try.ntmps22
  go_wp2_with fail
  refine (DE.out _).mono ?_; rintro e w1 ⟨rfl, hb1⟩
  have hS2 := (HS1.out).keep hb1
  have HS2 := Lib.hid hS2
  clear hS2 HS1
  clear hb1
  cases qd with
  | false =>
    have BH := Lib.hid HS2.out.below
    clear HS2
    go_wp2
    go_ret
    exact ⟨rfl, BH.out⟩
  | true =>
    go_upto_region 4 with fail
    obtain ⟨bs1, hbs⟩ : ∃ bs : List (Nat × List (Option Value)), bs = [(w.heap.size, [some (.int .i64 m.a.x.toInt), some (.int .i64 m.a.y.toInt), some (.int .i64 m.a.z.toInt), some (.int .i64 m.b.x.toInt), some (.int .i64 m.b.y.toInt), some (.int .i64 m.b.z.toInt), some (.int .i64 m.c.x.toInt), some (.int .i64 m.c.y.toInt), some (.int .i64 m.c.z.toInt)]), (w.heap.size + 1, [some (.int .i64 0), some (.int .i64 0), some (.int .i64 0), some (.int .i64 0), some (.int .i64 0), some (.int .i64 0), some (.int .i64 0), some (.int .i64 0), some (.int .i64 0)])] := ⟨_, rfl⟩
    have hT := (HS2.out).cast hbs
    have c0_0 : ∀ w', Sp w bs1 w' → w'.cell? ⟨w.heap.size, 0, none⟩ = some (.int .i64 m.a.x.toInt) := by rw [hbs]; exact fun w' h => h.at 0 rfl 0 rfl
    have c0_1 : ∀ w', Sp w bs1 w' → w'.cell? ⟨w.heap.size, 1, none⟩ = some (.int .i64 m.a.y.toInt) := by rw [hbs]; exact fun w' h => h.at 0 rfl 1 rfl
    have c0_2 : ∀ w', Sp w bs1 w' → w'.cell? ⟨w.heap.size, 2, none⟩ = some (.int .i64 m.a.z.toInt) := by rw [hbs]; exact fun w' h => h.at 0 rfl 2 rfl
    have c0_3 : ∀ w', Sp w bs1 w' → w'.cell? ⟨w.heap.size, 3, none⟩ = some (.int .i64 m.b.x.toInt) := by rw [hbs]; exact fun w' h => h.at 0 rfl 3 rfl
    have c0_4 : ∀ w', Sp w bs1 w' → w'.cell? ⟨w.heap.size, 4, none⟩ = some (.int .i64 m.b.y.toInt) := by rw [hbs]; exact fun w' h => h.at 0 rfl 4 rfl
    have c0_5 : ∀ w', Sp w bs1 w' → w'.cell? ⟨w.heap.size, 5, none⟩ = some (.int .i64 m.b.z.toInt) := by rw [hbs]; exact fun w' h => h.at 0 rfl 5 rfl
    have c0_6 : ∀ w', Sp w bs1 w' → w'.cell? ⟨w.heap.size, 6, none⟩ = some (.int .i64 m.c.x.toInt) := by rw [hbs]; exact fun w' h => h.at 0 rfl 6 rfl
    have c0_7 : ∀ w', Sp w bs1 w' → w'.cell? ⟨w.heap.size, 7, none⟩ = some (.int .i64 m.c.y.toInt) := by rw [hbs]; exact fun w' h => h.at 0 rfl 7 rfl
    have c0_8 : ∀ w', Sp w bs1 w' → w'.cell? ⟨w.heap.size, 8, none⟩ = some (.int .i64 m.c.z.toInt) := by rw [hbs]; exact fun w' h => h.at 0 rfl 8 rfl
    have c1_0 : ∀ w', Sp w bs1 w' → w'.cell? ⟨w.heap.size + 1, 0, none⟩ = some (.int .i64 0) := by rw [hbs]; exact fun w' h => h.at 1 rfl 0 rfl
    have c1_1 : ∀ w', Sp w bs1 w' → w'.cell? ⟨w.heap.size + 1, 1, none⟩ = some (.int .i64 0) := by rw [hbs]; exact fun w' h => h.at 1 rfl 1 rfl
    have c1_2 : ∀ w', Sp w bs1 w' → w'.cell? ⟨w.heap.size + 1, 2, none⟩ = some (.int .i64 0) := by rw [hbs]; exact fun w' h => h.at 1 rfl 2 rfl
    have c1_3 : ∀ w', Sp w bs1 w' → w'.cell? ⟨w.heap.size + 1, 3, none⟩ = some (.int .i64 0) := by rw [hbs]; exact fun w' h => h.at 1 rfl 3 rfl
    have c1_4 : ∀ w', Sp w bs1 w' → w'.cell? ⟨w.heap.size + 1, 4, none⟩ = some (.int .i64 0) := by rw [hbs]; exact fun w' h => h.at 1 rfl 4 rfl
    have c1_5 : ∀ w', Sp w bs1 w' → w'.cell? ⟨w.heap.size + 1, 5, none⟩ = some (.int .i64 0) := by rw [hbs]; exact fun w' h => h.at 1 rfl 5 rfl
    have c1_6 : ∀ w', Sp w bs1 w' → w'.cell? ⟨w.heap.size + 1, 6, none⟩ = some (.int .i64 0) := by rw [hbs]; exact fun w' h => h.at 1 rfl 6 rfl
    have c1_7 : ∀ w', Sp w bs1 w' → w'.cell? ⟨w.heap.size + 1, 7, none⟩ = some (.int .i64 0) := by rw [hbs]; exact fun w' h => h.at 1 rfl 7 rfl
    have c1_8 : ∀ w', Sp w bs1 w' → w'.cell? ⟨w.heap.size + 1, 8, none⟩ = some (.int .i64 0) := by rw [hbs]; exact fun w' h => h.at 1 rfl 8 rfl
    have nx : ∀ w', Sp w bs1 w' → Sp w [(w.heap.size, [some (.int .i64 m.a.x.toInt), some (.int .i64 m.a.y.toInt), some (.int .i64 m.a.z.toInt), some (.int .i64 m.b.x.toInt), some (.int .i64 m.b.y.toInt), some (.int .i64 m.b.z.toInt), some (.int .i64 m.c.x.toInt), some (.int .i64 m.c.y.toInt), some (.int .i64 m.c.z.toInt)]), (w.heap.size + 1, [some (.int .i64 0), some (.int .i64 0), some (.int .i64 0), some (.int .i64 0), some (.int .i64 0), some (.int .i64 0), some (.int .i64 0), some (.int .i64 0), some (.int .i64 0)])] w' := by rw [hbs]; exact fun w' h => h
    have kS : ∀ w1 w2, Sp w bs1 w1 → Below w1.heap.size w1 w2 → Sp w bs1 w2 := fun _ _ h hb => h.keep hb
    clear hbs HS2
    change (Code.region 4 orank true).wp Try.prog _ _ _
    refine wp_region_noPanic ?_
    refine wp_region_held_drew (S := (Sp w bs1)) (by kernel_rfl) (hT.drew) (fun hHeld => ?_)
    refine wpAnyH_take (i := 0) (oi := ({ dst := some 9, op := .load 25 (.tmp 1), type := 25, pos := "mat.go:99", after := #[], guard := none } : Oper)) (v := ?vs1_0) rfl orank_plain (by as_aux_lemma => kernel_rfl) (by as_aux_lemma => kernel_rfl) (fun _ _ _ h => h) (Or.inl ⟨by rfl, ?ys1_0⟩) (by assumption) ?rs1_0
    case ys1_0 => (intro w hSw; (try dsimp only at hSw); go_simp; try with_reducible rfl)
    try simp only [Act.put, List.setIfInBounds_toArray, List.set_cons_zero, List.set_cons_succ]
    refine wpAnyH_take (i := 2) (oi := ({ dst := some 11, op := .load 25 (.tmp 3), type := 25, pos := "mat.go:99", after := #[], guard := none } : Oper)) (v := ?vs1_2) rfl orank_plain (by as_aux_lemma => kernel_rfl) (by as_aux_lemma => kernel_rfl) (fun _ _ _ h => h) (Or.inl ⟨by rfl, ?ys1_2⟩) (by assumption) ?rs1_2
    case ys1_2 => (intro w hSw; (try dsimp only at hSw); go_simp; try with_reducible rfl)
    try simp only [Act.put, List.setIfInBounds_toArray, List.set_cons_zero, List.set_cons_succ]
    refine wpAnyH_ready (rs := [1]) (by as_aux_lemma => kernel_rfl) (by simp) ?_
    refine AllReadyH.cons (o := ({ dst := some 10, op := .call { callee := .value (.func 41), args := #[.tmp 9], argTypes := #[25] }, type := 25, pos := "mat.go:99", after := #[{ on := 0, ground := .data }], guard := none } : Oper)) rfl (fun KK hK => ?_) AllReadyH.nil
    rw [if_pos (by rfl)]
    go_simp
    go_at_call 41; refine (CR.out _).mono ?_; rintro e w2 ⟨rfl, hb2⟩
    go_wp2_with fail
    refine hK.out _ _ ?_ (fun hHeld2 => ?_)
    · exact kS _ _ (by assumption) hb2
    clear hK KK hb2
    try simp only [Act.put, List.setIfInBounds_toArray, List.set_cons_zero, List.set_cons_succ]
    refine wpAnyH_take (i := 3) (oi := ({ dst := some 12, op := .binOp .neq 25 (.tmp 10) (.tmp 11) 25, type := 4, pos := "mat.go:99", after := #[{ on := 1, ground := .data }, { on := 2, ground := .data }], guard := none } : Oper)) (v := ?vs1_3) rfl orank_plain (by as_aux_lemma => kernel_rfl) (by as_aux_lemma => kernel_rfl) (fun _ _ _ h => h) (Or.inl ⟨by rfl, ?ys1_3⟩) (by assumption) ?rs1_3
    case ys1_3 => (intro w hSw; (try dsimp only at hSw); go_simp; try with_reducible rfl)
    try simp only [Act.put, List.setIfInBounds_toArray, List.set_cons_zero, List.set_cons_succ]
    refine wpAnyH_take (i := 4) (oi := ({ dst := some 8, op := .assign (.tmp 12), type := 4, pos := "mat.go:99", after := #[{ on := 3, ground := .data }, { on := 1, ground := .chain }], guard := none } : Oper)) (v := ?vs1_4) rfl orank_plain (by as_aux_lemma => kernel_rfl) (by as_aux_lemma => kernel_rfl) (fun _ _ _ h => h) (Or.inl ⟨by rfl, ?ys1_4⟩) (by assumption) ?rs1_4
    case ys1_4 => (intro w hSw; (try dsimp only at hSw); go_simp; try with_reducible rfl)
    try simp only [Act.put, List.setIfInBounds_toArray, List.set_cons_zero, List.set_cons_succ]
    refine wpAnyH_done (by as_aux_lemma => kernel_rfl) ?_ _
    refine NoPanic.normal ?_
    have N1 := nx _ hHeld2
    have HS3 := Lib.hid N1
    clear c0_0 c0_1 c0_2 c0_3 c0_4 c0_5 c0_6 c0_7 c0_8 c1_0 c1_1 c1_2 c1_3 c1_4 c1_5 c1_6 c1_7 c1_8 nx kS hT N1
    cases qc with
    | false =>
      have BH := Lib.hid HS3.out.below
      clear HS3
      go_wp2
      go_ret
      exact ⟨rfl, BH.out⟩
    | true =>
      have k0_0 := (HS3.out).at 0 rfl 0 (v := .int .i64 m.a.x.toInt) rfl
      have k0_1 := (HS3.out).at 0 rfl 1 (v := .int .i64 m.a.y.toInt) rfl
      have k0_2 := (HS3.out).at 0 rfl 2 (v := .int .i64 m.a.z.toInt) rfl
      have k0_3 := (HS3.out).at 0 rfl 3 (v := .int .i64 m.b.x.toInt) rfl
      have k0_4 := (HS3.out).at 0 rfl 4 (v := .int .i64 m.b.y.toInt) rfl
      have k0_5 := (HS3.out).at 0 rfl 5 (v := .int .i64 m.b.z.toInt) rfl
      have k0_6 := (HS3.out).at 0 rfl 6 (v := .int .i64 m.c.x.toInt) rfl
      have k0_7 := (HS3.out).at 0 rfl 7 (v := .int .i64 m.c.y.toInt) rfl
      have k0_8 := (HS3.out).at 0 rfl 8 (v := .int .i64 m.c.z.toInt) rfl
      have k1_0 := (HS3.out).at 1 rfl 0 (v := .int .i64 0) rfl
      have k1_1 := (HS3.out).at 1 rfl 1 (v := .int .i64 0) rfl
      have k1_2 := (HS3.out).at 1 rfl 2 (v := .int .i64 0) rfl
      have k1_3 := (HS3.out).at 1 rfl 3 (v := .int .i64 0) rfl
      have k1_4 := (HS3.out).at 1 rfl 4 (v := .int .i64 0) rfl
      have k1_5 := (HS3.out).at 1 rfl 5 (v := .int .i64 0) rfl
      have k1_6 := (HS3.out).at 1 rfl 6 (v := .int .i64 0) rfl
      have k1_7 := (HS3.out).at 1 rfl 7 (v := .int .i64 0) rfl
      have k1_8 := (HS3.out).at 1 rfl 8 (v := .int .i64 0) rfl
      have BH := Lib.hid HS3.out.below
      clear HS3
      cases qm
      all_goals
        go_wp2
        go_ret
        exact ⟨rfl, BH.out⟩
end Own8
end Go.Proofs.Ytjdpcmcekockgaa
