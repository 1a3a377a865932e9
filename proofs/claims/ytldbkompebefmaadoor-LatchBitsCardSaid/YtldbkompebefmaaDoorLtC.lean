/- The landed latch's Now. -/
import Derived.Test.YtldbkompebefmaaDoorLtA
import Derived.Test.YtldbkompebefmaaDoorLtLanF
import Derived.Test.YtldbkompebefmaaDoorLtTr
import Derived.Test.YtldbkompebefmaaDoorLtHyp
import Derived.Lib.MinMax
import Derived.Deep.RegionWith
import Derived.Deep.CutBlock
import Derived.Deep.CutRange
import Derived.BigRegion
namespace Go.Proofs.YtldbkompebefmaaDoor
open Go.RowKit Ld Lat Obs

/-- what is now -/
def Lat.nowL (al : List Bool) (i s : Int) (p q : Qd) : La := ⟨us (Hyp.exc al : Int) i s, Hyp.amb al, status p, status q, false, !Hyp.any al⟩
namespace Lat
/-- The operations of a drawn region, as the translation has them. -/
def ltnow1 : Array Oper := #[
  { dst := some 11, op := .load 24 (.tmp 5), type := 24, pos := "latch.go:34", after := #[], guard := none },
  { dst := some 12, op := .call { callee := .value (.func 21), args := #[.tmp 11], argTypes := #[24] }, type := 3, pos := "latch.go:35", after := #[{ on := 0, ground := .data }], guard := none },
  { dst := some 13, op := .move (.tmp 1), type := 3, pos := "latch.go:34", after := #[], guard := none },
  { dst := some 14, op := .move (.tmp 2), type := 3, pos := "latch.go:34", after := #[], guard := none },
  { dst := some 15, op := .call { callee := .value (.func 12), args := #[.tmp 12, .tmp 13, .tmp 14], argTypes := #[3, 3, 3] }, type := 3, pos := "latch.go:35", after := #[{ on := 1, ground := .data }, { on := 2, ground := .data }, { on := 3, ground := .data }, { on := 1, ground := .chain }], guard := none },
  { dst := some 16, op := .load 24 (.tmp 5), type := 24, pos := "latch.go:34", after := #[], guard := none },
  { dst := some 17, op := .call { callee := .value (.func 22), args := #[.tmp 16], argTypes := #[24] }, type := 4, pos := "latch.go:36", after := #[{ on := 5, ground := .data }, { on := 4, ground := .chain }], guard := none },
  { dst := some 18, op := .load 30 (.tmp 8), type := 30, pos := "latch.go:34", after := #[], guard := none },
  { dst := some 19, op := .call { callee := .value (.func 23), args := #[.tmp 18], argTypes := #[30] }, type := 3, pos := "latch.go:37", after := #[{ on := 7, ground := .data }, { on := 6, ground := .chain }], guard := none },
  { dst := some 20, op := .load 30 (.tmp 9), type := 30, pos := "latch.go:34", after := #[], guard := none },
  { dst := some 21, op := .call { callee := .value (.func 23), args := #[.tmp 20], argTypes := #[30] }, type := 3, pos := "latch.go:38", after := #[{ on := 9, ground := .data }, { on := 8, ground := .chain }], guard := none },
  { dst := some 22, op := .load 24 (.tmp 5), type := 24, pos := "latch.go:34", after := #[], guard := none },
  { dst := some 23, op := .call { callee := .value (.func 24), args := #[.tmp 22], argTypes := #[24] }, type := 4, pos := "latch.go:39", after := #[{ on := 11, ground := .data }, { on := 10, ground := .chain }], guard := none },
  { dst := some 24, op := .unOp .not 4 (.tmp 23), type := 4, pos := "latch.go:34", after := #[{ on := 12, ground := .data }], guard := none },
  { dst := some 25, op := .build 23 #[(0, .tmp 15), (1, .tmp 17), (2, .tmp 19), (3, .tmp 21), (5, .tmp 24)], type := 23, pos := "latch.go:34", after := #[{ on := 4, ground := .data }, { on := 6, ground := .data }, { on := 8, ground := .data }, { on := 10, ground := .data }, { on := 13, ground := .data }], guard := none },
  { dst := none, op := .store 23 (.tmp 10) (.tmp 25), type := 0, pos := "latch.go:34", after := #[{ on := 14, ground := .data }, { on := 12, ground := .chain }, { on := 0, ground := .phase }, { on := 1, ground := .phase }, { on := 2, ground := .phase }, { on := 3, ground := .phase }, { on := 4, ground := .phase }, { on := 5, ground := .phase }, { on := 6, ground := .phase }, { on := 7, ground := .phase }, { on := 8, ground := .phase }, { on := 9, ground := .phase }, { on := 10, ground := .phase }, { on := 11, ground := .phase }, { on := 12, ground := .phase }, { on := 13, ground := .phase }, { on := 14, ground := .phase }], guard := none }]
theorem ltnow1_plain : Region.noSelect ltnow1 = true := by kernel_rfl

set_option maxHeartbeats 16000000 in
set_option maxRecDepth 100000 in
theorem Now_core (arr pa qb : Array Value) (i s x u al sp : Int) (am an no : Bool) (w : World)
    (hA : Hid ((Tryd.prog.info? 24).map (·.size) = some arr.size)) (hP : Hid ((Tryd.prog.info? 30).map (·.size) = some pa.size)) (hQ : Hid ((Tryd.prog.info? 30).map (·.size) = some qb.size))
    (EX : Hid (∀ w', Below w.heap.size w w' → Calls Tryd.prog 21 #[.agg arr] w' fun e w'' => e = .returned (.int .i64 x) ∧ Below w'.heap.size w' w''))
    (US : Hid (∀ w', Below w.heap.size w w' → Calls Tryd.prog 12 #[.int .i64 x, .int .i64 i, .int .i64 s] w' fun e w'' => e = .returned (.int .i64 u) ∧ Below w'.heap.size w' w''))
    (AM : Hid (∀ w', Below w.heap.size w w' → Calls Tryd.prog 22 #[.agg arr] w' fun e w'' => e = .returned (.bool am) ∧ Below w'.heap.size w' w''))
    (SP : Hid (∀ w', Below w.heap.size w w' → Calls Tryd.prog 23 #[.agg pa] w' fun e w'' => e = .returned (.int .i64 al) ∧ Below w'.heap.size w' w''))
    (SQ : Hid (∀ w', Below w.heap.size w w' → Calls Tryd.prog 23 #[.agg qb] w' fun e w'' => e = .returned (.int .i64 sp) ∧ Below w'.heap.size w' w''))
    (AN : Hid (∀ w', Below w.heap.size w w' → Calls Tryd.prog 24 #[.agg arr] w' fun e w'' => e = .returned (.bool an) ∧ Below w'.heap.size w' w''))
    (HN : Hid ((!an) = no))
    : Calls Tryd.prog 6 #[.agg arr, .int .i64 i, .int .i64 s, .agg pa, .agg qb] w fun e w' => e = .returned (.agg #[.int .i64 u, .bool am, .int .i64 al, .int .i64 sp, .bool false, .bool no]) ∧ Below w.heap.size w w' := by
  have hS1 := ((((Sp.none w).more arr.toList 24).more pa.toList 30).more qb.toList 30).more [.int .i64 0, .bool false, .int .i64 0, .int .i64 0, .bool false, .bool false] 23
  simp only [heap1] at hS1
  have HS1 := Lib.hid (show Sp w [(w.heap.size, arr.toList.map some), (w.heap.size + 1, pa.toList.map some), (w.heap.size + 1 + 1, qb.toList.map some), (w.heap.size + 1 + 1 + 1, [some (.int .i64 0), some (.bool false), some (.int .i64 0), some (.int .i64 0), some (.bool false), some (.bool false)])] ((((w.alloc (.cells arr 24)).alloc (.cells pa 30)).alloc (.cells qb 30)).alloc (.cells #[.int .i64 0, .bool false, .int .i64 0, .int .i64 0, .bool false, .bool false] 23)) from hS1)
  clear hS1
  have ha := hA.out
  have hp := hP.out
  have hq := hQ.out
  have hn := HN.out
  clear hA hP hQ HN
  go_enter Tryd.func6, Tryd.ntmps6
  go_upto_region 1 with fail
  obtain ⟨w1, hX, hS⟩ := (HS1.out).named
  rw [← hX]
  clear hX HS1
  have HS2 := Lib.hid hS
  clear hS
  have hS3 := (HS2.out).forget 3 rfl 0
  have HS3 := Lib.hid hS3
  clear hS3 HS2
  have hS4 := (HS3.out).forget 3 rfl 1
  have HS4 := Lib.hid hS4
  clear hS4 HS3
  have hS5 := (HS4.out).forget 3 rfl 2
  have HS5 := Lib.hid hS5
  clear hS5 HS4
  have hS6 := (HS5.out).forget 3 rfl 3
  have HS6 := Lib.hid hS6
  clear hS6 HS5
  have hS7 := (HS6.out).forget 3 rfl 4
  have HS7 := Lib.hid hS7
  clear hS7 HS6
  have hS8 := (HS7.out).forget 3 rfl 5
  have HS8 := Lib.hid hS8
  clear hS8 HS7
  obtain ⟨bs1, hbs⟩ : ∃ bs : List (Nat × List (Option Value)), bs = [(w.heap.size, arr.toList.map some), (w.heap.size + 1, pa.toList.map some), (w.heap.size + 1 + 1, qb.toList.map some), (w.heap.size + 1 + 1 + 1, [none, none, none, none, none, none])] := ⟨_, rfl⟩
  have hT := (HS8.out).cast hbs
  have o3_0 : ∀ w', Sp w bs1 w' → ∃ z, w'.cell? ⟨w.heap.size + 1 + 1 + 1, 0, none⟩ = some z ∧ w'.frozen? ⟨w.heap.size + 1 + 1 + 1, 0, none⟩ = false := by rw [hbs]; exact fun w' h => h.there 3 rfl 0 rfl
  have s3_0 : ∀ w' z, Sp w bs1 w' → Sp w bs1 (w'.setCell ⟨w.heap.size + 1 + 1 + 1, 0, none⟩ z) := by rw [hbs]; exact fun w' z h => h.hit 3 rfl 0 rfl z
  have o3_1 : ∀ w', Sp w bs1 w' → ∃ z, w'.cell? ⟨w.heap.size + 1 + 1 + 1, 1, none⟩ = some z ∧ w'.frozen? ⟨w.heap.size + 1 + 1 + 1, 1, none⟩ = false := by rw [hbs]; exact fun w' h => h.there 3 rfl 1 rfl
  have s3_1 : ∀ w' z, Sp w bs1 w' → Sp w bs1 (w'.setCell ⟨w.heap.size + 1 + 1 + 1, 1, none⟩ z) := by rw [hbs]; exact fun w' z h => h.hit 3 rfl 1 rfl z
  have o3_2 : ∀ w', Sp w bs1 w' → ∃ z, w'.cell? ⟨w.heap.size + 1 + 1 + 1, 2, none⟩ = some z ∧ w'.frozen? ⟨w.heap.size + 1 + 1 + 1, 2, none⟩ = false := by rw [hbs]; exact fun w' h => h.there 3 rfl 2 rfl
  have s3_2 : ∀ w' z, Sp w bs1 w' → Sp w bs1 (w'.setCell ⟨w.heap.size + 1 + 1 + 1, 2, none⟩ z) := by rw [hbs]; exact fun w' z h => h.hit 3 rfl 2 rfl z
  have o3_3 : ∀ w', Sp w bs1 w' → ∃ z, w'.cell? ⟨w.heap.size + 1 + 1 + 1, 3, none⟩ = some z ∧ w'.frozen? ⟨w.heap.size + 1 + 1 + 1, 3, none⟩ = false := by rw [hbs]; exact fun w' h => h.there 3 rfl 3 rfl
  have s3_3 : ∀ w' z, Sp w bs1 w' → Sp w bs1 (w'.setCell ⟨w.heap.size + 1 + 1 + 1, 3, none⟩ z) := by rw [hbs]; exact fun w' z h => h.hit 3 rfl 3 rfl z
  have o3_4 : ∀ w', Sp w bs1 w' → ∃ z, w'.cell? ⟨w.heap.size + 1 + 1 + 1, 4, none⟩ = some z ∧ w'.frozen? ⟨w.heap.size + 1 + 1 + 1, 4, none⟩ = false := by rw [hbs]; exact fun w' h => h.there 3 rfl 4 rfl
  have s3_4 : ∀ w' z, Sp w bs1 w' → Sp w bs1 (w'.setCell ⟨w.heap.size + 1 + 1 + 1, 4, none⟩ z) := by rw [hbs]; exact fun w' z h => h.hit 3 rfl 4 rfl z
  have o3_5 : ∀ w', Sp w bs1 w' → ∃ z, w'.cell? ⟨w.heap.size + 1 + 1 + 1, 5, none⟩ = some z ∧ w'.frozen? ⟨w.heap.size + 1 + 1 + 1, 5, none⟩ = false := by rw [hbs]; exact fun w' h => h.there 3 rfl 5 rfl
  have s3_5 : ∀ w' z, Sp w bs1 w' → Sp w bs1 (w'.setCell ⟨w.heap.size + 1 + 1 + 1, 5, none⟩ z) := by rw [hbs]; exact fun w' z h => h.hit 3 rfl 5 rfl z
  have RL0 : ∀ w', Sp w bs1 w' → w'.rangeAt (w.heap.size) 0 arr.toList := by rw [hbs]; exact fun w' h => h.range 0 (l := arr.toList) rfl
  have RL1 : ∀ w', Sp w bs1 w' → w'.rangeAt (w.heap.size + 1) 0 pa.toList := by rw [hbs]; exact fun w' h => h.range 1 (l := pa.toList) rfl
  have RL2 : ∀ w', Sp w bs1 w' → w'.rangeAt (w.heap.size + 1 + 1) 0 qb.toList := by rw [hbs]; exact fun w' h => h.range 2 (l := qb.toList) rfl
  have nx : ∀ w', Sp w bs1 w' → Sp w [(w.heap.size, arr.toList.map some), (w.heap.size + 1, pa.toList.map some), (w.heap.size + 1 + 1, qb.toList.map some), (w.heap.size + 1 + 1 + 1, [some (.int .i64 u), some (.bool am), some (.int .i64 al), some (.int .i64 sp), some (.bool false), some (.bool no)])] ((((((w'.setCell ⟨w.heap.size + 1 + 1 + 1, 0, none⟩ (.int .i64 u)).setCell ⟨w.heap.size + 1 + 1 + 1, 1, none⟩ (.bool am)).setCell ⟨w.heap.size + 1 + 1 + 1, 2, none⟩ (.int .i64 al)).setCell ⟨w.heap.size + 1 + 1 + 1, 3, none⟩ (.int .i64 sp)).setCell ⟨w.heap.size + 1 + 1 + 1, 4, none⟩ (.bool false)).setCell ⟨w.heap.size + 1 + 1 + 1, 5, none⟩ (.bool no)) := by rw [hbs]; exact fun w' h => ((((((h.put 3 rfl 0 _).put 3 rfl 1 _).put 3 rfl 2 _).put 3 rfl 3 _).put 3 rfl 4 _).put 3 rfl 5 _)
  have kS : ∀ w1 w2, Sp w bs1 w1 → Below w1.heap.size w1 w2 → Sp w bs1 w2 := fun _ _ h hb => h.keep hb
  clear hbs HS8
  change (Code.region 1 ltnow1 true).wp Tryd.prog _ _ _
  refine wp_region_noPanic ?_
  refine wp_region_held_drew (S := (Sp w bs1)) (by kernel_rfl) (hT.drew) (fun hHeld => ?_)
  refine wpAnyH_take (i := 0) (oi := ({ dst := some 11, op := .load 24 (.tmp 5), type := 24, pos := "latch.go:34", after := #[], guard := none } : Oper)) rfl ltnow1_plain (by as_aux_lemma => kernel_rfl) (by as_aux_lemma => kernel_rfl) (fun _ _ _ h => h) (yields_load (by rfl) 24 _ rfl _ _ rfl _ _ RL0 Tryd.underlying24 rfl ha) (by assumption) ?_
  try simp only [Act.put, List.setIfInBounds_toArray, List.set_cons_zero, List.set_cons_succ]
  refine wpAnyH_take (i := 2) (oi := ({ dst := some 13, op := .move (.tmp 1), type := 3, pos := "latch.go:34", after := #[], guard := none } : Oper)) (v := ?vs1_2) rfl ltnow1_plain (by as_aux_lemma => kernel_rfl) (by as_aux_lemma => kernel_rfl) (fun _ _ _ h => h) (Or.inl ⟨by rfl, ?ys1_2⟩) (by assumption) ?rs1_2
  case ys1_2 => (intro w hSw; (try dsimp only at hSw); go_simp; try with_reducible rfl)
  try simp only [Act.put, List.setIfInBounds_toArray, List.set_cons_zero, List.set_cons_succ]
  refine wpAnyH_take (i := 3) (oi := ({ dst := some 14, op := .move (.tmp 2), type := 3, pos := "latch.go:34", after := #[], guard := none } : Oper)) (v := ?vs1_3) rfl ltnow1_plain (by as_aux_lemma => kernel_rfl) (by as_aux_lemma => kernel_rfl) (fun _ _ _ h => h) (Or.inl ⟨by rfl, ?ys1_3⟩) (by assumption) ?rs1_3
  case ys1_3 => (intro w hSw; (try dsimp only at hSw); go_simp; try with_reducible rfl)
  try simp only [Act.put, List.setIfInBounds_toArray, List.set_cons_zero, List.set_cons_succ]
  refine wpAnyH_take (i := 5) (oi := ({ dst := some 16, op := .load 24 (.tmp 5), type := 24, pos := "latch.go:34", after := #[], guard := none } : Oper)) rfl ltnow1_plain (by as_aux_lemma => kernel_rfl) (by as_aux_lemma => kernel_rfl) (fun _ _ _ h => h) (yields_load (by rfl) 24 _ rfl _ _ rfl _ _ RL0 Tryd.underlying24 rfl ha) (by assumption) ?_
  try simp only [Act.put, List.setIfInBounds_toArray, List.set_cons_zero, List.set_cons_succ]
  refine wpAnyH_take (i := 7) (oi := ({ dst := some 18, op := .load 30 (.tmp 8), type := 30, pos := "latch.go:34", after := #[], guard := none } : Oper)) rfl ltnow1_plain (by as_aux_lemma => kernel_rfl) (by as_aux_lemma => kernel_rfl) (fun _ _ _ h => h) (yields_load (by rfl) 30 _ rfl _ _ rfl _ _ RL1 Tryd.underlying30 rfl hp) (by assumption) ?_
  try simp only [Act.put, List.setIfInBounds_toArray, List.set_cons_zero, List.set_cons_succ]
  refine wpAnyH_take (i := 9) (oi := ({ dst := some 20, op := .load 30 (.tmp 9), type := 30, pos := "latch.go:34", after := #[], guard := none } : Oper)) rfl ltnow1_plain (by as_aux_lemma => kernel_rfl) (by as_aux_lemma => kernel_rfl) (fun _ _ _ h => h) (yields_load (by rfl) 30 _ rfl _ _ rfl _ _ RL2 Tryd.underlying30 rfl hq) (by assumption) ?_
  try simp only [Act.put, List.setIfInBounds_toArray, List.set_cons_zero, List.set_cons_succ]
  refine wpAnyH_take (i := 11) (oi := ({ dst := some 22, op := .load 24 (.tmp 5), type := 24, pos := "latch.go:34", after := #[], guard := none } : Oper)) rfl ltnow1_plain (by as_aux_lemma => kernel_rfl) (by as_aux_lemma => kernel_rfl) (fun _ _ _ h => h) (yields_load (by rfl) 24 _ rfl _ _ rfl _ _ RL0 Tryd.underlying24 rfl ha) (by assumption) ?_
  try simp only [Act.put, List.setIfInBounds_toArray, List.set_cons_zero, List.set_cons_succ]
  refine wpAnyH_ready (rs := [1]) (by as_aux_lemma => kernel_rfl) (by simp) ?_
  refine AllReadyH.cons (o := ({ dst := some 12, op := .call { callee := .value (.func 21), args := #[.tmp 11], argTypes := #[24] }, type := 3, pos := "latch.go:35", after := #[{ on := 0, ground := .data }], guard := none } : Oper)) rfl (fun KK hK => ?_) AllReadyH.nil
  rw [if_pos (by rfl)]
  go_simp
  go_at_call 21; refine (EX.out _ (Sp.below (by assumption))).mono ?_; rintro e w2 ⟨rfl, hb2⟩
  go_wp2_with fail
  refine hK.out _ _ ?_ (fun hHeld2 => ?_)
  · exact kS _ _ (by assumption) hb2
  clear hK KK hb2
  try simp only [Act.put, List.setIfInBounds_toArray, List.set_cons_zero, List.set_cons_succ]
  refine wpAnyH_ready (rs := [4]) (by as_aux_lemma => kernel_rfl) (by simp) ?_
  refine AllReadyH.cons (o := ({ dst := some 15, op := .call { callee := .value (.func 12), args := #[.tmp 12, .tmp 13, .tmp 14], argTypes := #[3, 3, 3] }, type := 3, pos := "latch.go:35", after := #[{ on := 1, ground := .data }, { on := 2, ground := .data }, { on := 3, ground := .data }, { on := 1, ground := .chain }], guard := none } : Oper)) rfl (fun KK hK => ?_) AllReadyH.nil
  rw [if_pos (by rfl)]
  go_simp
  go_at_call 12; refine (US.out _ (Sp.below (by assumption))).mono ?_; rintro e w3 ⟨rfl, hb3⟩
  go_wp2_with fail
  refine hK.out _ _ ?_ (fun hHeld3 => ?_)
  · exact kS _ _ (by assumption) hb3
  clear hK KK hb3 hHeld2
  try simp only [Act.put, List.setIfInBounds_toArray, List.set_cons_zero, List.set_cons_succ]
  refine wpAnyH_ready (rs := [6]) (by as_aux_lemma => kernel_rfl) (by simp) ?_
  refine AllReadyH.cons (o := ({ dst := some 17, op := .call { callee := .value (.func 22), args := #[.tmp 16], argTypes := #[24] }, type := 4, pos := "latch.go:36", after := #[{ on := 5, ground := .data }, { on := 4, ground := .chain }], guard := none } : Oper)) rfl (fun KK hK => ?_) AllReadyH.nil
  rw [if_pos (by rfl)]
  go_simp
  go_at_call 22; refine (AM.out _ (Sp.below (by assumption))).mono ?_; rintro e w4 ⟨rfl, hb4⟩
  go_wp2_with fail
  refine hK.out _ _ ?_ (fun hHeld4 => ?_)
  · exact kS _ _ (by assumption) hb4
  clear hK KK hb4 hHeld3
  try simp only [Act.put, List.setIfInBounds_toArray, List.set_cons_zero, List.set_cons_succ]
  refine wpAnyH_ready (rs := [8]) (by as_aux_lemma => kernel_rfl) (by simp) ?_
  refine AllReadyH.cons (o := ({ dst := some 19, op := .call { callee := .value (.func 23), args := #[.tmp 18], argTypes := #[30] }, type := 3, pos := "latch.go:37", after := #[{ on := 7, ground := .data }, { on := 6, ground := .chain }], guard := none } : Oper)) rfl (fun KK hK => ?_) AllReadyH.nil
  rw [if_pos (by rfl)]
  go_simp
  go_at_call 23; refine (SP.out _ (Sp.below (by assumption))).mono ?_; rintro e w5 ⟨rfl, hb5⟩
  go_wp2_with fail
  refine hK.out _ _ ?_ (fun hHeld5 => ?_)
  · exact kS _ _ (by assumption) hb5
  clear hK KK hb5 hHeld4
  try simp only [Act.put, List.setIfInBounds_toArray, List.set_cons_zero, List.set_cons_succ]
  refine wpAnyH_ready (rs := [10]) (by as_aux_lemma => kernel_rfl) (by simp) ?_
  refine AllReadyH.cons (o := ({ dst := some 21, op := .call { callee := .value (.func 23), args := #[.tmp 20], argTypes := #[30] }, type := 3, pos := "latch.go:38", after := #[{ on := 9, ground := .data }, { on := 8, ground := .chain }], guard := none } : Oper)) rfl (fun KK hK => ?_) AllReadyH.nil
  rw [if_pos (by rfl)]
  go_simp
  go_at_call 23; refine (SQ.out _ (Sp.below (by assumption))).mono ?_; rintro e w6 ⟨rfl, hb6⟩
  go_wp2_with fail
  refine hK.out _ _ ?_ (fun hHeld6 => ?_)
  · exact kS _ _ (by assumption) hb6
  clear hK KK hb6 hHeld5
  try simp only [Act.put, List.setIfInBounds_toArray, List.set_cons_zero, List.set_cons_succ]
  refine wpAnyH_ready (rs := [12]) (by as_aux_lemma => kernel_rfl) (by simp) ?_
  refine AllReadyH.cons (o := ({ dst := some 23, op := .call { callee := .value (.func 24), args := #[.tmp 22], argTypes := #[24] }, type := 4, pos := "latch.go:39", after := #[{ on := 11, ground := .data }, { on := 10, ground := .chain }], guard := none } : Oper)) rfl (fun KK hK => ?_) AllReadyH.nil
  rw [if_pos (by rfl)]
  go_simp
  go_at_call 24; refine (AN.out _ (Sp.below (by assumption))).mono ?_; rintro e w7 ⟨rfl, hb7⟩
  go_wp2_with fail
  refine hK.out _ _ ?_ (fun hHeld7 => ?_)
  · exact kS _ _ (by assumption) hb7
  clear hK KK hb7 hHeld6
  try simp only [Act.put, List.setIfInBounds_toArray, List.set_cons_zero, List.set_cons_succ]
  refine wpAnyH_take (i := 13) (oi := ({ dst := some 24, op := .unOp .not 4 (.tmp 23), type := 4, pos := "latch.go:34", after := #[{ on := 12, ground := .data }], guard := none } : Oper)) (v := ?vs1_13) rfl ltnow1_plain (by as_aux_lemma => kernel_rfl) (by as_aux_lemma => kernel_rfl) (fun _ _ _ h => h) (Or.inl ⟨by rfl, ?ys1_13⟩) (by assumption) ?rs1_13
  case ys1_13 => (intro w hSw; (try dsimp only at hSw); go_simp; try with_reducible rfl)
  try simp only [Act.put, List.setIfInBounds_toArray, List.set_cons_zero, List.set_cons_succ]
  refine wpAnyH_take (i := 14) (oi := ({ dst := some 25, op := .build 23 #[(0, .tmp 15), (1, .tmp 17), (2, .tmp 19), (3, .tmp 21), (5, .tmp 24)], type := 23, pos := "latch.go:34", after := #[{ on := 4, ground := .data }, { on := 6, ground := .data }, { on := 8, ground := .data }, { on := 10, ground := .data }, { on := 13, ground := .data }], guard := none } : Oper)) (v := ?vs1_14) rfl ltnow1_plain (by as_aux_lemma => kernel_rfl) (by as_aux_lemma => kernel_rfl) (fun _ _ _ h => h) (Or.inl ⟨by rfl, ?ys1_14⟩) (by assumption) ?rs1_14
  case ys1_14 => (intro w hSw; (try dsimp only at hSw); go_simp; try with_reducible rfl)
  try simp only [Act.put, List.setIfInBounds_toArray, List.set_cons_zero, List.set_cons_succ]
  refine wpAnyH_ready (rs := [15]) (by as_aux_lemma => kernel_rfl) (by simp) ?_
  refine AllReadyH.cons (o := ({ dst := none, op := .store 23 (.tmp 10) (.tmp 25), type := 0, pos := "latch.go:34", after := #[{ on := 14, ground := .data }, { on := 12, ground := .chain }, { on := 0, ground := .phase }, { on := 1, ground := .phase }, { on := 2, ground := .phase }, { on := 3, ground := .phase }, { on := 4, ground := .phase }, { on := 5, ground := .phase }, { on := 6, ground := .phase }, { on := 7, ground := .phase }, { on := 8, ground := .phase }, { on := 9, ground := .phase }, { on := 10, ground := .phase }, { on := 11, ground := .phase }, { on := 12, ground := .phase }, { on := 13, ground := .phase }, { on := 14, ground := .phase }], guard := none } : Oper)) rfl (fun KK hK => ?_) AllReadyH.nil
  rw [if_pos (by rfl)]
  obtain ⟨z3_0, k3_0, f3_0⟩ := o3_0 _ hHeld7
  obtain ⟨z3_1, k3_1, f3_1⟩ := o3_1 _ hHeld7
  obtain ⟨z3_2, k3_2, f3_2⟩ := o3_2 _ hHeld7
  obtain ⟨z3_3, k3_3, f3_3⟩ := o3_3 _ hHeld7
  obtain ⟨z3_4, k3_4, f3_4⟩ := o3_4 _ hHeld7
  obtain ⟨z3_5, k3_5, f3_5⟩ := o3_5 _ hHeld7
  have N1 := nx _ hHeld7
  go_simp
  refine hK.out _ _ ?_ (fun hHeldS0 => ?_)
  · exact (s3_5 _ _ (s3_4 _ _ (s3_3 _ _ (s3_2 _ _ (s3_1 _ _ (s3_0 _ _ hHeld7))))))
  clear hK KK
  try simp only [Act.put, List.setIfInBounds_toArray, List.set_cons_zero, List.set_cons_succ]
  refine wpAnyH_done (by as_aux_lemma => kernel_rfl) ?_ _
  refine NoPanic.normal ?_
  have HS9 := Lib.hid N1
  clear o3_0 s3_0 o3_1 s3_1 o3_2 s3_2 o3_3 s3_3 o3_4 s3_4 o3_5 s3_5 RL0 RL1 RL2 nx kS hT N1 k3_0 f3_0 k3_1 f3_1 k3_2 f3_2 k3_3 f3_3 k3_4 f3_4 k3_5 f3_5
  have k3_0 := (HS9.out).at 3 rfl 0 (v := .int .i64 u) rfl
  have k3_1 := (HS9.out).at 3 rfl 1 (v := .bool am) rfl
  have k3_2 := (HS9.out).at 3 rfl 2 (v := .int .i64 al) rfl
  have k3_3 := (HS9.out).at 3 rfl 3 (v := .int .i64 sp) rfl
  have k3_4 := (HS9.out).at 3 rfl 4 (v := .bool false) rfl
  have k3_5 := (HS9.out).at 3 rfl 5 (v := .bool no) rfl
  have BH := Lib.hid HS9.out.below
  go_wp2_with fail
  exact bodyPost_ret (v := .agg #[.int .i64 u, .bool am, .int .i64 al, .int .i64 sp, .bool false, .bool no]) (by simp [results, Tryd.results6, go_sem, *]) rfl ⟨rfl, BH.out⟩
theorem Now_any (al : List Bool) (hl : al.length = 22) (i s : Int) (p q : Qd) (w : World) (n : PairsAt w) : Calls Tryd.prog 6 #[.agg (bl al), .int .i64 i, .int .i64 s, qv p, qv q] w fun e w' => e = .returned (lv (nowL al i s p q)) ∧ Below w.heap.size w w' :=
  Now_core (bl al) (qa p) (qa q) i s _ _ _ _ _ _ _ w (Lib.hid (info22 hl)) (Lib.hid (info_qa p)) (Lib.hid (info_qa q)) (Lib.hid fun w' B => Lan23.Excluded_any al hl w' (n.keep B)) (Lib.hid fun w' _ => Usable_any _ i s w') (Lib.hid fun w' B => Lan23.Ambiguous_any al hl w' (n.keep B)) (Lib.hid fun w' _ => Status_any p w') (Lib.hid fun w' _ => Status_any q w') (Lib.hid fun w' B => Lan23.Any_any al hl w' (n.keep B)) (Lib.hid rfl)

end Lat
end Go.Proofs.YtldbkompebefmaaDoor
