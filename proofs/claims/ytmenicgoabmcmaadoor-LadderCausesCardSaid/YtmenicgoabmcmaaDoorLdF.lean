/- LadderFalls. -/
import Derived.Test.YtmenicgoabmcmaaDoorLdNum
import Derived.Test.YtmenicgoabmcmaaDoorLdW
import Derived.ChangeKeysEq
import Derived.Deep.RegionWith
import Derived.Deep.CutBlock
import Derived.Deep.CutRange
import Derived.BigRegion
namespace Go.Proofs.YtmenicgoabmcmaaDoor
open Go.RowKit Ld


theorem fields_la : (Tryd.prog.fieldsOf 23).toList.map (fun f => (f.name, f.type, f.offset)) = [("Usable", 3, 0), ("Ambig", 4, 1), ("Alt", 3, 2), ("Speed", 3, 3), ("Forgot", 4, 4), ("Nothing", 4, 5)] := by kernel_rfl
theorem la_same (l : La) (w : World) : (Op.equalIn 10000 23 (lv l) (lv l)).run Tryd.prog w = .ok true w := by
  have ht : Tryd.prog.underlying 23 = some (.struct (Tryd.prog.fieldsOf 23)) := by kernel_rfl
  have hp : Tryd.prog.stoodInHeld 23 = false := by kernel_rfl
  simp [go_sem]
/-- The operations of a drawn region, as the translation has them. -/
def ldfal1 : Array Oper := #[
  { dst := some 7, op := .load 23 (.tmp 2), type := 23, pos := "law.go:23", after := #[], guard := none },
  { dst := some 8, op := .call { callee := .value (.func 10), args := #[.tmp 7], argTypes := #[23] }, type := 3, pos := "law.go:23", after := #[{ on := 0, ground := .data }], guard := none },
  { dst := some 9, op := .load 23 (.tmp 3), type := 23, pos := "law.go:23", after := #[], guard := none },
  { dst := some 10, op := .call { callee := .value (.func 10), args := #[.tmp 9], argTypes := #[23] }, type := 3, pos := "law.go:23", after := #[{ on := 2, ground := .data }, { on := 1, ground := .chain }], guard := none },
  { dst := some 5, op := .assign (.tmp 8), type := 3, pos := "law.go:23", after := #[{ on := 1, ground := .data }, { on := 3, ground := .chain }, { on := 0, ground := .phase }, { on := 1, ground := .phase }, { on := 2, ground := .textOnly Go.Departure.lateStores }, { on := 3, ground := .textOnly Go.Departure.lateStoresUnsure }], guard := none },
  { dst := some 6, op := .assign (.tmp 10), type := 3, pos := "law.go:23", after := #[{ on := 3, ground := .data }, { on := 4, ground := .chain }, { on := 0, ground := .phase }, { on := 1, ground := .phase }, { on := 2, ground := .phase }, { on := 3, ground := .phase }, { on := 4, ground := .phase }], guard := none }]
theorem ldfal1_plain : Region.noSelect ldfal1 = true := by kernel_rfl

set_option maxHeartbeats 40000000 in
set_option maxRecDepth 100000 in
theorem Falls_core (a b : La) (m n : Int) (s t : ByteArray) (d f : Bool) (w : World)
    (MA : Hid (∀ w', Below w.heap.size w w' → Calls Tryd.prog 10 #[lv a] w' fun e w'' => e = .returned (.int .i64 m) ∧ Below w'.heap.size w' w''))
    (MB : Hid (∀ w', Below w.heap.size w w' → Calls Tryd.prog 10 #[lv b] w' fun e w'' => e = .returned (.int .i64 n) ∧ Below w'.heap.size w' w''))
    (AB : Hid (∀ w', Below w.heap.size w w' → Calls Tryd.prog 14 #[lv a, lv b] w' fun e w'' => e = .returned (.bool d) ∧ Below w'.heap.size w' w''))
    (BA : Hid (∀ w', Below w.heap.size w w' → Calls Tryd.prog 14 #[lv b, lv a] w' fun e w'' => e = .returned (.bool f) ∧ Below w'.heap.size w' w''))
    (AA : Hid (∀ w', Below w.heap.size w w' → Calls Tryd.prog 14 #[lv a, lv a] w' fun e w'' => e = .returned (.bool true) ∧ Below w'.heap.size w' w''))
    (NM : Hid (∀ w', Below w.heap.size w w' → Calls Tryd.prog 12 #[.int .i64 m] w' fun e w'' => e = .returned (.string s) ∧ Below w'.heap.size w' w''))
    (NN : Hid (∀ w', Below w.heap.size w w' → Calls Tryd.prog 12 #[.int .i64 n] w' fun e w'' => e = .returned (.string t) ∧ Below w'.heap.size w' w''))
    (AW : Hid (∀ w', Below w.heap.size w w' → Calls Tryd.prog 16 #[] w' fun e w'' => e = .returned (.bool true) ∧ Below w'.heap.size w' w''))
    (H0 : Hid (0 ≤ m)) (H5 : Hid (m ≤ 5)) (HE : Hid (s.toList.isEmpty = false)) (HQ : Hid (m = n → s = t)) (HN : Hid (¬ m = n → (s.toList == t.toList) = false)) (HW : Hid (d = true → ¬ m < n)) (HF : Hid (d = true → f = true → a = b)) (SM : Hid (∀ w, (Op.equalIn 10000 23 (lv a) (lv a)).run Tryd.prog w = .ok true w))
    : Calls Tryd.prog 4 #[lv a, lv b] w fun e w' => e = .returned (.bool true) ∧ Below w.heap.size w w' := by
  have hS1 := ((Sp.none w).more [.int .i64 a.u, .bool a.am, .int .i64 a.al, .int .i64 a.sp, .bool a.fo, .bool a.no] 23).more [.int .i64 b.u, .bool b.am, .int .i64 b.al, .int .i64 b.sp, .bool b.fo, .bool b.no] 23
  simp only [heap1] at hS1
  have HS1 := Lib.hid hS1
  clear hS1
  go_enter Tryd.func4, Tryd.ntmps4
  go_upto_region 1 with fail
  obtain ⟨w1, hX, hS⟩ := (HS1.out).named
  rw [← hX]
  clear hX HS1
  have HS2 := Lib.hid hS
  clear hS
  obtain ⟨bs1, hbs⟩ : ∃ bs : List (Nat × List (Option Value)), bs = [(w.heap.size, [some (.int .i64 a.u), some (.bool a.am), some (.int .i64 a.al), some (.int .i64 a.sp), some (.bool a.fo), some (.bool a.no)]), (w.heap.size + 1, [some (.int .i64 b.u), some (.bool b.am), some (.int .i64 b.al), some (.int .i64 b.sp), some (.bool b.fo), some (.bool b.no)])] := ⟨_, rfl⟩
  have hT := (HS2.out).cast hbs
  have c0_0 : ∀ w', Sp w bs1 w' → w'.cell? ⟨w.heap.size, 0, none⟩ = some (.int .i64 a.u) := by rw [hbs]; exact fun w' h => h.at 0 rfl 0 rfl
  have c0_1 : ∀ w', Sp w bs1 w' → w'.cell? ⟨w.heap.size, 1, none⟩ = some (.bool a.am) := by rw [hbs]; exact fun w' h => h.at 0 rfl 1 rfl
  have c0_2 : ∀ w', Sp w bs1 w' → w'.cell? ⟨w.heap.size, 2, none⟩ = some (.int .i64 a.al) := by rw [hbs]; exact fun w' h => h.at 0 rfl 2 rfl
  have c0_3 : ∀ w', Sp w bs1 w' → w'.cell? ⟨w.heap.size, 3, none⟩ = some (.int .i64 a.sp) := by rw [hbs]; exact fun w' h => h.at 0 rfl 3 rfl
  have c0_4 : ∀ w', Sp w bs1 w' → w'.cell? ⟨w.heap.size, 4, none⟩ = some (.bool a.fo) := by rw [hbs]; exact fun w' h => h.at 0 rfl 4 rfl
  have c0_5 : ∀ w', Sp w bs1 w' → w'.cell? ⟨w.heap.size, 5, none⟩ = some (.bool a.no) := by rw [hbs]; exact fun w' h => h.at 0 rfl 5 rfl
  have c1_0 : ∀ w', Sp w bs1 w' → w'.cell? ⟨w.heap.size + 1, 0, none⟩ = some (.int .i64 b.u) := by rw [hbs]; exact fun w' h => h.at 1 rfl 0 rfl
  have c1_1 : ∀ w', Sp w bs1 w' → w'.cell? ⟨w.heap.size + 1, 1, none⟩ = some (.bool b.am) := by rw [hbs]; exact fun w' h => h.at 1 rfl 1 rfl
  have c1_2 : ∀ w', Sp w bs1 w' → w'.cell? ⟨w.heap.size + 1, 2, none⟩ = some (.int .i64 b.al) := by rw [hbs]; exact fun w' h => h.at 1 rfl 2 rfl
  have c1_3 : ∀ w', Sp w bs1 w' → w'.cell? ⟨w.heap.size + 1, 3, none⟩ = some (.int .i64 b.sp) := by rw [hbs]; exact fun w' h => h.at 1 rfl 3 rfl
  have c1_4 : ∀ w', Sp w bs1 w' → w'.cell? ⟨w.heap.size + 1, 4, none⟩ = some (.bool b.fo) := by rw [hbs]; exact fun w' h => h.at 1 rfl 4 rfl
  have c1_5 : ∀ w', Sp w bs1 w' → w'.cell? ⟨w.heap.size + 1, 5, none⟩ = some (.bool b.no) := by rw [hbs]; exact fun w' h => h.at 1 rfl 5 rfl
  have nx : ∀ w', Sp w bs1 w' → Sp w [(w.heap.size, [some (.int .i64 a.u), some (.bool a.am), some (.int .i64 a.al), some (.int .i64 a.sp), some (.bool a.fo), some (.bool a.no)]), (w.heap.size + 1, [some (.int .i64 b.u), some (.bool b.am), some (.int .i64 b.al), some (.int .i64 b.sp), some (.bool b.fo), some (.bool b.no)])] w' := by rw [hbs]; exact fun w' h => h
  have kS : ∀ w1 w2, Sp w bs1 w1 → Below w1.heap.size w1 w2 → Sp w bs1 w2 := fun _ _ h hb => h.keep hb
  clear hbs HS2
  change (Code.region 1 ldfal1 true).wp Tryd.prog _ _ _
  refine wp_region_noPanic ?_
  refine wp_region_held_drew (S := (Sp w bs1)) (by kernel_rfl) (hT.drew) (fun hHeld => ?_)
  refine wpAnyH_take (i := 0) (oi := ({ dst := some 7, op := .load 23 (.tmp 2), type := 23, pos := "law.go:23", after := #[], guard := none } : Oper)) (v := ?vs1_0) rfl ldfal1_plain (by as_aux_lemma => kernel_rfl) (by as_aux_lemma => kernel_rfl) (fun _ _ _ h => h) (Or.inl ⟨by rfl, ?ys1_0⟩) (by assumption) ?rs1_0
  case ys1_0 => (intro w hSw; (try dsimp only at hSw); go_simp; try with_reducible rfl)
  try simp only [Act.put, List.setIfInBounds_toArray, List.set_cons_zero, List.set_cons_succ]
  refine wpAnyH_take (i := 2) (oi := ({ dst := some 9, op := .load 23 (.tmp 3), type := 23, pos := "law.go:23", after := #[], guard := none } : Oper)) (v := ?vs1_2) rfl ldfal1_plain (by as_aux_lemma => kernel_rfl) (by as_aux_lemma => kernel_rfl) (fun _ _ _ h => h) (Or.inl ⟨by rfl, ?ys1_2⟩) (by assumption) ?rs1_2
  case ys1_2 => (intro w hSw; (try dsimp only at hSw); go_simp; try with_reducible rfl)
  try simp only [Act.put, List.setIfInBounds_toArray, List.set_cons_zero, List.set_cons_succ]
  refine wpAnyH_ready (rs := [1]) (by as_aux_lemma => kernel_rfl) (by simp) ?_
  refine AllReadyH.cons (o := ({ dst := some 8, op := .call { callee := .value (.func 10), args := #[.tmp 7], argTypes := #[23] }, type := 3, pos := "law.go:23", after := #[{ on := 0, ground := .data }], guard := none } : Oper)) rfl (fun KK hK => ?_) AllReadyH.nil
  rw [if_pos (by rfl)]
  go_simp
  go_at_call 10; refine (MA.out _ (Sp.below (by assumption))).mono ?_; rintro e w2 ⟨rfl, hb2⟩
  go_wp2_with fail
  refine hK.out _ _ ?_ (fun hHeld2 => ?_)
  · exact kS _ _ (by assumption) hb2
  clear hK KK hb2
  try simp only [Act.put, List.setIfInBounds_toArray, List.set_cons_zero, List.set_cons_succ]
  refine wpAnyH_ready (rs := [3]) (by as_aux_lemma => kernel_rfl) (by simp) ?_
  refine AllReadyH.cons (o := ({ dst := some 10, op := .call { callee := .value (.func 10), args := #[.tmp 9], argTypes := #[23] }, type := 3, pos := "law.go:23", after := #[{ on := 2, ground := .data }, { on := 1, ground := .chain }], guard := none } : Oper)) rfl (fun KK hK => ?_) AllReadyH.nil
  rw [if_pos (by rfl)]
  go_simp
  go_at_call 10; refine (MB.out _ (Sp.below (by assumption))).mono ?_; rintro e w3 ⟨rfl, hb3⟩
  go_wp2_with fail
  refine hK.out _ _ ?_ (fun hHeld3 => ?_)
  · exact kS _ _ (by assumption) hb3
  clear hK KK hb3 hHeld2
  try simp only [Act.put, List.setIfInBounds_toArray, List.set_cons_zero, List.set_cons_succ]
  refine wpAnyH_take (i := 4) (oi := ({ dst := some 5, op := .assign (.tmp 8), type := 3, pos := "law.go:23", after := #[{ on := 1, ground := .data }, { on := 3, ground := .chain }, { on := 0, ground := .phase }, { on := 1, ground := .phase }, { on := 2, ground := .textOnly Go.Departure.lateStores }, { on := 3, ground := .textOnly Go.Departure.lateStoresUnsure }], guard := none } : Oper)) (v := ?vs1_4) rfl ldfal1_plain (by as_aux_lemma => kernel_rfl) (by as_aux_lemma => kernel_rfl) (fun _ _ _ h => h) (Or.inl ⟨by rfl, ?ys1_4⟩) (by assumption) ?rs1_4
  case ys1_4 => (intro w hSw; (try dsimp only at hSw); go_simp; try with_reducible rfl)
  try simp only [Act.put, List.setIfInBounds_toArray, List.set_cons_zero, List.set_cons_succ]
  refine wpAnyH_take (i := 5) (oi := ({ dst := some 6, op := .assign (.tmp 10), type := 3, pos := "law.go:23", after := #[{ on := 3, ground := .data }, { on := 4, ground := .chain }, { on := 0, ground := .phase }, { on := 1, ground := .phase }, { on := 2, ground := .phase }, { on := 3, ground := .phase }, { on := 4, ground := .phase }], guard := none } : Oper)) (v := ?vs1_5) rfl ldfal1_plain (by as_aux_lemma => kernel_rfl) (by as_aux_lemma => kernel_rfl) (fun _ _ _ h => h) (Or.inl ⟨by rfl, ?ys1_5⟩) (by assumption) ?rs1_5
  case ys1_5 => (intro w hSw; (try dsimp only at hSw); go_simp; try with_reducible rfl)
  try simp only [Act.put, List.setIfInBounds_toArray, List.set_cons_zero, List.set_cons_succ]
  refine wpAnyH_done (by as_aux_lemma => kernel_rfl) ?_ _
  refine NoPanic.normal ?_
  have N1 := nx _ hHeld3
  have HS3 := Lib.hid N1
  clear c0_0 c0_1 c0_2 c0_3 c0_4 c0_5 c1_0 c1_1 c1_2 c1_3 c1_4 c1_5 nx kS hT N1
  clear MA MB
  cases d
  · skip
    clear HW HF BA SM
    have k0_0 := (HS3.out).at 0 rfl 0 (v := .int .i64 a.u) rfl
    have k0_1 := (HS3.out).at 0 rfl 1 (v := .bool a.am) rfl
    have k0_2 := (HS3.out).at 0 rfl 2 (v := .int .i64 a.al) rfl
    have k0_3 := (HS3.out).at 0 rfl 3 (v := .int .i64 a.sp) rfl
    have k0_4 := (HS3.out).at 0 rfl 4 (v := .bool a.fo) rfl
    have k0_5 := (HS3.out).at 0 rfl 5 (v := .bool a.no) rfl
    have k1_0 := (HS3.out).at 1 rfl 0 (v := .int .i64 b.u) rfl
    have k1_1 := (HS3.out).at 1 rfl 1 (v := .bool b.am) rfl
    have k1_2 := (HS3.out).at 1 rfl 2 (v := .int .i64 b.al) rfl
    have k1_3 := (HS3.out).at 1 rfl 3 (v := .int .i64 b.sp) rfl
    have k1_4 := (HS3.out).at 1 rfl 4 (v := .bool b.fo) rfl
    have k1_5 := (HS3.out).at 1 rfl 5 (v := .bool b.no) rfl
    go_wp2_with fail
    refine (AB.out _ HS3.out.below).mono ?_; rintro e w4 ⟨rfl, hb4⟩
    have hS4 := (HS3.out).keep hb4
    have HS4 := Lib.hid hS4
    clear hS4 HS3
    clear hb4
    clear k0_0 k0_1 k0_2 k0_3 k0_4 k0_5 k1_0 k1_1 k1_2 k1_3 k1_4 k1_5
    have k0_0 := (HS4.out).at 0 rfl 0 (v := .int .i64 a.u) rfl
    have k0_1 := (HS4.out).at 0 rfl 1 (v := .bool a.am) rfl
    have k0_2 := (HS4.out).at 0 rfl 2 (v := .int .i64 a.al) rfl
    have k0_3 := (HS4.out).at 0 rfl 3 (v := .int .i64 a.sp) rfl
    have k0_4 := (HS4.out).at 0 rfl 4 (v := .bool a.fo) rfl
    have k0_5 := (HS4.out).at 0 rfl 5 (v := .bool a.no) rfl
    have k1_0 := (HS4.out).at 1 rfl 0 (v := .int .i64 b.u) rfl
    have k1_1 := (HS4.out).at 1 rfl 1 (v := .bool b.am) rfl
    have k1_2 := (HS4.out).at 1 rfl 2 (v := .int .i64 b.al) rfl
    have k1_3 := (HS4.out).at 1 rfl 3 (v := .int .i64 b.sp) rfl
    have k1_4 := (HS4.out).at 1 rfl 4 (v := .bool b.fo) rfl
    have k1_5 := (HS4.out).at 1 rfl 5 (v := .bool b.no) rfl
    go_wp2_with fail
    refine (AB.out _ HS4.out.below).mono ?_; rintro e w5 ⟨rfl, hb5⟩
    have hS5 := (HS4.out).keep hb5
    have HS5 := Lib.hid hS5
    clear hS5 HS4
    clear hb5
    clear k0_0 k0_1 k0_2 k0_3 k0_4 k0_5 k1_0 k1_1 k1_2 k1_3 k1_4 k1_5
    clear AB
    have d0 : decide ((0 : Int) ≤ m) = true := decide_eq_true H0.out
    have d5 : decide (m ≤ 5) = true := decide_eq_true H5.out
    have he := HE.out
    have k0_0 := (HS5.out).at 0 rfl 0 (v := .int .i64 a.u) rfl
    have k0_1 := (HS5.out).at 0 rfl 1 (v := .bool a.am) rfl
    have k0_2 := (HS5.out).at 0 rfl 2 (v := .int .i64 a.al) rfl
    have k0_3 := (HS5.out).at 0 rfl 3 (v := .int .i64 a.sp) rfl
    have k0_4 := (HS5.out).at 0 rfl 4 (v := .bool a.fo) rfl
    have k0_5 := (HS5.out).at 0 rfl 5 (v := .bool a.no) rfl
    have k1_0 := (HS5.out).at 1 rfl 0 (v := .int .i64 b.u) rfl
    have k1_1 := (HS5.out).at 1 rfl 1 (v := .bool b.am) rfl
    have k1_2 := (HS5.out).at 1 rfl 2 (v := .int .i64 b.al) rfl
    have k1_3 := (HS5.out).at 1 rfl 3 (v := .int .i64 b.sp) rfl
    have k1_4 := (HS5.out).at 1 rfl 4 (v := .bool b.fo) rfl
    have k1_5 := (HS5.out).at 1 rfl 5 (v := .bool b.no) rfl
    go_wp2_with fail
    refine (NM.out _ HS5.out.below).mono ?_; rintro e w6 ⟨rfl, hb6⟩
    have hS6 := (HS5.out).keep hb6
    have HS6 := Lib.hid hS6
    clear hS6 HS5
    clear hb6
    clear k0_0 k0_1 k0_2 k0_3 k0_4 k0_5 k1_0 k1_1 k1_2 k1_3 k1_4 k1_5
    by_cases hq : m = n
    · obtain rfl : s = t := HQ.out hq
      subst hq
      clear HQ HN H0 H5
      have k0_0 := (HS6.out).at 0 rfl 0 (v := .int .i64 a.u) rfl
      have k0_1 := (HS6.out).at 0 rfl 1 (v := .bool a.am) rfl
      have k0_2 := (HS6.out).at 0 rfl 2 (v := .int .i64 a.al) rfl
      have k0_3 := (HS6.out).at 0 rfl 3 (v := .int .i64 a.sp) rfl
      have k0_4 := (HS6.out).at 0 rfl 4 (v := .bool a.fo) rfl
      have k0_5 := (HS6.out).at 0 rfl 5 (v := .bool a.no) rfl
      have k1_0 := (HS6.out).at 1 rfl 0 (v := .int .i64 b.u) rfl
      have k1_1 := (HS6.out).at 1 rfl 1 (v := .bool b.am) rfl
      have k1_2 := (HS6.out).at 1 rfl 2 (v := .int .i64 b.al) rfl
      have k1_3 := (HS6.out).at 1 rfl 3 (v := .int .i64 b.sp) rfl
      have k1_4 := (HS6.out).at 1 rfl 4 (v := .bool b.fo) rfl
      have k1_5 := (HS6.out).at 1 rfl 5 (v := .bool b.no) rfl
      go_wp2_with fail
      refine (NM.out _ HS6.out.below).mono ?_; rintro e w7 ⟨rfl, hb7⟩
      have hS7 := (HS6.out).keep hb7
      have HS7 := Lib.hid hS7
      clear hS7 HS6
      clear hb7
      clear k0_0 k0_1 k0_2 k0_3 k0_4 k0_5 k1_0 k1_1 k1_2 k1_3 k1_4 k1_5
      have k0_0 := (HS7.out).at 0 rfl 0 (v := .int .i64 a.u) rfl
      have k0_1 := (HS7.out).at 0 rfl 1 (v := .bool a.am) rfl
      have k0_2 := (HS7.out).at 0 rfl 2 (v := .int .i64 a.al) rfl
      have k0_3 := (HS7.out).at 0 rfl 3 (v := .int .i64 a.sp) rfl
      have k0_4 := (HS7.out).at 0 rfl 4 (v := .bool a.fo) rfl
      have k0_5 := (HS7.out).at 0 rfl 5 (v := .bool a.no) rfl
      have k1_0 := (HS7.out).at 1 rfl 0 (v := .int .i64 b.u) rfl
      have k1_1 := (HS7.out).at 1 rfl 1 (v := .bool b.am) rfl
      have k1_2 := (HS7.out).at 1 rfl 2 (v := .int .i64 b.al) rfl
      have k1_3 := (HS7.out).at 1 rfl 3 (v := .int .i64 b.sp) rfl
      have k1_4 := (HS7.out).at 1 rfl 4 (v := .bool b.fo) rfl
      have k1_5 := (HS7.out).at 1 rfl 5 (v := .bool b.no) rfl
      go_wp2_with fail
      refine (NN.out _ HS7.out.below).mono ?_; rintro e w8 ⟨rfl, hb8⟩
      have hS8 := (HS7.out).keep hb8
      have HS8 := Lib.hid hS8
      clear hS8 HS7
      clear hb8
      clear k0_0 k0_1 k0_2 k0_3 k0_4 k0_5 k1_0 k1_1 k1_2 k1_3 k1_4 k1_5
      have k0_0 := (HS8.out).at 0 rfl 0 (v := .int .i64 a.u) rfl
      have k0_1 := (HS8.out).at 0 rfl 1 (v := .bool a.am) rfl
      have k0_2 := (HS8.out).at 0 rfl 2 (v := .int .i64 a.al) rfl
      have k0_3 := (HS8.out).at 0 rfl 3 (v := .int .i64 a.sp) rfl
      have k0_4 := (HS8.out).at 0 rfl 4 (v := .bool a.fo) rfl
      have k0_5 := (HS8.out).at 0 rfl 5 (v := .bool a.no) rfl
      have k1_0 := (HS8.out).at 1 rfl 0 (v := .int .i64 b.u) rfl
      have k1_1 := (HS8.out).at 1 rfl 1 (v := .bool b.am) rfl
      have k1_2 := (HS8.out).at 1 rfl 2 (v := .int .i64 b.al) rfl
      have k1_3 := (HS8.out).at 1 rfl 3 (v := .int .i64 b.sp) rfl
      have k1_4 := (HS8.out).at 1 rfl 4 (v := .bool b.fo) rfl
      have k1_5 := (HS8.out).at 1 rfl 5 (v := .bool b.no) rfl
      go_wp2_with fail
      refine (AA.out _ HS8.out.below).mono ?_; rintro e w9 ⟨rfl, hb9⟩
      have hS9 := (HS8.out).keep hb9
      have HS9 := Lib.hid hS9
      clear hS9 HS8
      clear hb9
      clear k0_0 k0_1 k0_2 k0_3 k0_4 k0_5 k1_0 k1_1 k1_2 k1_3 k1_4 k1_5
      have k0_0 := (HS9.out).at 0 rfl 0 (v := .int .i64 a.u) rfl
      have k0_1 := (HS9.out).at 0 rfl 1 (v := .bool a.am) rfl
      have k0_2 := (HS9.out).at 0 rfl 2 (v := .int .i64 a.al) rfl
      have k0_3 := (HS9.out).at 0 rfl 3 (v := .int .i64 a.sp) rfl
      have k0_4 := (HS9.out).at 0 rfl 4 (v := .bool a.fo) rfl
      have k0_5 := (HS9.out).at 0 rfl 5 (v := .bool a.no) rfl
      have k1_0 := (HS9.out).at 1 rfl 0 (v := .int .i64 b.u) rfl
      have k1_1 := (HS9.out).at 1 rfl 1 (v := .bool b.am) rfl
      have k1_2 := (HS9.out).at 1 rfl 2 (v := .int .i64 b.al) rfl
      have k1_3 := (HS9.out).at 1 rfl 3 (v := .int .i64 b.sp) rfl
      have k1_4 := (HS9.out).at 1 rfl 4 (v := .bool b.fo) rfl
      have k1_5 := (HS9.out).at 1 rfl 5 (v := .bool b.no) rfl
      go_wp2_with fail
      refine (AW.out _ HS9.out.below).mono ?_; rintro e w10 ⟨rfl, hb10⟩
      have hS10 := (HS9.out).keep hb10
      have HS10 := Lib.hid hS10
      clear hS10 HS9
      clear hb10
      clear k0_0 k0_1 k0_2 k0_3 k0_4 k0_5 k1_0 k1_1 k1_2 k1_3 k1_4 k1_5
      have BH := Lib.hid HS10.out.below
      go_wp2_with fail
      exact bodyPost_ret (v := .bool true) (by simp [results, Tryd.results4, go_sem, *]) rfl ⟨rfl, BH.out⟩
    · have hs := HN.out hq
      have hq1 : (m == n) = false := by simpa using hq
      clear HQ HN H0 H5
      have k0_0 := (HS6.out).at 0 rfl 0 (v := .int .i64 a.u) rfl
      have k0_1 := (HS6.out).at 0 rfl 1 (v := .bool a.am) rfl
      have k0_2 := (HS6.out).at 0 rfl 2 (v := .int .i64 a.al) rfl
      have k0_3 := (HS6.out).at 0 rfl 3 (v := .int .i64 a.sp) rfl
      have k0_4 := (HS6.out).at 0 rfl 4 (v := .bool a.fo) rfl
      have k0_5 := (HS6.out).at 0 rfl 5 (v := .bool a.no) rfl
      have k1_0 := (HS6.out).at 1 rfl 0 (v := .int .i64 b.u) rfl
      have k1_1 := (HS6.out).at 1 rfl 1 (v := .bool b.am) rfl
      have k1_2 := (HS6.out).at 1 rfl 2 (v := .int .i64 b.al) rfl
      have k1_3 := (HS6.out).at 1 rfl 3 (v := .int .i64 b.sp) rfl
      have k1_4 := (HS6.out).at 1 rfl 4 (v := .bool b.fo) rfl
      have k1_5 := (HS6.out).at 1 rfl 5 (v := .bool b.no) rfl
      go_wp2_with fail
      refine (NM.out _ HS6.out.below).mono ?_; rintro e w7 ⟨rfl, hb7⟩
      have hS7 := (HS6.out).keep hb7
      have HS7 := Lib.hid hS7
      clear hS7 HS6
      clear hb7
      clear k0_0 k0_1 k0_2 k0_3 k0_4 k0_5 k1_0 k1_1 k1_2 k1_3 k1_4 k1_5
      have k0_0 := (HS7.out).at 0 rfl 0 (v := .int .i64 a.u) rfl
      have k0_1 := (HS7.out).at 0 rfl 1 (v := .bool a.am) rfl
      have k0_2 := (HS7.out).at 0 rfl 2 (v := .int .i64 a.al) rfl
      have k0_3 := (HS7.out).at 0 rfl 3 (v := .int .i64 a.sp) rfl
      have k0_4 := (HS7.out).at 0 rfl 4 (v := .bool a.fo) rfl
      have k0_5 := (HS7.out).at 0 rfl 5 (v := .bool a.no) rfl
      have k1_0 := (HS7.out).at 1 rfl 0 (v := .int .i64 b.u) rfl
      have k1_1 := (HS7.out).at 1 rfl 1 (v := .bool b.am) rfl
      have k1_2 := (HS7.out).at 1 rfl 2 (v := .int .i64 b.al) rfl
      have k1_3 := (HS7.out).at 1 rfl 3 (v := .int .i64 b.sp) rfl
      have k1_4 := (HS7.out).at 1 rfl 4 (v := .bool b.fo) rfl
      have k1_5 := (HS7.out).at 1 rfl 5 (v := .bool b.no) rfl
      go_wp2_with fail
      refine (NN.out _ HS7.out.below).mono ?_; rintro e w8 ⟨rfl, hb8⟩
      have hS8 := (HS7.out).keep hb8
      have HS8 := Lib.hid hS8
      clear hS8 HS7
      clear hb8
      clear k0_0 k0_1 k0_2 k0_3 k0_4 k0_5 k1_0 k1_1 k1_2 k1_3 k1_4 k1_5
      have k0_0 := (HS8.out).at 0 rfl 0 (v := .int .i64 a.u) rfl
      have k0_1 := (HS8.out).at 0 rfl 1 (v := .bool a.am) rfl
      have k0_2 := (HS8.out).at 0 rfl 2 (v := .int .i64 a.al) rfl
      have k0_3 := (HS8.out).at 0 rfl 3 (v := .int .i64 a.sp) rfl
      have k0_4 := (HS8.out).at 0 rfl 4 (v := .bool a.fo) rfl
      have k0_5 := (HS8.out).at 0 rfl 5 (v := .bool a.no) rfl
      have k1_0 := (HS8.out).at 1 rfl 0 (v := .int .i64 b.u) rfl
      have k1_1 := (HS8.out).at 1 rfl 1 (v := .bool b.am) rfl
      have k1_2 := (HS8.out).at 1 rfl 2 (v := .int .i64 b.al) rfl
      have k1_3 := (HS8.out).at 1 rfl 3 (v := .int .i64 b.sp) rfl
      have k1_4 := (HS8.out).at 1 rfl 4 (v := .bool b.fo) rfl
      have k1_5 := (HS8.out).at 1 rfl 5 (v := .bool b.no) rfl
      go_wp2_with fail
      refine (AA.out _ HS8.out.below).mono ?_; rintro e w9 ⟨rfl, hb9⟩
      have hS9 := (HS8.out).keep hb9
      have HS9 := Lib.hid hS9
      clear hS9 HS8
      clear hb9
      clear k0_0 k0_1 k0_2 k0_3 k0_4 k0_5 k1_0 k1_1 k1_2 k1_3 k1_4 k1_5
      have k0_0 := (HS9.out).at 0 rfl 0 (v := .int .i64 a.u) rfl
      have k0_1 := (HS9.out).at 0 rfl 1 (v := .bool a.am) rfl
      have k0_2 := (HS9.out).at 0 rfl 2 (v := .int .i64 a.al) rfl
      have k0_3 := (HS9.out).at 0 rfl 3 (v := .int .i64 a.sp) rfl
      have k0_4 := (HS9.out).at 0 rfl 4 (v := .bool a.fo) rfl
      have k0_5 := (HS9.out).at 0 rfl 5 (v := .bool a.no) rfl
      have k1_0 := (HS9.out).at 1 rfl 0 (v := .int .i64 b.u) rfl
      have k1_1 := (HS9.out).at 1 rfl 1 (v := .bool b.am) rfl
      have k1_2 := (HS9.out).at 1 rfl 2 (v := .int .i64 b.al) rfl
      have k1_3 := (HS9.out).at 1 rfl 3 (v := .int .i64 b.sp) rfl
      have k1_4 := (HS9.out).at 1 rfl 4 (v := .bool b.fo) rfl
      have k1_5 := (HS9.out).at 1 rfl 5 (v := .bool b.no) rfl
      go_wp2_with fail
      refine (AW.out _ HS9.out.below).mono ?_; rintro e w10 ⟨rfl, hb10⟩
      have hS10 := (HS9.out).keep hb10
      have HS10 := Lib.hid hS10
      clear hS10 HS9
      clear hb10
      clear k0_0 k0_1 k0_2 k0_3 k0_4 k0_5 k1_0 k1_1 k1_2 k1_3 k1_4 k1_5
      have BH := Lib.hid HS10.out.below
      go_wp2_with fail
      exact bodyPost_ret (v := .bool true) (by simp [results, Tryd.results4, go_sem, *]) rfl ⟨rfl, BH.out⟩
  · have hw := HW.out rfl
    have hw1 : decide (m < n) = false := decide_eq_false (by omega)
    clear HW hw
    have k0_0 := (HS3.out).at 0 rfl 0 (v := .int .i64 a.u) rfl
    have k0_1 := (HS3.out).at 0 rfl 1 (v := .bool a.am) rfl
    have k0_2 := (HS3.out).at 0 rfl 2 (v := .int .i64 a.al) rfl
    have k0_3 := (HS3.out).at 0 rfl 3 (v := .int .i64 a.sp) rfl
    have k0_4 := (HS3.out).at 0 rfl 4 (v := .bool a.fo) rfl
    have k0_5 := (HS3.out).at 0 rfl 5 (v := .bool a.no) rfl
    have k1_0 := (HS3.out).at 1 rfl 0 (v := .int .i64 b.u) rfl
    have k1_1 := (HS3.out).at 1 rfl 1 (v := .bool b.am) rfl
    have k1_2 := (HS3.out).at 1 rfl 2 (v := .int .i64 b.al) rfl
    have k1_3 := (HS3.out).at 1 rfl 3 (v := .int .i64 b.sp) rfl
    have k1_4 := (HS3.out).at 1 rfl 4 (v := .bool b.fo) rfl
    have k1_5 := (HS3.out).at 1 rfl 5 (v := .bool b.no) rfl
    go_wp2_with fail
    refine (AB.out _ HS3.out.below).mono ?_; rintro e w4 ⟨rfl, hb4⟩
    have hS4 := (HS3.out).keep hb4
    have HS4 := Lib.hid hS4
    clear hS4 HS3
    clear hb4
    clear k0_0 k0_1 k0_2 k0_3 k0_4 k0_5 k1_0 k1_1 k1_2 k1_3 k1_4 k1_5
    have k0_0 := (HS4.out).at 0 rfl 0 (v := .int .i64 a.u) rfl
    have k0_1 := (HS4.out).at 0 rfl 1 (v := .bool a.am) rfl
    have k0_2 := (HS4.out).at 0 rfl 2 (v := .int .i64 a.al) rfl
    have k0_3 := (HS4.out).at 0 rfl 3 (v := .int .i64 a.sp) rfl
    have k0_4 := (HS4.out).at 0 rfl 4 (v := .bool a.fo) rfl
    have k0_5 := (HS4.out).at 0 rfl 5 (v := .bool a.no) rfl
    have k1_0 := (HS4.out).at 1 rfl 0 (v := .int .i64 b.u) rfl
    have k1_1 := (HS4.out).at 1 rfl 1 (v := .bool b.am) rfl
    have k1_2 := (HS4.out).at 1 rfl 2 (v := .int .i64 b.al) rfl
    have k1_3 := (HS4.out).at 1 rfl 3 (v := .int .i64 b.sp) rfl
    have k1_4 := (HS4.out).at 1 rfl 4 (v := .bool b.fo) rfl
    have k1_5 := (HS4.out).at 1 rfl 5 (v := .bool b.no) rfl
    go_wp2_with fail
    refine (AB.out _ HS4.out.below).mono ?_; rintro e w5 ⟨rfl, hb5⟩
    have hS5 := (HS4.out).keep hb5
    have HS5 := Lib.hid hS5
    clear hS5 HS4
    clear hb5
    clear k0_0 k0_1 k0_2 k0_3 k0_4 k0_5 k1_0 k1_1 k1_2 k1_3 k1_4 k1_5
    clear AB
    cases f
    · skip
      clear HF SM
      have k0_0 := (HS5.out).at 0 rfl 0 (v := .int .i64 a.u) rfl
      have k0_1 := (HS5.out).at 0 rfl 1 (v := .bool a.am) rfl
      have k0_2 := (HS5.out).at 0 rfl 2 (v := .int .i64 a.al) rfl
      have k0_3 := (HS5.out).at 0 rfl 3 (v := .int .i64 a.sp) rfl
      have k0_4 := (HS5.out).at 0 rfl 4 (v := .bool a.fo) rfl
      have k0_5 := (HS5.out).at 0 rfl 5 (v := .bool a.no) rfl
      have k1_0 := (HS5.out).at 1 rfl 0 (v := .int .i64 b.u) rfl
      have k1_1 := (HS5.out).at 1 rfl 1 (v := .bool b.am) rfl
      have k1_2 := (HS5.out).at 1 rfl 2 (v := .int .i64 b.al) rfl
      have k1_3 := (HS5.out).at 1 rfl 3 (v := .int .i64 b.sp) rfl
      have k1_4 := (HS5.out).at 1 rfl 4 (v := .bool b.fo) rfl
      have k1_5 := (HS5.out).at 1 rfl 5 (v := .bool b.no) rfl
      go_wp2_with fail
      refine (BA.out _ HS5.out.below).mono ?_; rintro e w6 ⟨rfl, hb6⟩
      have hS6 := (HS5.out).keep hb6
      have HS6 := Lib.hid hS6
      clear hS6 HS5
      clear hb6
      clear k0_0 k0_1 k0_2 k0_3 k0_4 k0_5 k1_0 k1_1 k1_2 k1_3 k1_4 k1_5
      clear BA
      have d0 : decide ((0 : Int) ≤ m) = true := decide_eq_true H0.out
      have d5 : decide (m ≤ 5) = true := decide_eq_true H5.out
      have he := HE.out
      have k0_0 := (HS6.out).at 0 rfl 0 (v := .int .i64 a.u) rfl
      have k0_1 := (HS6.out).at 0 rfl 1 (v := .bool a.am) rfl
      have k0_2 := (HS6.out).at 0 rfl 2 (v := .int .i64 a.al) rfl
      have k0_3 := (HS6.out).at 0 rfl 3 (v := .int .i64 a.sp) rfl
      have k0_4 := (HS6.out).at 0 rfl 4 (v := .bool a.fo) rfl
      have k0_5 := (HS6.out).at 0 rfl 5 (v := .bool a.no) rfl
      have k1_0 := (HS6.out).at 1 rfl 0 (v := .int .i64 b.u) rfl
      have k1_1 := (HS6.out).at 1 rfl 1 (v := .bool b.am) rfl
      have k1_2 := (HS6.out).at 1 rfl 2 (v := .int .i64 b.al) rfl
      have k1_3 := (HS6.out).at 1 rfl 3 (v := .int .i64 b.sp) rfl
      have k1_4 := (HS6.out).at 1 rfl 4 (v := .bool b.fo) rfl
      have k1_5 := (HS6.out).at 1 rfl 5 (v := .bool b.no) rfl
      go_wp2_with fail
      refine (NM.out _ HS6.out.below).mono ?_; rintro e w7 ⟨rfl, hb7⟩
      have hS7 := (HS6.out).keep hb7
      have HS7 := Lib.hid hS7
      clear hS7 HS6
      clear hb7
      clear k0_0 k0_1 k0_2 k0_3 k0_4 k0_5 k1_0 k1_1 k1_2 k1_3 k1_4 k1_5
      by_cases hq : m = n
      · obtain rfl : s = t := HQ.out hq
        subst hq
        clear HQ HN H0 H5
        have k0_0 := (HS7.out).at 0 rfl 0 (v := .int .i64 a.u) rfl
        have k0_1 := (HS7.out).at 0 rfl 1 (v := .bool a.am) rfl
        have k0_2 := (HS7.out).at 0 rfl 2 (v := .int .i64 a.al) rfl
        have k0_3 := (HS7.out).at 0 rfl 3 (v := .int .i64 a.sp) rfl
        have k0_4 := (HS7.out).at 0 rfl 4 (v := .bool a.fo) rfl
        have k0_5 := (HS7.out).at 0 rfl 5 (v := .bool a.no) rfl
        have k1_0 := (HS7.out).at 1 rfl 0 (v := .int .i64 b.u) rfl
        have k1_1 := (HS7.out).at 1 rfl 1 (v := .bool b.am) rfl
        have k1_2 := (HS7.out).at 1 rfl 2 (v := .int .i64 b.al) rfl
        have k1_3 := (HS7.out).at 1 rfl 3 (v := .int .i64 b.sp) rfl
        have k1_4 := (HS7.out).at 1 rfl 4 (v := .bool b.fo) rfl
        have k1_5 := (HS7.out).at 1 rfl 5 (v := .bool b.no) rfl
        go_wp2_with fail
        refine (NM.out _ HS7.out.below).mono ?_; rintro e w8 ⟨rfl, hb8⟩
        have hS8 := (HS7.out).keep hb8
        have HS8 := Lib.hid hS8
        clear hS8 HS7
        clear hb8
        clear k0_0 k0_1 k0_2 k0_3 k0_4 k0_5 k1_0 k1_1 k1_2 k1_3 k1_4 k1_5
        have k0_0 := (HS8.out).at 0 rfl 0 (v := .int .i64 a.u) rfl
        have k0_1 := (HS8.out).at 0 rfl 1 (v := .bool a.am) rfl
        have k0_2 := (HS8.out).at 0 rfl 2 (v := .int .i64 a.al) rfl
        have k0_3 := (HS8.out).at 0 rfl 3 (v := .int .i64 a.sp) rfl
        have k0_4 := (HS8.out).at 0 rfl 4 (v := .bool a.fo) rfl
        have k0_5 := (HS8.out).at 0 rfl 5 (v := .bool a.no) rfl
        have k1_0 := (HS8.out).at 1 rfl 0 (v := .int .i64 b.u) rfl
        have k1_1 := (HS8.out).at 1 rfl 1 (v := .bool b.am) rfl
        have k1_2 := (HS8.out).at 1 rfl 2 (v := .int .i64 b.al) rfl
        have k1_3 := (HS8.out).at 1 rfl 3 (v := .int .i64 b.sp) rfl
        have k1_4 := (HS8.out).at 1 rfl 4 (v := .bool b.fo) rfl
        have k1_5 := (HS8.out).at 1 rfl 5 (v := .bool b.no) rfl
        go_wp2_with fail
        refine (NN.out _ HS8.out.below).mono ?_; rintro e w9 ⟨rfl, hb9⟩
        have hS9 := (HS8.out).keep hb9
        have HS9 := Lib.hid hS9
        clear hS9 HS8
        clear hb9
        clear k0_0 k0_1 k0_2 k0_3 k0_4 k0_5 k1_0 k1_1 k1_2 k1_3 k1_4 k1_5
        have k0_0 := (HS9.out).at 0 rfl 0 (v := .int .i64 a.u) rfl
        have k0_1 := (HS9.out).at 0 rfl 1 (v := .bool a.am) rfl
        have k0_2 := (HS9.out).at 0 rfl 2 (v := .int .i64 a.al) rfl
        have k0_3 := (HS9.out).at 0 rfl 3 (v := .int .i64 a.sp) rfl
        have k0_4 := (HS9.out).at 0 rfl 4 (v := .bool a.fo) rfl
        have k0_5 := (HS9.out).at 0 rfl 5 (v := .bool a.no) rfl
        have k1_0 := (HS9.out).at 1 rfl 0 (v := .int .i64 b.u) rfl
        have k1_1 := (HS9.out).at 1 rfl 1 (v := .bool b.am) rfl
        have k1_2 := (HS9.out).at 1 rfl 2 (v := .int .i64 b.al) rfl
        have k1_3 := (HS9.out).at 1 rfl 3 (v := .int .i64 b.sp) rfl
        have k1_4 := (HS9.out).at 1 rfl 4 (v := .bool b.fo) rfl
        have k1_5 := (HS9.out).at 1 rfl 5 (v := .bool b.no) rfl
        go_wp2_with fail
        refine (AA.out _ HS9.out.below).mono ?_; rintro e w10 ⟨rfl, hb10⟩
        have hS10 := (HS9.out).keep hb10
        have HS10 := Lib.hid hS10
        clear hS10 HS9
        clear hb10
        clear k0_0 k0_1 k0_2 k0_3 k0_4 k0_5 k1_0 k1_1 k1_2 k1_3 k1_4 k1_5
        have k0_0 := (HS10.out).at 0 rfl 0 (v := .int .i64 a.u) rfl
        have k0_1 := (HS10.out).at 0 rfl 1 (v := .bool a.am) rfl
        have k0_2 := (HS10.out).at 0 rfl 2 (v := .int .i64 a.al) rfl
        have k0_3 := (HS10.out).at 0 rfl 3 (v := .int .i64 a.sp) rfl
        have k0_4 := (HS10.out).at 0 rfl 4 (v := .bool a.fo) rfl
        have k0_5 := (HS10.out).at 0 rfl 5 (v := .bool a.no) rfl
        have k1_0 := (HS10.out).at 1 rfl 0 (v := .int .i64 b.u) rfl
        have k1_1 := (HS10.out).at 1 rfl 1 (v := .bool b.am) rfl
        have k1_2 := (HS10.out).at 1 rfl 2 (v := .int .i64 b.al) rfl
        have k1_3 := (HS10.out).at 1 rfl 3 (v := .int .i64 b.sp) rfl
        have k1_4 := (HS10.out).at 1 rfl 4 (v := .bool b.fo) rfl
        have k1_5 := (HS10.out).at 1 rfl 5 (v := .bool b.no) rfl
        go_wp2_with fail
        refine (AW.out _ HS10.out.below).mono ?_; rintro e w11 ⟨rfl, hb11⟩
        have hS11 := (HS10.out).keep hb11
        have HS11 := Lib.hid hS11
        clear hS11 HS10
        clear hb11
        clear k0_0 k0_1 k0_2 k0_3 k0_4 k0_5 k1_0 k1_1 k1_2 k1_3 k1_4 k1_5
        have BH := Lib.hid HS11.out.below
        go_wp2_with fail
        exact bodyPost_ret (v := .bool true) (by simp [results, Tryd.results4, go_sem, *]) rfl ⟨rfl, BH.out⟩
      · have hs := HN.out hq
        have hq1 : (m == n) = false := by simpa using hq
        clear HQ HN H0 H5
        have k0_0 := (HS7.out).at 0 rfl 0 (v := .int .i64 a.u) rfl
        have k0_1 := (HS7.out).at 0 rfl 1 (v := .bool a.am) rfl
        have k0_2 := (HS7.out).at 0 rfl 2 (v := .int .i64 a.al) rfl
        have k0_3 := (HS7.out).at 0 rfl 3 (v := .int .i64 a.sp) rfl
        have k0_4 := (HS7.out).at 0 rfl 4 (v := .bool a.fo) rfl
        have k0_5 := (HS7.out).at 0 rfl 5 (v := .bool a.no) rfl
        have k1_0 := (HS7.out).at 1 rfl 0 (v := .int .i64 b.u) rfl
        have k1_1 := (HS7.out).at 1 rfl 1 (v := .bool b.am) rfl
        have k1_2 := (HS7.out).at 1 rfl 2 (v := .int .i64 b.al) rfl
        have k1_3 := (HS7.out).at 1 rfl 3 (v := .int .i64 b.sp) rfl
        have k1_4 := (HS7.out).at 1 rfl 4 (v := .bool b.fo) rfl
        have k1_5 := (HS7.out).at 1 rfl 5 (v := .bool b.no) rfl
        go_wp2_with fail
        refine (NM.out _ HS7.out.below).mono ?_; rintro e w8 ⟨rfl, hb8⟩
        have hS8 := (HS7.out).keep hb8
        have HS8 := Lib.hid hS8
        clear hS8 HS7
        clear hb8
        clear k0_0 k0_1 k0_2 k0_3 k0_4 k0_5 k1_0 k1_1 k1_2 k1_3 k1_4 k1_5
        have k0_0 := (HS8.out).at 0 rfl 0 (v := .int .i64 a.u) rfl
        have k0_1 := (HS8.out).at 0 rfl 1 (v := .bool a.am) rfl
        have k0_2 := (HS8.out).at 0 rfl 2 (v := .int .i64 a.al) rfl
        have k0_3 := (HS8.out).at 0 rfl 3 (v := .int .i64 a.sp) rfl
        have k0_4 := (HS8.out).at 0 rfl 4 (v := .bool a.fo) rfl
        have k0_5 := (HS8.out).at 0 rfl 5 (v := .bool a.no) rfl
        have k1_0 := (HS8.out).at 1 rfl 0 (v := .int .i64 b.u) rfl
        have k1_1 := (HS8.out).at 1 rfl 1 (v := .bool b.am) rfl
        have k1_2 := (HS8.out).at 1 rfl 2 (v := .int .i64 b.al) rfl
        have k1_3 := (HS8.out).at 1 rfl 3 (v := .int .i64 b.sp) rfl
        have k1_4 := (HS8.out).at 1 rfl 4 (v := .bool b.fo) rfl
        have k1_5 := (HS8.out).at 1 rfl 5 (v := .bool b.no) rfl
        go_wp2_with fail
        refine (NN.out _ HS8.out.below).mono ?_; rintro e w9 ⟨rfl, hb9⟩
        have hS9 := (HS8.out).keep hb9
        have HS9 := Lib.hid hS9
        clear hS9 HS8
        clear hb9
        clear k0_0 k0_1 k0_2 k0_3 k0_4 k0_5 k1_0 k1_1 k1_2 k1_3 k1_4 k1_5
        have k0_0 := (HS9.out).at 0 rfl 0 (v := .int .i64 a.u) rfl
        have k0_1 := (HS9.out).at 0 rfl 1 (v := .bool a.am) rfl
        have k0_2 := (HS9.out).at 0 rfl 2 (v := .int .i64 a.al) rfl
        have k0_3 := (HS9.out).at 0 rfl 3 (v := .int .i64 a.sp) rfl
        have k0_4 := (HS9.out).at 0 rfl 4 (v := .bool a.fo) rfl
        have k0_5 := (HS9.out).at 0 rfl 5 (v := .bool a.no) rfl
        have k1_0 := (HS9.out).at 1 rfl 0 (v := .int .i64 b.u) rfl
        have k1_1 := (HS9.out).at 1 rfl 1 (v := .bool b.am) rfl
        have k1_2 := (HS9.out).at 1 rfl 2 (v := .int .i64 b.al) rfl
        have k1_3 := (HS9.out).at 1 rfl 3 (v := .int .i64 b.sp) rfl
        have k1_4 := (HS9.out).at 1 rfl 4 (v := .bool b.fo) rfl
        have k1_5 := (HS9.out).at 1 rfl 5 (v := .bool b.no) rfl
        go_wp2_with fail
        refine (AA.out _ HS9.out.below).mono ?_; rintro e w10 ⟨rfl, hb10⟩
        have hS10 := (HS9.out).keep hb10
        have HS10 := Lib.hid hS10
        clear hS10 HS9
        clear hb10
        clear k0_0 k0_1 k0_2 k0_3 k0_4 k0_5 k1_0 k1_1 k1_2 k1_3 k1_4 k1_5
        have k0_0 := (HS10.out).at 0 rfl 0 (v := .int .i64 a.u) rfl
        have k0_1 := (HS10.out).at 0 rfl 1 (v := .bool a.am) rfl
        have k0_2 := (HS10.out).at 0 rfl 2 (v := .int .i64 a.al) rfl
        have k0_3 := (HS10.out).at 0 rfl 3 (v := .int .i64 a.sp) rfl
        have k0_4 := (HS10.out).at 0 rfl 4 (v := .bool a.fo) rfl
        have k0_5 := (HS10.out).at 0 rfl 5 (v := .bool a.no) rfl
        have k1_0 := (HS10.out).at 1 rfl 0 (v := .int .i64 b.u) rfl
        have k1_1 := (HS10.out).at 1 rfl 1 (v := .bool b.am) rfl
        have k1_2 := (HS10.out).at 1 rfl 2 (v := .int .i64 b.al) rfl
        have k1_3 := (HS10.out).at 1 rfl 3 (v := .int .i64 b.sp) rfl
        have k1_4 := (HS10.out).at 1 rfl 4 (v := .bool b.fo) rfl
        have k1_5 := (HS10.out).at 1 rfl 5 (v := .bool b.no) rfl
        go_wp2_with fail
        refine (AW.out _ HS10.out.below).mono ?_; rintro e w11 ⟨rfl, hb11⟩
        have hS11 := (HS10.out).keep hb11
        have HS11 := Lib.hid hS11
        clear hS11 HS10
        clear hb11
        clear k0_0 k0_1 k0_2 k0_3 k0_4 k0_5 k1_0 k1_1 k1_2 k1_3 k1_4 k1_5
        have BH := Lib.hid HS11.out.below
        go_wp2_with fail
        exact bodyPost_ret (v := .bool true) (by simp [results, Tryd.results4, go_sem, *]) rfl ⟨rfl, BH.out⟩
    · obtain rfl := HF.out (by trivial) (by trivial)
      have sm := SM.out
      clear HF SM
      have k0_0 := (HS5.out).at 0 rfl 0 (v := .int .i64 a.u) rfl
      have k0_1 := (HS5.out).at 0 rfl 1 (v := .bool a.am) rfl
      have k0_2 := (HS5.out).at 0 rfl 2 (v := .int .i64 a.al) rfl
      have k0_3 := (HS5.out).at 0 rfl 3 (v := .int .i64 a.sp) rfl
      have k0_4 := (HS5.out).at 0 rfl 4 (v := .bool a.fo) rfl
      have k0_5 := (HS5.out).at 0 rfl 5 (v := .bool a.no) rfl
      have k1_0 := (HS5.out).at 1 rfl 0 (v := .int .i64 a.u) rfl
      have k1_1 := (HS5.out).at 1 rfl 1 (v := .bool a.am) rfl
      have k1_2 := (HS5.out).at 1 rfl 2 (v := .int .i64 a.al) rfl
      have k1_3 := (HS5.out).at 1 rfl 3 (v := .int .i64 a.sp) rfl
      have k1_4 := (HS5.out).at 1 rfl 4 (v := .bool a.fo) rfl
      have k1_5 := (HS5.out).at 1 rfl 5 (v := .bool a.no) rfl
      go_wp2_with fail
      refine (BA.out _ HS5.out.below).mono ?_; rintro e w6 ⟨rfl, hb6⟩
      have hS6 := (HS5.out).keep hb6
      have HS6 := Lib.hid hS6
      clear hS6 HS5
      clear hb6
      clear k0_0 k0_1 k0_2 k0_3 k0_4 k0_5 k1_0 k1_1 k1_2 k1_3 k1_4 k1_5
      clear BA
      have z0_0 := (HS6.out).at 0 rfl 0 (v := .int .i64 a.u) rfl
      have z0_1 := (HS6.out).at 0 rfl 1 (v := .bool a.am) rfl
      have z0_2 := (HS6.out).at 0 rfl 2 (v := .int .i64 a.al) rfl
      have z0_3 := (HS6.out).at 0 rfl 3 (v := .int .i64 a.sp) rfl
      have z0_4 := (HS6.out).at 0 rfl 4 (v := .bool a.fo) rfl
      have z0_5 := (HS6.out).at 0 rfl 5 (v := .bool a.no) rfl
      have z1_0 := (HS6.out).at 1 rfl 0 (v := .int .i64 a.u) rfl
      have z1_1 := (HS6.out).at 1 rfl 1 (v := .bool a.am) rfl
      have z1_2 := (HS6.out).at 1 rfl 2 (v := .int .i64 a.al) rfl
      have z1_3 := (HS6.out).at 1 rfl 3 (v := .int .i64 a.sp) rfl
      have z1_4 := (HS6.out).at 1 rfl 4 (v := .bool a.fo) rfl
      have z1_5 := (HS6.out).at 1 rfl 5 (v := .bool a.no) rfl
      have d0 : decide ((0 : Int) ≤ m) = true := decide_eq_true H0.out
      have d5 : decide (m ≤ 5) = true := decide_eq_true H5.out
      have he := HE.out
      have k0_0 := (HS6.out).at 0 rfl 0 (v := .int .i64 a.u) rfl
      have k0_1 := (HS6.out).at 0 rfl 1 (v := .bool a.am) rfl
      have k0_2 := (HS6.out).at 0 rfl 2 (v := .int .i64 a.al) rfl
      have k0_3 := (HS6.out).at 0 rfl 3 (v := .int .i64 a.sp) rfl
      have k0_4 := (HS6.out).at 0 rfl 4 (v := .bool a.fo) rfl
      have k0_5 := (HS6.out).at 0 rfl 5 (v := .bool a.no) rfl
      have k1_0 := (HS6.out).at 1 rfl 0 (v := .int .i64 a.u) rfl
      have k1_1 := (HS6.out).at 1 rfl 1 (v := .bool a.am) rfl
      have k1_2 := (HS6.out).at 1 rfl 2 (v := .int .i64 a.al) rfl
      have k1_3 := (HS6.out).at 1 rfl 3 (v := .int .i64 a.sp) rfl
      have k1_4 := (HS6.out).at 1 rfl 4 (v := .bool a.fo) rfl
      have k1_5 := (HS6.out).at 1 rfl 5 (v := .bool a.no) rfl
      go_wp2_with fail
      refine (NM.out _ HS6.out.below).mono ?_; rintro e w7 ⟨rfl, hb7⟩
      have hS7 := (HS6.out).keep hb7
      have HS7 := Lib.hid hS7
      clear hS7 HS6
      clear hb7
      clear k0_0 k0_1 k0_2 k0_3 k0_4 k0_5 k1_0 k1_1 k1_2 k1_3 k1_4 k1_5
      by_cases hq : m = n
      · obtain rfl : s = t := HQ.out hq
        subst hq
        clear HQ HN H0 H5
        have k0_0 := (HS7.out).at 0 rfl 0 (v := .int .i64 a.u) rfl
        have k0_1 := (HS7.out).at 0 rfl 1 (v := .bool a.am) rfl
        have k0_2 := (HS7.out).at 0 rfl 2 (v := .int .i64 a.al) rfl
        have k0_3 := (HS7.out).at 0 rfl 3 (v := .int .i64 a.sp) rfl
        have k0_4 := (HS7.out).at 0 rfl 4 (v := .bool a.fo) rfl
        have k0_5 := (HS7.out).at 0 rfl 5 (v := .bool a.no) rfl
        have k1_0 := (HS7.out).at 1 rfl 0 (v := .int .i64 a.u) rfl
        have k1_1 := (HS7.out).at 1 rfl 1 (v := .bool a.am) rfl
        have k1_2 := (HS7.out).at 1 rfl 2 (v := .int .i64 a.al) rfl
        have k1_3 := (HS7.out).at 1 rfl 3 (v := .int .i64 a.sp) rfl
        have k1_4 := (HS7.out).at 1 rfl 4 (v := .bool a.fo) rfl
        have k1_5 := (HS7.out).at 1 rfl 5 (v := .bool a.no) rfl
        go_wp2_with fail
        refine (NM.out _ HS7.out.below).mono ?_; rintro e w8 ⟨rfl, hb8⟩
        have hS8 := (HS7.out).keep hb8
        have HS8 := Lib.hid hS8
        clear hS8 HS7
        clear hb8
        clear k0_0 k0_1 k0_2 k0_3 k0_4 k0_5 k1_0 k1_1 k1_2 k1_3 k1_4 k1_5
        have k0_0 := (HS8.out).at 0 rfl 0 (v := .int .i64 a.u) rfl
        have k0_1 := (HS8.out).at 0 rfl 1 (v := .bool a.am) rfl
        have k0_2 := (HS8.out).at 0 rfl 2 (v := .int .i64 a.al) rfl
        have k0_3 := (HS8.out).at 0 rfl 3 (v := .int .i64 a.sp) rfl
        have k0_4 := (HS8.out).at 0 rfl 4 (v := .bool a.fo) rfl
        have k0_5 := (HS8.out).at 0 rfl 5 (v := .bool a.no) rfl
        have k1_0 := (HS8.out).at 1 rfl 0 (v := .int .i64 a.u) rfl
        have k1_1 := (HS8.out).at 1 rfl 1 (v := .bool a.am) rfl
        have k1_2 := (HS8.out).at 1 rfl 2 (v := .int .i64 a.al) rfl
        have k1_3 := (HS8.out).at 1 rfl 3 (v := .int .i64 a.sp) rfl
        have k1_4 := (HS8.out).at 1 rfl 4 (v := .bool a.fo) rfl
        have k1_5 := (HS8.out).at 1 rfl 5 (v := .bool a.no) rfl
        go_wp2_with fail
        refine (NN.out _ HS8.out.below).mono ?_; rintro e w9 ⟨rfl, hb9⟩
        have hS9 := (HS8.out).keep hb9
        have HS9 := Lib.hid hS9
        clear hS9 HS8
        clear hb9
        clear k0_0 k0_1 k0_2 k0_3 k0_4 k0_5 k1_0 k1_1 k1_2 k1_3 k1_4 k1_5
        have k0_0 := (HS9.out).at 0 rfl 0 (v := .int .i64 a.u) rfl
        have k0_1 := (HS9.out).at 0 rfl 1 (v := .bool a.am) rfl
        have k0_2 := (HS9.out).at 0 rfl 2 (v := .int .i64 a.al) rfl
        have k0_3 := (HS9.out).at 0 rfl 3 (v := .int .i64 a.sp) rfl
        have k0_4 := (HS9.out).at 0 rfl 4 (v := .bool a.fo) rfl
        have k0_5 := (HS9.out).at 0 rfl 5 (v := .bool a.no) rfl
        have k1_0 := (HS9.out).at 1 rfl 0 (v := .int .i64 a.u) rfl
        have k1_1 := (HS9.out).at 1 rfl 1 (v := .bool a.am) rfl
        have k1_2 := (HS9.out).at 1 rfl 2 (v := .int .i64 a.al) rfl
        have k1_3 := (HS9.out).at 1 rfl 3 (v := .int .i64 a.sp) rfl
        have k1_4 := (HS9.out).at 1 rfl 4 (v := .bool a.fo) rfl
        have k1_5 := (HS9.out).at 1 rfl 5 (v := .bool a.no) rfl
        go_wp2_with fail
        refine (AA.out _ HS9.out.below).mono ?_; rintro e w10 ⟨rfl, hb10⟩
        have hS10 := (HS9.out).keep hb10
        have HS10 := Lib.hid hS10
        clear hS10 HS9
        clear hb10
        clear k0_0 k0_1 k0_2 k0_3 k0_4 k0_5 k1_0 k1_1 k1_2 k1_3 k1_4 k1_5
        have k0_0 := (HS10.out).at 0 rfl 0 (v := .int .i64 a.u) rfl
        have k0_1 := (HS10.out).at 0 rfl 1 (v := .bool a.am) rfl
        have k0_2 := (HS10.out).at 0 rfl 2 (v := .int .i64 a.al) rfl
        have k0_3 := (HS10.out).at 0 rfl 3 (v := .int .i64 a.sp) rfl
        have k0_4 := (HS10.out).at 0 rfl 4 (v := .bool a.fo) rfl
        have k0_5 := (HS10.out).at 0 rfl 5 (v := .bool a.no) rfl
        have k1_0 := (HS10.out).at 1 rfl 0 (v := .int .i64 a.u) rfl
        have k1_1 := (HS10.out).at 1 rfl 1 (v := .bool a.am) rfl
        have k1_2 := (HS10.out).at 1 rfl 2 (v := .int .i64 a.al) rfl
        have k1_3 := (HS10.out).at 1 rfl 3 (v := .int .i64 a.sp) rfl
        have k1_4 := (HS10.out).at 1 rfl 4 (v := .bool a.fo) rfl
        have k1_5 := (HS10.out).at 1 rfl 5 (v := .bool a.no) rfl
        go_wp2_with fail
        refine (AW.out _ HS10.out.below).mono ?_; rintro e w11 ⟨rfl, hb11⟩
        have hS11 := (HS10.out).keep hb11
        have HS11 := Lib.hid hS11
        clear hS11 HS10
        clear hb11
        clear k0_0 k0_1 k0_2 k0_3 k0_4 k0_5 k1_0 k1_1 k1_2 k1_3 k1_4 k1_5
        have BH := Lib.hid HS11.out.below
        go_wp2_with fail
        exact bodyPost_ret (v := .bool true) (by simp [results, Tryd.results4, go_sem, *]) rfl ⟨rfl, BH.out⟩
      · have hs := HN.out hq
        have hq1 : (m == n) = false := by simpa using hq
        clear HQ HN H0 H5
        have k0_0 := (HS7.out).at 0 rfl 0 (v := .int .i64 a.u) rfl
        have k0_1 := (HS7.out).at 0 rfl 1 (v := .bool a.am) rfl
        have k0_2 := (HS7.out).at 0 rfl 2 (v := .int .i64 a.al) rfl
        have k0_3 := (HS7.out).at 0 rfl 3 (v := .int .i64 a.sp) rfl
        have k0_4 := (HS7.out).at 0 rfl 4 (v := .bool a.fo) rfl
        have k0_5 := (HS7.out).at 0 rfl 5 (v := .bool a.no) rfl
        have k1_0 := (HS7.out).at 1 rfl 0 (v := .int .i64 a.u) rfl
        have k1_1 := (HS7.out).at 1 rfl 1 (v := .bool a.am) rfl
        have k1_2 := (HS7.out).at 1 rfl 2 (v := .int .i64 a.al) rfl
        have k1_3 := (HS7.out).at 1 rfl 3 (v := .int .i64 a.sp) rfl
        have k1_4 := (HS7.out).at 1 rfl 4 (v := .bool a.fo) rfl
        have k1_5 := (HS7.out).at 1 rfl 5 (v := .bool a.no) rfl
        go_wp2_with fail
        refine (NM.out _ HS7.out.below).mono ?_; rintro e w8 ⟨rfl, hb8⟩
        have hS8 := (HS7.out).keep hb8
        have HS8 := Lib.hid hS8
        clear hS8 HS7
        clear hb8
        clear k0_0 k0_1 k0_2 k0_3 k0_4 k0_5 k1_0 k1_1 k1_2 k1_3 k1_4 k1_5
        have k0_0 := (HS8.out).at 0 rfl 0 (v := .int .i64 a.u) rfl
        have k0_1 := (HS8.out).at 0 rfl 1 (v := .bool a.am) rfl
        have k0_2 := (HS8.out).at 0 rfl 2 (v := .int .i64 a.al) rfl
        have k0_3 := (HS8.out).at 0 rfl 3 (v := .int .i64 a.sp) rfl
        have k0_4 := (HS8.out).at 0 rfl 4 (v := .bool a.fo) rfl
        have k0_5 := (HS8.out).at 0 rfl 5 (v := .bool a.no) rfl
        have k1_0 := (HS8.out).at 1 rfl 0 (v := .int .i64 a.u) rfl
        have k1_1 := (HS8.out).at 1 rfl 1 (v := .bool a.am) rfl
        have k1_2 := (HS8.out).at 1 rfl 2 (v := .int .i64 a.al) rfl
        have k1_3 := (HS8.out).at 1 rfl 3 (v := .int .i64 a.sp) rfl
        have k1_4 := (HS8.out).at 1 rfl 4 (v := .bool a.fo) rfl
        have k1_5 := (HS8.out).at 1 rfl 5 (v := .bool a.no) rfl
        go_wp2_with fail
        refine (NN.out _ HS8.out.below).mono ?_; rintro e w9 ⟨rfl, hb9⟩
        have hS9 := (HS8.out).keep hb9
        have HS9 := Lib.hid hS9
        clear hS9 HS8
        clear hb9
        clear k0_0 k0_1 k0_2 k0_3 k0_4 k0_5 k1_0 k1_1 k1_2 k1_3 k1_4 k1_5
        have k0_0 := (HS9.out).at 0 rfl 0 (v := .int .i64 a.u) rfl
        have k0_1 := (HS9.out).at 0 rfl 1 (v := .bool a.am) rfl
        have k0_2 := (HS9.out).at 0 rfl 2 (v := .int .i64 a.al) rfl
        have k0_3 := (HS9.out).at 0 rfl 3 (v := .int .i64 a.sp) rfl
        have k0_4 := (HS9.out).at 0 rfl 4 (v := .bool a.fo) rfl
        have k0_5 := (HS9.out).at 0 rfl 5 (v := .bool a.no) rfl
        have k1_0 := (HS9.out).at 1 rfl 0 (v := .int .i64 a.u) rfl
        have k1_1 := (HS9.out).at 1 rfl 1 (v := .bool a.am) rfl
        have k1_2 := (HS9.out).at 1 rfl 2 (v := .int .i64 a.al) rfl
        have k1_3 := (HS9.out).at 1 rfl 3 (v := .int .i64 a.sp) rfl
        have k1_4 := (HS9.out).at 1 rfl 4 (v := .bool a.fo) rfl
        have k1_5 := (HS9.out).at 1 rfl 5 (v := .bool a.no) rfl
        go_wp2_with fail
        refine (AA.out _ HS9.out.below).mono ?_; rintro e w10 ⟨rfl, hb10⟩
        have hS10 := (HS9.out).keep hb10
        have HS10 := Lib.hid hS10
        clear hS10 HS9
        clear hb10
        clear k0_0 k0_1 k0_2 k0_3 k0_4 k0_5 k1_0 k1_1 k1_2 k1_3 k1_4 k1_5
        have k0_0 := (HS10.out).at 0 rfl 0 (v := .int .i64 a.u) rfl
        have k0_1 := (HS10.out).at 0 rfl 1 (v := .bool a.am) rfl
        have k0_2 := (HS10.out).at 0 rfl 2 (v := .int .i64 a.al) rfl
        have k0_3 := (HS10.out).at 0 rfl 3 (v := .int .i64 a.sp) rfl
        have k0_4 := (HS10.out).at 0 rfl 4 (v := .bool a.fo) rfl
        have k0_5 := (HS10.out).at 0 rfl 5 (v := .bool a.no) rfl
        have k1_0 := (HS10.out).at 1 rfl 0 (v := .int .i64 a.u) rfl
        have k1_1 := (HS10.out).at 1 rfl 1 (v := .bool a.am) rfl
        have k1_2 := (HS10.out).at 1 rfl 2 (v := .int .i64 a.al) rfl
        have k1_3 := (HS10.out).at 1 rfl 3 (v := .int .i64 a.sp) rfl
        have k1_4 := (HS10.out).at 1 rfl 4 (v := .bool a.fo) rfl
        have k1_5 := (HS10.out).at 1 rfl 5 (v := .bool a.no) rfl
        go_wp2_with fail
        refine (AW.out _ HS10.out.below).mono ?_; rintro e w11 ⟨rfl, hb11⟩
        have hS11 := (HS10.out).keep hb11
        have HS11 := Lib.hid hS11
        clear hS11 HS10
        clear hb11
        clear k0_0 k0_1 k0_2 k0_3 k0_4 k0_5 k1_0 k1_1 k1_2 k1_3 k1_4 k1_5
        have BH := Lib.hid HS11.out.below
        go_wp2_with fail
        exact bodyPost_ret (v := .bool true) (by simp [results, Tryd.results4, go_sem, *]) rfl ⟨rfl, BH.out⟩
theorem Falls_all (a b : La) (w : World) (N : NamesAt w) : Calls Tryd.prog 4 #[lv a, lv b] w fun e w' => e = .returned (.bool true) ∧ Below w.heap.size w w' :=
  Falls_core a b (mode a) (mode b) (nm (mode a)) (nm (mode b)) (worse a b) (worse b a) w (Lib.hid fun w' _ => Mode_any a w') (Lib.hid fun w' _ => Mode_any b w') (Lib.hid fun w' _ => Worse_any a b w') (Lib.hid fun w' _ => Worse_any b a w') (Lib.hid fun w' _ => by have := Worse_any a a w'; rwa [worse_self] at this)
    (Lib.hid fun w' B => Name_any _ w' (Lib.hid (N.keep B))) (Lib.hid fun w' B => Name_any _ w' (Lib.hid (N.keep B))) (Lib.hid fun w' B => awake_any w' (N.keep B)) (Lib.hid (mode_le a).1) (Lib.hid (mode_le a).2) (Lib.hid (nm_some (mode_le a).1 (mode_le a).2)) (Lib.hid fun h => by rw [h]) (Lib.hid fun h => nm_other (mode_le a).1 (mode_le a).2 (mode_le b).1 (mode_le b).2 h)
    (Lib.hid fun h => by have := worse_mode h; omega) (Lib.hid fun h k => worse_eq h k) (Lib.hid (la_same a))

end Go.Proofs.YtmenicgoabmcmaaDoor
