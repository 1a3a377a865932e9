/- The landed frame's Read. -/
import Derived.Test.YtnafodnaolmffaaLanFrmA
import Derived.Test.YtnafodnaolmffaaFrmRefC
namespace Go.Proofs.Ytnafodnaolmffaa
open Go.RowKit

theorem read_take (l : List UInt8) (h : 11 ≤ l.length) : readF l = readF (l.take 11) := by
  obtain ⟨c0, c1, c2, c3, c4, c5, c6, c7, c8, c9, c10, r, rfl⟩ := eleven l h
  have e1 : ¬ (c0 :: c1 :: c2 :: c3 :: c4 :: c5 :: c6 :: c7 :: c8 :: c9 :: c10 :: r).length < 11 := by omega
  have e2 : beginsF (c0 :: c1 :: c2 :: c3 :: c4 :: c5 :: c6 :: c7 :: c8 :: c9 :: c10 :: r) = beginsF [c0, c1, c2, c3, c4, c5, c6, c7, c8, c9, c10] := by simp [beginsF]
  have e3 : ¬ [c0, c1, c2, c3, c4, c5, c6, c7, c8, c9, c10].length < 11 := by simp
  show readF (c0 :: c1 :: c2 :: c3 :: c4 :: c5 :: c6 :: c7 :: c8 :: c9 :: c10 :: r) = readF [c0, c1, c2, c3, c4, c5, c6, c7, c8, c9, c10]
  unfold readF
  rw [if_neg e1, if_neg e3, e2]
  rfl

namespace Lan14
set_option maxRecDepth 100000 in
theorem Read_short (ba : Option Addr) (n cap : Nat) (w : World) (h : (n : Int) < 11) :
    Calls Try.prog 31 #[.slice ba n cap] w fun e w' => e = .returned (.tuple #[fv0, .int .i64 2]) ∧ Below w.heap.size w w' := by
  have B1 := below1 w (.cells #[.int .i64 0, .int .i64 0, .bool false, .int .i64 0] 35)
  go_enter Try.func31, Try.ntmps31
  go_wp2
  exact bodyPost_ret (v := .tuple #[fv0, .int .i64 2]) (by simp [fv0, results, Try.results31, go_sem]) rfl ⟨rfl, B1⟩

/-- what the slice of the first eleven is -/
def Head (ba : Option Addr) (n cap : Nat) : Prop := ∀ W, (Instr.sliceAt 22 (.slice ba n cap) none (some (.int .i64 11)) none).run Try.prog W = .ok (.slice ba 11 cap) W

theorem Read_form {w : World} {ba : Option Addr} {cap n : Nat} {m : List UInt8} (C : Came w ba cap m) (hm : m.length = 11) (hs : Head ba n cap) (h : ¬ (n : Int) < 11) (hg : beginsF m = false) :
    Calls Try.prog 31 #[.slice ba n cap] w fun e w' => e = .returned (.tuple #[fv0, .int .i64 3]) ∧ Below w.heap.size w w' := by
  have B1 := below1 w (.cells #[.int .i64 0, .int .i64 0, .bool false, .int .i64 0] 35)
  have S1 := Lib.hid ((Sp.none w).more [.int .i64 0, .int .i64 0, .bool false, .int .i64 0] 35)
  have BG := Lib.hid (Begins_came (C.keep B1))
  rw [hg, hm] at BG
  unfold Head at hs
  clear C hm
  go_enter Try.func31, Try.ntmps31
  go_wp2_with fail
  refine BG.out.mono ?_; rintro e w1 ⟨rfl, hb1⟩
  have HB := Lib.hid (belowT B1 hb1)
  have S2 := S1.out.keep hb1
  have c0 := (S2).at 0 rfl 0 rfl; have f0 := (S2).free 0 rfl 0 rfl
  have c1 := (S2).at 0 rfl 1 rfl; have f1 := (S2).free 0 rfl 1 rfl
  have c2 := (S2).at 0 rfl 2 rfl; have f2 := (S2).free 0 rfl 2 rfl
  have c3 := (S2).at 0 rfl 3 rfl; have f3 := (S2).free 0 rfl 3 rfl
  clear S1 S2 B1 hb1 BG
  go_wp2
  refine bodyPost_ret (v := .tuple #[fv0, .int .i64 3]) (by simp [fv0, results, Try.results31, go_sem, *]) rfl ⟨rfl, ?_⟩
  exact (((HB.out.setCell (p := ⟨w.heap.size, 0, none⟩) (Nat.le_refl _) _).setCell (p := ⟨w.heap.size, 1, none⟩) (Nat.le_refl _) _).setCell (p := ⟨w.heap.size, 2, none⟩) (Nat.le_refl _) _).setCell (p := ⟨w.heap.size, 3, none⟩) (Nat.le_refl _) _

/-- what the slice behind the first two is -/
theorem tail9 {w : World} {ba : Option Addr} {cap : Nat} {m : List UInt8} (C : Came w ba cap m) (hm : m.length = 11) :
    ∃ bt ct, (∀ W, (Instr.sliceAt 22 (.slice ba 11 cap) (some (.int .i64 2)) none none).run Try.prog W = .ok (.slice bt 9 ct) W) ∧
      ∀ w', Below w.heap.size w w' → Calls Try.prog 43 #[.slice bt 9 ct] w' fun e w'' => e = .returned (.bool (fitsB ((m.drop 2).take 9))) ∧ Below w'.heap.size w' w'' := by
  obtain ⟨bt, ct, hs, T⟩ := came_tail C 2 (by omega)
  have e9 : (m.drop 2).length = 9 := by rw [List.length_drop, hm]
  rw [hm, e9] at hs
  refine ⟨bt, ct, hs, fun w' hb => ?_⟩
  have F := Own6.Fits_came (T.keep hb) (by omega)
  rw [e9] at F
  rw [List.take_of_length_le (by omega)]
  exact F

theorem Read_sum {w : World} {ba : Option Addr} {cap n : Nat} {m : List UInt8} (C : Came w ba cap m) (hm : m.length = 11) (hs : Head ba n cap) (h : ¬ (n : Int) < 11) (hg : beginsF m = true) (hf : fitsB ((m.drop 2).take 9) = false) :
    Calls Try.prog 31 #[.slice ba n cap] w fun e w' => e = .returned (.tuple #[fv0, .int .i64 5]) ∧ Below w.heap.size w w' := by
  have B1 := below1 w (.cells #[.int .i64 0, .int .i64 0, .bool false, .int .i64 0] 35)
  have S1 := Lib.hid ((Sp.none w).more [.int .i64 0, .int .i64 0, .bool false, .int .i64 0] 35)
  have BG := Lib.hid (Begins_came (C.keep B1))
  obtain ⟨bt, ct, ht, HT⟩ := tail9 C hm
  have HF := Lib.hid HT
  rw [hf] at HF
  rw [hg, hm] at BG
  unfold Head at hs
  clear C hm HT
  go_enter Try.func31, Try.ntmps31
  go_wp2_with fail
  refine BG.out.mono ?_; rintro e w1 ⟨rfl, hb1⟩
  have HB := Lib.hid (belowT B1 hb1)
  have S2 := Lib.hid (S1.out.keep hb1)
  clear S1 B1 hb1 BG
  go_wp2_with fail
  refine (HF.out w1 HB.out).mono ?_; rintro e w2 ⟨rfl, hb2⟩
  have HB2 := Lib.hid (belowT HB.out hb2)
  have S3 := S2.out.keep hb2
  have c0 := (S3).at 0 rfl 0 rfl; have f0 := (S3).free 0 rfl 0 rfl
  have c1 := (S3).at 0 rfl 1 rfl; have f1 := (S3).free 0 rfl 1 rfl
  have c2 := (S3).at 0 rfl 2 rfl; have f2 := (S3).free 0 rfl 2 rfl
  have c3 := (S3).at 0 rfl 3 rfl; have f3 := (S3).free 0 rfl 3 rfl
  clear HF S2 S3 HB hb2
  go_wp2
  refine bodyPost_ret (v := .tuple #[fv0, .int .i64 5]) (by simp [fv0, results, Try.results31, go_sem, *]) rfl ⟨rfl, ?_⟩
  exact (((HB2.out.setCell (p := ⟨w.heap.size, 0, none⟩) (Nat.le_refl _) _).setCell (p := ⟨w.heap.size, 1, none⟩) (Nat.le_refl _) _).setCell (p := ⟨w.heap.size, 2, none⟩) (Nat.le_refl _) _).setCell (p := ⟨w.heap.size, 3, none⟩) (Nat.le_refl _) _

theorem signed5 {w : World} {b o cap : Nat} {m : List UInt8} (L : Lies w b o m) (hm : m.length = 11) :
    Calls Try.prog 44 #[.slice (some ⟨b, o, none⟩) 11 cap, .int .i64 5, .int .i64 4] w fun e w' => e = .returned (.tuple #[.int .i64 (Oct.sgn 4 (Oct.num 0 ((m.drop 5).take 4))), .int .i64 0]) ∧ w = w' := by
  have G := Own.Get_ok b o cap 5 4 m w (by omega) (by decide) (by decide) (by omega) L
  rw [hm] at G
  exact Own.Signed_ok (some ⟨b, o, none⟩) 11 cap 4 _ 5 w (by decide) (by decide) (by have := Oct.num_lt0 ((m.drop 5).take 4); rw [part_len m 5 4 (by omega)] at this; exact this) (Lib.hid G)

/-- The operations of a drawn region, as the translation has them. -/
def lread9 : Array Oper := #[
  { dst := some 29, op := .move (.tmp 0), type := 22, pos := "frame.go:83", after := #[], guard := none },
  { dst := some 30, op := .indexAddr 22 (.tmp 29) (.const (.int .i64 2)), type := 0, pos := "frame.go:83", after := #[{ on := 0, ground := .data }], guard := none },
  { dst := some 31, op := .load 5 (.tmp 30), type := 5, pos := "frame.go:83", after := #[{ on := 1, ground := .data }], guard := none },
  { dst := some 32, op := .convert 5 3 (.tmp 31), type := 3, pos := "frame.go:83", after := #[{ on := 2, ground := .data }], guard := none },
  { dst := some 33, op := .move (.tmp 0), type := 22, pos := "frame.go:83", after := #[], guard := none },
  { dst := some 34, op := .indexAddr 22 (.tmp 33) (.const (.int .i64 3)), type := 0, pos := "frame.go:83", after := #[{ on := 4, ground := .data }], guard := none },
  { dst := some 35, op := .load 5 (.tmp 34), type := 5, pos := "frame.go:83", after := #[{ on := 5, ground := .data }], guard := none },
  { dst := some 36, op := .convert 5 3 (.tmp 35), type := 3, pos := "frame.go:83", after := #[{ on := 6, ground := .data }], guard := none },
  { dst := some 37, op := .move (.tmp 0), type := 22, pos := "frame.go:83", after := #[], guard := none },
  { dst := some 38, op := .indexAddr 22 (.tmp 37) (.const (.int .i64 4)), type := 0, pos := "frame.go:83", after := #[{ on := 8, ground := .data }], guard := none },
  { dst := some 39, op := .load 5 (.tmp 38), type := 5, pos := "frame.go:83", after := #[{ on := 9, ground := .data }], guard := none },
  { dst := some 40, op := .binOp .eql 5 (.tmp 39) (.const (.int .u8 1)) 5, type := 4, pos := "frame.go:83", after := #[{ on := 10, ground := .data }], guard := none },
  { dst := some 41, op := .move (.tmp 4), type := 2, pos := "frame.go:83", after := #[], guard := none },
  { dst := some 42, op := .build 35 #[(0, .tmp 32), (1, .tmp 36), (2, .tmp 40), (3, .tmp 41)], type := 35, pos := "frame.go:83", after := #[{ on := 3, ground := .data }, { on := 7, ground := .data }, { on := 11, ground := .data }, { on := 12, ground := .data }], guard := none },
  { dst := some 6, op := .alloc 35, type := 0, pos := "frame.go:83", after := #[], guard := none },
  { dst := none, op := .store 35 (.tmp 6) (.tmp 42), type := 0, pos := "frame.go:83", after := #[{ on := 14, ground := .data }, { on := 13, ground := .data }, { on := 0, ground := .phase }, { on := 1, ground := .phase }, { on := 2, ground := .phase }, { on := 3, ground := .phase }, { on := 4, ground := .phase }, { on := 5, ground := .phase }, { on := 6, ground := .phase }, { on := 7, ground := .phase }, { on := 8, ground := .phase }, { on := 9, ground := .phase }, { on := 10, ground := .phase }, { on := 11, ground := .phase }, { on := 12, ground := .phase }, { on := 13, ground := .phase }, { on := 14, ground := .phase }], guard := none }]
theorem lread9_plain : Region.noSelect lread9 = true := by kernel_rfl

set_option maxHeartbeats 4000000 in
set_option maxRecDepth 100000 in
theorem read_core {w : World} {b o cap n : Nat} {m : List UInt8} (L : Lies w b o m) (hm : m.length = 11) (hc : 11 ≤ cap) (hcm : cap ≤ maxLen) (hs : Head (some ⟨b, o, none⟩) n cap) (h : ¬ (n : Int) < 11) (hg : beginsF m = true) (hf : fitsB ((m.drop 2).take 9) = true)
    (x2 x3 x4 : Nat) (v : Int) (wb good : Bool) (r : Value) (hr1 : good = false ∨ (1 : Int) < x4 → r = .tuple #[fv0, .int .i64 3]) (hr2 : ¬ (good = false ∨ (1 : Int) < x4) → r = .tuple #[fv ⟨x2, x3, wb, v⟩, .int .i64 0]) (e2 : (m.getD 2 0).toNat = x2) (e3 : (m.getD 3 0).toNat = x3) (e4 : (m.getD 4 0).toNat = x4) (ev : Oct.sgn 4 (Oct.num 0 ((m.drop 5).take 4)) = v) (ew : ((x4 : Int) == 1) = wb) (hgood : rightF ⟨x2, x3, wb, v⟩ = good) (_h4 : (x4 : Int) ≤ 255) (h2 : (x2 : Int) ≤ 255) (h3 : (x3 : Int) ≤ 255) :
    Calls Try.prog 31 #[.slice (some ⟨b, o, none⟩) n cap] w fun e w' => e = .returned r ∧ Below w.heap.size w w' := by
  have R1 := Lib.hid hr1
  have R2 := Lib.hid hr2
  clear hr1 hr2
  have B1 := below1 w (.cells #[.int .i64 0, .int .i64 0, .bool false, .int .i64 0] 35)
  have S1 := Lib.hid ((Sp.none w).more [.int .i64 0, .int .i64 0, .bool false, .int .i64 0] 35)
  have C : Came w (some ⟨b, o, none⟩) cap m := ⟨by omega, hcm, fun h => (by cases h), fun _ => ⟨b, o, rfl, L⟩⟩
  have BG := Lib.hid (Begins_came (C.keep B1))
  obtain ⟨bt, ct, ht, HT⟩ := tail9 C hm
  have HF := Lib.hid HT
  rw [hf] at HF
  rw [hg, hm] at BG
  unfold Head at hs
  have LK := Lib.hid fun w' (hb : Below w.heap.size w w') => L.keep hb
  have RR := Lib.hid fun w => Right_any ⟨x2, x3, wb, v⟩ w
  rw [hgood] at RR
  have HM := Lib.hid hm
  clear C L HT hm hcm
  go_enter Try.func31, Try.ntmps31
  go_wp2_with fail
  refine BG.out.mono ?_; rintro e w1 ⟨rfl, hb1⟩
  have HB1 := Lib.hid (belowT B1 hb1)
  have S1b := Lib.hid (S1.out.keep hb1)
  clear S1 B1 hb1 BG
  go_wp2_with fail
  refine (HF.out w1 HB1.out).mono ?_; rintro e w2 ⟨rfl, hb2⟩
  have HB := Lib.hid (belowT HB1.out hb2)
  have S2 := Lib.hid (S1b.out.keep hb2)
  have L1 := LK.out w2 HB.out
  have SG := Lib.hid (signed5 (cap := cap) L1 HM.out)
  rw [ev] at SG
  have q2 := L1 2 (by have := HM.out; omega)
  have q3 := L1 3 (by have := HM.out; omega)
  have q4 := L1 4 (by have := HM.out; omega)
  rw [e2] at q2
  rw [e3] at q3
  rw [e4] at q4
  clear HF LK L1 e2 e3 e4 ev S1b HB1 hb2 ht hs
  go_wp2_with fail
  refine SG.out.mono ?_; rintro e w3 ⟨rfl, rfl⟩
  clear SG
  go_upto_region 9 with fail
  obtain ⟨W0, rfl⟩ : ∃ W0, W0 = w2 := ⟨_, rfl⟩
  have r2 : ∀ w', Below W0.heap.size W0 w' → w'.cell? ⟨b, o + 2, none⟩ = some (.int .u8 x2) := fun w' h => keepc h q2
  have r3 : ∀ w', Below W0.heap.size W0 w' → w'.cell? ⟨b, o + 3, none⟩ = some (.int .u8 x3) := fun w' h => keepc h q3
  have r4 : ∀ w', Below W0.heap.size W0 w' → w'.cell? ⟨b, o + 4, none⟩ = some (.int .u8 x4) := fun w' h => keepc h q4
  have i2 : IntKind.i64.wrap (x2 : Int) = x2 := by rw [IntKind.wrap_i64]; omega
  have i3 : IntKind.i64.wrap (x3 : Int) = x3 := by rw [IntKind.wrap_i64]; omega
  go_cut [6] from 6 to 43 (fun u6 wx => ∃ g, u6 = .pointer (some ⟨g, 0, none⟩) ∧ Below W0.heap.size W0 wx ∧ OwnL wx g [.int .i64 x2, .int .i64 x3, .bool wb, .int .i64 v])
  case first =>
    change (Code.region 9 lread9 true).wp Try.prog _ _ _
    refine wp_region_noPanic ?_
    refine wp_region_held_drew (S := fun w' => Below W0.heap.size W0 w') (by kernel_rfl) ((Below.refl _ _).drew) (fun hHeld => ?_)
    refine wpAnyH_take (i := 0) (oi := ({ dst := some 29, op := .move (.tmp 0), type := 22, pos := "frame.go:83", after := #[], guard := none } : Oper)) (v := ?vv12_1_) rfl lread9_plain (by as_aux_lemma => kernel_rfl) (by as_aux_lemma => kernel_rfl) (fun _ _ _ h => h) (Or.inl ⟨by rfl, ?yv12_1_⟩) (by assumption) ?rv12_1_
    case yv12_1_ => (intro w hSw; (try dsimp only at hSw); go_simp; try with_reducible rfl)
    try simp only [Act.put, List.setIfInBounds_toArray, List.set_cons_zero, List.set_cons_succ]
    refine wpAnyH_take (i := 1) (oi := ({ dst := some 30, op := .indexAddr 22 (.tmp 29) (.const (.int .i64 2)), type := 0, pos := "frame.go:83", after := #[{ on := 0, ground := .data }], guard := none } : Oper)) (v := ?vv12_2_) rfl lread9_plain (by as_aux_lemma => kernel_rfl) (by as_aux_lemma => kernel_rfl) (fun _ _ _ h => h) (Or.inl ⟨by rfl, ?yv12_2_⟩) (by assumption) ?rv12_2_
    case yv12_2_ => (intro w hSw; (try dsimp only at hSw); go_simp; try with_reducible rfl)
    try simp only [Act.put, List.setIfInBounds_toArray, List.set_cons_zero, List.set_cons_succ]
    refine wpAnyH_take (i := 2) (oi := ({ dst := some 31, op := .load 5 (.tmp 30), type := 5, pos := "frame.go:83", after := #[{ on := 1, ground := .data }], guard := none } : Oper)) (v := ?vv12_3_) rfl lread9_plain (by as_aux_lemma => kernel_rfl) (by as_aux_lemma => kernel_rfl) (fun _ _ _ h => h) (Or.inl ⟨by rfl, ?yv12_3_⟩) (by assumption) ?rv12_3_
    case yv12_3_ => (intro w hSw; (try dsimp only at hSw); go_simp; try with_reducible rfl)
    try simp only [Act.put, List.setIfInBounds_toArray, List.set_cons_zero, List.set_cons_succ]
    refine wpAnyH_take (i := 3) (oi := ({ dst := some 32, op := .convert 5 3 (.tmp 31), type := 3, pos := "frame.go:83", after := #[{ on := 2, ground := .data }], guard := none } : Oper)) (v := ?vv12_4_) rfl lread9_plain (by as_aux_lemma => kernel_rfl) (by as_aux_lemma => kernel_rfl) (fun _ _ _ h => h) (Or.inl ⟨by rfl, ?yv12_4_⟩) (by assumption) ?rv12_4_
    case yv12_4_ => (intro w hSw; (try dsimp only at hSw); go_simp; try with_reducible rfl)
    try simp only [Act.put, List.setIfInBounds_toArray, List.set_cons_zero, List.set_cons_succ]
    refine wpAnyH_take (i := 4) (oi := ({ dst := some 33, op := .move (.tmp 0), type := 22, pos := "frame.go:83", after := #[], guard := none } : Oper)) (v := ?vv12_5_) rfl lread9_plain (by as_aux_lemma => kernel_rfl) (by as_aux_lemma => kernel_rfl) (fun _ _ _ h => h) (Or.inl ⟨by rfl, ?yv12_5_⟩) (by assumption) ?rv12_5_
    case yv12_5_ => (intro w hSw; (try dsimp only at hSw); go_simp; try with_reducible rfl)
    try simp only [Act.put, List.setIfInBounds_toArray, List.set_cons_zero, List.set_cons_succ]
    refine wpAnyH_take (i := 5) (oi := ({ dst := some 34, op := .indexAddr 22 (.tmp 33) (.const (.int .i64 3)), type := 0, pos := "frame.go:83", after := #[{ on := 4, ground := .data }], guard := none } : Oper)) (v := ?vv12_6_) rfl lread9_plain (by as_aux_lemma => kernel_rfl) (by as_aux_lemma => kernel_rfl) (fun _ _ _ h => h) (Or.inl ⟨by rfl, ?yv12_6_⟩) (by assumption) ?rv12_6_
    case yv12_6_ => (intro w hSw; (try dsimp only at hSw); go_simp; try with_reducible rfl)
    try simp only [Act.put, List.setIfInBounds_toArray, List.set_cons_zero, List.set_cons_succ]
    refine wpAnyH_take (i := 6) (oi := ({ dst := some 35, op := .load 5 (.tmp 34), type := 5, pos := "frame.go:83", after := #[{ on := 5, ground := .data }], guard := none } : Oper)) (v := ?vv12_7_) rfl lread9_plain (by as_aux_lemma => kernel_rfl) (by as_aux_lemma => kernel_rfl) (fun _ _ _ h => h) (Or.inl ⟨by rfl, ?yv12_7_⟩) (by assumption) ?rv12_7_
    case yv12_7_ => (intro w hSw; (try dsimp only at hSw); go_simp; try with_reducible rfl)
    try simp only [Act.put, List.setIfInBounds_toArray, List.set_cons_zero, List.set_cons_succ]
    refine wpAnyH_take (i := 7) (oi := ({ dst := some 36, op := .convert 5 3 (.tmp 35), type := 3, pos := "frame.go:83", after := #[{ on := 6, ground := .data }], guard := none } : Oper)) (v := ?vv12_8_) rfl lread9_plain (by as_aux_lemma => kernel_rfl) (by as_aux_lemma => kernel_rfl) (fun _ _ _ h => h) (Or.inl ⟨by rfl, ?yv12_8_⟩) (by assumption) ?rv12_8_
    case yv12_8_ => (intro w hSw; (try dsimp only at hSw); go_simp; try with_reducible rfl)
    try simp only [Act.put, List.setIfInBounds_toArray, List.set_cons_zero, List.set_cons_succ]
    refine wpAnyH_take (i := 8) (oi := ({ dst := some 37, op := .move (.tmp 0), type := 22, pos := "frame.go:83", after := #[], guard := none } : Oper)) (v := ?vv12_9_) rfl lread9_plain (by as_aux_lemma => kernel_rfl) (by as_aux_lemma => kernel_rfl) (fun _ _ _ h => h) (Or.inl ⟨by rfl, ?yv12_9_⟩) (by assumption) ?rv12_9_
    case yv12_9_ => (intro w hSw; (try dsimp only at hSw); go_simp; try with_reducible rfl)
    try simp only [Act.put, List.setIfInBounds_toArray, List.set_cons_zero, List.set_cons_succ]
    refine wpAnyH_take (i := 9) (oi := ({ dst := some 38, op := .indexAddr 22 (.tmp 37) (.const (.int .i64 4)), type := 0, pos := "frame.go:83", after := #[{ on := 8, ground := .data }], guard := none } : Oper)) (v := ?vv12_10_) rfl lread9_plain (by as_aux_lemma => kernel_rfl) (by as_aux_lemma => kernel_rfl) (fun _ _ _ h => h) (Or.inl ⟨by rfl, ?yv12_10_⟩) (by assumption) ?rv12_10_
    case yv12_10_ => (intro w hSw; (try dsimp only at hSw); go_simp; try with_reducible rfl)
    try simp only [Act.put, List.setIfInBounds_toArray, List.set_cons_zero, List.set_cons_succ]
    refine wpAnyH_take (i := 10) (oi := ({ dst := some 39, op := .load 5 (.tmp 38), type := 5, pos := "frame.go:83", after := #[{ on := 9, ground := .data }], guard := none } : Oper)) (v := ?vv12_11_) rfl lread9_plain (by as_aux_lemma => kernel_rfl) (by as_aux_lemma => kernel_rfl) (fun _ _ _ h => h) (Or.inl ⟨by rfl, ?yv12_11_⟩) (by assumption) ?rv12_11_
    case yv12_11_ => (intro w hSw; (try dsimp only at hSw); go_simp; try with_reducible rfl)
    try simp only [Act.put, List.setIfInBounds_toArray, List.set_cons_zero, List.set_cons_succ]
    refine wpAnyH_take (i := 11) (oi := ({ dst := some 40, op := .binOp .eql 5 (.tmp 39) (.const (.int .u8 1)) 5, type := 4, pos := "frame.go:83", after := #[{ on := 10, ground := .data }], guard := none } : Oper)) (v := ?vv12_12_) rfl lread9_plain (by as_aux_lemma => kernel_rfl) (by as_aux_lemma => kernel_rfl) (fun _ _ _ h => h) (Or.inl ⟨by rfl, ?yv12_12_⟩) (by assumption) ?rv12_12_
    case yv12_12_ => (intro w hSw; (try dsimp only at hSw); go_simp; try with_reducible rfl)
    try simp only [Act.put, List.setIfInBounds_toArray, List.set_cons_zero, List.set_cons_succ]
    refine wpAnyH_take (i := 12) (oi := ({ dst := some 41, op := .move (.tmp 4), type := 2, pos := "frame.go:83", after := #[], guard := none } : Oper)) (v := ?vv12_13_) rfl lread9_plain (by as_aux_lemma => kernel_rfl) (by as_aux_lemma => kernel_rfl) (fun _ _ _ h => h) (Or.inl ⟨by rfl, ?yv12_13_⟩) (by assumption) ?rv12_13_
    case yv12_13_ => (intro w hSw; (try dsimp only at hSw); go_simp; try with_reducible rfl)
    try simp only [Act.put, List.setIfInBounds_toArray, List.set_cons_zero, List.set_cons_succ]
    refine wpAnyH_take (i := 13) (oi := ({ dst := some 42, op := .build 35 #[(0, .tmp 32), (1, .tmp 36), (2, .tmp 40), (3, .tmp 41)], type := 35, pos := "frame.go:83", after := #[{ on := 3, ground := .data }, { on := 7, ground := .data }, { on := 11, ground := .data }, { on := 12, ground := .data }], guard := none } : Oper)) (v := ?vv12_14_) rfl lread9_plain (by as_aux_lemma => kernel_rfl) (by as_aux_lemma => kernel_rfl) (fun _ _ _ h => h) (Or.inl ⟨by rfl, ?yv12_14_⟩) (by assumption) ?rv12_14_
    case yv12_14_ => (intro w hSw; (try dsimp only at hSw); go_simp; try with_reducible rfl)
    try simp only [Act.put, List.setIfInBounds_toArray, List.set_cons_zero, List.set_cons_succ]
    refine wpAnyH_ready (rs := [14]) (by as_aux_lemma => kernel_rfl) (by simp) ?_
    refine AllReadyH.cons (o := ({ dst := some 6, op := .alloc 35, type := 0, pos := "frame.go:83", after := #[], guard := none } : Oper)) rfl (fun KK hK => ?_) AllReadyH.nil
    rw [if_pos (by rfl)]
    go_simp
    refine hK.out _ _ ?_ (fun _hHeldA => ?_)
    · first | exact below1 W0 (.cells #[.int .i64 0, .int .i64 0, .bool false, .int .i64 0] 35) | exact (below1 W0 (.cells #[.int .i64 0, .int .i64 0, .bool false, .int .i64 0] 35)).drew
    clear hK KK
    try simp only [Act.put, List.setIfInBounds_toArray, List.set_cons_zero, List.set_cons_succ]
    refine wpAnyH_ready (rs := [15]) (by as_aux_lemma => kernel_rfl) (by simp) ?_
    refine AllReadyH.cons (o := ({ dst := none, op := .store 35 (.tmp 6) (.tmp 42), type := 0, pos := "frame.go:83", after := #[{ on := 14, ground := .data }, { on := 13, ground := .data }, { on := 0, ground := .phase }, { on := 1, ground := .phase }, { on := 2, ground := .phase }, { on := 3, ground := .phase }, { on := 4, ground := .phase }, { on := 5, ground := .phase }, { on := 6, ground := .phase }, { on := 7, ground := .phase }, { on := 8, ground := .phase }, { on := 9, ground := .phase }, { on := 10, ground := .phase }, { on := 11, ground := .phase }, { on := 12, ground := .phase }, { on := 13, ground := .phase }, { on := 14, ground := .phase }], guard := none } : Oper)) rfl (fun KK hK => ?_) AllReadyH.nil
    rw [if_pos (by rfl)]
    have p0 := ((ownl W0 [.int .i64 0, .int .i64 0, .bool false, .int .i64 0] 35).drew).1.at 0 rfl
    have q0 := ((ownl W0 [.int .i64 0, .int .i64 0, .bool false, .int .i64 0] 35).drew).2 0 (by simp)
    have p1 := ((ownl W0 [.int .i64 0, .int .i64 0, .bool false, .int .i64 0] 35).drew).1.at 1 rfl
    have q1 := ((ownl W0 [.int .i64 0, .int .i64 0, .bool false, .int .i64 0] 35).drew).2 1 (by simp)
    have p2 := ((ownl W0 [.int .i64 0, .int .i64 0, .bool false, .int .i64 0] 35).drew).1.at 2 rfl
    have q2 := ((ownl W0 [.int .i64 0, .int .i64 0, .bool false, .int .i64 0] 35).drew).2 2 (by simp)
    have p3 := ((ownl W0 [.int .i64 0, .int .i64 0, .bool false, .int .i64 0] 35).drew).1.at 3 rfl
    have q3 := ((ownl W0 [.int .i64 0, .int .i64 0, .bool false, .int .i64 0] 35).drew).2 3 (by simp)
    go_simp
    refine hK.out _ _ ?_ (fun _hHeldS => ?_)
    · exact (below1 W0 (.cells #[.int .i64 x2, .int .i64 x3, .bool wb, .int .i64 v] 35)).drew
    clear hK KK
    try simp only [Act.put, List.setIfInBounds_toArray, List.set_cons_zero, List.set_cons_succ]
    refine wpAnyH_done (by as_aux_lemma => kernel_rfl) ?_ _
    refine NoPanic.normal ?_
    go_wp2_with fail
    go_meet
    exact ⟨_, rfl, (below1 W0 (.cells #[.int .i64 x2, .int .i64 x3, .bool wb, .int .i64 v] 35)).drew, ownl W0 [.int .i64 x2, .int .i64 x3, .bool wb, .int .i64 v] 35⟩
  case rest =>
    rename World => wx
    obtain ⟨g, rfl, hbx, ho⟩ := hcut
    have HBX := Lib.hid (belowT HB.out hbx)
    have S3 := Lib.hid (S2.out.keep hbx)
    have s4 := keepc hbx q4
    have p0 := ho.1.at 0 rfl
    have p1 := ho.1.at 1 rfl
    have p2 := ho.1.at 2 rfl
    have p3 := ho.1.at 3 rfl
    have HO := Lib.hid ho
    clear r2 r3 r4 q2 q3 q4 hbx ho S2 HB
    go_wp2_with fail
    refine (RR.out _).mono ?_; rintro e w4 ⟨rfl, hb4⟩
    have HB4 := Lib.hid (belowT HBX.out hb4)
    have T4 := S3.out.keep hb4
    have t4 := keepc hb4 s4
    have O4 := HO.out.keep hb4
    have m0 := O4.1.at 0 rfl
    have m1 := O4.1.at 1 rfl
    have m2 := O4.1.at 2 rfl
    have m3 := O4.1.at 3 rfl
    have c0 := T4.at 0 rfl 0 rfl; have f0 := T4.free 0 rfl 0 rfl
    have c1 := T4.at 0 rfl 1 rfl; have f1 := T4.free 0 rfl 1 rfl
    have c2 := T4.at 0 rfl 2 rfl; have f2 := T4.free 0 rfl 2 rfl
    have c3 := T4.at 0 rfl 3 rfl; have f3 := T4.free 0 rfl 3 rfl
    clear p0 p1 p2 p3 s4 hb4 T4 O4 HO S3 HBX RR
    cases good
    · have hr := Lib.hid (R1.out (Or.inl rfl))
      clear hgood m0 m1 m2 m3
      go_wp2
      refine bodyPost_ret (v := .tuple #[fv0, .int .i64 3]) (by simp [fv0, results, Try.results31, go_sem, *]) rfl ⟨by rw [hr.out], ?_⟩
      exact (((HB4.out.setCell (p := ⟨w.heap.size, 0, none⟩) (Nat.le_refl _) _).setCell (p := ⟨w.heap.size, 1, none⟩) (Nat.le_refl _) _).setCell (p := ⟨w.heap.size, 2, none⟩) (Nat.le_refl _) _).setCell (p := ⟨w.heap.size, 3, none⟩) (Nat.le_refl _) _
    · by_cases hx : (1 : Int) < x4
      · have hr := Lib.hid (R1.out (Or.inr hx))
        clear hgood m0 m1 m2 m3
        go_wp2
        refine bodyPost_ret (v := .tuple #[fv0, .int .i64 3]) (by simp [fv0, results, Try.results31, go_sem, *]) rfl ⟨by rw [hr.out], ?_⟩
        exact (((HB4.out.setCell (p := ⟨w.heap.size, 0, none⟩) (Nat.le_refl _) _).setCell (p := ⟨w.heap.size, 1, none⟩) (Nat.le_refl _) _).setCell (p := ⟨w.heap.size, 2, none⟩) (Nat.le_refl _) _).setCell (p := ⟨w.heap.size, 3, none⟩) (Nat.le_refl _) _
      · have hr := Lib.hid (R2.out (fun k => by rcases k with k | k; cases k; exact hx k))
        have hx' : decide ((1 : Int) < x4) = false := decide_eq_false hx
        clear hgood hx
        go_wp2
        refine bodyPost_ret (v := .tuple #[fv ⟨x2, x3, wb, v⟩, .int .i64 0]) (by simp [fv, results, Try.results31, go_sem, *]) rfl ⟨by rw [hr.out], ?_⟩
        exact (((HB4.out.setCell (p := ⟨w.heap.size, 0, none⟩) (Nat.le_refl _) _).setCell (p := ⟨w.heap.size, 1, none⟩) (Nat.le_refl _) _).setCell (p := ⟨w.heap.size, 2, none⟩) (Nat.le_refl _) _).setCell (p := ⟨w.heap.size, 3, none⟩) (Nat.le_refl _) _

theorem Read_came {w : World} {ba : Option Addr} {cap : Nat} {l : List UInt8} (C : Came w ba cap l) :
    Calls Try.prog 31 #[.slice ba l.length cap] w fun e w' => e = .returned (.tuple #[fv (readF l).1, .int .i64 (readF l).2]) ∧ Below w.heap.size w w' := by
  by_cases h : (l.length : Int) < 11
  · unfold readF
    rw [if_pos (by omega)]
    exact Read_short ba l.length cap w h
  rw [read_take l (by omega)]
  have hs : Head ba l.length cap := came_head C 11 (by omega)
  have D := C.take 11 (by omega)
  have hm : (l.take 11).length = 11 := by rw [List.length_take]; omega
  have hcap := C.le
  generalize l.take 11 = m at *
  unfold readF
  rw [if_neg (by omega)]
  cases hg : beginsF m
  · rw [if_pos rfl]
    exact Read_form D hm hs h hg
  rw [if_neg (by simp)]
  cases hf : fitsB ((m.drop 2).take 9)
  · rw [if_pos rfl]
    exact Read_sum D hm hs h hg hf
  rw [if_neg (by simp)]
  obtain ⟨b, o, rfl, L⟩ := D.lies (by omega)
  have e1 : ofBytes m = ⟨(m.getD 2 0).toNat, (m.getD 3 0).toNat, m.getD 4 0 == 1, Oct.sgn 4 (Oct.num 0 ((m.drop 5).take 4))⟩ := rfl
  have k4 := Ref14.byte_is (m.getD 4 0) 1 (by decide)
  have m4 := (m.getD 4 0).toNat_lt
  have m2 := (m.getD 2 0).toNat_lt
  have m3 := (m.getD 3 0).toNat_lt
  refine read_core (cap := cap) L hm (by omega) D.max hs h hg hf _ _ _ _ (m.getD 4 0 == 1) _ _ (fun hr => ?_) (fun hr => ?_) rfl rfl rfl rfl k4 rfl (by omega) (by omega) (by omega)
  · rw [← e1] at hr
    rw [if_pos (hr.imp id (fun k => by omega))]; rfl
  · rw [← e1] at hr ⊢
    rw [if_neg (fun k => hr (k.imp id (fun k => by omega)))]
end Lan14
end Go.Proofs.Ytnafodnaolmffaa
