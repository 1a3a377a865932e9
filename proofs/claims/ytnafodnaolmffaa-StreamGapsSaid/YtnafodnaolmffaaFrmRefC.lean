/- Read of the document's own answers for layer 14. -/
import Derived.Test.YtnafodnaolmffaaFrmRefA
import Derived.Test.YtnafodnaolmffaaRefSig
import Derived.Test.YtnafodnaolmffaaSp
import Derived.Test.YtnafodnaolmffaaV64
import Derived.Deep.CutBlock
import Derived.Deep.CutRange
namespace Go.Proofs.Ytnafodnaolmffaa
open Go.RowKit

def fv0 : Value := .agg #[.int .i64 0, .int .i64 0, .bool false, .int .i64 0]

namespace Ref14
set_option maxRecDepth 100000 in
theorem Read_short (ba : Option Addr) (n cap : Nat) (w : World) (h : (n : Int) < 11) :
    Calls Try.prog 23 #[.slice ba n cap] w fun e w' => e = .returned (.tuple #[fv0, .int .i64 2]) ∧ Below w.heap.size w w' := by
  have B1 := below1 w (.cells #[.int .i64 0, .int .i64 0, .bool false, .int .i64 0] 35)
  go_enter Try.func23, Try.ntmps23
  go_wp2
  exact bodyPost_ret (v := .tuple #[fv0, .int .i64 2]) (by simp [fv0, results, Try.results23, go_sem]) rfl ⟨rfl, B1⟩

theorem Read_form {w : World} {ba : Option Addr} {cap : Nat} {l : List UInt8} (C : Came w ba cap l) (h : ¬ (l.length : Int) < 11) (hg : beginsF l = false) :
    Calls Try.prog 23 #[.slice ba l.length cap] w fun e w' => e = .returned (.tuple #[fv0, .int .i64 3]) ∧ Below w.heap.size w w' := by
  have B1 := below1 w (.cells #[.int .i64 0, .int .i64 0, .bool false, .int .i64 0] 35)
  have S1 := Lib.hid ((Sp.none w).more [.int .i64 0, .int .i64 0, .bool false, .int .i64 0] 35)
  have BG := Lib.hid (Begins_came (C.keep B1))
  rw [hg] at BG
  clear C
  go_enter Try.func23, Try.ntmps23
  go_wp2_with fail
  refine BG.out.mono ?_; rintro e w1 ⟨rfl, hb1⟩
  have HB := Lib.hid (belowT B1 hb1)
  have S2 := S1.out.keep hb1
  have c0 := (S2).at 0 rfl 0 rfl; have f0 := (S2).free 0 rfl 0 rfl
  have c1 := (S2).at 0 rfl 1 rfl; have f1 := (S2).free 0 rfl 1 rfl
  have c2 := (S2).at 0 rfl 2 rfl; have f2 := (S2).free 0 rfl 2 rfl
  have c3 := (S2).at 0 rfl 3 rfl; have f3 := (S2).free 0 rfl 3 rfl
  clear S1 S2 B1 hb1 BG
  go_wp2
  refine bodyPost_ret (v := .tuple #[fv0, .int .i64 3]) (by simp [fv0, results, Try.results23, go_sem, *]) rfl ⟨rfl, ?_⟩
  exact (((HB.out.setCell (p := ⟨w.heap.size, 0, none⟩) (Nat.le_refl _) _).setCell (p := ⟨w.heap.size, 1, none⟩) (Nat.le_refl _) _).setCell (p := ⟨w.heap.size, 2, none⟩) (Nat.le_refl _) _).setCell (p := ⟨w.heap.size, 3, none⟩) (Nat.le_refl _) _

theorem part_came {w : World} {b o cap : Nat} {l : List UInt8} (L : Lies w b o l) (h : 11 ≤ l.length) (hc : l.length ≤ cap) (hm : cap ≤ maxLen) : Came w (some ⟨b, o + 2, none⟩) (cap - 2) ((l.drop 2).take 9) ∧ ((l.drop 2).take 9).length = 9 := by
  have e := part_len l 2 9 (by omega)
  exact ⟨⟨by omega, by omega, fun h => (by cases h), fun _ => ⟨b, o + 2, rfl, L.part 2 9 (by omega)⟩⟩, e⟩

theorem Read_sum {w : World} {b o cap : Nat} {l : List UInt8} (L : Lies w b o l) (h : ¬ (l.length : Int) < 11) (hc : l.length ≤ cap) (hm : cap ≤ maxLen) (hg : beginsF l = true) (hf : fitsB ((l.drop 2).take 9) = false) :
    Calls Try.prog 23 #[.slice (some ⟨b, o, none⟩) l.length cap] w fun e w' => e = .returned (.tuple #[fv0, .int .i64 5]) ∧ Below w.heap.size w w' := by
  have B1 := below1 w (.cells #[.int .i64 0, .int .i64 0, .bool false, .int .i64 0] 35)
  have S1 := Lib.hid ((Sp.none w).more [.int .i64 0, .int .i64 0, .bool false, .int .i64 0] 35)
  have C : Came w (some ⟨b, o, none⟩) cap l := ⟨hc, hm, fun h => (by cases h), fun _ => ⟨b, o, rfl, L⟩⟩
  have BG := Lib.hid (Begins_came (C.keep B1))
  rw [hg] at BG
  have hcap : (11 : Int) ≤ cap := by omega
  have hm' : (cap : Int) ≤ 9223372036854775807 := by unfold maxLen at hm; omega
  have PC := Lib.hid fun w' (hb : Below w.heap.size w w') => part_came (L.keep hb) (by omega) hc hm
  clear C L hm
  go_enter Try.func23, Try.ntmps23
  go_wp2_with fail
  refine BG.out.mono ?_; rintro e w1 ⟨rfl, hb1⟩
  have HB := Lib.hid (belowT B1 hb1)
  have S2 := S1.out.keep hb1
  obtain ⟨C9, e9⟩ := PC.out w1 HB.out
  have FT := Ref6.Fits_came C9
  rw [e9, hf] at FT
  have HF := Lib.hid FT
  have c0 := (S2).at 0 rfl 0 rfl; have f0 := (S2).free 0 rfl 0 rfl
  have c1 := (S2).at 0 rfl 1 rfl; have f1 := (S2).free 0 rfl 1 rfl
  have c2 := (S2).at 0 rfl 2 rfl; have f2 := (S2).free 0 rfl 2 rfl
  have c3 := (S2).at 0 rfl 3 rfl; have f3 := (S2).free 0 rfl 3 rfl
  clear S1 S2 B1 hb1 BG PC C9 e9 FT
  go_wp2_with fail
  refine HF.out.mono ?_; rintro e w2 ⟨rfl, rfl⟩
  clear HF
  go_wp2
  refine bodyPost_ret (v := .tuple #[fv0, .int .i64 5]) (by simp [fv0, results, Try.results23, go_sem, *]) rfl ⟨rfl, ?_⟩
  exact (((HB.out.setCell (p := ⟨w.heap.size, 0, none⟩) (Nat.le_refl _) _).setCell (p := ⟨w.heap.size, 1, none⟩) (Nat.le_refl _) _).setCell (p := ⟨w.heap.size, 2, none⟩) (Nat.le_refl _) _).setCell (p := ⟨w.heap.size, 3, none⟩) (Nat.le_refl _) _

theorem signed5 {w : World} {b o cap : Nat} {l : List UInt8} (L : Lies w b o l) (h : 11 ≤ l.length) (hm : (l.length : Int) ≤ 9223372036854775807) :
    Calls Try.prog 35 #[.slice (some ⟨b, o, none⟩) l.length cap, .int .i64 5, .int .i64 4] w fun e w' => e = .returned (.tuple #[.int .i64 (Oct.sgn 4 (Oct.num 0 ((l.drop 5).take 4))), .int .i64 0]) ∧ w = w' := by
  have G := Lib.hid (Ref.Get_ok b o cap 5 4 l w hm (by decide) (by decide) (by omega) L)
  exact Ref.Signed_ok (some ⟨b, o, none⟩) l.length cap 4 _ 5 w (by decide) (by decide) (by have := Oct.num_lt0 ((l.drop 5).take 4); rw [part_len l 5 4 (by omega)] at this; exact this) G

/-- The operations of a drawn region, as the translation has them. -/
def read8 : Array Oper := #[
  { dst := some 25, op := .move (.tmp 0), type := 22, pos := "ref.go:44", after := #[], guard := none },
  { dst := some 26, op := .indexAddr 22 (.tmp 25) (.const (.int .i64 2)), type := 0, pos := "ref.go:44", after := #[{ on := 0, ground := .data }], guard := none },
  { dst := some 27, op := .load 5 (.tmp 26), type := 5, pos := "ref.go:44", after := #[{ on := 1, ground := .data }], guard := none },
  { dst := some 28, op := .convert 5 3 (.tmp 27), type := 3, pos := "ref.go:44", after := #[{ on := 2, ground := .data }], guard := none },
  { dst := some 29, op := .move (.tmp 0), type := 22, pos := "ref.go:44", after := #[], guard := none },
  { dst := some 30, op := .indexAddr 22 (.tmp 29) (.const (.int .i64 3)), type := 0, pos := "ref.go:44", after := #[{ on := 4, ground := .data }], guard := none },
  { dst := some 31, op := .load 5 (.tmp 30), type := 5, pos := "ref.go:44", after := #[{ on := 5, ground := .data }], guard := none },
  { dst := some 32, op := .convert 5 3 (.tmp 31), type := 3, pos := "ref.go:44", after := #[{ on := 6, ground := .data }], guard := none },
  { dst := some 33, op := .move (.tmp 0), type := 22, pos := "ref.go:44", after := #[], guard := none },
  { dst := some 34, op := .indexAddr 22 (.tmp 33) (.const (.int .i64 4)), type := 0, pos := "ref.go:44", after := #[{ on := 8, ground := .data }], guard := none },
  { dst := some 35, op := .load 5 (.tmp 34), type := 5, pos := "ref.go:44", after := #[{ on := 9, ground := .data }], guard := none },
  { dst := some 36, op := .binOp .eql 5 (.tmp 35) (.const (.int .u8 1)) 5, type := 4, pos := "ref.go:44", after := #[{ on := 10, ground := .data }], guard := none },
  { dst := some 37, op := .move (.tmp 4), type := 2, pos := "ref.go:44", after := #[], guard := none },
  { dst := some 38, op := .build 35 #[(0, .tmp 28), (1, .tmp 32), (2, .tmp 36), (3, .tmp 37)], type := 35, pos := "ref.go:44", after := #[{ on := 3, ground := .data }, { on := 7, ground := .data }, { on := 11, ground := .data }, { on := 12, ground := .data }], guard := none },
  { dst := some 6, op := .alloc 35, type := 0, pos := "ref.go:44", after := #[], guard := none },
  { dst := none, op := .store 35 (.tmp 6) (.tmp 38), type := 0, pos := "ref.go:44", after := #[{ on := 14, ground := .data }, { on := 13, ground := .data }, { on := 0, ground := .phase }, { on := 1, ground := .phase }, { on := 2, ground := .phase }, { on := 3, ground := .phase }, { on := 4, ground := .phase }, { on := 5, ground := .phase }, { on := 6, ground := .phase }, { on := 7, ground := .phase }, { on := 8, ground := .phase }, { on := 9, ground := .phase }, { on := 10, ground := .phase }, { on := 11, ground := .phase }, { on := 12, ground := .phase }, { on := 13, ground := .phase }, { on := 14, ground := .phase }], guard := none }]
theorem read8_plain : Region.noSelect read8 = true := by kernel_rfl

set_option maxHeartbeats 4000000 in
set_option maxRecDepth 100000 in
theorem read_core {w : World} {b o cap : Nat} {l : List UInt8} (L : Lies w b o l) (h : ¬ (l.length : Int) < 11) (hc : l.length ≤ cap) (hm : cap ≤ maxLen) (hg : beginsF l = true) (hf : fitsB ((l.drop 2).take 9) = true)
    (x2 x3 x4 : Nat) (v : Int) (wb good : Bool) (r : Value) (hr1 : good = false ∨ (1 : Int) < x4 → r = .tuple #[fv0, .int .i64 3]) (hr2 : ¬ (good = false ∨ (1 : Int) < x4) → r = .tuple #[fv ⟨x2, x3, wb, v⟩, .int .i64 0]) (e2 : (l.getD 2 0).toNat = x2) (e3 : (l.getD 3 0).toNat = x3) (e4 : (l.getD 4 0).toNat = x4) (ev : Oct.sgn 4 (Oct.num 0 ((l.drop 5).take 4)) = v) (ew : ((x4 : Int) == 1) = wb) (hgood : rightF ⟨x2, x3, wb, v⟩ = good) (_h4 : (x4 : Int) ≤ 255) (h2 : (x2 : Int) ≤ 255) (h3 : (x3 : Int) ≤ 255) :
    Calls Try.prog 23 #[.slice (some ⟨b, o, none⟩) l.length cap] w fun e w' => e = .returned r ∧ Below w.heap.size w w' := by
  have R1 := Lib.hid hr1
  have R2 := Lib.hid hr2
  clear hr1 hr2
  have B1 := below1 w (.cells #[.int .i64 0, .int .i64 0, .bool false, .int .i64 0] 35)
  have S1 := Lib.hid ((Sp.none w).more [.int .i64 0, .int .i64 0, .bool false, .int .i64 0] 35)
  have C : Came w (some ⟨b, o, none⟩) cap l := ⟨hc, hm, fun h => (by cases h), fun _ => ⟨b, o, rfl, L⟩⟩
  have BG := Lib.hid (Begins_came (C.keep B1))
  rw [hg] at BG
  have hcap : (11 : Int) ≤ cap := by omega
  have hm' : (cap : Int) ≤ 9223372036854775807 := by unfold maxLen at hm; omega
  have PC := Lib.hid fun w' (hb : Below w.heap.size w w') => part_came (L.keep hb) (by omega) hc hm
  have LK := Lib.hid fun w' (hb : Below w.heap.size w w') => L.keep hb
  have RR := Lib.hid fun w => Right_any ⟨x2, x3, wb, v⟩ w
  rw [hgood] at RR
  have hl2 : 11 ≤ l.length := by omega
  clear C L hm
  go_enter Try.func23, Try.ntmps23
  go_wp2_with fail
  refine BG.out.mono ?_; rintro e w1 ⟨rfl, hb1⟩
  have HB := Lib.hid (belowT B1 hb1)
  have S2 := Lib.hid (S1.out.keep hb1)
  obtain ⟨C9, e9⟩ := PC.out w1 HB.out
  have FT := Ref6.Fits_came C9
  rw [e9, hf] at FT
  have HF := Lib.hid FT
  clear S1 B1 hb1 BG PC C9 e9 FT
  go_wp2_with fail
  refine HF.out.mono ?_; rintro e w2 ⟨rfl, rfl⟩
  have L1 := LK.out w1 HB.out
  have SG := Lib.hid (signed5 (cap := cap) L1 hl2 (by omega))
  rw [ev] at SG
  have q2 := L1 2 (by omega)
  have q3 := L1 3 (by omega)
  have q4 := L1 4 (by omega)
  rw [e2] at q2
  rw [e3] at q3
  rw [e4] at q4
  clear HF LK L1 e2 e3 e4 ev
  go_wp2_with fail
  refine SG.out.mono ?_; rintro e w2 ⟨rfl, rfl⟩
  clear SG
  go_upto_region 8 with fail
  obtain ⟨W0, rfl⟩ : ∃ W0, W0 = w1 := ⟨_, rfl⟩
  have d2 : (2 : Int) < l.length := by omega
  have d3 : (3 : Int) < l.length := by omega
  have d4 : (4 : Int) < l.length := by omega
  have r2 : ∀ w', Below W0.heap.size W0 w' → w'.cell? ⟨b, o + 2, none⟩ = some (.int .u8 x2) := fun w' h => keepc h q2
  have r3 : ∀ w', Below W0.heap.size W0 w' → w'.cell? ⟨b, o + 3, none⟩ = some (.int .u8 x3) := fun w' h => keepc h q3
  have r4 : ∀ w', Below W0.heap.size W0 w' → w'.cell? ⟨b, o + 4, none⟩ = some (.int .u8 x4) := fun w' h => keepc h q4
  have i2 : IntKind.i64.wrap (x2 : Int) = x2 := by rw [IntKind.wrap_i64]; omega
  have i3 : IntKind.i64.wrap (x3 : Int) = x3 := by rw [IntKind.wrap_i64]; omega
  go_cut [6] from 6 to 39 (fun u6 wx => ∃ g, u6 = .pointer (some ⟨g, 0, none⟩) ∧ Below W0.heap.size W0 wx ∧ OwnL wx g [.int .i64 x2, .int .i64 x3, .bool wb, .int .i64 v])
  case first =>
    change (Code.region 8 read8 true).wp Try.prog _ _ _
    refine wp_region_noPanic ?_
    refine wp_region_held_drew (S := fun w' => Below W0.heap.size W0 w') (by kernel_rfl) ((Below.refl _ _).drew) (fun hHeld => ?_)
    refine wpAnyH_take (i := 0) (oi := ({ dst := some 25, op := .move (.tmp 0), type := 22, pos := "ref.go:44", after := #[], guard := none } : Oper)) (v := ?vv3_1_) rfl read8_plain (by as_aux_lemma => kernel_rfl) (by as_aux_lemma => kernel_rfl) (fun _ _ _ h => h) (Or.inl ⟨by rfl, ?yv3_1_⟩) (by assumption) ?rv3_1_
    case yv3_1_ => (intro w hSw; (try dsimp only at hSw); go_simp; try with_reducible rfl)
    try simp only [Act.put, List.setIfInBounds_toArray, List.set_cons_zero, List.set_cons_succ]
    refine wpAnyH_take (i := 1) (oi := ({ dst := some 26, op := .indexAddr 22 (.tmp 25) (.const (.int .i64 2)), type := 0, pos := "ref.go:44", after := #[{ on := 0, ground := .data }], guard := none } : Oper)) (v := ?vv3_2_) rfl read8_plain (by as_aux_lemma => kernel_rfl) (by as_aux_lemma => kernel_rfl) (fun _ _ _ h => h) (Or.inl ⟨by rfl, ?yv3_2_⟩) (by assumption) ?rv3_2_
    case yv3_2_ => (intro w hSw; (try dsimp only at hSw); go_simp; try with_reducible rfl)
    try simp only [Act.put, List.setIfInBounds_toArray, List.set_cons_zero, List.set_cons_succ]
    refine wpAnyH_take (i := 2) (oi := ({ dst := some 27, op := .load 5 (.tmp 26), type := 5, pos := "ref.go:44", after := #[{ on := 1, ground := .data }], guard := none } : Oper)) (v := ?vv3_3_) rfl read8_plain (by as_aux_lemma => kernel_rfl) (by as_aux_lemma => kernel_rfl) (fun _ _ _ h => h) (Or.inl ⟨by rfl, ?yv3_3_⟩) (by assumption) ?rv3_3_
    case yv3_3_ => (intro w hSw; (try dsimp only at hSw); go_simp; try with_reducible rfl)
    try simp only [Act.put, List.setIfInBounds_toArray, List.set_cons_zero, List.set_cons_succ]
    refine wpAnyH_take (i := 3) (oi := ({ dst := some 28, op := .convert 5 3 (.tmp 27), type := 3, pos := "ref.go:44", after := #[{ on := 2, ground := .data }], guard := none } : Oper)) (v := ?vv3_4_) rfl read8_plain (by as_aux_lemma => kernel_rfl) (by as_aux_lemma => kernel_rfl) (fun _ _ _ h => h) (Or.inl ⟨by rfl, ?yv3_4_⟩) (by assumption) ?rv3_4_
    case yv3_4_ => (intro w hSw; (try dsimp only at hSw); go_simp; try with_reducible rfl)
    try simp only [Act.put, List.setIfInBounds_toArray, List.set_cons_zero, List.set_cons_succ]
    refine wpAnyH_take (i := 4) (oi := ({ dst := some 29, op := .move (.tmp 0), type := 22, pos := "ref.go:44", after := #[], guard := none } : Oper)) (v := ?vv3_5_) rfl read8_plain (by as_aux_lemma => kernel_rfl) (by as_aux_lemma => kernel_rfl) (fun _ _ _ h => h) (Or.inl ⟨by rfl, ?yv3_5_⟩) (by assumption) ?rv3_5_
    case yv3_5_ => (intro w hSw; (try dsimp only at hSw); go_simp; try with_reducible rfl)
    try simp only [Act.put, List.setIfInBounds_toArray, List.set_cons_zero, List.set_cons_succ]
    refine wpAnyH_take (i := 5) (oi := ({ dst := some 30, op := .indexAddr 22 (.tmp 29) (.const (.int .i64 3)), type := 0, pos := "ref.go:44", after := #[{ on := 4, ground := .data }], guard := none } : Oper)) (v := ?vv3_6_) rfl read8_plain (by as_aux_lemma => kernel_rfl) (by as_aux_lemma => kernel_rfl) (fun _ _ _ h => h) (Or.inl ⟨by rfl, ?yv3_6_⟩) (by assumption) ?rv3_6_
    case yv3_6_ => (intro w hSw; (try dsimp only at hSw); go_simp; try with_reducible rfl)
    try simp only [Act.put, List.setIfInBounds_toArray, List.set_cons_zero, List.set_cons_succ]
    refine wpAnyH_take (i := 6) (oi := ({ dst := some 31, op := .load 5 (.tmp 30), type := 5, pos := "ref.go:44", after := #[{ on := 5, ground := .data }], guard := none } : Oper)) (v := ?vv3_7_) rfl read8_plain (by as_aux_lemma => kernel_rfl) (by as_aux_lemma => kernel_rfl) (fun _ _ _ h => h) (Or.inl ⟨by rfl, ?yv3_7_⟩) (by assumption) ?rv3_7_
    case yv3_7_ => (intro w hSw; (try dsimp only at hSw); go_simp; try with_reducible rfl)
    try simp only [Act.put, List.setIfInBounds_toArray, List.set_cons_zero, List.set_cons_succ]
    refine wpAnyH_take (i := 7) (oi := ({ dst := some 32, op := .convert 5 3 (.tmp 31), type := 3, pos := "ref.go:44", after := #[{ on := 6, ground := .data }], guard := none } : Oper)) (v := ?vv3_8_) rfl read8_plain (by as_aux_lemma => kernel_rfl) (by as_aux_lemma => kernel_rfl) (fun _ _ _ h => h) (Or.inl ⟨by rfl, ?yv3_8_⟩) (by assumption) ?rv3_8_
    case yv3_8_ => (intro w hSw; (try dsimp only at hSw); go_simp; try with_reducible rfl)
    try simp only [Act.put, List.setIfInBounds_toArray, List.set_cons_zero, List.set_cons_succ]
    refine wpAnyH_take (i := 8) (oi := ({ dst := some 33, op := .move (.tmp 0), type := 22, pos := "ref.go:44", after := #[], guard := none } : Oper)) (v := ?vv3_9_) rfl read8_plain (by as_aux_lemma => kernel_rfl) (by as_aux_lemma => kernel_rfl) (fun _ _ _ h => h) (Or.inl ⟨by rfl, ?yv3_9_⟩) (by assumption) ?rv3_9_
    case yv3_9_ => (intro w hSw; (try dsimp only at hSw); go_simp; try with_reducible rfl)
    try simp only [Act.put, List.setIfInBounds_toArray, List.set_cons_zero, List.set_cons_succ]
    refine wpAnyH_take (i := 9) (oi := ({ dst := some 34, op := .indexAddr 22 (.tmp 33) (.const (.int .i64 4)), type := 0, pos := "ref.go:44", after := #[{ on := 8, ground := .data }], guard := none } : Oper)) (v := ?vv3_10_) rfl read8_plain (by as_aux_lemma => kernel_rfl) (by as_aux_lemma => kernel_rfl) (fun _ _ _ h => h) (Or.inl ⟨by rfl, ?yv3_10_⟩) (by assumption) ?rv3_10_
    case yv3_10_ => (intro w hSw; (try dsimp only at hSw); go_simp; try with_reducible rfl)
    try simp only [Act.put, List.setIfInBounds_toArray, List.set_cons_zero, List.set_cons_succ]
    refine wpAnyH_take (i := 10) (oi := ({ dst := some 35, op := .load 5 (.tmp 34), type := 5, pos := "ref.go:44", after := #[{ on := 9, ground := .data }], guard := none } : Oper)) (v := ?vv3_11_) rfl read8_plain (by as_aux_lemma => kernel_rfl) (by as_aux_lemma => kernel_rfl) (fun _ _ _ h => h) (Or.inl ⟨by rfl, ?yv3_11_⟩) (by assumption) ?rv3_11_
    case yv3_11_ => (intro w hSw; (try dsimp only at hSw); go_simp; try with_reducible rfl)
    try simp only [Act.put, List.setIfInBounds_toArray, List.set_cons_zero, List.set_cons_succ]
    refine wpAnyH_take (i := 11) (oi := ({ dst := some 36, op := .binOp .eql 5 (.tmp 35) (.const (.int .u8 1)) 5, type := 4, pos := "ref.go:44", after := #[{ on := 10, ground := .data }], guard := none } : Oper)) (v := ?vv3_12_) rfl read8_plain (by as_aux_lemma => kernel_rfl) (by as_aux_lemma => kernel_rfl) (fun _ _ _ h => h) (Or.inl ⟨by rfl, ?yv3_12_⟩) (by assumption) ?rv3_12_
    case yv3_12_ => (intro w hSw; (try dsimp only at hSw); go_simp; try with_reducible rfl)
    try simp only [Act.put, List.setIfInBounds_toArray, List.set_cons_zero, List.set_cons_succ]
    refine wpAnyH_take (i := 12) (oi := ({ dst := some 37, op := .move (.tmp 4), type := 2, pos := "ref.go:44", after := #[], guard := none } : Oper)) (v := ?vv3_13_) rfl read8_plain (by as_aux_lemma => kernel_rfl) (by as_aux_lemma => kernel_rfl) (fun _ _ _ h => h) (Or.inl ⟨by rfl, ?yv3_13_⟩) (by assumption) ?rv3_13_
    case yv3_13_ => (intro w hSw; (try dsimp only at hSw); go_simp; try with_reducible rfl)
    try simp only [Act.put, List.setIfInBounds_toArray, List.set_cons_zero, List.set_cons_succ]
    refine wpAnyH_take (i := 13) (oi := ({ dst := some 38, op := .build 35 #[(0, .tmp 28), (1, .tmp 32), (2, .tmp 36), (3, .tmp 37)], type := 35, pos := "ref.go:44", after := #[{ on := 3, ground := .data }, { on := 7, ground := .data }, { on := 11, ground := .data }, { on := 12, ground := .data }], guard := none } : Oper)) (v := ?vv3_14_) rfl read8_plain (by as_aux_lemma => kernel_rfl) (by as_aux_lemma => kernel_rfl) (fun _ _ _ h => h) (Or.inl ⟨by rfl, ?yv3_14_⟩) (by assumption) ?rv3_14_
    case yv3_14_ => (intro w hSw; (try dsimp only at hSw); go_simp; try with_reducible rfl)
    try simp only [Act.put, List.setIfInBounds_toArray, List.set_cons_zero, List.set_cons_succ]
    refine wpAnyH_ready (rs := [14]) (by as_aux_lemma => kernel_rfl) (by simp) ?_
    refine AllReadyH.cons (o := ({ dst := some 6, op := .alloc 35, type := 0, pos := "ref.go:44", after := #[], guard := none } : Oper)) rfl (fun KK hK => ?_) AllReadyH.nil
    rw [if_pos (by rfl)]
    go_simp
    refine hK.out _ _ ?_ (fun _hHeldA => ?_)
    · first | exact below1 W0 (.cells #[.int .i64 0, .int .i64 0, .bool false, .int .i64 0] 35) | exact (below1 W0 (.cells #[.int .i64 0, .int .i64 0, .bool false, .int .i64 0] 35)).drew
    clear hK KK
    try simp only [Act.put, List.setIfInBounds_toArray, List.set_cons_zero, List.set_cons_succ]
    refine wpAnyH_ready (rs := [15]) (by as_aux_lemma => kernel_rfl) (by simp) ?_
    refine AllReadyH.cons (o := ({ dst := none, op := .store 35 (.tmp 6) (.tmp 38), type := 0, pos := "ref.go:44", after := #[{ on := 14, ground := .data }, { on := 13, ground := .data }, { on := 0, ground := .phase }, { on := 1, ground := .phase }, { on := 2, ground := .phase }, { on := 3, ground := .phase }, { on := 4, ground := .phase }, { on := 5, ground := .phase }, { on := 6, ground := .phase }, { on := 7, ground := .phase }, { on := 8, ground := .phase }, { on := 9, ground := .phase }, { on := 10, ground := .phase }, { on := 11, ground := .phase }, { on := 12, ground := .phase }, { on := 13, ground := .phase }, { on := 14, ground := .phase }], guard := none } : Oper)) rfl (fun KK hK => ?_) AllReadyH.nil
    rw [if_pos (by rfl)]
    have p0 := ((ownl W0 [.int .i64 0, .int .i64 0, .bool false, .int .i64 0] 35).drew).1.at 0 rfl
    have q0 := ((ownl W0 [.int .i64 0, .int .i64 0, .bool false, .int .i64 0] 35).drew).2 0 (by simp)
    have p1 := ((ownl W0 [.int .i64 0, .int .i64 0, .bool false, .int .i64 0] 35).drew).1.at 1 rfl
    have q1 := ((ownl W0 [.int .i64 0, .int .i64 0, .bool false, .int .i64 0] 35).drew).2 1 (by simp)
    have p2 := ((ownl W0 [.int .i64 0, .int .i64 0, .bool false, .int .i64 0] 35).drew).1.at 2 rfl
    have q2 := ((ownl W0 [.int .i64 0, .int .i64 0, .bool false, .int .i64 0] 35).drew).2 2 (by simp)
    have p3 := ((ownl W0 [.int .i64 0, .int .i64 0, .bool false, .int .i64 0] 35).drew).1.at 3 rfl
    have q3 := ((ownl W0 [.int .i64 0, .int .i64 0, .bool false, .int .i64 0] 35).drew).2 3 (by simp)
    go_simp
    refine hK.out _ _ ?_ (fun _hHeldS => ?_)
    · exact (below1 W0 (.cells #[.int .i64 x2, .int .i64 x3, .bool wb, .int .i64 v] 35)).drew
    clear hK KK
    try simp only [Act.put, List.setIfInBounds_toArray, List.set_cons_zero, List.set_cons_succ]
    refine wpAnyH_done (by as_aux_lemma => kernel_rfl) ?_ _
    refine NoPanic.normal ?_
    go_wp2_with fail
    go_meet
    exact ⟨_, rfl, (below1 W0 (.cells #[.int .i64 x2, .int .i64 x3, .bool wb, .int .i64 v] 35)).drew, ownl W0 [.int .i64 x2, .int .i64 x3, .bool wb, .int .i64 v] 35⟩
  case rest =>
    rename World => wx
    obtain ⟨g, rfl, hbx, ho⟩ := hcut
    have HBX := Lib.hid (belowT HB.out hbx)
    have S3 := Lib.hid (S2.out.keep hbx)
    have s4 := keepc hbx q4
    have p0 := ho.1.at 0 rfl
    have p1 := ho.1.at 1 rfl
    have p2 := ho.1.at 2 rfl
    have p3 := ho.1.at 3 rfl
    have HO := Lib.hid ho
    clear r2 r3 r4 q2 q3 q4 hbx ho S2 HB
    go_wp2_with fail
    refine (RR.out _).mono ?_; rintro e w4 ⟨rfl, hb4⟩
    have HB4 := Lib.hid (belowT HBX.out hb4)
    have T4 := S3.out.keep hb4
    have t4 := keepc hb4 s4
    have O4 := HO.out.keep hb4
    have m0 := O4.1.at 0 rfl
    have m1 := O4.1.at 1 rfl
    have m2 := O4.1.at 2 rfl
    have m3 := O4.1.at 3 rfl
    have c0 := T4.at 0 rfl 0 rfl; have f0 := T4.free 0 rfl 0 rfl
    have c1 := T4.at 0 rfl 1 rfl; have f1 := T4.free 0 rfl 1 rfl
    have c2 := T4.at 0 rfl 2 rfl; have f2 := T4.free 0 rfl 2 rfl
    have c3 := T4.at 0 rfl 3 rfl; have f3 := T4.free 0 rfl 3 rfl
    clear p0 p1 p2 p3 s4 hb4 T4 O4 HO S3 HBX RR
    cases good
    · have hr := Lib.hid (R1.out (Or.inl rfl))
      clear hgood m0 m1 m2 m3
      go_wp2
      refine bodyPost_ret (v := .tuple #[fv0, .int .i64 3]) (by simp [fv0, results, Try.results23, go_sem, *]) rfl ⟨by rw [hr.out], ?_⟩
      exact (((HB4.out.setCell (p := ⟨w.heap.size, 0, none⟩) (Nat.le_refl _) _).setCell (p := ⟨w.heap.size, 1, none⟩) (Nat.le_refl _) _).setCell (p := ⟨w.heap.size, 2, none⟩) (Nat.le_refl _) _).setCell (p := ⟨w.heap.size, 3, none⟩) (Nat.le_refl _) _
    · by_cases hx : (1 : Int) < x4
      · have hr := Lib.hid (R1.out (Or.inr hx))
        clear hgood m0 m1 m2 m3
        go_wp2
        refine bodyPost_ret (v := .tuple #[fv0, .int .i64 3]) (by simp [fv0, results, Try.results23, go_sem, *]) rfl ⟨by rw [hr.out], ?_⟩
        exact (((HB4.out.setCell (p := ⟨w.heap.size, 0, none⟩) (Nat.le_refl _) _).setCell (p := ⟨w.heap.size, 1, none⟩) (Nat.le_refl _) _).setCell (p := ⟨w.heap.size, 2, none⟩) (Nat.le_refl _) _).setCell (p := ⟨w.heap.size, 3, none⟩) (Nat.le_refl _) _
      · have hr := Lib.hid (R2.out (fun k => by rcases k with k | k; cases k; exact hx k))
        have hx' : decide ((1 : Int) < x4) = false := decide_eq_false hx
        clear hgood hx
        go_wp2
        refine bodyPost_ret (v := .tuple #[fv ⟨x2, x3, wb, v⟩, .int .i64 0]) (by simp [fv, results, Try.results23, go_sem, *]) rfl ⟨by rw [hr.out], ?_⟩
        exact (((HB4.out.setCell (p := ⟨w.heap.size, 0, none⟩) (Nat.le_refl _) _).setCell (p := ⟨w.heap.size, 1, none⟩) (Nat.le_refl _) _).setCell (p := ⟨w.heap.size, 2, none⟩) (Nat.le_refl _) _).setCell (p := ⟨w.heap.size, 3, none⟩) (Nat.le_refl _) _

theorem Read_came {w : World} {ba : Option Addr} {cap : Nat} {l : List UInt8} (C : Came w ba cap l) :
    Calls Try.prog 23 #[.slice ba l.length cap] w fun e w' => e = .returned (.tuple #[fv (readF l).1, .int .i64 (readF l).2]) ∧ Below w.heap.size w w' := by
  unfold readF
  by_cases h : (l.length : Int) < 11
  · rw [if_pos (by omega)]
    exact Read_short ba l.length cap w h
  rw [if_neg (by omega)]
  cases hg : beginsF l
  · rw [if_pos rfl]
    exact Read_form C h hg
  rw [if_neg (by simp)]
  obtain ⟨b, o, rfl, L⟩ := C.lies (by omega)
  cases hf : fitsB ((l.drop 2).take 9)
  · rw [if_pos rfl]
    exact Read_sum L h C.le C.max hg hf
  rw [if_neg (by simp)]
  have e1 : ofBytes l = ⟨(l.getD 2 0).toNat, (l.getD 3 0).toNat, l.getD 4 0 == 1, Oct.sgn 4 (Oct.num 0 ((l.drop 5).take 4))⟩ := rfl
  have k4 := byte_is (l.getD 4 0) 1 (by decide)
  have m4 := (l.getD 4 0).toNat_lt
  have m2 := (l.getD 2 0).toNat_lt
  have m3 := (l.getD 3 0).toNat_lt
  refine read_core (cap := cap) L h C.le C.max hg hf _ _ _ _ (l.getD 4 0 == 1) _ _ (fun hr => ?_) (fun hr => ?_) rfl rfl rfl rfl k4 rfl (by omega) (by omega) (by omega)
  · rw [← e1] at hr
    rw [if_pos (hr.imp id (fun k => by omega))]; rfl
  · rw [← e1] at hr ⊢
    rw [if_neg (fun k => hr (k.imp id (fun k => by omega)))]
end Ref14
end Go.Proofs.Ytnafodnaolmffaa
