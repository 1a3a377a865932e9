/- The landed slot's Read, Seq. -/
import Derived.Test.YtdalajfjikbcaaaSltLanP
import Derived.Test.YtdalajfjikbcaaaSltRefC
import Derived.Test.YtdalajfjikbcaaaLanCrcF
namespace Go.Proofs.Ytdalajfjikbcaaa
open Go.RowKit

namespace Lan18
def z12 : List UInt8 := [0, 0, 0, 0, 0, 0, 0, 0, 0, 0, 0, 0]
def n0v : List Value := [.int .i64 0, .int .i64 0, .int .i64 0]
theorem z12_length : z12.length = 12 := rfl

set_option maxRecDepth 100000 in
theorem Read_short (ba : Option Addr) (n cap : Nat) (w : World) (h : ((n : Int) != 12) = true) (_hn : (n : Int) ≤ 9223372036854775807) :
    Calls Try.prog 34 #[.slice ba n cap] w fun e w' => e = .returned (.tuple #[nv0, .int .u32 0, .int .i64 2]) ∧ Below w.heap.size w w' := by
  have B1 := below1 w (.cells #[.int .i64 0, .int .i64 0, .int .i64 0] 26)
  go_enter Try.func34, Try.ntmps34
  go_wp2
  exact bodyPost_ret (v := .tuple #[nv0, .int .u32 0, .int .i64 2]) (by simp [nv0, results, Try.results34, go_sem]) rfl ⟨rfl, B1⟩

theorem arr12 (V : Array Value) (h : V.size = 12) : ∃ v0 v1 v2 v3 v4 v5 v6 v7 v8 v9 v10 v11, V = #[v0, v1, v2, v3, v4, v5, v6, v7, v8, v9, v10, v11] := by
  obtain ⟨L⟩ := V
  match L, h with
  | [v0, v1, v2, v3, v4, v5, v6, v7, v8, v9, v10, v11], _ => exact ⟨v0, v1, v2, v3, v4, v5, v6, v7, v8, v9, v10, v11, rfl⟩

/-- The operations of a drawn region, as the translation has them. -/
def rd6 : Array Oper := #[
  { dst := some 21, op := .indexAddr 57 (.tmp 5) (.const (.int .i64 0)), type := 0, pos := "slot.go:78", after := #[], guard := none },
  { dst := some 22, op := .load 5 (.tmp 21), type := 5, pos := "slot.go:78", after := #[{ on := 0, ground := .data }], guard := none },
  { dst := some 23, op := .move (.tmp 7), type := 45, pos := "slot.go:78", after := #[], guard := none },
  { dst := some 24, op := .call { callee := .value (.func 35), args := #[.tmp 23], argTypes := #[45] }, type := 5, pos := "slot.go:78", after := #[{ on := 2, ground := .data }], guard := none },
  { dst := some 25, op := .binOp .neq 5 (.tmp 22) (.tmp 24) 5, type := 4, pos := "slot.go:78", after := #[{ on := 1, ground := .data }, { on := 3, ground := .data }], guard := none },
  { dst := some 26, op := .move (.tmp 25), type := 4, pos := "slot.go:78", after := #[{ on := 4, ground := .data }, { on := 3, ground := .chain }], guard := none },
  { dst := some 27, op := .indexAddr 57 (.tmp 5) (.const (.int .i64 11)), type := 0, pos := "slot.go:78", after := #[{ on := 5, ground := .guard }], guard := some (5, false) },
  { dst := some 28, op := .load 5 (.tmp 27), type := 5, pos := "slot.go:78", after := #[{ on := 6, ground := .data }, { on := 5, ground := .guard }], guard := some (5, false) },
  { dst := some 29, op := .move (.tmp 7), type := 45, pos := "slot.go:78", after := #[{ on := 5, ground := .guard }], guard := some (5, false) },
  { dst := some 30, op := .call { callee := .value (.func 35), args := #[.tmp 29], argTypes := #[45] }, type := 5, pos := "slot.go:78", after := #[{ on := 8, ground := .data }, { on := 5, ground := .chain }, { on := 5, ground := .guard }], guard := some (5, false) },
  { dst := some 31, op := .binOp .neq 5 (.tmp 28) (.tmp 30) 5, type := 4, pos := "slot.go:78", after := #[{ on := 7, ground := .data }, { on := 9, ground := .data }, { on := 5, ground := .guard }], guard := some (5, false) },
  { dst := some 32, op := .pick (.tmp 26) (.const (.bool true)) (.tmp 31), type := 4, pos := "slot.go:78", after := #[{ on := 5, ground := .data }, { on := 10, ground := .data }], guard := none },
  { dst := some 20, op := .assign (.tmp 32), type := 4, pos := "slot.go:78", after := #[{ on := 11, ground := .data }, { on := 9, ground := .chain }], guard := none }]
theorem rd6_plain : Region.noSelect rd6 = true := by kernel_rfl

/-- The operations of a drawn region, as the translation has them. -/
def rd10 : Array Oper := #[
  { dst := some 40, op := .load 26 (.tmp 6), type := 26, pos := "slot.go:82", after := #[], guard := none },
  { dst := some 41, op := .call { callee := .value (.func 17), args := #[.tmp 40], argTypes := #[26] }, type := 4, pos := "slot.go:82", after := #[{ on := 0, ground := .data }], guard := none },
  { dst := some 42, op := .unOp .not 4 (.tmp 41), type := 4, pos := "slot.go:82", after := #[{ on := 1, ground := .data }], guard := none },
  { dst := some 43, op := .move (.tmp 42), type := 4, pos := "slot.go:82", after := #[{ on := 2, ground := .data }, { on := 1, ground := .chain }], guard := none },
  { dst := some 44, op := .load 57 (.tmp 5), type := 57, pos := "slot.go:82", after := #[{ on := 3, ground := .guard }], guard := some (3, false) },
  { dst := some 45, op := .load 26 (.tmp 6), type := 26, pos := "slot.go:82", after := #[{ on := 3, ground := .guard }], guard := some (3, false) },
  { dst := some 46, op := .move (.tmp 7), type := 45, pos := "slot.go:82", after := #[{ on := 3, ground := .guard }], guard := some (3, false) },
  { dst := some 47, op := .call { callee := .value (.func 27), args := #[.tmp 45, .tmp 46], argTypes := #[26, 45] }, type := 57, pos := "slot.go:82", after := #[{ on := 5, ground := .data }, { on := 6, ground := .data }, { on := 3, ground := .chain }, { on := 3, ground := .guard }], guard := some (3, false) },
  { dst := some 48, op := .binOp .neq 57 (.tmp 44) (.tmp 47) 57, type := 4, pos := "slot.go:82", after := #[{ on := 4, ground := .data }, { on := 7, ground := .data }, { on := 3, ground := .guard }], guard := some (3, false) },
  { dst := some 49, op := .pick (.tmp 43) (.const (.bool true)) (.tmp 48), type := 4, pos := "slot.go:82", after := #[{ on := 3, ground := .data }, { on := 8, ground := .data }], guard := none },
  { dst := some 39, op := .assign (.tmp 49), type := 4, pos := "slot.go:82", after := #[{ on := 9, ground := .data }, { on := 7, ground := .chain }], guard := none }]
theorem rd10_plain : Region.noSelect rd10 = true := by kernel_rfl

set_option maxHeartbeats 8000000 in
set_option maxRecDepth 100000 in
theorem read_core {w : World} {ba : Option Addr} {cap : Nat} {l : List UInt8} (C : Came w ba cap l) (h : l.length = 12) (V V2 : Array Value) (hV : (vals l).toArray = V)
    (x0 x11 x5 x6 x7 s gd : Nat) (ft good same : Bool) (r : Value) (e0 : (l.getD 0 0).toNat = x0) (e11 : (l.getD 11 0).toNat = x11) (hft : fitsB (l.take 11) = ft)
    (hA : x0 ≠ gd ∨ x11 ≠ gd → r = .tuple #[nv0, .int .u32 0, .int .i64 3]) (hB : ¬ (x0 ≠ gd ∨ x11 ≠ gd) → ft = false → r = .tuple #[nv0, .int .u32 0, .int .i64 5])
    (hC : ¬ (x0 ≠ gd ∨ x11 ≠ gd) → ft = true → (good = false ∨ same = false) → r = .tuple #[nv0, .int .u32 0, .int .i64 3])
    (hD : ¬ (x0 ≠ gd ∨ x11 ≠ gd) → ft = true → good = true → same = true → r = .tuple #[nv ⟨x5, x6, x7⟩, .int .u32 s, .int .i64 0])
    (HP : Hid (∀ w, Calls Try.prog 41 #[.agg V] w fun e w' => e = .returned (.tuple #[.agg #[.int .i64 x5, .int .i64 x6, .int .i64 x7], .int .u32 s]) ∧ Below w.heap.size w w'))
    (HG : Hid (∀ w, Calls Try.prog 35 #[.int .u32 s] w fun e w' => e = .returned (.int .u8 (gd : Int)) ∧ Below w.heap.size w w'))
    (HR : Hid (∀ w, Calls Try.prog 17 #[.agg #[.int .i64 x5, .int .i64 x6, .int .i64 x7]] w fun e w' => e = .returned (.bool good) ∧ Below w.heap.size w w'))
    (HW : Hid (good = true → ∀ w, Calls Try.prog 27 #[.agg #[.int .i64 x5, .int .i64 x6, .int .i64 x7], .int .u32 s] w fun e w' => e = .returned (.agg V2) ∧ Below w.heap.size w w'))
    (HQ : Hid (good = true → ∀ w, (Op.equalIn 10000 57 (.agg V) (.agg V2)).run Try.prog w = .ok same w)) :
    Calls Try.prog 34 #[.slice ba 12 cap] w fun e w' => e = .returned r ∧ Below w.heap.size w w' := by
  have RA := Lib.hid hA
  have RB := Lib.hid hB
  have RC := Lib.hid hC
  have RD := Lib.hid hD
  clear hA hB hC hD
  have B2 := below2 w (.cells #[.int .i64 0, .int .i64 0, .int .i64 0] 26) (.cells #[.int .u8 0, .int .u8 0, .int .u8 0, .int .u8 0, .int .u8 0, .int .u8 0, .int .u8 0, .int .u8 0, .int .u8 0, .int .u8 0, .int .u8 0, .int .u8 0] 57)
  have C2 := C.keep B2
  have P1 : Pair ((w.alloc (.cells #[.int .i64 0, .int .i64 0, .int .i64 0] 26)).alloc (.cells #[.int .u8 0, .int .u8 0, .int .u8 0, .int .u8 0, .int .u8 0, .int .u8 0, .int .u8 0, .int .u8 0, .int .u8 0, .int .u8 0, .int .u8 0, .int .u8 0] 57)) (w.heap.size + 1) z12 w.heap.size n0v := by
    refine ⟨OwnB.of ?_, (ownl w n0v 26).keep (below1 _ _), by omega⟩
    have k := ownl (w.alloc (.cells #[.int .i64 0, .int .i64 0, .int .i64 0] 26)) (vals z12) 57
    rw [heap1] at k
    exact k
  have hput : putL z12 0 l = l := by simp [putL, h, z12]
  have HL := Lib.hid h
  have HV := Lib.hid hV
  have HPU := Lib.hid hput
  have HE := Lib.hid (And.intro e0 (And.intro e11 hft))
  clear C h hV hput e0 e11 hft
  obtain ⟨w2, hrun, hq, hb2⟩ := run_copy_pair (k := 0) (dl := 12) (dc := 12) 3 P1 B2 (Nat.le_succ _) C2 (by rw [HL.out]; decide) (by rw [HL.out]; decide) (by rw [HL.out]; decide)
  rw [HL.out] at hrun
  rw [HPU.out] at hq
  have HB2 := Lib.hid hb2
  have HQ2 := Lib.hid hq
  have hs12 := info12
  have hVs : V.size = 12 := by rw [← HV.out, List.size_toArray, vals_length, HL.out]
  rw [← hVs] at hs12
  have hL : w2.rangeAt (w.heap.size + 1) 0 V.toList := by rw [← HV.out]; exact hq.1.range
  clear P1 B2 C2 hq hb2 HPU hVs
  go_enter Try.func34, Try.ntmps34
  go_upto_region 5 with fail
  refine wp_region_lit ?_
  refine list_load_row rfl 57 _ rfl (w.heap.size + 1) rfl V _ hL Try.underlying57 rfl hs12 ?_
  clear hL hs12 hrun
  go_wp2_with fail
  refine (HP.out _).mono ?_; rintro e w3 ⟨rfl, hb3⟩
  have HB3 := Lib.hid (belowT HB2.out (belowT hb3 (below1 w3 (.cells #[.int .i64 x5, .int .i64 x6, .int .i64 x7] 26))))
  have HQ3 := Lib.hid ((HQ2.out.keep hb3).keep (below1 w3 (.cells #[.int .i64 x5, .int .i64 x6, .int .i64 x7] 26)))
  have HN3 := Lib.hid (ownl w3 [.int .i64 x5, .int .i64 x6, .int .i64 x7] 26)
  clear HP hb3 HB2 HQ2
  go_upto_region 6 with fail
  obtain ⟨gq, hgq⟩ : ∃ gq, gq = w3.heap.size := ⟨_, rfl⟩
  obtain ⟨W0, hW0⟩ : ∃ W0, W0 = w3.alloc (.cells #[.int .i64 x5, .int .i64 x6, .int .i64 x7] 26) := ⟨_, rfl⟩
  rw [← hgq] at HN3 ⊢
  rw [← hW0] at HB3 HQ3 HN3 ⊢
  clear hgq hW0
  have q0 := HQ3.out.1.at (j := 0) (by rw [HL.out]; decide)
  have q11 := HQ3.out.1.at (j := 11) (by rw [HL.out]; decide)
  rw [HE.out.1] at q0
  rw [HE.out.2.1] at q11
  have r0 : ∀ w', Below W0.heap.size W0 w' → w'.cell? ⟨w.heap.size + 1, 0, none⟩ = some (.int .u8 x0) := fun w' h => keepc h q0
  have r11 : ∀ w', Below W0.heap.size W0 w' → w'.cell? ⟨w.heap.size + 1, 11, none⟩ = some (.int .u8 x11) := fun w' h => keepc h q11
  clear q0 q11
  by_cases hx0 : x0 = gd
  · have t0 : ((x0 : Int) != gd) = false := by simp; omega
    by_cases hx11 : x11 = gd
    · have t1 : ((x11 : Int) != gd) = false := by simp; omega
      have hno : ¬ (x0 ≠ gd ∨ x11 ≠ gd) := by omega
      change (Code.region 6 rd6 true).wp Try.prog _ _ _
      refine wp_region_noPanic ?_
      refine wp_region_held_drew (S := fun w' => Below W0.heap.size W0 w') (by kernel_rfl) ((Below.refl _ _).drew) (fun hHeld => ?_)
      refine wpAnyH_take (i := 0) (oi := ({ dst := some 21, op := .indexAddr 57 (.tmp 5) (.const (.int .i64 0)), type := 0, pos := "slot.go:78", after := #[], guard := none } : Oper)) (v := ?vs9_0) rfl rd6_plain (by as_aux_lemma => kernel_rfl) (by as_aux_lemma => kernel_rfl) (fun _ _ _ h => h) (Or.inl ⟨by rfl, ?ys9_0⟩) (by assumption) ?rs9_0
      case ys9_0 => (intro w hSw; (try dsimp only at hSw); go_simp; try with_reducible rfl)
      try simp only [Act.put, List.setIfInBounds_toArray, List.set_cons_zero, List.set_cons_succ]
      refine wpAnyH_take (i := 1) (oi := ({ dst := some 22, op := .load 5 (.tmp 21), type := 5, pos := "slot.go:78", after := #[{ on := 0, ground := .data }], guard := none } : Oper)) (v := ?vs9_1) rfl rd6_plain (by as_aux_lemma => kernel_rfl) (by as_aux_lemma => kernel_rfl) (fun _ _ _ h => h) (Or.inl ⟨by rfl, ?ys9_1⟩) (by assumption) ?rs9_1
      case ys9_1 => (intro w hSw; (try dsimp only at hSw); go_simp; try with_reducible rfl)
      try simp only [Act.put, List.setIfInBounds_toArray, List.set_cons_zero, List.set_cons_succ]
      refine wpAnyH_take (i := 2) (oi := ({ dst := some 23, op := .move (.tmp 7), type := 45, pos := "slot.go:78", after := #[], guard := none } : Oper)) (v := ?vs9_2) rfl rd6_plain (by as_aux_lemma => kernel_rfl) (by as_aux_lemma => kernel_rfl) (fun _ _ _ h => h) (Or.inl ⟨by rfl, ?ys9_2⟩) (by assumption) ?rs9_2
      case ys9_2 => (intro w hSw; (try dsimp only at hSw); go_simp; try with_reducible rfl)
      try simp only [Act.put, List.setIfInBounds_toArray, List.set_cons_zero, List.set_cons_succ]
      refine wpAnyH_ready (rs := [3]) (by as_aux_lemma => kernel_rfl) (by simp) ?_
      refine AllReadyH.cons (o := ({ dst := some 24, op := .call { callee := .value (.func 35), args := #[.tmp 23], argTypes := #[45] }, type := 5, pos := "slot.go:78", after := #[{ on := 2, ground := .data }], guard := none } : Oper)) rfl (fun KK hK => ?_) AllReadyH.nil
      rw [if_pos (by rfl)]
      go_simp
      go_at_call 35; refine (HG.out _).mono ?_; rintro e w5 ⟨rfl, hb5⟩
      go_wp2_with fail
      refine hK.out _ _ ?_ (fun hHeld5 => ?_)
      · exact belowT (by assumption) hb5
      clear hK KK hb5
      try simp only [Act.put, List.setIfInBounds_toArray, List.set_cons_zero, List.set_cons_succ]
      refine wpAnyH_take (i := 4) (oi := ({ dst := some 25, op := .binOp .neq 5 (.tmp 22) (.tmp 24) 5, type := 4, pos := "slot.go:78", after := #[{ on := 1, ground := .data }, { on := 3, ground := .data }], guard := none } : Oper)) (v := ?vs9_4) rfl rd6_plain (by as_aux_lemma => kernel_rfl) (by as_aux_lemma => kernel_rfl) (fun _ _ _ h => h) (Or.inl ⟨by rfl, ?ys9_4⟩) (by assumption) ?rs9_4
      case ys9_4 => (intro w hSw; (try dsimp only at hSw); go_simp; try with_reducible rfl)
      try simp only [Act.put, List.setIfInBounds_toArray, List.set_cons_zero, List.set_cons_succ]
      refine wpAnyH_take (i := 5) (oi := ({ dst := some 26, op := .move (.tmp 25), type := 4, pos := "slot.go:78", after := #[{ on := 4, ground := .data }, { on := 3, ground := .chain }], guard := none } : Oper)) (v := ?vs9_5) rfl rd6_plain (by as_aux_lemma => kernel_rfl) (by as_aux_lemma => kernel_rfl) (fun _ _ _ h => h) (Or.inl ⟨by rfl, ?ys9_5⟩) (by assumption) ?rs9_5
      case ys9_5 => (intro w hSw; (try dsimp only at hSw); go_simp; try with_reducible rfl)
      try simp only [Act.put, List.setIfInBounds_toArray, List.set_cons_zero, List.set_cons_succ]
      refine wpAnyH_take (i := 6) (oi := ({ dst := some 27, op := .indexAddr 57 (.tmp 5) (.const (.int .i64 11)), type := 0, pos := "slot.go:78", after := #[{ on := 5, ground := .guard }], guard := some (5, false) } : Oper)) (v := ?vs9_6) rfl rd6_plain (by as_aux_lemma => kernel_rfl) (by as_aux_lemma => kernel_rfl) (fun _ _ _ h => h) (Or.inl ⟨by rfl, ?ys9_6⟩) (by assumption) ?rs9_6
      case ys9_6 => (intro w hSw; (try dsimp only at hSw); go_simp; try with_reducible rfl)
      try simp only [Act.put, List.setIfInBounds_toArray, List.set_cons_zero, List.set_cons_succ]
      refine wpAnyH_take (i := 7) (oi := ({ dst := some 28, op := .load 5 (.tmp 27), type := 5, pos := "slot.go:78", after := #[{ on := 6, ground := .data }, { on := 5, ground := .guard }], guard := some (5, false) } : Oper)) (v := ?vs9_7) rfl rd6_plain (by as_aux_lemma => kernel_rfl) (by as_aux_lemma => kernel_rfl) (fun _ _ _ h => h) (Or.inl ⟨by rfl, ?ys9_7⟩) (by assumption) ?rs9_7
      case ys9_7 => (intro w hSw; (try dsimp only at hSw); go_simp; try with_reducible rfl)
      try simp only [Act.put, List.setIfInBounds_toArray, List.set_cons_zero, List.set_cons_succ]
      refine wpAnyH_take (i := 8) (oi := ({ dst := some 29, op := .move (.tmp 7), type := 45, pos := "slot.go:78", after := #[{ on := 5, ground := .guard }], guard := some (5, false) } : Oper)) (v := ?vs9_8) rfl rd6_plain (by as_aux_lemma => kernel_rfl) (by as_aux_lemma => kernel_rfl) (fun _ _ _ h => h) (Or.inl ⟨by rfl, ?ys9_8⟩) (by assumption) ?rs9_8
      case ys9_8 => (intro w hSw; (try dsimp only at hSw); go_simp; try with_reducible rfl)
      try simp only [Act.put, List.setIfInBounds_toArray, List.set_cons_zero, List.set_cons_succ]
      refine wpAnyH_ready (rs := [9]) (by as_aux_lemma => kernel_rfl) (by simp) ?_
      refine AllReadyH.cons (o := ({ dst := some 30, op := .call { callee := .value (.func 35), args := #[.tmp 29], argTypes := #[45] }, type := 5, pos := "slot.go:78", after := #[{ on := 8, ground := .data }, { on := 5, ground := .chain }, { on := 5, ground := .guard }], guard := some (5, false) } : Oper)) rfl (fun KK hK => ?_) AllReadyH.nil
      rw [if_pos (by rfl)]
      go_simp
      go_at_call 35; refine (HG.out _).mono ?_; rintro e w6 ⟨rfl, hb6⟩
      go_wp2_with fail
      refine hK.out _ _ ?_ (fun hHeld6 => ?_)
      · exact belowT (by assumption) hb6
      clear hK KK hb6 hHeld5
      try simp only [Act.put, List.setIfInBounds_toArray, List.set_cons_zero, List.set_cons_succ]
      refine wpAnyH_take (i := 10) (oi := ({ dst := some 31, op := .binOp .neq 5 (.tmp 28) (.tmp 30) 5, type := 4, pos := "slot.go:78", after := #[{ on := 7, ground := .data }, { on := 9, ground := .data }, { on := 5, ground := .guard }], guard := some (5, false) } : Oper)) (v := ?vs9_10) rfl rd6_plain (by as_aux_lemma => kernel_rfl) (by as_aux_lemma => kernel_rfl) (fun _ _ _ h => h) (Or.inl ⟨by rfl, ?ys9_10⟩) (by assumption) ?rs9_10
      case ys9_10 => (intro w hSw; (try dsimp only at hSw); go_simp; try with_reducible rfl)
      try simp only [Act.put, List.setIfInBounds_toArray, List.set_cons_zero, List.set_cons_succ]
      refine wpAnyH_take (i := 11) (oi := ({ dst := some 32, op := .pick (.tmp 26) (.const (.bool true)) (.tmp 31), type := 4, pos := "slot.go:78", after := #[{ on := 5, ground := .data }, { on := 10, ground := .data }], guard := none } : Oper)) (v := ?vs9_11) rfl rd6_plain (by as_aux_lemma => kernel_rfl) (by as_aux_lemma => kernel_rfl) (fun _ _ _ h => h) (Or.inl ⟨by rfl, ?ys9_11⟩) (by assumption) ?rs9_11
      case ys9_11 => (intro w hSw; (try dsimp only at hSw); go_simp; try with_reducible rfl)
      try simp only [Act.put, List.setIfInBounds_toArray, List.set_cons_zero, List.set_cons_succ]
      refine wpAnyH_take (i := 12) (oi := ({ dst := some 20, op := .assign (.tmp 32), type := 4, pos := "slot.go:78", after := #[{ on := 11, ground := .data }, { on := 9, ground := .chain }], guard := none } : Oper)) (v := ?vs9_12) rfl rd6_plain (by as_aux_lemma => kernel_rfl) (by as_aux_lemma => kernel_rfl) (fun _ _ _ h => h) (Or.inl ⟨by rfl, ?ys9_12⟩) (by assumption) ?rs9_12
      case ys9_12 => (intro w hSw; (try dsimp only at hSw); go_simp; try with_reducible rfl)
      try simp only [Act.put, List.setIfInBounds_toArray, List.set_cons_zero, List.set_cons_succ]
      refine wpAnyH_done (by as_aux_lemma => kernel_rfl) ?_ _
      refine NoPanic.normal ?_
      have HB6 := Lib.hid (belowT HB3.out hHeld6)
      have HQ6 := Lib.hid (HQ3.out.keep hHeld6)
      have HN6 := Lib.hid (HN3.out.keep hHeld6)
      have HF : Hid (Calls Try.prog 42 #[.slice (some ⟨w.heap.size + 1, 0, none⟩) 11 12] w6 fun e w' => e = .returned (.bool ft) ∧ Below w6.heap.size w6 w') := Lib.hid (by
        have D := HQ6.out.1.came 11 (cap := 12) (by rw [HL.out]; decide) (by decide) (by decide)
        have e : (l.take 11).length = 11 := by rw [List.length_take, HL.out]; rfl
        have k := Own6.Fits_came D (by omega)
        rw [e, HE.out.2.2] at k
        exact k)
      clear HB3 HQ3 HN3 r0 r11 t0 t1 RA hx0 hx11 hHeld6 hHeld HG
      go_wp2_with fail
      refine HF.out.mono ?_; rintro e w7 ⟨rfl, hb7⟩
      have HB7 := Lib.hid (belowT HB6.out hb7)
      have HQ7 := Lib.hid (HQ6.out.keep hb7)
      have HN7 := Lib.hid (HN6.out.keep hb7)
      clear HF hb7 HB6 HQ6 HN6
      cases ft
      · have hr := Lib.hid (RB.out hno (by trivial))
        have c0 := HQ7.out.2.1.1.at 0 rfl; have f0 := HQ7.out.2.1.2 0 (by decide)
        have c1 := HQ7.out.2.1.1.at 1 rfl; have f1 := HQ7.out.2.1.2 1 (by decide)
        have c2 := HQ7.out.2.1.1.at 2 rfl; have f2 := HQ7.out.2.1.2 2 (by decide)
        clear RB RC RD HQ7 HN7 HR HW HQ HE HV hno
        go_wp2
        exact bodyPost_ret (v := .tuple #[nv0, .int .u32 0, .int .i64 5]) (by simp [nv0, results, Try.results34, go_sem, *]) rfl ⟨by rw [hr.out], below_set3 HB7.out _ _ _⟩
      · go_upto_region 10 with fail
        obtain ⟨W0, rfl⟩ : ∃ W0, W0 = w7 := ⟨_, rfl⟩
        have p0 := HN7.out.1.at 0 rfl
        have p1 := HN7.out.1.at 1 rfl
        have p2 := HN7.out.1.at 2 rfl
        have s0 : ∀ w', Below W0.heap.size W0 w' → w'.cell? ⟨gq, 0, none⟩ = some (.int .i64 x5) := fun w' h => keepc h p0
        have s1 : ∀ w', Below W0.heap.size W0 w' → w'.cell? ⟨gq, 1, none⟩ = some (.int .i64 x6) := fun w' h => keepc h p1
        have s2 : ∀ w', Below W0.heap.size W0 w' → w'.cell? ⟨gq, 2, none⟩ = some (.int .i64 x7) := fun w' h => keepc h p2
        clear p0 p1 p2
        cases good
        · have hr := Lib.hid (RC.out hno (by trivial) (Or.inl rfl))
          clear HW HQ
          change (Code.region 10 rd10 true).wp Try.prog _ _ _
          refine wp_region_noPanic ?_
          refine wp_region_held_drew (S := fun w' => Below W0.heap.size W0 w') (by kernel_rfl) ((Below.refl _ _).drew) (fun hHeld => ?_)
          refine wpAnyH_take (i := 0) (oi := ({ dst := some 40, op := .load 26 (.tmp 6), type := 26, pos := "slot.go:82", after := #[], guard := none } : Oper)) (v := ?vs10_0) rfl rd10_plain (by as_aux_lemma => kernel_rfl) (by as_aux_lemma => kernel_rfl) (fun _ _ _ h => h) (Or.inl ⟨by rfl, ?ys10_0⟩) (by assumption) ?rs10_0
          case ys10_0 => (intro w hSw; (try dsimp only at hSw); go_simp; try with_reducible rfl)
          try simp only [Act.put, List.setIfInBounds_toArray, List.set_cons_zero, List.set_cons_succ]
          refine wpAnyH_ready (rs := [1]) (by as_aux_lemma => kernel_rfl) (by simp) ?_
          refine AllReadyH.cons (o := ({ dst := some 41, op := .call { callee := .value (.func 17), args := #[.tmp 40], argTypes := #[26] }, type := 4, pos := "slot.go:82", after := #[{ on := 0, ground := .data }], guard := none } : Oper)) rfl (fun KK hK => ?_) AllReadyH.nil
          rw [if_pos (by rfl)]
          go_simp
          go_at_call 17; refine (HR.out _).mono ?_; rintro e w8 ⟨rfl, hb8⟩
          go_wp2_with fail
          refine hK.out _ _ ?_ (fun hHeld8 => ?_)
          · exact belowT (by assumption) hb8
          clear hK KK hb8
          try simp only [Act.put, List.setIfInBounds_toArray, List.set_cons_zero, List.set_cons_succ]
          refine wpAnyH_take (i := 2) (oi := ({ dst := some 42, op := .unOp .not 4 (.tmp 41), type := 4, pos := "slot.go:82", after := #[{ on := 1, ground := .data }], guard := none } : Oper)) (v := ?vs10_2) rfl rd10_plain (by as_aux_lemma => kernel_rfl) (by as_aux_lemma => kernel_rfl) (fun _ _ _ h => h) (Or.inl ⟨by rfl, ?ys10_2⟩) (by assumption) ?rs10_2
          case ys10_2 => (intro w hSw; (try dsimp only at hSw); go_simp; try with_reducible rfl)
          try simp only [Act.put, List.setIfInBounds_toArray, List.set_cons_zero, List.set_cons_succ]
          refine wpAnyH_take (i := 3) (oi := ({ dst := some 43, op := .move (.tmp 42), type := 4, pos := "slot.go:82", after := #[{ on := 2, ground := .data }, { on := 1, ground := .chain }], guard := none } : Oper)) (v := ?vs10_3) rfl rd10_plain (by as_aux_lemma => kernel_rfl) (by as_aux_lemma => kernel_rfl) (fun _ _ _ h => h) (Or.inl ⟨by rfl, ?ys10_3⟩) (by assumption) ?rs10_3
          case ys10_3 => (intro w hSw; (try dsimp only at hSw); go_simp; try with_reducible rfl)
          try simp only [Act.put, List.setIfInBounds_toArray, List.set_cons_zero, List.set_cons_succ]
          refine wpAnyH_take (i := 4) (oi := ({ dst := some 44, op := .load 57 (.tmp 5), type := 57, pos := "slot.go:82", after := #[{ on := 3, ground := .guard }], guard := some (3, false) } : Oper)) (v := undef) rfl rd10_plain (by as_aux_lemma => kernel_rfl) (by as_aux_lemma => kernel_rfl) (fun _ _ _ h => h) (Or.inr ⟨by rfl, rfl⟩) (by assumption) ?_
          try simp only [Act.put, List.setIfInBounds_toArray, List.set_cons_zero, List.set_cons_succ]
          refine wpAnyH_take (i := 5) (oi := ({ dst := some 45, op := .load 26 (.tmp 6), type := 26, pos := "slot.go:82", after := #[{ on := 3, ground := .guard }], guard := some (3, false) } : Oper)) (v := undef) rfl rd10_plain (by as_aux_lemma => kernel_rfl) (by as_aux_lemma => kernel_rfl) (fun _ _ _ h => h) (Or.inr ⟨by rfl, rfl⟩) (by assumption) ?_
          try simp only [Act.put, List.setIfInBounds_toArray, List.set_cons_zero, List.set_cons_succ]
          refine wpAnyH_take (i := 6) (oi := ({ dst := some 46, op := .move (.tmp 7), type := 45, pos := "slot.go:82", after := #[{ on := 3, ground := .guard }], guard := some (3, false) } : Oper)) (v := undef) rfl rd10_plain (by as_aux_lemma => kernel_rfl) (by as_aux_lemma => kernel_rfl) (fun _ _ _ h => h) (Or.inr ⟨by rfl, rfl⟩) (by assumption) ?_
          try simp only [Act.put, List.setIfInBounds_toArray, List.set_cons_zero, List.set_cons_succ]
          refine wpAnyH_take (i := 7) (oi := ({ dst := some 47, op := .call { callee := .value (.func 27), args := #[.tmp 45, .tmp 46], argTypes := #[26, 45] }, type := 57, pos := "slot.go:82", after := #[{ on := 5, ground := .data }, { on := 6, ground := .data }, { on := 3, ground := .chain }, { on := 3, ground := .guard }], guard := some (3, false) } : Oper)) (v := undef) rfl rd10_plain (by as_aux_lemma => kernel_rfl) (by as_aux_lemma => kernel_rfl) (fun _ _ _ h => h) (Or.inr ⟨by rfl, rfl⟩) (by assumption) ?_
          try simp only [Act.put, List.setIfInBounds_toArray, List.set_cons_zero, List.set_cons_succ]
          refine wpAnyH_take (i := 8) (oi := ({ dst := some 48, op := .binOp .neq 57 (.tmp 44) (.tmp 47) 57, type := 4, pos := "slot.go:82", after := #[{ on := 4, ground := .data }, { on := 7, ground := .data }, { on := 3, ground := .guard }], guard := some (3, false) } : Oper)) (v := undef) rfl rd10_plain (by as_aux_lemma => kernel_rfl) (by as_aux_lemma => kernel_rfl) (fun _ _ _ h => h) (Or.inr ⟨by rfl, rfl⟩) (by assumption) ?_
          try simp only [Act.put, List.setIfInBounds_toArray, List.set_cons_zero, List.set_cons_succ]
          refine wpAnyH_take (i := 9) (oi := ({ dst := some 49, op := .pick (.tmp 43) (.const (.bool true)) (.tmp 48), type := 4, pos := "slot.go:82", after := #[{ on := 3, ground := .data }, { on := 8, ground := .data }], guard := none } : Oper)) (v := ?vs10_9) rfl rd10_plain (by as_aux_lemma => kernel_rfl) (by as_aux_lemma => kernel_rfl) (fun _ _ _ h => h) (Or.inl ⟨by rfl, ?ys10_9⟩) (by assumption) ?rs10_9
          case ys10_9 => (intro w hSw; (try dsimp only at hSw); go_simp; try with_reducible rfl)
          try simp only [Act.put, List.setIfInBounds_toArray, List.set_cons_zero, List.set_cons_succ]
          refine wpAnyH_take (i := 10) (oi := ({ dst := some 39, op := .assign (.tmp 49), type := 4, pos := "slot.go:82", after := #[{ on := 9, ground := .data }, { on := 7, ground := .chain }], guard := none } : Oper)) (v := ?vs10_10) rfl rd10_plain (by as_aux_lemma => kernel_rfl) (by as_aux_lemma => kernel_rfl) (fun _ _ _ h => h) (Or.inl ⟨by rfl, ?ys10_10⟩) (by assumption) ?rs10_10
          case ys10_10 => (intro w hSw; (try dsimp only at hSw); go_simp; try with_reducible rfl)
          try simp only [Act.put, List.setIfInBounds_toArray, List.set_cons_zero, List.set_cons_succ]
          refine wpAnyH_done (by as_aux_lemma => kernel_rfl) ?_ _
          refine NoPanic.normal ?_
          have HB8 := Lib.hid (belowT HB7.out hHeld8)
          have HQ8 := HQ7.out.keep hHeld8
          have c0 := HQ8.2.1.1.at 0 rfl; have f0 := HQ8.2.1.2 0 (by decide)
          have c1 := HQ8.2.1.1.at 1 rfl; have f1 := HQ8.2.1.2 1 (by decide)
          have c2 := HQ8.2.1.1.at 2 rfl; have f2 := HQ8.2.1.2 2 (by decide)
          clear RC RD HQ7 HN7 HR HE HV hno s0 s1 s2 hHeld8 hHeld HB7 HQ8
          go_wp2
          exact bodyPost_ret (v := .tuple #[nv0, .int .u32 0, .int .i64 3]) (by simp [nv0, results, Try.results34, go_sem, *]) rfl ⟨by rw [hr.out], below_set3 HB8.out _ _ _⟩
        · have hW := Lib.hid (HW.out rfl)
          have hQ := HQ.out rfl
          have hVs : V.size = 12 := by rw [← HV.out, List.size_toArray, vals_length, HL.out]
          have hk := HQ7.out.1.range
          rw [HV.out] at hk
          obtain ⟨v0, v1, v2, v3, v4, v5, v6, v7, v8, v9, v10, v11, rfl⟩ := arr12 V hVs
          have a0 : W0.cell? ⟨w.heap.size + 1, 0, none⟩ = some v0 := hk 0 v0 rfl
          have ra0 : ∀ w', Below W0.heap.size W0 w' → w'.cell? ⟨w.heap.size + 1, 0, none⟩ = some v0 := fun w' h => keepc h a0
          have a1 : W0.cell? ⟨w.heap.size + 1, 1, none⟩ = some v1 := hk 1 v1 rfl
          have ra1 : ∀ w', Below W0.heap.size W0 w' → w'.cell? ⟨w.heap.size + 1, 1, none⟩ = some v1 := fun w' h => keepc h a1
          have a2 : W0.cell? ⟨w.heap.size + 1, 2, none⟩ = some v2 := hk 2 v2 rfl
          have ra2 : ∀ w', Below W0.heap.size W0 w' → w'.cell? ⟨w.heap.size + 1, 2, none⟩ = some v2 := fun w' h => keepc h a2
          have a3 : W0.cell? ⟨w.heap.size + 1, 3, none⟩ = some v3 := hk 3 v3 rfl
          have ra3 : ∀ w', Below W0.heap.size W0 w' → w'.cell? ⟨w.heap.size + 1, 3, none⟩ = some v3 := fun w' h => keepc h a3
          have a4 : W0.cell? ⟨w.heap.size + 1, 4, none⟩ = some v4 := hk 4 v4 rfl
          have ra4 : ∀ w', Below W0.heap.size W0 w' → w'.cell? ⟨w.heap.size + 1, 4, none⟩ = some v4 := fun w' h => keepc h a4
          have a5 : W0.cell? ⟨w.heap.size + 1, 5, none⟩ = some v5 := hk 5 v5 rfl
          have ra5 : ∀ w', Below W0.heap.size W0 w' → w'.cell? ⟨w.heap.size + 1, 5, none⟩ = some v5 := fun w' h => keepc h a5
          have a6 : W0.cell? ⟨w.heap.size + 1, 6, none⟩ = some v6 := hk 6 v6 rfl
          have ra6 : ∀ w', Below W0.heap.size W0 w' → w'.cell? ⟨w.heap.size + 1, 6, none⟩ = some v6 := fun w' h => keepc h a6
          have a7 : W0.cell? ⟨w.heap.size + 1, 7, none⟩ = some v7 := hk 7 v7 rfl
          have ra7 : ∀ w', Below W0.heap.size W0 w' → w'.cell? ⟨w.heap.size + 1, 7, none⟩ = some v7 := fun w' h => keepc h a7
          have a8 : W0.cell? ⟨w.heap.size + 1, 8, none⟩ = some v8 := hk 8 v8 rfl
          have ra8 : ∀ w', Below W0.heap.size W0 w' → w'.cell? ⟨w.heap.size + 1, 8, none⟩ = some v8 := fun w' h => keepc h a8
          have a9 : W0.cell? ⟨w.heap.size + 1, 9, none⟩ = some v9 := hk 9 v9 rfl
          have ra9 : ∀ w', Below W0.heap.size W0 w' → w'.cell? ⟨w.heap.size + 1, 9, none⟩ = some v9 := fun w' h => keepc h a9
          have a10 : W0.cell? ⟨w.heap.size + 1, 10, none⟩ = some v10 := hk 10 v10 rfl
          have ra10 : ∀ w', Below W0.heap.size W0 w' → w'.cell? ⟨w.heap.size + 1, 10, none⟩ = some v10 := fun w' h => keepc h a10
          have a11 : W0.cell? ⟨w.heap.size + 1, 11, none⟩ = some v11 := hk 11 v11 rfl
          have ra11 : ∀ w', Below W0.heap.size W0 w' → w'.cell? ⟨w.heap.size + 1, 11, none⟩ = some v11 := fun w' h => keepc h a11
          clear HW HQ hVs HE hk a0 a1 a2 a3 a4 a5 a6 a7 a8 a9 a10 a11
          cases same
          · have hr := Lib.hid (RC.out hno (by trivial) (Or.inr rfl))
            change (Code.region 10 rd10 true).wp Try.prog _ _ _
            refine wp_region_noPanic ?_
            refine wp_region_held_drew (S := fun w' => Below W0.heap.size W0 w') (by kernel_rfl) ((Below.refl _ _).drew) (fun hHeld => ?_)
            refine wpAnyH_take (i := 0) (oi := ({ dst := some 40, op := .load 26 (.tmp 6), type := 26, pos := "slot.go:82", after := #[], guard := none } : Oper)) (v := ?vs11_0) rfl rd10_plain (by as_aux_lemma => kernel_rfl) (by as_aux_lemma => kernel_rfl) (fun _ _ _ h => h) (Or.inl ⟨by rfl, ?ys11_0⟩) (by assumption) ?rs11_0
            case ys11_0 => (intro w hSw; (try dsimp only at hSw); go_simp; try with_reducible rfl)
            try simp only [Act.put, List.setIfInBounds_toArray, List.set_cons_zero, List.set_cons_succ]
            refine wpAnyH_ready (rs := [1]) (by as_aux_lemma => kernel_rfl) (by simp) ?_
            refine AllReadyH.cons (o := ({ dst := some 41, op := .call { callee := .value (.func 17), args := #[.tmp 40], argTypes := #[26] }, type := 4, pos := "slot.go:82", after := #[{ on := 0, ground := .data }], guard := none } : Oper)) rfl (fun KK hK => ?_) AllReadyH.nil
            rw [if_pos (by rfl)]
            go_simp
            go_at_call 17; refine (HR.out _).mono ?_; rintro e w8 ⟨rfl, hb8⟩
            go_wp2_with fail
            refine hK.out _ _ ?_ (fun hHeld8 => ?_)
            · exact belowT (by assumption) hb8
            clear hK KK hb8
            try simp only [Act.put, List.setIfInBounds_toArray, List.set_cons_zero, List.set_cons_succ]
            refine wpAnyH_take (i := 2) (oi := ({ dst := some 42, op := .unOp .not 4 (.tmp 41), type := 4, pos := "slot.go:82", after := #[{ on := 1, ground := .data }], guard := none } : Oper)) (v := ?vs11_2) rfl rd10_plain (by as_aux_lemma => kernel_rfl) (by as_aux_lemma => kernel_rfl) (fun _ _ _ h => h) (Or.inl ⟨by rfl, ?ys11_2⟩) (by assumption) ?rs11_2
            case ys11_2 => (intro w hSw; (try dsimp only at hSw); go_simp; try with_reducible rfl)
            try simp only [Act.put, List.setIfInBounds_toArray, List.set_cons_zero, List.set_cons_succ]
            refine wpAnyH_take (i := 3) (oi := ({ dst := some 43, op := .move (.tmp 42), type := 4, pos := "slot.go:82", after := #[{ on := 2, ground := .data }, { on := 1, ground := .chain }], guard := none } : Oper)) (v := ?vs11_3) rfl rd10_plain (by as_aux_lemma => kernel_rfl) (by as_aux_lemma => kernel_rfl) (fun _ _ _ h => h) (Or.inl ⟨by rfl, ?ys11_3⟩) (by assumption) ?rs11_3
            case ys11_3 => (intro w hSw; (try dsimp only at hSw); go_simp; try with_reducible rfl)
            try simp only [Act.put, List.setIfInBounds_toArray, List.set_cons_zero, List.set_cons_succ]
            refine wpAnyH_take (i := 4) (oi := ({ dst := some 44, op := .load 57 (.tmp 5), type := 57, pos := "slot.go:82", after := #[{ on := 3, ground := .guard }], guard := some (3, false) } : Oper)) (v := ?vs11_4) rfl rd10_plain (by as_aux_lemma => kernel_rfl) (by as_aux_lemma => kernel_rfl) (fun _ _ _ h => h) (Or.inl ⟨by rfl, ?ys11_4⟩) (by assumption) ?rs11_4
            case ys11_4 => (intro w hSw; (try dsimp only at hSw); go_simp; try with_reducible rfl)
            try simp only [Act.put, List.setIfInBounds_toArray, List.set_cons_zero, List.set_cons_succ]
            refine wpAnyH_take (i := 5) (oi := ({ dst := some 45, op := .load 26 (.tmp 6), type := 26, pos := "slot.go:82", after := #[{ on := 3, ground := .guard }], guard := some (3, false) } : Oper)) (v := ?vs11_5) rfl rd10_plain (by as_aux_lemma => kernel_rfl) (by as_aux_lemma => kernel_rfl) (fun _ _ _ h => h) (Or.inl ⟨by rfl, ?ys11_5⟩) (by assumption) ?rs11_5
            case ys11_5 => (intro w hSw; (try dsimp only at hSw); go_simp; try with_reducible rfl)
            try simp only [Act.put, List.setIfInBounds_toArray, List.set_cons_zero, List.set_cons_succ]
            refine wpAnyH_take (i := 6) (oi := ({ dst := some 46, op := .move (.tmp 7), type := 45, pos := "slot.go:82", after := #[{ on := 3, ground := .guard }], guard := some (3, false) } : Oper)) (v := ?vs11_6) rfl rd10_plain (by as_aux_lemma => kernel_rfl) (by as_aux_lemma => kernel_rfl) (fun _ _ _ h => h) (Or.inl ⟨by rfl, ?ys11_6⟩) (by assumption) ?rs11_6
            case ys11_6 => (intro w hSw; (try dsimp only at hSw); go_simp; try with_reducible rfl)
            try simp only [Act.put, List.setIfInBounds_toArray, List.set_cons_zero, List.set_cons_succ]
            refine wpAnyH_ready (rs := [7]) (by as_aux_lemma => kernel_rfl) (by simp) ?_
            refine AllReadyH.cons (o := ({ dst := some 47, op := .call { callee := .value (.func 27), args := #[.tmp 45, .tmp 46], argTypes := #[26, 45] }, type := 57, pos := "slot.go:82", after := #[{ on := 5, ground := .data }, { on := 6, ground := .data }, { on := 3, ground := .chain }, { on := 3, ground := .guard }], guard := some (3, false) } : Oper)) rfl (fun KK hK => ?_) AllReadyH.nil
            rw [if_pos (by rfl)]
            go_simp
            go_at_call 27; refine (hW.out _).mono ?_; rintro e w9 ⟨rfl, hb9⟩
            go_wp2_with fail
            refine hK.out _ _ ?_ (fun hHeld9 => ?_)
            · exact belowT (by assumption) hb9
            clear hK KK hb9 hHeld8
            try simp only [Act.put, List.setIfInBounds_toArray, List.set_cons_zero, List.set_cons_succ]
            refine wpAnyH_take (i := 8) (oi := ({ dst := some 48, op := .binOp .neq 57 (.tmp 44) (.tmp 47) 57, type := 4, pos := "slot.go:82", after := #[{ on := 4, ground := .data }, { on := 7, ground := .data }, { on := 3, ground := .guard }], guard := some (3, false) } : Oper)) (v := ?vs11_8) rfl rd10_plain (by as_aux_lemma => kernel_rfl) (by as_aux_lemma => kernel_rfl) (fun _ _ _ h => h) (Or.inl ⟨by rfl, ?ys11_8⟩) (by assumption) ?rs11_8
            case ys11_8 => (intro w hSw; (try dsimp only at hSw); go_simp; try with_reducible rfl)
            try simp only [Act.put, List.setIfInBounds_toArray, List.set_cons_zero, List.set_cons_succ]
            refine wpAnyH_take (i := 9) (oi := ({ dst := some 49, op := .pick (.tmp 43) (.const (.bool true)) (.tmp 48), type := 4, pos := "slot.go:82", after := #[{ on := 3, ground := .data }, { on := 8, ground := .data }], guard := none } : Oper)) (v := ?vs11_9) rfl rd10_plain (by as_aux_lemma => kernel_rfl) (by as_aux_lemma => kernel_rfl) (fun _ _ _ h => h) (Or.inl ⟨by rfl, ?ys11_9⟩) (by assumption) ?rs11_9
            case ys11_9 => (intro w hSw; (try dsimp only at hSw); go_simp; try with_reducible rfl)
            try simp only [Act.put, List.setIfInBounds_toArray, List.set_cons_zero, List.set_cons_succ]
            refine wpAnyH_take (i := 10) (oi := ({ dst := some 39, op := .assign (.tmp 49), type := 4, pos := "slot.go:82", after := #[{ on := 9, ground := .data }, { on := 7, ground := .chain }], guard := none } : Oper)) (v := ?vs11_10) rfl rd10_plain (by as_aux_lemma => kernel_rfl) (by as_aux_lemma => kernel_rfl) (fun _ _ _ h => h) (Or.inl ⟨by rfl, ?ys11_10⟩) (by assumption) ?rs11_10
            case ys11_10 => (intro w hSw; (try dsimp only at hSw); go_simp; try with_reducible rfl)
            try simp only [Act.put, List.setIfInBounds_toArray, List.set_cons_zero, List.set_cons_succ]
            refine wpAnyH_done (by as_aux_lemma => kernel_rfl) ?_ _
            refine NoPanic.normal ?_
            have HB8 := Lib.hid (belowT HB7.out hHeld9)
            have HQ8 := HQ7.out.keep hHeld9
            have c0 := HQ8.2.1.1.at 0 rfl; have f0 := HQ8.2.1.2 0 (by decide)
            have c1 := HQ8.2.1.1.at 1 rfl; have f1 := HQ8.2.1.2 1 (by decide)
            have c2 := HQ8.2.1.1.at 2 rfl; have f2 := HQ8.2.1.2 2 (by decide)
            clear RC RD HQ7 HN7 HR HV hno s0 s1 s2 hHeld9 hHeld HB7 HQ8 hW hQ ra0 ra1 ra2 ra3 ra4 ra5 ra6 ra7 ra8 ra9 ra10 ra11
            go_wp2
            exact bodyPost_ret (v := .tuple #[nv0, .int .u32 0, .int .i64 3]) (by simp [nv0, results, Try.results34, go_sem, *]) rfl ⟨by rw [hr.out], below_set3 HB8.out _ _ _⟩
          · have hr := Lib.hid (RD.out hno (by trivial) rfl rfl)
            change (Code.region 10 rd10 true).wp Try.prog _ _ _
            refine wp_region_noPanic ?_
            refine wp_region_held_drew (S := fun w' => Below W0.heap.size W0 w') (by kernel_rfl) ((Below.refl _ _).drew) (fun hHeld => ?_)
            refine wpAnyH_take (i := 0) (oi := ({ dst := some 40, op := .load 26 (.tmp 6), type := 26, pos := "slot.go:82", after := #[], guard := none } : Oper)) (v := ?vs12_0) rfl rd10_plain (by as_aux_lemma => kernel_rfl) (by as_aux_lemma => kernel_rfl) (fun _ _ _ h => h) (Or.inl ⟨by rfl, ?ys12_0⟩) (by assumption) ?rs12_0
            case ys12_0 => (intro w hSw; (try dsimp only at hSw); go_simp; try with_reducible rfl)
            try simp only [Act.put, List.setIfInBounds_toArray, List.set_cons_zero, List.set_cons_succ]
            refine wpAnyH_ready (rs := [1]) (by as_aux_lemma => kernel_rfl) (by simp) ?_
            refine AllReadyH.cons (o := ({ dst := some 41, op := .call { callee := .value (.func 17), args := #[.tmp 40], argTypes := #[26] }, type := 4, pos := "slot.go:82", after := #[{ on := 0, ground := .data }], guard := none } : Oper)) rfl (fun KK hK => ?_) AllReadyH.nil
            rw [if_pos (by rfl)]
            go_simp
            go_at_call 17; refine (HR.out _).mono ?_; rintro e w8 ⟨rfl, hb8⟩
            go_wp2_with fail
            refine hK.out _ _ ?_ (fun hHeld8 => ?_)
            · exact belowT (by assumption) hb8
            clear hK KK hb8
            try simp only [Act.put, List.setIfInBounds_toArray, List.set_cons_zero, List.set_cons_succ]
            refine wpAnyH_take (i := 2) (oi := ({ dst := some 42, op := .unOp .not 4 (.tmp 41), type := 4, pos := "slot.go:82", after := #[{ on := 1, ground := .data }], guard := none } : Oper)) (v := ?vs12_2) rfl rd10_plain (by as_aux_lemma => kernel_rfl) (by as_aux_lemma => kernel_rfl) (fun _ _ _ h => h) (Or.inl ⟨by rfl, ?ys12_2⟩) (by assumption) ?rs12_2
            case ys12_2 => (intro w hSw; (try dsimp only at hSw); go_simp; try with_reducible rfl)
            try simp only [Act.put, List.setIfInBounds_toArray, List.set_cons_zero, List.set_cons_succ]
            refine wpAnyH_take (i := 3) (oi := ({ dst := some 43, op := .move (.tmp 42), type := 4, pos := "slot.go:82", after := #[{ on := 2, ground := .data }, { on := 1, ground := .chain }], guard := none } : Oper)) (v := ?vs12_3) rfl rd10_plain (by as_aux_lemma => kernel_rfl) (by as_aux_lemma => kernel_rfl) (fun _ _ _ h => h) (Or.inl ⟨by rfl, ?ys12_3⟩) (by assumption) ?rs12_3
            case ys12_3 => (intro w hSw; (try dsimp only at hSw); go_simp; try with_reducible rfl)
            try simp only [Act.put, List.setIfInBounds_toArray, List.set_cons_zero, List.set_cons_succ]
            refine wpAnyH_take (i := 4) (oi := ({ dst := some 44, op := .load 57 (.tmp 5), type := 57, pos := "slot.go:82", after := #[{ on := 3, ground := .guard }], guard := some (3, false) } : Oper)) (v := ?vs12_4) rfl rd10_plain (by as_aux_lemma => kernel_rfl) (by as_aux_lemma => kernel_rfl) (fun _ _ _ h => h) (Or.inl ⟨by rfl, ?ys12_4⟩) (by assumption) ?rs12_4
            case ys12_4 => (intro w hSw; (try dsimp only at hSw); go_simp; try with_reducible rfl)
            try simp only [Act.put, List.setIfInBounds_toArray, List.set_cons_zero, List.set_cons_succ]
            refine wpAnyH_take (i := 5) (oi := ({ dst := some 45, op := .load 26 (.tmp 6), type := 26, pos := "slot.go:82", after := #[{ on := 3, ground := .guard }], guard := some (3, false) } : Oper)) (v := ?vs12_5) rfl rd10_plain (by as_aux_lemma => kernel_rfl) (by as_aux_lemma => kernel_rfl) (fun _ _ _ h => h) (Or.inl ⟨by rfl, ?ys12_5⟩) (by assumption) ?rs12_5
            case ys12_5 => (intro w hSw; (try dsimp only at hSw); go_simp; try with_reducible rfl)
            try simp only [Act.put, List.setIfInBounds_toArray, List.set_cons_zero, List.set_cons_succ]
            refine wpAnyH_take (i := 6) (oi := ({ dst := some 46, op := .move (.tmp 7), type := 45, pos := "slot.go:82", after := #[{ on := 3, ground := .guard }], guard := some (3, false) } : Oper)) (v := ?vs12_6) rfl rd10_plain (by as_aux_lemma => kernel_rfl) (by as_aux_lemma => kernel_rfl) (fun _ _ _ h => h) (Or.inl ⟨by rfl, ?ys12_6⟩) (by assumption) ?rs12_6
            case ys12_6 => (intro w hSw; (try dsimp only at hSw); go_simp; try with_reducible rfl)
            try simp only [Act.put, List.setIfInBounds_toArray, List.set_cons_zero, List.set_cons_succ]
            refine wpAnyH_ready (rs := [7]) (by as_aux_lemma => kernel_rfl) (by simp) ?_
            refine AllReadyH.cons (o := ({ dst := some 47, op := .call { callee := .value (.func 27), args := #[.tmp 45, .tmp 46], argTypes := #[26, 45] }, type := 57, pos := "slot.go:82", after := #[{ on := 5, ground := .data }, { on := 6, ground := .data }, { on := 3, ground := .chain }, { on := 3, ground := .guard }], guard := some (3, false) } : Oper)) rfl (fun KK hK => ?_) AllReadyH.nil
            rw [if_pos (by rfl)]
            go_simp
            go_at_call 27; refine (hW.out _).mono ?_; rintro e w9 ⟨rfl, hb9⟩
            go_wp2_with fail
            refine hK.out _ _ ?_ (fun hHeld9 => ?_)
            · exact belowT (by assumption) hb9
            clear hK KK hb9 hHeld8
            try simp only [Act.put, List.setIfInBounds_toArray, List.set_cons_zero, List.set_cons_succ]
            refine wpAnyH_take (i := 8) (oi := ({ dst := some 48, op := .binOp .neq 57 (.tmp 44) (.tmp 47) 57, type := 4, pos := "slot.go:82", after := #[{ on := 4, ground := .data }, { on := 7, ground := .data }, { on := 3, ground := .guard }], guard := some (3, false) } : Oper)) (v := ?vs12_8) rfl rd10_plain (by as_aux_lemma => kernel_rfl) (by as_aux_lemma => kernel_rfl) (fun _ _ _ h => h) (Or.inl ⟨by rfl, ?ys12_8⟩) (by assumption) ?rs12_8
            case ys12_8 => (intro w hSw; (try dsimp only at hSw); go_simp; try with_reducible rfl)
            try simp only [Act.put, List.setIfInBounds_toArray, List.set_cons_zero, List.set_cons_succ]
            refine wpAnyH_take (i := 9) (oi := ({ dst := some 49, op := .pick (.tmp 43) (.const (.bool true)) (.tmp 48), type := 4, pos := "slot.go:82", after := #[{ on := 3, ground := .data }, { on := 8, ground := .data }], guard := none } : Oper)) (v := ?vs12_9) rfl rd10_plain (by as_aux_lemma => kernel_rfl) (by as_aux_lemma => kernel_rfl) (fun _ _ _ h => h) (Or.inl ⟨by rfl, ?ys12_9⟩) (by assumption) ?rs12_9
            case ys12_9 => (intro w hSw; (try dsimp only at hSw); go_simp; try with_reducible rfl)
            try simp only [Act.put, List.setIfInBounds_toArray, List.set_cons_zero, List.set_cons_succ]
            refine wpAnyH_take (i := 10) (oi := ({ dst := some 39, op := .assign (.tmp 49), type := 4, pos := "slot.go:82", after := #[{ on := 9, ground := .data }, { on := 7, ground := .chain }], guard := none } : Oper)) (v := ?vs12_10) rfl rd10_plain (by as_aux_lemma => kernel_rfl) (by as_aux_lemma => kernel_rfl) (fun _ _ _ h => h) (Or.inl ⟨by rfl, ?ys12_10⟩) (by assumption) ?rs12_10
            case ys12_10 => (intro w hSw; (try dsimp only at hSw); go_simp; try with_reducible rfl)
            try simp only [Act.put, List.setIfInBounds_toArray, List.set_cons_zero, List.set_cons_succ]
            refine wpAnyH_done (by as_aux_lemma => kernel_rfl) ?_ _
            refine NoPanic.normal ?_
            have HB8 := Lib.hid (belowT HB7.out hHeld9)
            have HQ8 := HQ7.out.keep hHeld9
            have HN8 := HN7.out.keep hHeld9
            have c0 := HQ8.2.1.1.at 0 rfl; have f0 := HQ8.2.1.2 0 (by decide)
            have c1 := HQ8.2.1.1.at 1 rfl; have f1 := HQ8.2.1.2 1 (by decide)
            have c2 := HQ8.2.1.1.at 2 rfl; have f2 := HQ8.2.1.2 2 (by decide)
            have p0 := HN8.1.at 0 rfl
            have p1 := HN8.1.at 1 rfl
            have p2 := HN8.1.at 2 rfl
            clear RC RD HQ7 HN7 HR HV hno s0 s1 s2 hHeld9 hHeld HB7 HQ8 HN8 hW hQ ra0 ra1 ra2 ra3 ra4 ra5 ra6 ra7 ra8 ra9 ra10 ra11
            go_wp2
            exact bodyPost_ret (v := .tuple #[nv ⟨x5, x6, x7⟩, .int .u32 s, .int .i64 0]) (by simp [nv, results, Try.results34, go_sem, *]) rfl ⟨by rw [hr.out], below_set3 HB8.out _ _ _⟩
    · have t1 : ((x11 : Int) != gd) = true := by simp; omega
      have hr := Lib.hid (RA.out (Or.inr hx11))
      change (Code.region 6 rd6 true).wp Try.prog _ _ _
      refine wp_region_noPanic ?_
      refine wp_region_held_drew (S := fun w' => Below W0.heap.size W0 w') (by kernel_rfl) ((Below.refl _ _).drew) (fun hHeld => ?_)
      refine wpAnyH_take (i := 0) (oi := ({ dst := some 21, op := .indexAddr 57 (.tmp 5) (.const (.int .i64 0)), type := 0, pos := "slot.go:78", after := #[], guard := none } : Oper)) (v := ?vs13_0) rfl rd6_plain (by as_aux_lemma => kernel_rfl) (by as_aux_lemma => kernel_rfl) (fun _ _ _ h => h) (Or.inl ⟨by rfl, ?ys13_0⟩) (by assumption) ?rs13_0
      case ys13_0 => (intro w hSw; (try dsimp only at hSw); go_simp; try with_reducible rfl)
      try simp only [Act.put, List.setIfInBounds_toArray, List.set_cons_zero, List.set_cons_succ]
      refine wpAnyH_take (i := 1) (oi := ({ dst := some 22, op := .load 5 (.tmp 21), type := 5, pos := "slot.go:78", after := #[{ on := 0, ground := .data }], guard := none } : Oper)) (v := ?vs13_1) rfl rd6_plain (by as_aux_lemma => kernel_rfl) (by as_aux_lemma => kernel_rfl) (fun _ _ _ h => h) (Or.inl ⟨by rfl, ?ys13_1⟩) (by assumption) ?rs13_1
      case ys13_1 => (intro w hSw; (try dsimp only at hSw); go_simp; try with_reducible rfl)
      try simp only [Act.put, List.setIfInBounds_toArray, List.set_cons_zero, List.set_cons_succ]
      refine wpAnyH_take (i := 2) (oi := ({ dst := some 23, op := .move (.tmp 7), type := 45, pos := "slot.go:78", after := #[], guard := none } : Oper)) (v := ?vs13_2) rfl rd6_plain (by as_aux_lemma => kernel_rfl) (by as_aux_lemma => kernel_rfl) (fun _ _ _ h => h) (Or.inl ⟨by rfl, ?ys13_2⟩) (by assumption) ?rs13_2
      case ys13_2 => (intro w hSw; (try dsimp only at hSw); go_simp; try with_reducible rfl)
      try simp only [Act.put, List.setIfInBounds_toArray, List.set_cons_zero, List.set_cons_succ]
      refine wpAnyH_ready (rs := [3]) (by as_aux_lemma => kernel_rfl) (by simp) ?_
      refine AllReadyH.cons (o := ({ dst := some 24, op := .call { callee := .value (.func 35), args := #[.tmp 23], argTypes := #[45] }, type := 5, pos := "slot.go:78", after := #[{ on := 2, ground := .data }], guard := none } : Oper)) rfl (fun KK hK => ?_) AllReadyH.nil
      rw [if_pos (by rfl)]
      go_simp
      go_at_call 35; refine (HG.out _).mono ?_; rintro e w5 ⟨rfl, hb5⟩
      go_wp2_with fail
      refine hK.out _ _ ?_ (fun hHeld5 => ?_)
      · exact belowT (by assumption) hb5
      clear hK KK hb5
      try simp only [Act.put, List.setIfInBounds_toArray, List.set_cons_zero, List.set_cons_succ]
      refine wpAnyH_take (i := 4) (oi := ({ dst := some 25, op := .binOp .neq 5 (.tmp 22) (.tmp 24) 5, type := 4, pos := "slot.go:78", after := #[{ on := 1, ground := .data }, { on := 3, ground := .data }], guard := none } : Oper)) (v := ?vs13_4) rfl rd6_plain (by as_aux_lemma => kernel_rfl) (by as_aux_lemma => kernel_rfl) (fun _ _ _ h => h) (Or.inl ⟨by rfl, ?ys13_4⟩) (by assumption) ?rs13_4
      case ys13_4 => (intro w hSw; (try dsimp only at hSw); go_simp; try with_reducible rfl)
      try simp only [Act.put, List.setIfInBounds_toArray, List.set_cons_zero, List.set_cons_succ]
      refine wpAnyH_take (i := 5) (oi := ({ dst := some 26, op := .move (.tmp 25), type := 4, pos := "slot.go:78", after := #[{ on := 4, ground := .data }, { on := 3, ground := .chain }], guard := none } : Oper)) (v := ?vs13_5) rfl rd6_plain (by as_aux_lemma => kernel_rfl) (by as_aux_lemma => kernel_rfl) (fun _ _ _ h => h) (Or.inl ⟨by rfl, ?ys13_5⟩) (by assumption) ?rs13_5
      case ys13_5 => (intro w hSw; (try dsimp only at hSw); go_simp; try with_reducible rfl)
      try simp only [Act.put, List.setIfInBounds_toArray, List.set_cons_zero, List.set_cons_succ]
      refine wpAnyH_take (i := 6) (oi := ({ dst := some 27, op := .indexAddr 57 (.tmp 5) (.const (.int .i64 11)), type := 0, pos := "slot.go:78", after := #[{ on := 5, ground := .guard }], guard := some (5, false) } : Oper)) (v := ?vs13_6) rfl rd6_plain (by as_aux_lemma => kernel_rfl) (by as_aux_lemma => kernel_rfl) (fun _ _ _ h => h) (Or.inl ⟨by rfl, ?ys13_6⟩) (by assumption) ?rs13_6
      case ys13_6 => (intro w hSw; (try dsimp only at hSw); go_simp; try with_reducible rfl)
      try simp only [Act.put, List.setIfInBounds_toArray, List.set_cons_zero, List.set_cons_succ]
      refine wpAnyH_take (i := 7) (oi := ({ dst := some 28, op := .load 5 (.tmp 27), type := 5, pos := "slot.go:78", after := #[{ on := 6, ground := .data }, { on := 5, ground := .guard }], guard := some (5, false) } : Oper)) (v := ?vs13_7) rfl rd6_plain (by as_aux_lemma => kernel_rfl) (by as_aux_lemma => kernel_rfl) (fun _ _ _ h => h) (Or.inl ⟨by rfl, ?ys13_7⟩) (by assumption) ?rs13_7
      case ys13_7 => (intro w hSw; (try dsimp only at hSw); go_simp; try with_reducible rfl)
      try simp only [Act.put, List.setIfInBounds_toArray, List.set_cons_zero, List.set_cons_succ]
      refine wpAnyH_take (i := 8) (oi := ({ dst := some 29, op := .move (.tmp 7), type := 45, pos := "slot.go:78", after := #[{ on := 5, ground := .guard }], guard := some (5, false) } : Oper)) (v := ?vs13_8) rfl rd6_plain (by as_aux_lemma => kernel_rfl) (by as_aux_lemma => kernel_rfl) (fun _ _ _ h => h) (Or.inl ⟨by rfl, ?ys13_8⟩) (by assumption) ?rs13_8
      case ys13_8 => (intro w hSw; (try dsimp only at hSw); go_simp; try with_reducible rfl)
      try simp only [Act.put, List.setIfInBounds_toArray, List.set_cons_zero, List.set_cons_succ]
      refine wpAnyH_ready (rs := [9]) (by as_aux_lemma => kernel_rfl) (by simp) ?_
      refine AllReadyH.cons (o := ({ dst := some 30, op := .call { callee := .value (.func 35), args := #[.tmp 29], argTypes := #[45] }, type := 5, pos := "slot.go:78", after := #[{ on := 8, ground := .data }, { on := 5, ground := .chain }, { on := 5, ground := .guard }], guard := some (5, false) } : Oper)) rfl (fun KK hK => ?_) AllReadyH.nil
      rw [if_pos (by rfl)]
      go_simp
      go_at_call 35; refine (HG.out _).mono ?_; rintro e w6 ⟨rfl, hb6⟩
      go_wp2_with fail
      refine hK.out _ _ ?_ (fun hHeld6 => ?_)
      · exact belowT (by assumption) hb6
      clear hK KK hb6 hHeld5
      try simp only [Act.put, List.setIfInBounds_toArray, List.set_cons_zero, List.set_cons_succ]
      refine wpAnyH_take (i := 10) (oi := ({ dst := some 31, op := .binOp .neq 5 (.tmp 28) (.tmp 30) 5, type := 4, pos := "slot.go:78", after := #[{ on := 7, ground := .data }, { on := 9, ground := .data }, { on := 5, ground := .guard }], guard := some (5, false) } : Oper)) (v := ?vs13_10) rfl rd6_plain (by as_aux_lemma => kernel_rfl) (by as_aux_lemma => kernel_rfl) (fun _ _ _ h => h) (Or.inl ⟨by rfl, ?ys13_10⟩) (by assumption) ?rs13_10
      case ys13_10 => (intro w hSw; (try dsimp only at hSw); go_simp; try with_reducible rfl)
      try simp only [Act.put, List.setIfInBounds_toArray, List.set_cons_zero, List.set_cons_succ]
      refine wpAnyH_take (i := 11) (oi := ({ dst := some 32, op := .pick (.tmp 26) (.const (.bool true)) (.tmp 31), type := 4, pos := "slot.go:78", after := #[{ on := 5, ground := .data }, { on := 10, ground := .data }], guard := none } : Oper)) (v := ?vs13_11) rfl rd6_plain (by as_aux_lemma => kernel_rfl) (by as_aux_lemma => kernel_rfl) (fun _ _ _ h => h) (Or.inl ⟨by rfl, ?ys13_11⟩) (by assumption) ?rs13_11
      case ys13_11 => (intro w hSw; (try dsimp only at hSw); go_simp; try with_reducible rfl)
      try simp only [Act.put, List.setIfInBounds_toArray, List.set_cons_zero, List.set_cons_succ]
      refine wpAnyH_take (i := 12) (oi := ({ dst := some 20, op := .assign (.tmp 32), type := 4, pos := "slot.go:78", after := #[{ on := 11, ground := .data }, { on := 9, ground := .chain }], guard := none } : Oper)) (v := ?vs13_12) rfl rd6_plain (by as_aux_lemma => kernel_rfl) (by as_aux_lemma => kernel_rfl) (fun _ _ _ h => h) (Or.inl ⟨by rfl, ?ys13_12⟩) (by assumption) ?rs13_12
      case ys13_12 => (intro w hSw; (try dsimp only at hSw); go_simp; try with_reducible rfl)
      try simp only [Act.put, List.setIfInBounds_toArray, List.set_cons_zero, List.set_cons_succ]
      refine wpAnyH_done (by as_aux_lemma => kernel_rfl) ?_ _
      refine NoPanic.normal ?_
      have HB6 := Lib.hid (belowT HB3.out hHeld6)
      have HQ6 := HQ3.out.keep hHeld6
      have c0 := HQ6.2.1.1.at 0 rfl; have f0 := HQ6.2.1.2 0 (by decide)
      have c1 := HQ6.2.1.1.at 1 rfl; have f1 := HQ6.2.1.2 1 (by decide)
      have c2 := HQ6.2.1.1.at 2 rfl; have f2 := HQ6.2.1.2 2 (by decide)
      clear HB3 HQ3 HN3 HQ6 r0 r11 t0 t1 RA RB RC RD hx0 hx11 hHeld6 hHeld HG HR HW HQ HE HV
      go_wp2
      exact bodyPost_ret (v := .tuple #[nv0, .int .u32 0, .int .i64 3]) (by simp [nv0, results, Try.results34, go_sem, *]) rfl ⟨by rw [hr.out], below_set3 HB6.out _ _ _⟩
  · have t0 : ((x0 : Int) != gd) = true := by simp; omega
    have hr := Lib.hid (RA.out (Or.inl hx0))
    change (Code.region 6 rd6 true).wp Try.prog _ _ _
    refine wp_region_noPanic ?_
    refine wp_region_held_drew (S := fun w' => Below W0.heap.size W0 w') (by kernel_rfl) ((Below.refl _ _).drew) (fun hHeld => ?_)
    refine wpAnyH_take (i := 0) (oi := ({ dst := some 21, op := .indexAddr 57 (.tmp 5) (.const (.int .i64 0)), type := 0, pos := "slot.go:78", after := #[], guard := none } : Oper)) (v := ?vs14_0) rfl rd6_plain (by as_aux_lemma => kernel_rfl) (by as_aux_lemma => kernel_rfl) (fun _ _ _ h => h) (Or.inl ⟨by rfl, ?ys14_0⟩) (by assumption) ?rs14_0
    case ys14_0 => (intro w hSw; (try dsimp only at hSw); go_simp; try with_reducible rfl)
    try simp only [Act.put, List.setIfInBounds_toArray, List.set_cons_zero, List.set_cons_succ]
    refine wpAnyH_take (i := 1) (oi := ({ dst := some 22, op := .load 5 (.tmp 21), type := 5, pos := "slot.go:78", after := #[{ on := 0, ground := .data }], guard := none } : Oper)) (v := ?vs14_1) rfl rd6_plain (by as_aux_lemma => kernel_rfl) (by as_aux_lemma => kernel_rfl) (fun _ _ _ h => h) (Or.inl ⟨by rfl, ?ys14_1⟩) (by assumption) ?rs14_1
    case ys14_1 => (intro w hSw; (try dsimp only at hSw); go_simp; try with_reducible rfl)
    try simp only [Act.put, List.setIfInBounds_toArray, List.set_cons_zero, List.set_cons_succ]
    refine wpAnyH_take (i := 2) (oi := ({ dst := some 23, op := .move (.tmp 7), type := 45, pos := "slot.go:78", after := #[], guard := none } : Oper)) (v := ?vs14_2) rfl rd6_plain (by as_aux_lemma => kernel_rfl) (by as_aux_lemma => kernel_rfl) (fun _ _ _ h => h) (Or.inl ⟨by rfl, ?ys14_2⟩) (by assumption) ?rs14_2
    case ys14_2 => (intro w hSw; (try dsimp only at hSw); go_simp; try with_reducible rfl)
    try simp only [Act.put, List.setIfInBounds_toArray, List.set_cons_zero, List.set_cons_succ]
    refine wpAnyH_ready (rs := [3]) (by as_aux_lemma => kernel_rfl) (by simp) ?_
    refine AllReadyH.cons (o := ({ dst := some 24, op := .call { callee := .value (.func 35), args := #[.tmp 23], argTypes := #[45] }, type := 5, pos := "slot.go:78", after := #[{ on := 2, ground := .data }], guard := none } : Oper)) rfl (fun KK hK => ?_) AllReadyH.nil
    rw [if_pos (by rfl)]
    go_simp
    go_at_call 35; refine (HG.out _).mono ?_; rintro e w5 ⟨rfl, hb5⟩
    go_wp2_with fail
    refine hK.out _ _ ?_ (fun hHeld5 => ?_)
    · exact belowT (by assumption) hb5
    clear hK KK hb5
    try simp only [Act.put, List.setIfInBounds_toArray, List.set_cons_zero, List.set_cons_succ]
    refine wpAnyH_take (i := 4) (oi := ({ dst := some 25, op := .binOp .neq 5 (.tmp 22) (.tmp 24) 5, type := 4, pos := "slot.go:78", after := #[{ on := 1, ground := .data }, { on := 3, ground := .data }], guard := none } : Oper)) (v := ?vs14_4) rfl rd6_plain (by as_aux_lemma => kernel_rfl) (by as_aux_lemma => kernel_rfl) (fun _ _ _ h => h) (Or.inl ⟨by rfl, ?ys14_4⟩) (by assumption) ?rs14_4
    case ys14_4 => (intro w hSw; (try dsimp only at hSw); go_simp; try with_reducible rfl)
    try simp only [Act.put, List.setIfInBounds_toArray, List.set_cons_zero, List.set_cons_succ]
    refine wpAnyH_take (i := 5) (oi := ({ dst := some 26, op := .move (.tmp 25), type := 4, pos := "slot.go:78", after := #[{ on := 4, ground := .data }, { on := 3, ground := .chain }], guard := none } : Oper)) (v := ?vs14_5) rfl rd6_plain (by as_aux_lemma => kernel_rfl) (by as_aux_lemma => kernel_rfl) (fun _ _ _ h => h) (Or.inl ⟨by rfl, ?ys14_5⟩) (by assumption) ?rs14_5
    case ys14_5 => (intro w hSw; (try dsimp only at hSw); go_simp; try with_reducible rfl)
    try simp only [Act.put, List.setIfInBounds_toArray, List.set_cons_zero, List.set_cons_succ]
    refine wpAnyH_take (i := 6) (oi := ({ dst := some 27, op := .indexAddr 57 (.tmp 5) (.const (.int .i64 11)), type := 0, pos := "slot.go:78", after := #[{ on := 5, ground := .guard }], guard := some (5, false) } : Oper)) (v := undef) rfl rd6_plain (by as_aux_lemma => kernel_rfl) (by as_aux_lemma => kernel_rfl) (fun _ _ _ h => h) (Or.inr ⟨by rfl, rfl⟩) (by assumption) ?_
    try simp only [Act.put, List.setIfInBounds_toArray, List.set_cons_zero, List.set_cons_succ]
    refine wpAnyH_take (i := 7) (oi := ({ dst := some 28, op := .load 5 (.tmp 27), type := 5, pos := "slot.go:78", after := #[{ on := 6, ground := .data }, { on := 5, ground := .guard }], guard := some (5, false) } : Oper)) (v := undef) rfl rd6_plain (by as_aux_lemma => kernel_rfl) (by as_aux_lemma => kernel_rfl) (fun _ _ _ h => h) (Or.inr ⟨by rfl, rfl⟩) (by assumption) ?_
    try simp only [Act.put, List.setIfInBounds_toArray, List.set_cons_zero, List.set_cons_succ]
    refine wpAnyH_take (i := 8) (oi := ({ dst := some 29, op := .move (.tmp 7), type := 45, pos := "slot.go:78", after := #[{ on := 5, ground := .guard }], guard := some (5, false) } : Oper)) (v := undef) rfl rd6_plain (by as_aux_lemma => kernel_rfl) (by as_aux_lemma => kernel_rfl) (fun _ _ _ h => h) (Or.inr ⟨by rfl, rfl⟩) (by assumption) ?_
    try simp only [Act.put, List.setIfInBounds_toArray, List.set_cons_zero, List.set_cons_succ]
    refine wpAnyH_take (i := 9) (oi := ({ dst := some 30, op := .call { callee := .value (.func 35), args := #[.tmp 29], argTypes := #[45] }, type := 5, pos := "slot.go:78", after := #[{ on := 8, ground := .data }, { on := 5, ground := .chain }, { on := 5, ground := .guard }], guard := some (5, false) } : Oper)) (v := undef) rfl rd6_plain (by as_aux_lemma => kernel_rfl) (by as_aux_lemma => kernel_rfl) (fun _ _ _ h => h) (Or.inr ⟨by rfl, rfl⟩) (by assumption) ?_
    try simp only [Act.put, List.setIfInBounds_toArray, List.set_cons_zero, List.set_cons_succ]
    refine wpAnyH_take (i := 10) (oi := ({ dst := some 31, op := .binOp .neq 5 (.tmp 28) (.tmp 30) 5, type := 4, pos := "slot.go:78", after := #[{ on := 7, ground := .data }, { on := 9, ground := .data }, { on := 5, ground := .guard }], guard := some (5, false) } : Oper)) (v := undef) rfl rd6_plain (by as_aux_lemma => kernel_rfl) (by as_aux_lemma => kernel_rfl) (fun _ _ _ h => h) (Or.inr ⟨by rfl, rfl⟩) (by assumption) ?_
    try simp only [Act.put, List.setIfInBounds_toArray, List.set_cons_zero, List.set_cons_succ]
    refine wpAnyH_take (i := 11) (oi := ({ dst := some 32, op := .pick (.tmp 26) (.const (.bool true)) (.tmp 31), type := 4, pos := "slot.go:78", after := #[{ on := 5, ground := .data }, { on := 10, ground := .data }], guard := none } : Oper)) (v := ?vs14_11) rfl rd6_plain (by as_aux_lemma => kernel_rfl) (by as_aux_lemma => kernel_rfl) (fun _ _ _ h => h) (Or.inl ⟨by rfl, ?ys14_11⟩) (by assumption) ?rs14_11
    case ys14_11 => (intro w hSw; (try dsimp only at hSw); go_simp; try with_reducible rfl)
    try simp only [Act.put, List.setIfInBounds_toArray, List.set_cons_zero, List.set_cons_succ]
    refine wpAnyH_take (i := 12) (oi := ({ dst := some 20, op := .assign (.tmp 32), type := 4, pos := "slot.go:78", after := #[{ on := 11, ground := .data }, { on := 9, ground := .chain }], guard := none } : Oper)) (v := ?vs14_12) rfl rd6_plain (by as_aux_lemma => kernel_rfl) (by as_aux_lemma => kernel_rfl) (fun _ _ _ h => h) (Or.inl ⟨by rfl, ?ys14_12⟩) (by assumption) ?rs14_12
    case ys14_12 => (intro w hSw; (try dsimp only at hSw); go_simp; try with_reducible rfl)
    try simp only [Act.put, List.setIfInBounds_toArray, List.set_cons_zero, List.set_cons_succ]
    refine wpAnyH_done (by as_aux_lemma => kernel_rfl) ?_ _
    refine NoPanic.normal ?_
    have HB6 := Lib.hid (belowT HB3.out hHeld5)
    have HQ6 := HQ3.out.keep hHeld5
    have c0 := HQ6.2.1.1.at 0 rfl; have f0 := HQ6.2.1.2 0 (by decide)
    have c1 := HQ6.2.1.1.at 1 rfl; have f1 := HQ6.2.1.2 1 (by decide)
    have c2 := HQ6.2.1.1.at 2 rfl; have f2 := HQ6.2.1.2 2 (by decide)
    clear HB3 HQ3 HN3 HQ6 r0 r11 t0 RA RB RC RD hx0 hHeld5 hHeld HG HR HW HQ HE HV
    go_wp2
    exact bodyPost_ret (v := .tuple #[nv0, .int .u32 0, .int .i64 3]) (by simp [nv0, results, Try.results34, go_sem, *]) rfl ⟨by rw [hr.out], below_set3 HB6.out _ _ _⟩

theorem same_iff {l : List UInt8} (h : l.length = 12) (hg : ¬ (l.getD 0 0 ≠ guardN (numN l) ∨ l.getD 11 0 ≠ guardN (numN l))) (hf : fitsB (l.take 11) = true) (hr : rightN (ofN l) = true) : slotN (ofN l) (numN l) = l ↔ l.getD 8 0 = 1 := by
  constructor
  · intro e
    obtain ⟨a, b, c, d, _, eb⟩ := body_nine (ofN l) (numN l)
    have e8 : (slotN (ofN l) (numN l)).getD 8 0 = 1 := by
      unfold slotN withSum
      rw [eb]; rfl
    rwa [e] at e8
  · intro e
    have k : readN l = (ofN l, numN l, 0) := by
      unfold readN
      rw [if_neg (by omega), if_neg (by rintro (k | k); exact hg (Or.inl k); exact hg (Or.inr (fun j => k (by rw [j]; exact (Classical.byContradiction fun i => hg (Or.inl (Ne.symm i)))))) ), if_neg (by rw [hf]; simp), if_neg (by rintro (k | k); rw [hr] at k; cases k; exact k e)]
    exact (read_slot_back l _ _ k).2.2
end Lan18
end Go.Proofs.Ytdalajfjikbcaaa
