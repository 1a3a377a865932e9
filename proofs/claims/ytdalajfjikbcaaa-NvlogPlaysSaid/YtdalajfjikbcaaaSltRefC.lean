/- Read of the document's own answers for layer 18. -/
import Derived.Test.YtdalajfjikbcaaaSltRefA
import Derived.Test.YtdalajfjikbcaaaRefGet
import Derived.Test.YtdalajfjikbcaaaSp
import Derived.Test.YtdalajfjikbcaaaV64
import Derived.BigQuiet
namespace Go.Proofs.Ytdalajfjikbcaaa
open Go.RowKit

def nv0 : Value := .agg #[.int .i64 0, .int .i64 0, .int .i64 0]
theorem below_set3 {w w' : World} (h : Below w.heap.size w w') (u v x : Value) : Below w.heap.size w (((w'.setCell ⟨w.heap.size, 0, none⟩ u).setCell ⟨w.heap.size, 1, none⟩ v).setCell ⟨w.heap.size, 2, none⟩ x) :=
  ((h.setCell (p := ⟨w.heap.size, 0, none⟩) (Nat.le_refl _) _).setCell (p := ⟨w.heap.size, 1, none⟩) (Nat.le_refl _) _).setCell (p := ⟨w.heap.size, 2, none⟩) (Nat.le_refl _) _

namespace Ref18
set_option maxRecDepth 100000 in
theorem Read_short (ba : Option Addr) (n cap : Nat) (w : World) (h : ((n : Int) == 12) = false) (_hn : (n : Int) ≤ 9223372036854775807) :
    Calls Try.prog 28 #[.slice ba n cap] w fun e w' => e = .returned (.tuple #[nv0, .int .u32 0, .int .i64 2]) ∧ Below w.heap.size w w' := by
  have B1 := below1 w (.cells #[.int .i64 0, .int .i64 0, .int .i64 0] 26)
  go_enter Try.func28, Try.ntmps28
  go_wp2
  exact bodyPost_ret (v := .tuple #[nv0, .int .u32 0, .int .i64 2]) (by simp [nv0, results, Try.results28, go_sem]) rfl ⟨rfl, B1⟩

theorem head_came {w : World} {b o cap : Nat} {l : List UInt8} (L : Lies w b o l) (h : l.length = 12) (hc : l.length ≤ cap) (hm : cap ≤ maxLen) : Came w (some ⟨b, o, none⟩) cap (l.take 11) ∧ (l.take 11).length = 11 := by
  have e : (l.take 11).length = 11 := by rw [List.length_take]; omega
  have k := L.part 0 11 (by omega)
  rw [List.drop_zero, Nat.add_zero] at k
  exact ⟨⟨by omega, by omega, fun h => (by cases h), fun _ => ⟨b, o, rfl, k⟩⟩, e⟩

/-- The operations of a drawn region, as the translation has them. -/
def read4 : Array Oper := #[
  { dst := some 17, op := .move (.tmp 0), type := 22, pos := "ref.go:35", after := #[], guard := none },
  { dst := some 18, op := .indexAddr 22 (.tmp 17) (.const (.int .i64 0)), type := 0, pos := "ref.go:35", after := #[{ on := 0, ground := .data }], guard := none },
  { dst := some 19, op := .load 5 (.tmp 18), type := 5, pos := "ref.go:35", after := #[{ on := 1, ground := .data }], guard := none },
  { dst := some 20, op := .move (.tmp 5), type := 42, pos := "ref.go:35", after := #[], guard := none },
  { dst := some 21, op := .convert 42 45 (.tmp 20), type := 45, pos := "ref.go:35", after := #[{ on := 3, ground := .data }], guard := none },
  { dst := some 22, op := .call { callee := .value (.func 31), args := #[.tmp 21], argTypes := #[45] }, type := 5, pos := "ref.go:35", after := #[{ on := 4, ground := .data }], guard := none },
  { dst := some 23, op := .binOp .neq 5 (.tmp 19) (.tmp 22) 5, type := 4, pos := "ref.go:35", after := #[{ on := 2, ground := .data }, { on := 5, ground := .data }], guard := none },
  { dst := some 24, op := .move (.tmp 23), type := 4, pos := "ref.go:35", after := #[{ on := 6, ground := .data }, { on := 5, ground := .chain }], guard := none },
  { dst := some 25, op := .move (.tmp 0), type := 22, pos := "ref.go:35", after := #[{ on := 7, ground := .guard }], guard := some (7, false) },
  { dst := some 26, op := .indexAddr 22 (.tmp 25) (.const (.int .i64 11)), type := 0, pos := "ref.go:35", after := #[{ on := 8, ground := .data }, { on := 7, ground := .guard }], guard := some (7, false) },
  { dst := some 27, op := .load 5 (.tmp 26), type := 5, pos := "ref.go:35", after := #[{ on := 9, ground := .data }, { on := 7, ground := .guard }], guard := some (7, false) },
  { dst := some 28, op := .move (.tmp 0), type := 22, pos := "ref.go:35", after := #[{ on := 7, ground := .guard }], guard := some (7, false) },
  { dst := some 29, op := .indexAddr 22 (.tmp 28) (.const (.int .i64 0)), type := 0, pos := "ref.go:35", after := #[{ on := 11, ground := .data }, { on := 7, ground := .guard }], guard := some (7, false) },
  { dst := some 30, op := .load 5 (.tmp 29), type := 5, pos := "ref.go:35", after := #[{ on := 12, ground := .data }, { on := 7, ground := .guard }], guard := some (7, false) },
  { dst := some 31, op := .binOp .neq 5 (.tmp 27) (.tmp 30) 5, type := 4, pos := "ref.go:35", after := #[{ on := 10, ground := .data }, { on := 13, ground := .data }, { on := 7, ground := .guard }], guard := some (7, false) },
  { dst := some 32, op := .pick (.tmp 24) (.const (.bool true)) (.tmp 31), type := 4, pos := "ref.go:35", after := #[{ on := 7, ground := .data }, { on := 14, ground := .data }], guard := none }]
theorem read4_plain : Region.noSelect read4 = true := by kernel_rfl

/-- The operations of a drawn region, as the translation has them. -/
def read8 : Array Oper := #[
  { dst := some 39, op := .move (.tmp 0), type := 22, pos := "ref.go:41", after := #[], guard := none },
  { dst := some 40, op := .indexAddr 22 (.tmp 39) (.const (.int .i64 5)), type := 0, pos := "ref.go:41", after := #[{ on := 0, ground := .data }], guard := none },
  { dst := some 41, op := .load 5 (.tmp 40), type := 5, pos := "ref.go:41", after := #[{ on := 1, ground := .data }], guard := none },
  { dst := some 42, op := .convert 5 3 (.tmp 41), type := 3, pos := "ref.go:41", after := #[{ on := 2, ground := .data }], guard := none },
  { dst := some 43, op := .move (.tmp 0), type := 22, pos := "ref.go:41", after := #[], guard := none },
  { dst := some 44, op := .indexAddr 22 (.tmp 43) (.const (.int .i64 6)), type := 0, pos := "ref.go:41", after := #[{ on := 4, ground := .data }], guard := none },
  { dst := some 45, op := .load 5 (.tmp 44), type := 5, pos := "ref.go:41", after := #[{ on := 5, ground := .data }], guard := none },
  { dst := some 46, op := .convert 5 3 (.tmp 45), type := 3, pos := "ref.go:41", after := #[{ on := 6, ground := .data }], guard := none },
  { dst := some 47, op := .move (.tmp 0), type := 22, pos := "ref.go:41", after := #[], guard := none },
  { dst := some 48, op := .indexAddr 22 (.tmp 47) (.const (.int .i64 7)), type := 0, pos := "ref.go:41", after := #[{ on := 8, ground := .data }], guard := none },
  { dst := some 49, op := .load 5 (.tmp 48), type := 5, pos := "ref.go:41", after := #[{ on := 9, ground := .data }], guard := none },
  { dst := some 50, op := .convert 5 3 (.tmp 49), type := 3, pos := "ref.go:41", after := #[{ on := 10, ground := .data }], guard := none },
  { dst := some 51, op := .build 26 #[(0, .tmp 42), (1, .tmp 46), (2, .tmp 50)], type := 26, pos := "ref.go:41", after := #[{ on := 3, ground := .data }, { on := 7, ground := .data }, { on := 11, ground := .data }], guard := none },
  { dst := some 7, op := .alloc 26, type := 0, pos := "ref.go:41", after := #[], guard := none },
  { dst := none, op := .store 26 (.tmp 7) (.tmp 51), type := 0, pos := "ref.go:41", after := #[{ on := 13, ground := .data }, { on := 12, ground := .data }, { on := 0, ground := .phase }, { on := 1, ground := .phase }, { on := 2, ground := .phase }, { on := 3, ground := .phase }, { on := 4, ground := .phase }, { on := 5, ground := .phase }, { on := 6, ground := .phase }, { on := 7, ground := .phase }, { on := 8, ground := .phase }, { on := 9, ground := .phase }, { on := 10, ground := .phase }, { on := 11, ground := .phase }, { on := 12, ground := .phase }, { on := 13, ground := .phase }], guard := none }]
theorem read8_plain : Region.noSelect read8 = true := by kernel_rfl

set_option maxHeartbeats 4000000 in
set_option maxRecDepth 100000 in
theorem read_core {w : World} {b o cap : Nat} {l : List UInt8} (L : Lies w b o l) (h : l.length = 12) (hc : l.length ≤ cap) (hm : cap ≤ maxLen)
    (x0 x5 x6 x7 x8 x11 s : Nat) (g : Nat) (ft good : Bool) (r : Value) (e0 : (l.getD 0 0).toNat = x0) (e5 : (l.getD 5 0).toNat = x5) (e6 : (l.getD 6 0).toNat = x6) (e7 : (l.getD 7 0).toNat = x7) (e8 : (l.getD 8 0).toNat = x8) (e11 : (l.getD 11 0).toNat = x11)
    (es : sofar l 1 4 = s) (hs : s < 4294967296) (hft : fitsB (l.take 11) = ft) (hgood : rightN ⟨x5, x6, x7⟩ = good) (h5 : (x5 : Int) ≤ 255) (h6 : (x6 : Int) ≤ 255) (h7 : (x7 : Int) ≤ 255)
    (hA : x0 ≠ g ∨ x11 ≠ x0 → r = .tuple #[nv0, .int .u32 0, .int .i64 3]) (hB : ¬ (x0 ≠ g ∨ x11 ≠ x0) → ft = false → r = .tuple #[nv0, .int .u32 0, .int .i64 5])
    (hC : ¬ (x0 ≠ g ∨ x11 ≠ x0) → ft = true → (good = false ∨ x8 ≠ 1) → r = .tuple #[nv0, .int .u32 0, .int .i64 3])
    (hD : ¬ (x0 ≠ g ∨ x11 ≠ x0) → ft = true → ¬ (good = false ∨ x8 ≠ 1) → r = .tuple #[nv ⟨x5, x6, x7⟩, .int .u32 s, .int .i64 0])
    (HG : Hid (∀ w, Calls Try.prog 31 #[.int .u32 s] w fun e w' => e = .returned (.int .u8 (g : Int)) ∧ Below w.heap.size w w')) :
    Calls Try.prog 28 #[.slice (some ⟨b, o, none⟩) 12 cap] w fun e w' => e = .returned r ∧ Below w.heap.size w w' := by
  have RA := Lib.hid hA
  have RB := Lib.hid hB
  have RC := Lib.hid hC
  have RD := Lib.hid hD
  clear hA hB hC hD
  have B1 := below1 w (.cells #[.int .i64 0, .int .i64 0, .int .i64 0] 26)
  have S1 := Lib.hid ((Sp.none w).more [.int .i64 0, .int .i64 0, .int .i64 0] 26)
  have LK := Lib.hid fun w' (hb : Below w.heap.size w w') => L.keep hb
  have hcap : (11 : Int) ≤ cap := by omega
  have hm' : (cap : Int) ≤ 9223372036854775807 := by unfold maxLen at hm; omega
  have PC := Lib.hid fun w' (hb : Below w.heap.size w w') => head_came (L.keep hb) h hc hm
  have GT := Ref.Get_ok b o cap 1 4 l (w.alloc (.cells #[.int .i64 0, .int .i64 0, .int .i64 0] 26)) (by omega) (by decide) (by decide) (by omega) (L.keep B1)
  rw [es, h] at GT
  have GTH := Lib.hid GT
  clear GT
  have RR := Lib.hid fun w => Right_any ⟨x5, x6, x7⟩ w
  rw [hgood] at RR
  have L1 := L.keep B1
  have q0 := L1 0 (by omega)
  have q11 := L1 11 (by omega)
  rw [e0, Nat.add_zero] at q0
  rw [e11] at q11
  have HLL := Lib.hid h
  have ews : IntKind.u32.wrap (s : Int) = (s : Int) := by rw [IntKind.wrap_u32]; omega
  clear L L1 hm es h hc
  go_enter Try.func28, Try.ntmps28
  go_wp2_with fail
  refine GTH.out.mono ?_; rintro e wx ⟨rfl, rfl⟩
  clear GTH
  go_upto_region 4 with fail
  obtain ⟨W0, hW0⟩ : ∃ W0, W0 = w.alloc (.cells #[.int .i64 0, .int .i64 0, .int .i64 0] 26) := ⟨_, rfl⟩
  rw [← hW0] at B1 S1 q0 q11 ⊢
  clear hW0
  have r0 : ∀ w', Below W0.heap.size W0 w' → w'.cell? ⟨b, o, none⟩ = some (.int .u8 x0) := fun w' h => keepc h q0
  have r11 : ∀ w', Below W0.heap.size W0 w' → w'.cell? ⟨b, o + 11, none⟩ = some (.int .u8 x11) := fun w' h => keepc h q11
  by_cases hx0 : x0 = g
  · have t0 : ((x0 : Int) == g) = true := by simp; omega
    by_cases hx11 : x11 = x0
    · have t1 : ((x11 : Int) == x0) = true := by simp; omega
      have hno : ¬ (x0 ≠ g ∨ x11 ≠ x0) := by omega
      change (Code.region 4 read4 true).wp Try.prog _ _ _
      refine wp_region_noPanic ?_
      refine wp_region_held_drew (S := fun w' => Below W0.heap.size W0 w') (by kernel_rfl) ((Below.refl _ _).drew) (fun hHeld => ?_)
      refine wpAnyH_take (i := 0) (oi := ({ dst := some 17, op := .move (.tmp 0), type := 22, pos := "ref.go:35", after := #[], guard := none } : Oper)) (v := ?vs1_0) rfl read4_plain (by as_aux_lemma => kernel_rfl) (by as_aux_lemma => kernel_rfl) (fun _ _ _ h => h) (Or.inl ⟨by rfl, ?ys1_0⟩) (by assumption) ?rs1_0
      case ys1_0 => (intro w hSw; (try dsimp only at hSw); go_simp; try with_reducible rfl)
      try simp only [Act.put, List.setIfInBounds_toArray, List.set_cons_zero, List.set_cons_succ]
      refine wpAnyH_take (i := 1) (oi := ({ dst := some 18, op := .indexAddr 22 (.tmp 17) (.const (.int .i64 0)), type := 0, pos := "ref.go:35", after := #[{ on := 0, ground := .data }], guard := none } : Oper)) (v := ?vs1_1) rfl read4_plain (by as_aux_lemma => kernel_rfl) (by as_aux_lemma => kernel_rfl) (fun _ _ _ h => h) (Or.inl ⟨by rfl, ?ys1_1⟩) (by assumption) ?rs1_1
      case ys1_1 => (intro w hSw; (try dsimp only at hSw); go_simp; try with_reducible rfl)
      try simp only [Act.put, List.setIfInBounds_toArray, List.set_cons_zero, List.set_cons_succ]
      refine wpAnyH_take (i := 2) (oi := ({ dst := some 19, op := .load 5 (.tmp 18), type := 5, pos := "ref.go:35", after := #[{ on := 1, ground := .data }], guard := none } : Oper)) (v := ?vs1_2) rfl read4_plain (by as_aux_lemma => kernel_rfl) (by as_aux_lemma => kernel_rfl) (fun _ _ _ h => h) (Or.inl ⟨by rfl, ?ys1_2⟩) (by assumption) ?rs1_2
      case ys1_2 => (intro w hSw; (try dsimp only at hSw); go_simp; try with_reducible rfl)
      try simp only [Act.put, List.setIfInBounds_toArray, List.set_cons_zero, List.set_cons_succ]
      refine wpAnyH_take (i := 3) (oi := ({ dst := some 20, op := .move (.tmp 5), type := 42, pos := "ref.go:35", after := #[], guard := none } : Oper)) (v := ?vs1_3) rfl read4_plain (by as_aux_lemma => kernel_rfl) (by as_aux_lemma => kernel_rfl) (fun _ _ _ h => h) (Or.inl ⟨by rfl, ?ys1_3⟩) (by assumption) ?rs1_3
      case ys1_3 => (intro w hSw; (try dsimp only at hSw); go_simp; try with_reducible rfl)
      try simp only [Act.put, List.setIfInBounds_toArray, List.set_cons_zero, List.set_cons_succ]
      refine wpAnyH_take (i := 4) (oi := ({ dst := some 21, op := .convert 42 45 (.tmp 20), type := 45, pos := "ref.go:35", after := #[{ on := 3, ground := .data }], guard := none } : Oper)) (v := ?vs1_4) rfl read4_plain (by as_aux_lemma => kernel_rfl) (by as_aux_lemma => kernel_rfl) (fun _ _ _ h => h) (Or.inl ⟨by rfl, ?ys1_4⟩) (by assumption) ?rs1_4
      case ys1_4 => (intro w hSw; (try dsimp only at hSw); go_simp; try with_reducible rfl)
      try simp only [Act.put, List.setIfInBounds_toArray, List.set_cons_zero, List.set_cons_succ]
      refine wpAnyH_ready (rs := [5]) (by as_aux_lemma => kernel_rfl) (by simp) ?_
      refine AllReadyH.cons (o := ({ dst := some 22, op := .call { callee := .value (.func 31), args := #[.tmp 21], argTypes := #[45] }, type := 5, pos := "ref.go:35", after := #[{ on := 4, ground := .data }], guard := none } : Oper)) rfl (fun KK hK => ?_) AllReadyH.nil
      rw [if_pos (by rfl)]
      go_simp
      go_at_call 31; refine (HG.out _).mono ?_; rintro e w1 ⟨rfl, hb1⟩
      go_wp2_with fail
      refine hK.out _ _ ?_ (fun hHeld1 => ?_)
      · exact belowT (by assumption) hb1
      clear hK KK hb1
      try simp only [Act.put, List.setIfInBounds_toArray, List.set_cons_zero, List.set_cons_succ]
      refine wpAnyH_take (i := 6) (oi := ({ dst := some 23, op := .binOp .neq 5 (.tmp 19) (.tmp 22) 5, type := 4, pos := "ref.go:35", after := #[{ on := 2, ground := .data }, { on := 5, ground := .data }], guard := none } : Oper)) (v := ?vs1_6) rfl read4_plain (by as_aux_lemma => kernel_rfl) (by as_aux_lemma => kernel_rfl) (fun _ _ _ h => h) (Or.inl ⟨by rfl, ?ys1_6⟩) (by assumption) ?rs1_6
      case ys1_6 => (intro w hSw; (try dsimp only at hSw); go_simp; try with_reducible rfl)
      try simp only [Act.put, List.setIfInBounds_toArray, List.set_cons_zero, List.set_cons_succ]
      refine wpAnyH_take (i := 7) (oi := ({ dst := some 24, op := .move (.tmp 23), type := 4, pos := "ref.go:35", after := #[{ on := 6, ground := .data }, { on := 5, ground := .chain }], guard := none } : Oper)) (v := ?vs1_7) rfl read4_plain (by as_aux_lemma => kernel_rfl) (by as_aux_lemma => kernel_rfl) (fun _ _ _ h => h) (Or.inl ⟨by rfl, ?ys1_7⟩) (by assumption) ?rs1_7
      case ys1_7 => (intro w hSw; (try dsimp only at hSw); go_simp; try with_reducible rfl)
      try simp only [Act.put, List.setIfInBounds_toArray, List.set_cons_zero, List.set_cons_succ]
      refine wpAnyH_take (i := 8) (oi := ({ dst := some 25, op := .move (.tmp 0), type := 22, pos := "ref.go:35", after := #[{ on := 7, ground := .guard }], guard := some (7, false) } : Oper)) (v := ?vs1_8) rfl read4_plain (by as_aux_lemma => kernel_rfl) (by as_aux_lemma => kernel_rfl) (fun _ _ _ h => h) (Or.inl ⟨by rfl, ?ys1_8⟩) (by assumption) ?rs1_8
      case ys1_8 => (intro w hSw; (try dsimp only at hSw); go_simp; try with_reducible rfl)
      try simp only [Act.put, List.setIfInBounds_toArray, List.set_cons_zero, List.set_cons_succ]
      refine wpAnyH_take (i := 9) (oi := ({ dst := some 26, op := .indexAddr 22 (.tmp 25) (.const (.int .i64 11)), type := 0, pos := "ref.go:35", after := #[{ on := 8, ground := .data }, { on := 7, ground := .guard }], guard := some (7, false) } : Oper)) (v := ?vs1_9) rfl read4_plain (by as_aux_lemma => kernel_rfl) (by as_aux_lemma => kernel_rfl) (fun _ _ _ h => h) (Or.inl ⟨by rfl, ?ys1_9⟩) (by assumption) ?rs1_9
      case ys1_9 => (intro w hSw; (try dsimp only at hSw); go_simp; try with_reducible rfl)
      try simp only [Act.put, List.setIfInBounds_toArray, List.set_cons_zero, List.set_cons_succ]
      refine wpAnyH_take (i := 10) (oi := ({ dst := some 27, op := .load 5 (.tmp 26), type := 5, pos := "ref.go:35", after := #[{ on := 9, ground := .data }, { on := 7, ground := .guard }], guard := some (7, false) } : Oper)) (v := ?vs1_10) rfl read4_plain (by as_aux_lemma => kernel_rfl) (by as_aux_lemma => kernel_rfl) (fun _ _ _ h => h) (Or.inl ⟨by rfl, ?ys1_10⟩) (by assumption) ?rs1_10
      case ys1_10 => (intro w hSw; (try dsimp only at hSw); go_simp; try with_reducible rfl)
      try simp only [Act.put, List.setIfInBounds_toArray, List.set_cons_zero, List.set_cons_succ]
      refine wpAnyH_take (i := 11) (oi := ({ dst := some 28, op := .move (.tmp 0), type := 22, pos := "ref.go:35", after := #[{ on := 7, ground := .guard }], guard := some (7, false) } : Oper)) (v := ?vs1_11) rfl read4_plain (by as_aux_lemma => kernel_rfl) (by as_aux_lemma => kernel_rfl) (fun _ _ _ h => h) (Or.inl ⟨by rfl, ?ys1_11⟩) (by assumption) ?rs1_11
      case ys1_11 => (intro w hSw; (try dsimp only at hSw); go_simp; try with_reducible rfl)
      try simp only [Act.put, List.setIfInBounds_toArray, List.set_cons_zero, List.set_cons_succ]
      refine wpAnyH_take (i := 12) (oi := ({ dst := some 29, op := .indexAddr 22 (.tmp 28) (.const (.int .i64 0)), type := 0, pos := "ref.go:35", after := #[{ on := 11, ground := .data }, { on := 7, ground := .guard }], guard := some (7, false) } : Oper)) (v := ?vs1_12) rfl read4_plain (by as_aux_lemma => kernel_rfl) (by as_aux_lemma => kernel_rfl) (fun _ _ _ h => h) (Or.inl ⟨by rfl, ?ys1_12⟩) (by assumption) ?rs1_12
      case ys1_12 => (intro w hSw; (try dsimp only at hSw); go_simp; try with_reducible rfl)
      try simp only [Act.put, List.setIfInBounds_toArray, List.set_cons_zero, List.set_cons_succ]
      refine wpAnyH_take (i := 13) (oi := ({ dst := some 30, op := .load 5 (.tmp 29), type := 5, pos := "ref.go:35", after := #[{ on := 12, ground := .data }, { on := 7, ground := .guard }], guard := some (7, false) } : Oper)) (v := ?vs1_13) rfl read4_plain (by as_aux_lemma => kernel_rfl) (by as_aux_lemma => kernel_rfl) (fun _ _ _ h => h) (Or.inl ⟨by rfl, ?ys1_13⟩) (by assumption) ?rs1_13
      case ys1_13 => (intro w hSw; (try dsimp only at hSw); go_simp; try with_reducible rfl)
      try simp only [Act.put, List.setIfInBounds_toArray, List.set_cons_zero, List.set_cons_succ]
      refine wpAnyH_take (i := 14) (oi := ({ dst := some 31, op := .binOp .neq 5 (.tmp 27) (.tmp 30) 5, type := 4, pos := "ref.go:35", after := #[{ on := 10, ground := .data }, { on := 13, ground := .data }, { on := 7, ground := .guard }], guard := some (7, false) } : Oper)) (v := ?vs1_14) rfl read4_plain (by as_aux_lemma => kernel_rfl) (by as_aux_lemma => kernel_rfl) (fun _ _ _ h => h) (Or.inl ⟨by rfl, ?ys1_14⟩) (by assumption) ?rs1_14
      case ys1_14 => (intro w hSw; (try dsimp only at hSw); go_simp; try with_reducible rfl)
      try simp only [Act.put, List.setIfInBounds_toArray, List.set_cons_zero, List.set_cons_succ]
      refine wpAnyH_take (i := 15) (oi := ({ dst := some 32, op := .pick (.tmp 24) (.const (.bool true)) (.tmp 31), type := 4, pos := "ref.go:35", after := #[{ on := 7, ground := .data }, { on := 14, ground := .data }], guard := none } : Oper)) (v := ?vs1_15) rfl read4_plain (by as_aux_lemma => kernel_rfl) (by as_aux_lemma => kernel_rfl) (fun _ _ _ h => h) (Or.inl ⟨by rfl, ?ys1_15⟩) (by assumption) ?rs1_15
      case ys1_15 => (intro w hSw; (try dsimp only at hSw); go_simp; try with_reducible rfl)
      try simp only [Act.put, List.setIfInBounds_toArray, List.set_cons_zero, List.set_cons_succ]
      refine wpAnyH_done (by as_aux_lemma => kernel_rfl) ?_ _
      refine NoPanic.normal ?_
      have HB := Lib.hid (belowT B1 hHeld1)
      have S2 := Lib.hid (S1.out.keep hHeld1)
      obtain ⟨C9, e9⟩ := PC.out w1 HB.out
      have FT := Ref6.Fits_came C9
      rw [e9, hft] at FT
      have HF := Lib.hid FT
      have L1 := LK.out w1 HB.out
      have q5 := L1 5 (by have := HLL.out; omega)
      have q6 := L1 6 (by have := HLL.out; omega)
      have q7 := L1 7 (by have := HLL.out; omega)
      have q8 := L1 8 (by have := HLL.out; omega)
      rw [e5] at q5
      rw [e6] at q6
      rw [e7] at q7
      rw [e8] at q8
      clear S1 B1 PC C9 e9 FT LK L1 e5 e6 e7 e8 e0 e11 r0 r11 q0 q11 hHeld1 hHeld HG t0 t1 RA hx0 hx11
      go_wp2_with fail
      refine HF.out.mono ?_; rintro e wy ⟨rfl, rfl⟩
      clear HF
      cases ft
      · have hr := Lib.hid (RB.out hno (by trivial))
        have c0 := (S2.out).at 0 rfl 0 rfl; have f0 := (S2.out).free 0 rfl 0 rfl
        have c1 := (S2.out).at 0 rfl 1 rfl; have f1 := (S2.out).free 0 rfl 1 rfl
        have c2 := (S2.out).at 0 rfl 2 rfl; have f2 := (S2.out).free 0 rfl 2 rfl
        clear S2 RR RB RC RD q5 q6 q7 q8
        go_wp2
        exact bodyPost_ret (v := .tuple #[nv0, .int .u32 0, .int .i64 5]) (by simp [nv0, results, Try.results28, go_sem, *]) rfl ⟨by rw [hr.out], below_set3 HB.out _ _ _⟩
      · go_upto_region 8 with fail
        obtain ⟨W0, rfl⟩ : ∃ W0, W0 = w1 := ⟨_, rfl⟩
        have r5 : ∀ w', Below W0.heap.size W0 w' → w'.cell? ⟨b, o + 5, none⟩ = some (.int .u8 x5) := fun w' h => keepc h q5
        have r6 : ∀ w', Below W0.heap.size W0 w' → w'.cell? ⟨b, o + 6, none⟩ = some (.int .u8 x6) := fun w' h => keepc h q6
        have r7 : ∀ w', Below W0.heap.size W0 w' → w'.cell? ⟨b, o + 7, none⟩ = some (.int .u8 x7) := fun w' h => keepc h q7
        have i5 : IntKind.i64.wrap (x5 : Int) = x5 := by rw [IntKind.wrap_i64]; omega
        have i6 : IntKind.i64.wrap (x6 : Int) = x6 := by rw [IntKind.wrap_i64]; omega
        have i7 : IntKind.i64.wrap (x7 : Int) = x7 := by rw [IntKind.wrap_i64]; omega
        go_cut [7] from 7 to 52 (fun u7 wx => ∃ g, u7 = .pointer (some ⟨g, 0, none⟩) ∧ Below W0.heap.size W0 wx ∧ OwnL wx g [.int .i64 x5, .int .i64 x6, .int .i64 x7])
        case first =>
          change (Code.region 8 read8 true).wp Try.prog _ _ _
          refine wp_region_noPanic ?_
          refine wp_region_held_drew (S := fun w' => Below W0.heap.size W0 w') (by kernel_rfl) ((Below.refl _ _).drew) (fun hHeld => ?_)
          refine wpAnyH_take (i := 0) (oi := ({ dst := some 39, op := .move (.tmp 0), type := 22, pos := "ref.go:41", after := #[], guard := none } : Oper)) (v := ?vv4_1_) rfl read8_plain (by as_aux_lemma => kernel_rfl) (by as_aux_lemma => kernel_rfl) (fun _ _ _ h => h) (Or.inl ⟨by rfl, ?yv4_1_⟩) (by assumption) ?rv4_1_
          case yv4_1_ => (intro w hSw; (try dsimp only at hSw); go_simp; try with_reducible rfl)
          try simp only [Act.put, List.setIfInBounds_toArray, List.set_cons_zero, List.set_cons_succ]
          refine wpAnyH_take (i := 1) (oi := ({ dst := some 40, op := .indexAddr 22 (.tmp 39) (.const (.int .i64 5)), type := 0, pos := "ref.go:41", after := #[{ on := 0, ground := .data }], guard := none } : Oper)) (v := ?vv4_2_) rfl read8_plain (by as_aux_lemma => kernel_rfl) (by as_aux_lemma => kernel_rfl) (fun _ _ _ h => h) (Or.inl ⟨by rfl, ?yv4_2_⟩) (by assumption) ?rv4_2_
          case yv4_2_ => (intro w hSw; (try dsimp only at hSw); go_simp; try with_reducible rfl)
          try simp only [Act.put, List.setIfInBounds_toArray, List.set_cons_zero, List.set_cons_succ]
          refine wpAnyH_take (i := 2) (oi := ({ dst := some 41, op := .load 5 (.tmp 40), type := 5, pos := "ref.go:41", after := #[{ on := 1, ground := .data }], guard := none } : Oper)) (v := ?vv4_3_) rfl read8_plain (by as_aux_lemma => kernel_rfl) (by as_aux_lemma => kernel_rfl) (fun _ _ _ h => h) (Or.inl ⟨by rfl, ?yv4_3_⟩) (by assumption) ?rv4_3_
          case yv4_3_ => (intro w hSw; (try dsimp only at hSw); go_simp; try with_reducible rfl)
          try simp only [Act.put, List.setIfInBounds_toArray, List.set_cons_zero, List.set_cons_succ]
          refine wpAnyH_take (i := 3) (oi := ({ dst := some 42, op := .convert 5 3 (.tmp 41), type := 3, pos := "ref.go:41", after := #[{ on := 2, ground := .data }], guard := none } : Oper)) (v := ?vv4_4_) rfl read8_plain (by as_aux_lemma => kernel_rfl) (by as_aux_lemma => kernel_rfl) (fun _ _ _ h => h) (Or.inl ⟨by rfl, ?yv4_4_⟩) (by assumption) ?rv4_4_
          case yv4_4_ => (intro w hSw; (try dsimp only at hSw); go_simp; try with_reducible rfl)
          try simp only [Act.put, List.setIfInBounds_toArray, List.set_cons_zero, List.set_cons_succ]
          refine wpAnyH_take (i := 4) (oi := ({ dst := some 43, op := .move (.tmp 0), type := 22, pos := "ref.go:41", after := #[], guard := none } : Oper)) (v := ?vv4_5_) rfl read8_plain (by as_aux_lemma => kernel_rfl) (by as_aux_lemma => kernel_rfl) (fun _ _ _ h => h) (Or.inl ⟨by rfl, ?yv4_5_⟩) (by assumption) ?rv4_5_
          case yv4_5_ => (intro w hSw; (try dsimp only at hSw); go_simp; try with_reducible rfl)
          try simp only [Act.put, List.setIfInBounds_toArray, List.set_cons_zero, List.set_cons_succ]
          refine wpAnyH_take (i := 5) (oi := ({ dst := some 44, op := .indexAddr 22 (.tmp 43) (.const (.int .i64 6)), type := 0, pos := "ref.go:41", after := #[{ on := 4, ground := .data }], guard := none } : Oper)) (v := ?vv4_6_) rfl read8_plain (by as_aux_lemma => kernel_rfl) (by as_aux_lemma => kernel_rfl) (fun _ _ _ h => h) (Or.inl ⟨by rfl, ?yv4_6_⟩) (by assumption) ?rv4_6_
          case yv4_6_ => (intro w hSw; (try dsimp only at hSw); go_simp; try with_reducible rfl)
          try simp only [Act.put, List.setIfInBounds_toArray, List.set_cons_zero, List.set_cons_succ]
          refine wpAnyH_take (i := 6) (oi := ({ dst := some 45, op := .load 5 (.tmp 44), type := 5, pos := "ref.go:41", after := #[{ on := 5, ground := .data }], guard := none } : Oper)) (v := ?vv4_7_) rfl read8_plain (by as_aux_lemma => kernel_rfl) (by as_aux_lemma => kernel_rfl) (fun _ _ _ h => h) (Or.inl ⟨by rfl, ?yv4_7_⟩) (by assumption) ?rv4_7_
          case yv4_7_ => (intro w hSw; (try dsimp only at hSw); go_simp; try with_reducible rfl)
          try simp only [Act.put, List.setIfInBounds_toArray, List.set_cons_zero, List.set_cons_succ]
          refine wpAnyH_take (i := 7) (oi := ({ dst := some 46, op := .convert 5 3 (.tmp 45), type := 3, pos := "ref.go:41", after := #[{ on := 6, ground := .data }], guard := none } : Oper)) (v := ?vv4_8_) rfl read8_plain (by as_aux_lemma => kernel_rfl) (by as_aux_lemma => kernel_rfl) (fun _ _ _ h => h) (Or.inl ⟨by rfl, ?yv4_8_⟩) (by assumption) ?rv4_8_
          case yv4_8_ => (intro w hSw; (try dsimp only at hSw); go_simp; try with_reducible rfl)
          try simp only [Act.put, List.setIfInBounds_toArray, List.set_cons_zero, List.set_cons_succ]
          refine wpAnyH_take (i := 8) (oi := ({ dst := some 47, op := .move (.tmp 0), type := 22, pos := "ref.go:41", after := #[], guard := none } : Oper)) (v := ?vv4_9_) rfl read8_plain (by as_aux_lemma => kernel_rfl) (by as_aux_lemma => kernel_rfl) (fun _ _ _ h => h) (Or.inl ⟨by rfl, ?yv4_9_⟩) (by assumption) ?rv4_9_
          case yv4_9_ => (intro w hSw; (try dsimp only at hSw); go_simp; try with_reducible rfl)
          try simp only [Act.put, List.setIfInBounds_toArray, List.set_cons_zero, List.set_cons_succ]
          refine wpAnyH_take (i := 9) (oi := ({ dst := some 48, op := .indexAddr 22 (.tmp 47) (.const (.int .i64 7)), type := 0, pos := "ref.go:41", after := #[{ on := 8, ground := .data }], guard := none } : Oper)) (v := ?vv4_10_) rfl read8_plain (by as_aux_lemma => kernel_rfl) (by as_aux_lemma => kernel_rfl) (fun _ _ _ h => h) (Or.inl ⟨by rfl, ?yv4_10_⟩) (by assumption) ?rv4_10_
          case yv4_10_ => (intro w hSw; (try dsimp only at hSw); go_simp; try with_reducible rfl)
          try simp only [Act.put, List.setIfInBounds_toArray, List.set_cons_zero, List.set_cons_succ]
          refine wpAnyH_take (i := 10) (oi := ({ dst := some 49, op := .load 5 (.tmp 48), type := 5, pos := "ref.go:41", after := #[{ on := 9, ground := .data }], guard := none } : Oper)) (v := ?vv4_11_) rfl read8_plain (by as_aux_lemma => kernel_rfl) (by as_aux_lemma => kernel_rfl) (fun _ _ _ h => h) (Or.inl ⟨by rfl, ?yv4_11_⟩) (by assumption) ?rv4_11_
          case yv4_11_ => (intro w hSw; (try dsimp only at hSw); go_simp; try with_reducible rfl)
          try simp only [Act.put, List.setIfInBounds_toArray, List.set_cons_zero, List.set_cons_succ]
          refine wpAnyH_take (i := 11) (oi := ({ dst := some 50, op := .convert 5 3 (.tmp 49), type := 3, pos := "ref.go:41", after := #[{ on := 10, ground := .data }], guard := none } : Oper)) (v := ?vv4_12_) rfl read8_plain (by as_aux_lemma => kernel_rfl) (by as_aux_lemma => kernel_rfl) (fun _ _ _ h => h) (Or.inl ⟨by rfl, ?yv4_12_⟩) (by assumption) ?rv4_12_
          case yv4_12_ => (intro w hSw; (try dsimp only at hSw); go_simp; try with_reducible rfl)
          try simp only [Act.put, List.setIfInBounds_toArray, List.set_cons_zero, List.set_cons_succ]
          refine wpAnyH_take (i := 12) (oi := ({ dst := some 51, op := .build 26 #[(0, .tmp 42), (1, .tmp 46), (2, .tmp 50)], type := 26, pos := "ref.go:41", after := #[{ on := 3, ground := .data }, { on := 7, ground := .data }, { on := 11, ground := .data }], guard := none } : Oper)) (v := ?vv4_13_) rfl read8_plain (by as_aux_lemma => kernel_rfl) (by as_aux_lemma => kernel_rfl) (fun _ _ _ h => h) (Or.inl ⟨by rfl, ?yv4_13_⟩) (by assumption) ?rv4_13_
          case yv4_13_ => (intro w hSw; (try dsimp only at hSw); go_simp; try with_reducible rfl)
          try simp only [Act.put, List.setIfInBounds_toArray, List.set_cons_zero, List.set_cons_succ]
          refine wpAnyH_ready (rs := [13]) (by as_aux_lemma => kernel_rfl) (by simp) ?_
          refine AllReadyH.cons (o := ({ dst := some 7, op := .alloc 26, type := 0, pos := "ref.go:41", after := #[], guard := none } : Oper)) rfl (fun KK hK => ?_) AllReadyH.nil
          rw [if_pos (by rfl)]
          go_simp
          refine hK.out _ _ ?_ (fun _hHeldA => ?_)
          · first | exact below1 W0 (.cells #[.int .i64 0, .int .i64 0, .int .i64 0] 26) | exact (below1 W0 (.cells #[.int .i64 0, .int .i64 0, .int .i64 0] 26)).drew
          clear hK KK
          try simp only [Act.put, List.setIfInBounds_toArray, List.set_cons_zero, List.set_cons_succ]
          refine wpAnyH_ready (rs := [14]) (by as_aux_lemma => kernel_rfl) (by simp) ?_
          refine AllReadyH.cons (o := ({ dst := none, op := .store 26 (.tmp 7) (.tmp 51), type := 0, pos := "ref.go:41", after := #[{ on := 13, ground := .data }, { on := 12, ground := .data }, { on := 0, ground := .phase }, { on := 1, ground := .phase }, { on := 2, ground := .phase }, { on := 3, ground := .phase }, { on := 4, ground := .phase }, { on := 5, ground := .phase }, { on := 6, ground := .phase }, { on := 7, ground := .phase }, { on := 8, ground := .phase }, { on := 9, ground := .phase }, { on := 10, ground := .phase }, { on := 11, ground := .phase }, { on := 12, ground := .phase }, { on := 13, ground := .phase }], guard := none } : Oper)) rfl (fun KK hK => ?_) AllReadyH.nil
          rw [if_pos (by rfl)]
          have p0 := ((ownl W0 [.int .i64 0, .int .i64 0, .int .i64 0] 26).drew).1.at 0 rfl
          have q0 := ((ownl W0 [.int .i64 0, .int .i64 0, .int .i64 0] 26).drew).2 0 (by simp)
          have p1 := ((ownl W0 [.int .i64 0, .int .i64 0, .int .i64 0] 26).drew).1.at 1 rfl
          have q1 := ((ownl W0 [.int .i64 0, .int .i64 0, .int .i64 0] 26).drew).2 1 (by simp)
          have p2 := ((ownl W0 [.int .i64 0, .int .i64 0, .int .i64 0] 26).drew).1.at 2 rfl
          have q2 := ((ownl W0 [.int .i64 0, .int .i64 0, .int .i64 0] 26).drew).2 2 (by simp)
          go_simp
          refine hK.out _ _ ?_ (fun _hHeldS => ?_)
          · exact (below1 W0 (.cells #[.int .i64 x5, .int .i64 x6, .int .i64 x7] 26)).drew
          clear hK KK
          try simp only [Act.put, List.setIfInBounds_toArray, List.set_cons_zero, List.set_cons_succ]
          refine wpAnyH_done (by as_aux_lemma => kernel_rfl) ?_ _
          refine NoPanic.normal ?_
          go_wp2_with fail
          go_meet
          exact ⟨_, rfl, (below1 W0 (.cells #[.int .i64 x5, .int .i64 x6, .int .i64 x7] 26)).drew, ownl W0 [.int .i64 x5, .int .i64 x6, .int .i64 x7] 26⟩
        case rest =>
          rename World => wx
          obtain ⟨gb, rfl, hbx, ho⟩ := hcut
          have HBX := Lib.hid (belowT HB.out hbx)
          have S3 := Lib.hid (S2.out.keep hbx)
          have s8 := keepc hbx q8
          have p0 := ho.1.at 0 rfl
          have p1 := ho.1.at 1 rfl
          have p2 := ho.1.at 2 rfl
          have HO := Lib.hid ho
          simp only [nv] at RR
          clear r5 r6 r7 q5 q6 q7 q8 hbx ho S2 HB RB
          go_wp2_with fail
          refine (RR.out _).mono ?_; rintro e w4 ⟨rfl, hb4⟩
          have HB4 := Lib.hid (belowT HBX.out hb4)
          have T4 := S3.out.keep hb4
          have t8 := keepc hb4 s8
          have O4 := HO.out.keep hb4
          have m0 := O4.1.at 0 rfl
          have m1 := O4.1.at 1 rfl
          have m2 := O4.1.at 2 rfl
          have c0 := (T4).at 0 rfl 0 rfl; have f0 := (T4).free 0 rfl 0 rfl
          have c1 := (T4).at 0 rfl 1 rfl; have f1 := (T4).free 0 rfl 1 rfl
          have c2 := (T4).at 0 rfl 2 rfl; have f2 := (T4).free 0 rfl 2 rfl
          clear p0 p1 p2 s8 hb4 T4 O4 HO S3 HBX RR
          cases good
          · have hr := Lib.hid (RC.out hno (by trivial) (Or.inl rfl))
            clear hgood m0 m1 m2 RC RD
            go_wp2
            exact bodyPost_ret (v := .tuple #[nv0, .int .u32 0, .int .i64 3]) (by simp [nv0, results, Try.results28, go_sem, *]) rfl ⟨by rw [hr.out], below_set3 HB4.out _ _ _⟩
          · by_cases hx : x8 = 1
            · have hr := Lib.hid (RD.out hno (by trivial) (fun k => by rcases k with k | k; cases k; exact k hx))
              have hx' : ((x8 : Int) == 1) = true := by simp; omega
              clear hgood hx RC RD
              go_wp2
              refine bodyPost_ret (v := .tuple #[nv ⟨x5, x6, x7⟩, .int .u32 s, .int .i64 0]) (by simp [nv, results, Try.results28, go_sem, *]) rfl ⟨by rw [hr.out], below_set3 HB4.out _ _ _⟩
            · have hr := Lib.hid (RC.out hno (by trivial) (Or.inr hx))
              have hx' : ((x8 : Int) == 1) = false := by simp; omega
              clear hgood m0 m1 m2 RC RD hx
              go_wp2
              exact bodyPost_ret (v := .tuple #[nv0, .int .u32 0, .int .i64 3]) (by simp [nv0, results, Try.results28, go_sem, *]) rfl ⟨by rw [hr.out], below_set3 HB4.out _ _ _⟩
    · have t1 : ((x11 : Int) != x0) = true := by simp; omega
      change (Code.region 4 read4 true).wp Try.prog _ _ _
      refine wp_region_noPanic ?_
      refine wp_region_held_drew (S := fun w' => Below W0.heap.size W0 w') (by kernel_rfl) ((Below.refl _ _).drew) (fun hHeld => ?_)
      refine wpAnyH_take (i := 0) (oi := ({ dst := some 17, op := .move (.tmp 0), type := 22, pos := "ref.go:35", after := #[], guard := none } : Oper)) (v := ?vs2_0) rfl read4_plain (by as_aux_lemma => kernel_rfl) (by as_aux_lemma => kernel_rfl) (fun _ _ _ h => h) (Or.inl ⟨by rfl, ?ys2_0⟩) (by assumption) ?rs2_0
      case ys2_0 => (intro w hSw; (try dsimp only at hSw); go_simp; try with_reducible rfl)
      try simp only [Act.put, List.setIfInBounds_toArray, List.set_cons_zero, List.set_cons_succ]
      refine wpAnyH_take (i := 1) (oi := ({ dst := some 18, op := .indexAddr 22 (.tmp 17) (.const (.int .i64 0)), type := 0, pos := "ref.go:35", after := #[{ on := 0, ground := .data }], guard := none } : Oper)) (v := ?vs2_1) rfl read4_plain (by as_aux_lemma => kernel_rfl) (by as_aux_lemma => kernel_rfl) (fun _ _ _ h => h) (Or.inl ⟨by rfl, ?ys2_1⟩) (by assumption) ?rs2_1
      case ys2_1 => (intro w hSw; (try dsimp only at hSw); go_simp; try with_reducible rfl)
      try simp only [Act.put, List.setIfInBounds_toArray, List.set_cons_zero, List.set_cons_succ]
      refine wpAnyH_take (i := 2) (oi := ({ dst := some 19, op := .load 5 (.tmp 18), type := 5, pos := "ref.go:35", after := #[{ on := 1, ground := .data }], guard := none } : Oper)) (v := ?vs2_2) rfl read4_plain (by as_aux_lemma => kernel_rfl) (by as_aux_lemma => kernel_rfl) (fun _ _ _ h => h) (Or.inl ⟨by rfl, ?ys2_2⟩) (by assumption) ?rs2_2
      case ys2_2 => (intro w hSw; (try dsimp only at hSw); go_simp; try with_reducible rfl)
      try simp only [Act.put, List.setIfInBounds_toArray, List.set_cons_zero, List.set_cons_succ]
      refine wpAnyH_take (i := 3) (oi := ({ dst := some 20, op := .move (.tmp 5), type := 42, pos := "ref.go:35", after := #[], guard := none } : Oper)) (v := ?vs2_3) rfl read4_plain (by as_aux_lemma => kernel_rfl) (by as_aux_lemma => kernel_rfl) (fun _ _ _ h => h) (Or.inl ⟨by rfl, ?ys2_3⟩) (by assumption) ?rs2_3
      case ys2_3 => (intro w hSw; (try dsimp only at hSw); go_simp; try with_reducible rfl)
      try simp only [Act.put, List.setIfInBounds_toArray, List.set_cons_zero, List.set_cons_succ]
      refine wpAnyH_take (i := 4) (oi := ({ dst := some 21, op := .convert 42 45 (.tmp 20), type := 45, pos := "ref.go:35", after := #[{ on := 3, ground := .data }], guard := none } : Oper)) (v := ?vs2_4) rfl read4_plain (by as_aux_lemma => kernel_rfl) (by as_aux_lemma => kernel_rfl) (fun _ _ _ h => h) (Or.inl ⟨by rfl, ?ys2_4⟩) (by assumption) ?rs2_4
      case ys2_4 => (intro w hSw; (try dsimp only at hSw); go_simp; try with_reducible rfl)
      try simp only [Act.put, List.setIfInBounds_toArray, List.set_cons_zero, List.set_cons_succ]
      refine wpAnyH_ready (rs := [5]) (by as_aux_lemma => kernel_rfl) (by simp) ?_
      refine AllReadyH.cons (o := ({ dst := some 22, op := .call { callee := .value (.func 31), args := #[.tmp 21], argTypes := #[45] }, type := 5, pos := "ref.go:35", after := #[{ on := 4, ground := .data }], guard := none } : Oper)) rfl (fun KK hK => ?_) AllReadyH.nil
      rw [if_pos (by rfl)]
      go_simp
      go_at_call 31; refine (HG.out _).mono ?_; rintro e w1 ⟨rfl, hb1⟩
      go_wp2_with fail
      refine hK.out _ _ ?_ (fun hHeld1 => ?_)
      · exact belowT (by assumption) hb1
      clear hK KK hb1
      try simp only [Act.put, List.setIfInBounds_toArray, List.set_cons_zero, List.set_cons_succ]
      refine wpAnyH_take (i := 6) (oi := ({ dst := some 23, op := .binOp .neq 5 (.tmp 19) (.tmp 22) 5, type := 4, pos := "ref.go:35", after := #[{ on := 2, ground := .data }, { on := 5, ground := .data }], guard := none } : Oper)) (v := ?vs2_6) rfl read4_plain (by as_aux_lemma => kernel_rfl) (by as_aux_lemma => kernel_rfl) (fun _ _ _ h => h) (Or.inl ⟨by rfl, ?ys2_6⟩) (by assumption) ?rs2_6
      case ys2_6 => (intro w hSw; (try dsimp only at hSw); go_simp; try with_reducible rfl)
      try simp only [Act.put, List.setIfInBounds_toArray, List.set_cons_zero, List.set_cons_succ]
      refine wpAnyH_take (i := 7) (oi := ({ dst := some 24, op := .move (.tmp 23), type := 4, pos := "ref.go:35", after := #[{ on := 6, ground := .data }, { on := 5, ground := .chain }], guard := none } : Oper)) (v := ?vs2_7) rfl read4_plain (by as_aux_lemma => kernel_rfl) (by as_aux_lemma => kernel_rfl) (fun _ _ _ h => h) (Or.inl ⟨by rfl, ?ys2_7⟩) (by assumption) ?rs2_7
      case ys2_7 => (intro w hSw; (try dsimp only at hSw); go_simp; try with_reducible rfl)
      try simp only [Act.put, List.setIfInBounds_toArray, List.set_cons_zero, List.set_cons_succ]
      refine wpAnyH_take (i := 8) (oi := ({ dst := some 25, op := .move (.tmp 0), type := 22, pos := "ref.go:35", after := #[{ on := 7, ground := .guard }], guard := some (7, false) } : Oper)) (v := ?vs2_8) rfl read4_plain (by as_aux_lemma => kernel_rfl) (by as_aux_lemma => kernel_rfl) (fun _ _ _ h => h) (Or.inl ⟨by rfl, ?ys2_8⟩) (by assumption) ?rs2_8
      case ys2_8 => (intro w hSw; (try dsimp only at hSw); go_simp; try with_reducible rfl)
      try simp only [Act.put, List.setIfInBounds_toArray, List.set_cons_zero, List.set_cons_succ]
      refine wpAnyH_take (i := 9) (oi := ({ dst := some 26, op := .indexAddr 22 (.tmp 25) (.const (.int .i64 11)), type := 0, pos := "ref.go:35", after := #[{ on := 8, ground := .data }, { on := 7, ground := .guard }], guard := some (7, false) } : Oper)) (v := ?vs2_9) rfl read4_plain (by as_aux_lemma => kernel_rfl) (by as_aux_lemma => kernel_rfl) (fun _ _ _ h => h) (Or.inl ⟨by rfl, ?ys2_9⟩) (by assumption) ?rs2_9
      case ys2_9 => (intro w hSw; (try dsimp only at hSw); go_simp; try with_reducible rfl)
      try simp only [Act.put, List.setIfInBounds_toArray, List.set_cons_zero, List.set_cons_succ]
      refine wpAnyH_take (i := 10) (oi := ({ dst := some 27, op := .load 5 (.tmp 26), type := 5, pos := "ref.go:35", after := #[{ on := 9, ground := .data }, { on := 7, ground := .guard }], guard := some (7, false) } : Oper)) (v := ?vs2_10) rfl read4_plain (by as_aux_lemma => kernel_rfl) (by as_aux_lemma => kernel_rfl) (fun _ _ _ h => h) (Or.inl ⟨by rfl, ?ys2_10⟩) (by assumption) ?rs2_10
      case ys2_10 => (intro w hSw; (try dsimp only at hSw); go_simp; try with_reducible rfl)
      try simp only [Act.put, List.setIfInBounds_toArray, List.set_cons_zero, List.set_cons_succ]
      refine wpAnyH_take (i := 11) (oi := ({ dst := some 28, op := .move (.tmp 0), type := 22, pos := "ref.go:35", after := #[{ on := 7, ground := .guard }], guard := some (7, false) } : Oper)) (v := ?vs2_11) rfl read4_plain (by as_aux_lemma => kernel_rfl) (by as_aux_lemma => kernel_rfl) (fun _ _ _ h => h) (Or.inl ⟨by rfl, ?ys2_11⟩) (by assumption) ?rs2_11
      case ys2_11 => (intro w hSw; (try dsimp only at hSw); go_simp; try with_reducible rfl)
      try simp only [Act.put, List.setIfInBounds_toArray, List.set_cons_zero, List.set_cons_succ]
      refine wpAnyH_take (i := 12) (oi := ({ dst := some 29, op := .indexAddr 22 (.tmp 28) (.const (.int .i64 0)), type := 0, pos := "ref.go:35", after := #[{ on := 11, ground := .data }, { on := 7, ground := .guard }], guard := some (7, false) } : Oper)) (v := ?vs2_12) rfl read4_plain (by as_aux_lemma => kernel_rfl) (by as_aux_lemma => kernel_rfl) (fun _ _ _ h => h) (Or.inl ⟨by rfl, ?ys2_12⟩) (by assumption) ?rs2_12
      case ys2_12 => (intro w hSw; (try dsimp only at hSw); go_simp; try with_reducible rfl)
      try simp only [Act.put, List.setIfInBounds_toArray, List.set_cons_zero, List.set_cons_succ]
      refine wpAnyH_take (i := 13) (oi := ({ dst := some 30, op := .load 5 (.tmp 29), type := 5, pos := "ref.go:35", after := #[{ on := 12, ground := .data }, { on := 7, ground := .guard }], guard := some (7, false) } : Oper)) (v := ?vs2_13) rfl read4_plain (by as_aux_lemma => kernel_rfl) (by as_aux_lemma => kernel_rfl) (fun _ _ _ h => h) (Or.inl ⟨by rfl, ?ys2_13⟩) (by assumption) ?rs2_13
      case ys2_13 => (intro w hSw; (try dsimp only at hSw); go_simp; try with_reducible rfl)
      try simp only [Act.put, List.setIfInBounds_toArray, List.set_cons_zero, List.set_cons_succ]
      refine wpAnyH_take (i := 14) (oi := ({ dst := some 31, op := .binOp .neq 5 (.tmp 27) (.tmp 30) 5, type := 4, pos := "ref.go:35", after := #[{ on := 10, ground := .data }, { on := 13, ground := .data }, { on := 7, ground := .guard }], guard := some (7, false) } : Oper)) (v := ?vs2_14) rfl read4_plain (by as_aux_lemma => kernel_rfl) (by as_aux_lemma => kernel_rfl) (fun _ _ _ h => h) (Or.inl ⟨by rfl, ?ys2_14⟩) (by assumption) ?rs2_14
      case ys2_14 => (intro w hSw; (try dsimp only at hSw); go_simp; try with_reducible rfl)
      try simp only [Act.put, List.setIfInBounds_toArray, List.set_cons_zero, List.set_cons_succ]
      refine wpAnyH_take (i := 15) (oi := ({ dst := some 32, op := .pick (.tmp 24) (.const (.bool true)) (.tmp 31), type := 4, pos := "ref.go:35", after := #[{ on := 7, ground := .data }, { on := 14, ground := .data }], guard := none } : Oper)) (v := ?vs2_15) rfl read4_plain (by as_aux_lemma => kernel_rfl) (by as_aux_lemma => kernel_rfl) (fun _ _ _ h => h) (Or.inl ⟨by rfl, ?ys2_15⟩) (by assumption) ?rs2_15
      case ys2_15 => (intro w hSw; (try dsimp only at hSw); go_simp; try with_reducible rfl)
      try simp only [Act.put, List.setIfInBounds_toArray, List.set_cons_zero, List.set_cons_succ]
      refine wpAnyH_done (by as_aux_lemma => kernel_rfl) ?_ _
      refine NoPanic.normal ?_
      have hr := Lib.hid (RA.out (Or.inr hx11))
      have HB := Lib.hid (belowT B1 hHeld1)
      have S2 := S1.out.keep hHeld1
      have c0 := (S2).at 0 rfl 0 rfl; have f0 := (S2).free 0 rfl 0 rfl
      have c1 := (S2).at 0 rfl 1 rfl; have f1 := (S2).free 0 rfl 1 rfl
      have c2 := (S2).at 0 rfl 2 rfl; have f2 := (S2).free 0 rfl 2 rfl
      clear S1 S2 B1 PC LK RR RA RB RC RD r0 r11 q0 q11 hHeld1 hHeld
      go_wp2
      exact bodyPost_ret (v := .tuple #[nv0, .int .u32 0, .int .i64 3]) (by simp [nv0, results, Try.results28, go_sem, *]) rfl ⟨by rw [hr.out], below_set3 HB.out _ _ _⟩
  · have t0 : ((x0 : Int) != g) = true := by simp; omega
    change (Code.region 4 read4 true).wp Try.prog _ _ _
    refine wp_region_noPanic ?_
    refine wp_region_held_drew (S := fun w' => Below W0.heap.size W0 w') (by kernel_rfl) ((Below.refl _ _).drew) (fun hHeld => ?_)
    refine wpAnyH_take (i := 0) (oi := ({ dst := some 17, op := .move (.tmp 0), type := 22, pos := "ref.go:35", after := #[], guard := none } : Oper)) (v := ?vs3_0) rfl read4_plain (by as_aux_lemma => kernel_rfl) (by as_aux_lemma => kernel_rfl) (fun _ _ _ h => h) (Or.inl ⟨by rfl, ?ys3_0⟩) (by assumption) ?rs3_0
    case ys3_0 => (intro w hSw; (try dsimp only at hSw); go_simp; try with_reducible rfl)
    try simp only [Act.put, List.setIfInBounds_toArray, List.set_cons_zero, List.set_cons_succ]
    refine wpAnyH_take (i := 1) (oi := ({ dst := some 18, op := .indexAddr 22 (.tmp 17) (.const (.int .i64 0)), type := 0, pos := "ref.go:35", after := #[{ on := 0, ground := .data }], guard := none } : Oper)) (v := ?vs3_1) rfl read4_plain (by as_aux_lemma => kernel_rfl) (by as_aux_lemma => kernel_rfl) (fun _ _ _ h => h) (Or.inl ⟨by rfl, ?ys3_1⟩) (by assumption) ?rs3_1
    case ys3_1 => (intro w hSw; (try dsimp only at hSw); go_simp; try with_reducible rfl)
    try simp only [Act.put, List.setIfInBounds_toArray, List.set_cons_zero, List.set_cons_succ]
    refine wpAnyH_take (i := 2) (oi := ({ dst := some 19, op := .load 5 (.tmp 18), type := 5, pos := "ref.go:35", after := #[{ on := 1, ground := .data }], guard := none } : Oper)) (v := ?vs3_2) rfl read4_plain (by as_aux_lemma => kernel_rfl) (by as_aux_lemma => kernel_rfl) (fun _ _ _ h => h) (Or.inl ⟨by rfl, ?ys3_2⟩) (by assumption) ?rs3_2
    case ys3_2 => (intro w hSw; (try dsimp only at hSw); go_simp; try with_reducible rfl)
    try simp only [Act.put, List.setIfInBounds_toArray, List.set_cons_zero, List.set_cons_succ]
    refine wpAnyH_take (i := 3) (oi := ({ dst := some 20, op := .move (.tmp 5), type := 42, pos := "ref.go:35", after := #[], guard := none } : Oper)) (v := ?vs3_3) rfl read4_plain (by as_aux_lemma => kernel_rfl) (by as_aux_lemma => kernel_rfl) (fun _ _ _ h => h) (Or.inl ⟨by rfl, ?ys3_3⟩) (by assumption) ?rs3_3
    case ys3_3 => (intro w hSw; (try dsimp only at hSw); go_simp; try with_reducible rfl)
    try simp only [Act.put, List.setIfInBounds_toArray, List.set_cons_zero, List.set_cons_succ]
    refine wpAnyH_take (i := 4) (oi := ({ dst := some 21, op := .convert 42 45 (.tmp 20), type := 45, pos := "ref.go:35", after := #[{ on := 3, ground := .data }], guard := none } : Oper)) (v := ?vs3_4) rfl read4_plain (by as_aux_lemma => kernel_rfl) (by as_aux_lemma => kernel_rfl) (fun _ _ _ h => h) (Or.inl ⟨by rfl, ?ys3_4⟩) (by assumption) ?rs3_4
    case ys3_4 => (intro w hSw; (try dsimp only at hSw); go_simp; try with_reducible rfl)
    try simp only [Act.put, List.setIfInBounds_toArray, List.set_cons_zero, List.set_cons_succ]
    refine wpAnyH_ready (rs := [5]) (by as_aux_lemma => kernel_rfl) (by simp) ?_
    refine AllReadyH.cons (o := ({ dst := some 22, op := .call { callee := .value (.func 31), args := #[.tmp 21], argTypes := #[45] }, type := 5, pos := "ref.go:35", after := #[{ on := 4, ground := .data }], guard := none } : Oper)) rfl (fun KK hK => ?_) AllReadyH.nil
    rw [if_pos (by rfl)]
    go_simp
    go_at_call 31; refine (HG.out _).mono ?_; rintro e w1 ⟨rfl, hb1⟩
    go_wp2_with fail
    refine hK.out _ _ ?_ (fun hHeld1 => ?_)
    · exact belowT (by assumption) hb1
    clear hK KK hb1
    try simp only [Act.put, List.setIfInBounds_toArray, List.set_cons_zero, List.set_cons_succ]
    refine wpAnyH_take (i := 6) (oi := ({ dst := some 23, op := .binOp .neq 5 (.tmp 19) (.tmp 22) 5, type := 4, pos := "ref.go:35", after := #[{ on := 2, ground := .data }, { on := 5, ground := .data }], guard := none } : Oper)) (v := ?vs3_6) rfl read4_plain (by as_aux_lemma => kernel_rfl) (by as_aux_lemma => kernel_rfl) (fun _ _ _ h => h) (Or.inl ⟨by rfl, ?ys3_6⟩) (by assumption) ?rs3_6
    case ys3_6 => (intro w hSw; (try dsimp only at hSw); go_simp; try with_reducible rfl)
    try simp only [Act.put, List.setIfInBounds_toArray, List.set_cons_zero, List.set_cons_succ]
    refine wpAnyH_take (i := 7) (oi := ({ dst := some 24, op := .move (.tmp 23), type := 4, pos := "ref.go:35", after := #[{ on := 6, ground := .data }, { on := 5, ground := .chain }], guard := none } : Oper)) (v := ?vs3_7) rfl read4_plain (by as_aux_lemma => kernel_rfl) (by as_aux_lemma => kernel_rfl) (fun _ _ _ h => h) (Or.inl ⟨by rfl, ?ys3_7⟩) (by assumption) ?rs3_7
    case ys3_7 => (intro w hSw; (try dsimp only at hSw); go_simp; try with_reducible rfl)
    try simp only [Act.put, List.setIfInBounds_toArray, List.set_cons_zero, List.set_cons_succ]
    refine wpAnyH_take (i := 8) (oi := ({ dst := some 25, op := .move (.tmp 0), type := 22, pos := "ref.go:35", after := #[{ on := 7, ground := .guard }], guard := some (7, false) } : Oper)) (v := undef) rfl read4_plain (by as_aux_lemma => kernel_rfl) (by as_aux_lemma => kernel_rfl) (fun _ _ _ h => h) (Or.inr ⟨by rfl, rfl⟩) (by assumption) ?_
    try simp only [Act.put, List.setIfInBounds_toArray, List.set_cons_zero, List.set_cons_succ]
    refine wpAnyH_take (i := 9) (oi := ({ dst := some 26, op := .indexAddr 22 (.tmp 25) (.const (.int .i64 11)), type := 0, pos := "ref.go:35", after := #[{ on := 8, ground := .data }, { on := 7, ground := .guard }], guard := some (7, false) } : Oper)) (v := undef) rfl read4_plain (by as_aux_lemma => kernel_rfl) (by as_aux_lemma => kernel_rfl) (fun _ _ _ h => h) (Or.inr ⟨by rfl, rfl⟩) (by assumption) ?_
    try simp only [Act.put, List.setIfInBounds_toArray, List.set_cons_zero, List.set_cons_succ]
    refine wpAnyH_take (i := 10) (oi := ({ dst := some 27, op := .load 5 (.tmp 26), type := 5, pos := "ref.go:35", after := #[{ on := 9, ground := .data }, { on := 7, ground := .guard }], guard := some (7, false) } : Oper)) (v := undef) rfl read4_plain (by as_aux_lemma => kernel_rfl) (by as_aux_lemma => kernel_rfl) (fun _ _ _ h => h) (Or.inr ⟨by rfl, rfl⟩) (by assumption) ?_
    try simp only [Act.put, List.setIfInBounds_toArray, List.set_cons_zero, List.set_cons_succ]
    refine wpAnyH_take (i := 11) (oi := ({ dst := some 28, op := .move (.tmp 0), type := 22, pos := "ref.go:35", after := #[{ on := 7, ground := .guard }], guard := some (7, false) } : Oper)) (v := undef) rfl read4_plain (by as_aux_lemma => kernel_rfl) (by as_aux_lemma => kernel_rfl) (fun _ _ _ h => h) (Or.inr ⟨by rfl, rfl⟩) (by assumption) ?_
    try simp only [Act.put, List.setIfInBounds_toArray, List.set_cons_zero, List.set_cons_succ]
    refine wpAnyH_take (i := 12) (oi := ({ dst := some 29, op := .indexAddr 22 (.tmp 28) (.const (.int .i64 0)), type := 0, pos := "ref.go:35", after := #[{ on := 11, ground := .data }, { on := 7, ground := .guard }], guard := some (7, false) } : Oper)) (v := undef) rfl read4_plain (by as_aux_lemma => kernel_rfl) (by as_aux_lemma => kernel_rfl) (fun _ _ _ h => h) (Or.inr ⟨by rfl, rfl⟩) (by assumption) ?_
    try simp only [Act.put, List.setIfInBounds_toArray, List.set_cons_zero, List.set_cons_succ]
    refine wpAnyH_take (i := 13) (oi := ({ dst := some 30, op := .load 5 (.tmp 29), type := 5, pos := "ref.go:35", after := #[{ on := 12, ground := .data }, { on := 7, ground := .guard }], guard := some (7, false) } : Oper)) (v := undef) rfl read4_plain (by as_aux_lemma => kernel_rfl) (by as_aux_lemma => kernel_rfl) (fun _ _ _ h => h) (Or.inr ⟨by rfl, rfl⟩) (by assumption) ?_
    try simp only [Act.put, List.setIfInBounds_toArray, List.set_cons_zero, List.set_cons_succ]
    refine wpAnyH_take (i := 14) (oi := ({ dst := some 31, op := .binOp .neq 5 (.tmp 27) (.tmp 30) 5, type := 4, pos := "ref.go:35", after := #[{ on := 10, ground := .data }, { on := 13, ground := .data }, { on := 7, ground := .guard }], guard := some (7, false) } : Oper)) (v := undef) rfl read4_plain (by as_aux_lemma => kernel_rfl) (by as_aux_lemma => kernel_rfl) (fun _ _ _ h => h) (Or.inr ⟨by rfl, rfl⟩) (by assumption) ?_
    try simp only [Act.put, List.setIfInBounds_toArray, List.set_cons_zero, List.set_cons_succ]
    refine wpAnyH_take (i := 15) (oi := ({ dst := some 32, op := .pick (.tmp 24) (.const (.bool true)) (.tmp 31), type := 4, pos := "ref.go:35", after := #[{ on := 7, ground := .data }, { on := 14, ground := .data }], guard := none } : Oper)) (v := ?vs3_15) rfl read4_plain (by as_aux_lemma => kernel_rfl) (by as_aux_lemma => kernel_rfl) (fun _ _ _ h => h) (Or.inl ⟨by rfl, ?ys3_15⟩) (by assumption) ?rs3_15
    case ys3_15 => (intro w hSw; (try dsimp only at hSw); go_simp; try with_reducible rfl)
    try simp only [Act.put, List.setIfInBounds_toArray, List.set_cons_zero, List.set_cons_succ]
    refine wpAnyH_done (by as_aux_lemma => kernel_rfl) ?_ _
    refine NoPanic.normal ?_
    have hr := Lib.hid (RA.out (Or.inl hx0))
    have HB := Lib.hid (belowT B1 hHeld1)
    have S2 := S1.out.keep hHeld1
    have c0 := (S2).at 0 rfl 0 rfl; have f0 := (S2).free 0 rfl 0 rfl
    have c1 := (S2).at 0 rfl 1 rfl; have f1 := (S2).free 0 rfl 1 rfl
    have c2 := (S2).at 0 rfl 2 rfl; have f2 := (S2).free 0 rfl 2 rfl
    clear S1 S2 B1 PC LK RR RA RB RC RD r0 r11 q0 q11 hHeld1 hHeld
    go_wp2
    exact bodyPost_ret (v := .tuple #[nv0, .int .u32 0, .int .i64 3]) (by simp [nv0, results, Try.results28, go_sem, *]) rfl ⟨by rw [hr.out], below_set3 HB.out _ _ _⟩

theorem Read_came {w : World} {ba : Option Addr} {cap : Nat} {l : List UInt8} (C : Came w ba cap l) :
    Calls Try.prog 28 #[.slice ba l.length cap] w fun e w' => e = .returned (.tuple #[nv (readN l).1, .int .u32 (readN l).2.1, .int .i64 (readN l).2.2]) ∧ Below w.heap.size w w' := by
  by_cases h : l.length = 12
  · obtain ⟨b, o, rfl, L⟩ := C.lies (by omega)
    have hs : numN l < 4294967296 := by
      have := Oct.num_lt0 ((l.drop 1).take 4)
      have e : ((l.drop 1).take 4).length = 4 := part_len l 1 4 (by omega)
      rw [e] at this
      have e2 : (256 : Nat) ^ 4 = 4294967296 := by decide
      rw [e2] at this
      exact this
    have k5 := (l.getD 5 0).toNat_lt
    have k6 := (l.getD 6 0).toNat_lt
    have k7 := (l.getD 7 0).toNat_lt
    have u8 : ∀ a b : UInt8, a ≠ b ↔ a.toNat ≠ b.toNat := fun a b => ⟨fun h k => h (UInt8.toNat_inj.1 k), fun h k => h (by rw [k])⟩
    have u1 : l.getD 8 0 ≠ 1 ↔ (l.getD 8 0).toNat ≠ 1 := u8 _ 1
    have HG := Lib.hid fun w : World => (guard_any (numN l) hs w).mono fun e w' hk => (⟨hk.1, below_of hk.2⟩ : e = .returned (.int .u8 ((guardN (numN l)).toNat : Int)) ∧ Below w.heap.size w w')
    have k := read_core L h C.le C.max _ _ _ _ _ _ (numN l) (guardN (numN l)).toNat (fitsB (l.take 11)) (rightN (ofN l)) (.tuple #[nv (readN l).1, .int .u32 (readN l).2.1, .int .i64 (readN l).2.2]) rfl rfl rfl rfl rfl rfl rfl hs rfl rfl (by omega) (by omega) (by omega)
      (fun hA => ?_) (fun hA hf => ?_) (fun hA hf hg => ?_) (fun hA hf hg => ?_) HG
    · rw [h]; exact k
    · have : readN l = (nt0, 0, 3) := by
        unfold readN
        rw [if_neg (by omega), if_pos (by rw [u8, u8]; exact hA)]
      rw [this]; rfl
    · have : readN l = (nt0, 0, 5) := by
        unfold readN
        rw [if_neg (by omega), if_neg (by rw [u8, u8]; exact hA), if_pos hf]
      rw [this]; rfl
    · have : readN l = (nt0, 0, 3) := by
        unfold readN
        rw [if_neg (by omega), if_neg (by rw [u8, u8]; exact hA), if_neg (by rw [hf]; simp), if_pos (by rw [u1]; exact hg)]
      rw [this]; rfl
    · have : readN l = (ofN l, numN l, 0) := by
        unfold readN
        rw [if_neg (by omega), if_neg (by rw [u8, u8]; exact hA), if_neg (by rw [hf]; simp), if_neg (by rw [u1]; exact hg)]
      rw [this]; rfl
  · have : readN l = (nt0, 0, 2) := by
      unfold readN
      rw [if_pos h]
    rw [this]
    have c1 := C.le
    have c2 := C.max
    unfold maxLen at c2
    exact Read_short ba l.length cap w (by simp; omega) (by omega)
end Ref18
end Go.Proofs.Ytdalajfjikbcaaa
