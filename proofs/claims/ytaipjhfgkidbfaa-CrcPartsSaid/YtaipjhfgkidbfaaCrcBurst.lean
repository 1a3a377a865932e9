/- Burst of the document's own answers for layer 6. -/
import Derived.Test.YtaipjhfgkidbfaaCrcRefA
import Derived.Test.YtaipjhfgkidbfaaRebase
import Derived.Deep.CutBlock
import Derived.Deep.CutRange
import Derived.Lib.MinMax
namespace Go.Proofs.Ytaipjhfgkidbfaa
open Go.RowKit

/-- the i-th bit of a text, the highest of a byte first -/
def bitAt (l : List UInt8) (i : Nat) : Nat := (l.getD (i / 8) 0).toNat / 2 ^ (7 - i % 8) % 2
/-- the first and the last of the first i bits in which two texts are unlike -/
def bu (a b : List UInt8) : Nat → Int × Int
  | 0 => (-1, -1)
  | i + 1 => if bitAt a i = bitAt b i then bu a b i else (if (bu a b i).1 < 0 then (i : Int) else (bu a b i).1, (i : Int))
def burst (a b : List UInt8) : Int := if (bu a b (8 * min a.length b.length)).1 < 0 then 0 else (bu a b (8 * min a.length b.length)).2 - (bu a b (8 * min a.length b.length)).1 + 1

theorem bu_rng (a b : List UInt8) : ∀ i : Nat, -1 ≤ (bu a b i).1 ∧ (bu a b i).1 < i + 1 ∧ -1 ≤ (bu a b i).2 ∧ (bu a b i).2 < i + 1
  | 0 => ⟨by simp [bu], by simp [bu], by simp [bu], by simp [bu]⟩
  | i + 1 => by
    have h := bu_rng a b i
    unfold bu
    split
    · omega
    · split <;> simp only <;> omega

theorem bit_u8 (x e : Nat) (h : x < 256) : bits .and .u8 ((x : Int) / 2 ^ e) 1 = ((x / 2 ^ e % 2 : Nat) : Int) := by
  have e1 : (x : Int) / 2 ^ e = ((x / 2 ^ e : Nat) : Int) := by rw [Int.natCast_ediv, Int.natCast_pow]; rfl
  have hlt : x / 2 ^ e < 256 := Nat.lt_of_le_of_lt (Nat.div_le_self _ _) h
  have o : (BitVec.ofInt 8 ((x / 2 ^ e : Nat) : Int)).toNat = x / 2 ^ e := by
    rw [BitVec.ofInt_natCast, BitVec.toNat_ofNat]; exact Nat.mod_eq_of_lt hlt
  rw [e1]
  show IntKind.u8.wrap ((BitVec.ofInt 8 ((x / 2 ^ e : Nat) : Int) &&& BitVec.ofInt 8 1).toNat : Int) = _
  rw [BitVec.toNat_and, o, show (BitVec.ofInt 8 1).toNat = 1 by decide, Nat.and_one_is_mod, IntKind.wrap_u8]
  omega

/-- The operations of a drawn region, as the translation has them. -/
def burst5 : Array Oper := #[
  { dst := some 17, op := .move (.tmp 0), type := 23, pos := "ref.go:69", after := #[], guard := none },
  { dst := some 18, op := .move (.tmp 7), type := 3, pos := "ref.go:69", after := #[], guard := none },
  { dst := some 19, op := .binOp .quo 3 (.tmp 18) (.const (.int .i64 8)) 3, type := 3, pos := "ref.go:69", after := #[{ on := 1, ground := .data }], guard := none },
  { dst := some 20, op := .indexAddr 23 (.tmp 17) (.tmp 19), type := 0, pos := "ref.go:69", after := #[{ on := 0, ground := .data }, { on := 2, ground := .data }], guard := none },
  { dst := some 21, op := .load 5 (.tmp 20), type := 5, pos := "ref.go:69", after := #[{ on := 3, ground := .data }], guard := none },
  { dst := some 22, op := .move (.tmp 7), type := 3, pos := "ref.go:69", after := #[], guard := none },
  { dst := some 23, op := .binOp .rem 3 (.tmp 22) (.const (.int .i64 8)) 3, type := 3, pos := "ref.go:69", after := #[{ on := 5, ground := .data }], guard := none },
  { dst := some 24, op := .binOp .sub 3 (.const (.int .i64 7)) (.tmp 23) 3, type := 3, pos := "ref.go:69", after := #[{ on := 6, ground := .data }], guard := none },
  { dst := some 25, op := .convert 3 31 (.tmp 24), type := 31, pos := "ref.go:69", after := #[{ on := 7, ground := .data }], guard := none },
  { dst := some 26, op := .binOp .shr 5 (.tmp 21) (.tmp 25) 31, type := 5, pos := "ref.go:69", after := #[{ on := 4, ground := .data }, { on := 8, ground := .data }], guard := none },
  { dst := some 27, op := .binOp .and 5 (.tmp 26) (.const (.int .u8 1)) 5, type := 5, pos := "ref.go:69", after := #[{ on := 9, ground := .data }], guard := none },
  { dst := some 28, op := .move (.tmp 1), type := 23, pos := "ref.go:69", after := #[], guard := none },
  { dst := some 29, op := .move (.tmp 7), type := 3, pos := "ref.go:69", after := #[], guard := none },
  { dst := some 30, op := .binOp .quo 3 (.tmp 29) (.const (.int .i64 8)) 3, type := 3, pos := "ref.go:69", after := #[{ on := 12, ground := .data }], guard := none },
  { dst := some 31, op := .indexAddr 23 (.tmp 28) (.tmp 30), type := 0, pos := "ref.go:69", after := #[{ on := 11, ground := .data }, { on := 13, ground := .data }], guard := none },
  { dst := some 32, op := .load 5 (.tmp 31), type := 5, pos := "ref.go:69", after := #[{ on := 14, ground := .data }], guard := none },
  { dst := some 33, op := .move (.tmp 7), type := 3, pos := "ref.go:69", after := #[], guard := none },
  { dst := some 34, op := .binOp .rem 3 (.tmp 33) (.const (.int .i64 8)) 3, type := 3, pos := "ref.go:69", after := #[{ on := 16, ground := .data }], guard := none },
  { dst := some 35, op := .binOp .sub 3 (.const (.int .i64 7)) (.tmp 34) 3, type := 3, pos := "ref.go:69", after := #[{ on := 17, ground := .data }], guard := none },
  { dst := some 36, op := .convert 3 31 (.tmp 35), type := 31, pos := "ref.go:69", after := #[{ on := 18, ground := .data }], guard := none },
  { dst := some 37, op := .binOp .shr 5 (.tmp 32) (.tmp 36) 31, type := 5, pos := "ref.go:69", after := #[{ on := 15, ground := .data }, { on := 19, ground := .data }], guard := none },
  { dst := some 38, op := .binOp .and 5 (.tmp 37) (.const (.int .u8 1)) 5, type := 5, pos := "ref.go:69", after := #[{ on := 20, ground := .data }], guard := none },
  { dst := some 39, op := .binOp .eql 5 (.tmp 27) (.tmp 38) 5, type := 4, pos := "ref.go:69", after := #[{ on := 10, ground := .data }, { on := 21, ground := .data }], guard := none }]
theorem burst5_plain : Region.noSelect burst5 = true := by kernel_rfl


namespace Ref6
set_option maxHeartbeats 8000000 in
set_option maxRecDepth 100000 in
theorem Burst_came {w : World} {ba bb : Option Addr} {ca cb : Nat} {a b : List UInt8} (CA : Came w ba ca a) (CB : Came w bb cb b) (ha : a.length ≤ 4000) (hb : b.length ≤ 4000) :
    Calls Try.prog 24 #[.slice ba a.length ca, .slice bb b.length cb] w fun e w' => e = .returned (.int .i64 (burst a b)) ∧ Below w.heap.size w w' := by
  obtain ⟨n, hn0⟩ : ∃ n : Nat, n = min a.length b.length := ⟨_, rfl⟩
  have hn : min (a.length : Int) b.length = (n : Int) := by omega
  have hn4 : (n : Int) ≤ 4000 := by omega
  obtain ⟨la, hla⟩ : ∃ la, la = a.length := ⟨_, rfl⟩
  obtain ⟨lb, hlb⟩ : ∃ lb, lb = b.length := ⟨_, rfl⟩
  have hA : ∀ q : Nat, q < n → ∃ g o, ba = some ⟨g, o, none⟩ ∧ q < la ∧ ∀ w', Below w.heap.size w w' → w'.cell? ⟨g, o + q, none⟩ = some (.int .u8 ((a.getD q 0).toNat : Int)) := fun q hq => by
    obtain ⟨g, o, e, L⟩ := CA.lies (by omega)
    exact ⟨g, o, e, by omega, fun w' h => L.keep h q (by omega)⟩
  have hB : ∀ q : Nat, q < n → ∃ g o, bb = some ⟨g, o, none⟩ ∧ q < lb ∧ ∀ w', Below w.heap.size w w' → w'.cell? ⟨g, o + q, none⟩ = some (.int .u8 ((b.getD q 0).toNat : Int)) := fun q hq => by
    obtain ⟨g, o, e, L⟩ := CB.lies (by omega)
    exact ⟨g, o, e, by omega, fun w' h => L.keep h q (by omega)⟩
  have HA := Lib.hid hA; have HB := Lib.hid hB
  obtain ⟨R, hR⟩ : ∃ R, R = burst a b := ⟨_, rfl⟩
  rw [← hR]
  unfold burst at hR
  rw [← hn0] at hR
  have HR := Lib.hid hR
  rw [← hla, ← hlb] at hn ⊢
  clear hR
  have hla4 : (la : Int) ≤ 4000 := by omega
  have hlb4 : (lb : Int) ≤ 4000 := by omega
  clear hA hB CA CB hn0 hla hlb ha hb
  go_enter Try.func24, Try.ntmps24
  go_wp2
  go_loopw [5, 6, 14] (fun f l iv wr => ∃ i : Nat, i ≤ 8 * n ∧ f = .int .i64 (bu a b i).1 ∧ l = .int .i64 (bu a b i).2 ∧ iv = .int .i64 i ∧ Below w.heap.size w wr) (fun _ _ iv _ => 8 * n - (intOf iv).toNat)
  case atStart => exact ⟨0, Nat.zero_le _, rfl, rfl, rfl, Below.refl _ _⟩
  case round =>
    obtain ⟨i, hi, rfl, rfl, rfl, B⟩ := hrel
    have hr := bu_rng a b i
    have hs : bu a b (i + 1) = if bitAt a i = bitAt b i then bu a b i else (if (bu a b i).1 < 0 then (i : Int) else (bu a b i).1, (i : Int)) := rfl
    by_cases hc : (i : Int) < 8 * n
    · obtain ⟨ga, oa, rfl, hqa, cx⟩ := HA.out (i / 8) (by omega)
      obtain ⟨gb, ob, rfl, hqb, cy⟩ := HB.out (i / 8) (by omega)
      have hq : (i : Int).tdiv 8 = ((i / 8 : Nat) : Int) := by rw [Int.tdiv_eq_ediv_of_nonneg (by omega)]; omega
      have hm : (i : Int).tmod 8 = ((i % 8 : Nat) : Int) := by rw [Int.tmod_eq_emod_of_nonneg (by omega)]; omega
      have he : IntKind.i64.wrap (7 - ((i % 8 : Nat) : Int)) = ((7 - i % 8 : Nat) : Int) := by rw [IntKind.wrap_i64]; omega
      have hwq : IntKind.i64.wrap ((i / 8 : Nat) : Int) = ((i / 8 : Nat) : Int) := by rw [IntKind.wrap_i64]; omega
      have hwr : IntKind.i64.wrap ((i % 8 : Nat) : Int) = ((i % 8 : Nat) : Int) := by rw [IntKind.wrap_i64]; omega
      have hwe : IntKind.u64.wrap ((7 - i % 8 : Nat) : Int) = ((7 - i % 8 : Nat) : Int) := by rw [IntKind.wrap_u64]; omega
      have bx := bit_u8 (a.getD (i / 8) 0).toNat (7 - i % 8) (a.getD (i / 8) 0).toNat_lt
      have by_ := bit_u8 (b.getD (i / 8) 0).toNat (7 - i % 8) (b.getD (i / 8) 0).toNat_lt
      obtain ⟨p1, hp1⟩ : ∃ p1 : Int, p1 = ((bitAt a i : Nat) : Int) := ⟨_, rfl⟩
      obtain ⟨p2, hp2⟩ : ∃ p2 : Int, p2 = ((bitAt b i : Nat) : Int) := ⟨_, rfl⟩
      replace bx := bx.trans (show _ = p1 from hp1.symm)
      replace by_ := by_.trans (show _ = p2 from hp2.symm)
      have cx' : ∀ w', Below wr.heap.size wr w' → w'.cell? ⟨ga, oa + i / 8, none⟩ = some (.int .u8 ((a.getD (i / 8) 0).toNat : Int)) := fun w' h => cx w' (belowT B h)
      have cy' : ∀ w', Below wr.heap.size wr w' → w'.cell? ⟨gb, ob + i / 8, none⟩ = some (.int .u8 ((b.getD (i / 8) 0).toNat : Int)) := fun w' h => cy w' (belowT B h)
      have x1 : ((a.getD (i / 8) 0).toNat : Int) ≤ 255 := by have := (a.getD (i / 8) 0).toNat_lt; omega
      have y1 : ((b.getD (i / 8) 0).toNat : Int) ≤ 255 := by have := (b.getD (i / 8) 0).toNat_lt; omega
      have hqa1 : ((i / 8 : Nat) : Int) < la := by omega
      have hqb1 : ((i / 8 : Nat) : Int) < lb := by omega
      have e7 : ((7 - i % 8 : Nat) : Int) ≤ 7 := by omega
      have hend : ∀ f l : Int, (f, l) = bu a b (i + 1) → ∃ i' : Nat, i' ≤ 8 * n ∧ Value.int .i64 f = .int .i64 (bu a b i').1 ∧ Value.int .i64 l = .int .i64 (bu a b i').2 ∧ Value.int .i64 ((i : Int) + 1) = .int .i64 (i' : Int) ∧ Below w.heap.size w wr.drew := fun f l h => ⟨i + 1, by omega, by rw [← h], by rw [← h], rfl, B.drew⟩
      have HE := Lib.hid hend
      clear cx cy hend B hqa hqb
      generalize (a.getD (i / 8) 0).toNat = x at *
      generalize (b.getD (i / 8) 0).toNat = y at *
      generalize i / 8 = q at *
      generalize i % 8 = r at *
      generalize 7 - r = e at *
      by_cases hbb : bitAt a i = bitAt b i
      · have hbq : (p1 == p2) = true := by rw [hp1, hp2, hbb]; simp
        rw [if_pos hbb] at hs
        have HS := Lib.hid hs
        clear hs hbb hp1 hp2
        go_upto_region 5 with fail
        change (Code.region 5 burst5 true).wp Try.prog _ _ _
        refine wp_region_noPanic ?_
        refine wp_region_held_drew (S := fun w' => Below wr.heap.size wr w') (by kernel_rfl) ((Below.refl _ _).drew) (fun hHeld => ?_)
        refine wpAnyH_take (i := 0) (oi := ({ dst := some 17, op := .move (.tmp 0), type := 23, pos := "ref.go:69", after := #[], guard := none } : Oper)) (v := ?vs1_0) rfl burst5_plain (by as_aux_lemma => kernel_rfl) (by as_aux_lemma => kernel_rfl) (fun _ _ _ h => h) (Or.inl ⟨by rfl, ?ys1_0⟩) (by assumption) ?rs1_0
        case ys1_0 => (intro w hSw; (try dsimp only at hSw); go_simp; try with_reducible rfl)
        try simp only [Act.put, List.setIfInBounds_toArray, List.set_cons_zero, List.set_cons_succ]
        refine wpAnyH_take (i := 1) (oi := ({ dst := some 18, op := .move (.tmp 7), type := 3, pos := "ref.go:69", after := #[], guard := none } : Oper)) (v := ?vs1_1) rfl burst5_plain (by as_aux_lemma => kernel_rfl) (by as_aux_lemma => kernel_rfl) (fun _ _ _ h => h) (Or.inl ⟨by rfl, ?ys1_1⟩) (by assumption) ?rs1_1
        case ys1_1 => (intro w hSw; (try dsimp only at hSw); go_simp; try with_reducible rfl)
        try simp only [Act.put, List.setIfInBounds_toArray, List.set_cons_zero, List.set_cons_succ]
        refine wpAnyH_take (i := 2) (oi := ({ dst := some 19, op := .binOp .quo 3 (.tmp 18) (.const (.int .i64 8)) 3, type := 3, pos := "ref.go:69", after := #[{ on := 1, ground := .data }], guard := none } : Oper)) (v := ?vs1_2) rfl burst5_plain (by as_aux_lemma => kernel_rfl) (by as_aux_lemma => kernel_rfl) (fun _ _ _ h => h) (Or.inl ⟨by rfl, ?ys1_2⟩) (by assumption) ?rs1_2
        case ys1_2 => (intro w hSw; (try dsimp only at hSw); go_simp; try with_reducible rfl)
        try simp only [Act.put, List.setIfInBounds_toArray, List.set_cons_zero, List.set_cons_succ]
        refine wpAnyH_take (i := 3) (oi := ({ dst := some 20, op := .indexAddr 23 (.tmp 17) (.tmp 19), type := 0, pos := "ref.go:69", after := #[{ on := 0, ground := .data }, { on := 2, ground := .data }], guard := none } : Oper)) (v := ?vs1_3) rfl burst5_plain (by as_aux_lemma => kernel_rfl) (by as_aux_lemma => kernel_rfl) (fun _ _ _ h => h) (Or.inl ⟨by rfl, ?ys1_3⟩) (by assumption) ?rs1_3
        case ys1_3 => (intro w hSw; (try dsimp only at hSw); go_simp; try with_reducible rfl)
        try simp only [Act.put, List.setIfInBounds_toArray, List.set_cons_zero, List.set_cons_succ]
        refine wpAnyH_take (i := 4) (oi := ({ dst := some 21, op := .load 5 (.tmp 20), type := 5, pos := "ref.go:69", after := #[{ on := 3, ground := .data }], guard := none } : Oper)) (v := ?vs1_4) rfl burst5_plain (by as_aux_lemma => kernel_rfl) (by as_aux_lemma => kernel_rfl) (fun _ _ _ h => h) (Or.inl ⟨by rfl, ?ys1_4⟩) (by assumption) ?rs1_4
        case ys1_4 => (intro w hSw; (try dsimp only at hSw); go_simp; try with_reducible rfl)
        try simp only [Act.put, List.setIfInBounds_toArray, List.set_cons_zero, List.set_cons_succ]
        refine wpAnyH_take (i := 5) (oi := ({ dst := some 22, op := .move (.tmp 7), type := 3, pos := "ref.go:69", after := #[], guard := none } : Oper)) (v := ?vs1_5) rfl burst5_plain (by as_aux_lemma => kernel_rfl) (by as_aux_lemma => kernel_rfl) (fun _ _ _ h => h) (Or.inl ⟨by rfl, ?ys1_5⟩) (by assumption) ?rs1_5
        case ys1_5 => (intro w hSw; (try dsimp only at hSw); go_simp; try with_reducible rfl)
        try simp only [Act.put, List.setIfInBounds_toArray, List.set_cons_zero, List.set_cons_succ]
        refine wpAnyH_take (i := 6) (oi := ({ dst := some 23, op := .binOp .rem 3 (.tmp 22) (.const (.int .i64 8)) 3, type := 3, pos := "ref.go:69", after := #[{ on := 5, ground := .data }], guard := none } : Oper)) (v := ?vs1_6) rfl burst5_plain (by as_aux_lemma => kernel_rfl) (by as_aux_lemma => kernel_rfl) (fun _ _ _ h => h) (Or.inl ⟨by rfl, ?ys1_6⟩) (by assumption) ?rs1_6
        case ys1_6 => (intro w hSw; (try dsimp only at hSw); go_simp; try with_reducible rfl)
        try simp only [Act.put, List.setIfInBounds_toArray, List.set_cons_zero, List.set_cons_succ]
        refine wpAnyH_take (i := 7) (oi := ({ dst := some 24, op := .binOp .sub 3 (.const (.int .i64 7)) (.tmp 23) 3, type := 3, pos := "ref.go:69", after := #[{ on := 6, ground := .data }], guard := none } : Oper)) (v := ?vs1_7) rfl burst5_plain (by as_aux_lemma => kernel_rfl) (by as_aux_lemma => kernel_rfl) (fun _ _ _ h => h) (Or.inl ⟨by rfl, ?ys1_7⟩) (by assumption) ?rs1_7
        case ys1_7 => (intro w hSw; (try dsimp only at hSw); go_simp; try with_reducible rfl)
        try simp only [Act.put, List.setIfInBounds_toArray, List.set_cons_zero, List.set_cons_succ]
        refine wpAnyH_take (i := 8) (oi := ({ dst := some 25, op := .convert 3 31 (.tmp 24), type := 31, pos := "ref.go:69", after := #[{ on := 7, ground := .data }], guard := none } : Oper)) (v := ?vs1_8) rfl burst5_plain (by as_aux_lemma => kernel_rfl) (by as_aux_lemma => kernel_rfl) (fun _ _ _ h => h) (Or.inl ⟨by rfl, ?ys1_8⟩) (by assumption) ?rs1_8
        case ys1_8 => (intro w hSw; (try dsimp only at hSw); go_simp; try with_reducible rfl)
        try simp only [Act.put, List.setIfInBounds_toArray, List.set_cons_zero, List.set_cons_succ]
        refine wpAnyH_take (i := 9) (oi := ({ dst := some 26, op := .binOp .shr 5 (.tmp 21) (.tmp 25) 31, type := 5, pos := "ref.go:69", after := #[{ on := 4, ground := .data }, { on := 8, ground := .data }], guard := none } : Oper)) (v := ?vs1_9) rfl burst5_plain (by as_aux_lemma => kernel_rfl) (by as_aux_lemma => kernel_rfl) (fun _ _ _ h => h) (Or.inl ⟨by rfl, ?ys1_9⟩) (by assumption) ?rs1_9
        case ys1_9 => (intro w hSw; (try dsimp only at hSw); go_simp; try with_reducible rfl)
        try simp only [Act.put, List.setIfInBounds_toArray, List.set_cons_zero, List.set_cons_succ]
        refine wpAnyH_take (i := 10) (oi := ({ dst := some 27, op := .binOp .and 5 (.tmp 26) (.const (.int .u8 1)) 5, type := 5, pos := "ref.go:69", after := #[{ on := 9, ground := .data }], guard := none } : Oper)) (v := ?vs1_10) rfl burst5_plain (by as_aux_lemma => kernel_rfl) (by as_aux_lemma => kernel_rfl) (fun _ _ _ h => h) (Or.inl ⟨by rfl, ?ys1_10⟩) (by assumption) ?rs1_10
        case ys1_10 => (intro w hSw; (try dsimp only at hSw); go_simp; try with_reducible rfl)
        try simp only [Act.put, List.setIfInBounds_toArray, List.set_cons_zero, List.set_cons_succ]
        refine wpAnyH_take (i := 11) (oi := ({ dst := some 28, op := .move (.tmp 1), type := 23, pos := "ref.go:69", after := #[], guard := none } : Oper)) (v := ?vs1_11) rfl burst5_plain (by as_aux_lemma => kernel_rfl) (by as_aux_lemma => kernel_rfl) (fun _ _ _ h => h) (Or.inl ⟨by rfl, ?ys1_11⟩) (by assumption) ?rs1_11
        case ys1_11 => (intro w hSw; (try dsimp only at hSw); go_simp; try with_reducible rfl)
        try simp only [Act.put, List.setIfInBounds_toArray, List.set_cons_zero, List.set_cons_succ]
        refine wpAnyH_take (i := 12) (oi := ({ dst := some 29, op := .move (.tmp 7), type := 3, pos := "ref.go:69", after := #[], guard := none } : Oper)) (v := ?vs1_12) rfl burst5_plain (by as_aux_lemma => kernel_rfl) (by as_aux_lemma => kernel_rfl) (fun _ _ _ h => h) (Or.inl ⟨by rfl, ?ys1_12⟩) (by assumption) ?rs1_12
        case ys1_12 => (intro w hSw; (try dsimp only at hSw); go_simp; try with_reducible rfl)
        try simp only [Act.put, List.setIfInBounds_toArray, List.set_cons_zero, List.set_cons_succ]
        refine wpAnyH_take (i := 13) (oi := ({ dst := some 30, op := .binOp .quo 3 (.tmp 29) (.const (.int .i64 8)) 3, type := 3, pos := "ref.go:69", after := #[{ on := 12, ground := .data }], guard := none } : Oper)) (v := ?vs1_13) rfl burst5_plain (by as_aux_lemma => kernel_rfl) (by as_aux_lemma => kernel_rfl) (fun _ _ _ h => h) (Or.inl ⟨by rfl, ?ys1_13⟩) (by assumption) ?rs1_13
        case ys1_13 => (intro w hSw; (try dsimp only at hSw); go_simp; try with_reducible rfl)
        try simp only [Act.put, List.setIfInBounds_toArray, List.set_cons_zero, List.set_cons_succ]
        refine wpAnyH_take (i := 14) (oi := ({ dst := some 31, op := .indexAddr 23 (.tmp 28) (.tmp 30), type := 0, pos := "ref.go:69", after := #[{ on := 11, ground := .data }, { on := 13, ground := .data }], guard := none } : Oper)) (v := ?vs1_14) rfl burst5_plain (by as_aux_lemma => kernel_rfl) (by as_aux_lemma => kernel_rfl) (fun _ _ _ h => h) (Or.inl ⟨by rfl, ?ys1_14⟩) (by assumption) ?rs1_14
        case ys1_14 => (intro w hSw; (try dsimp only at hSw); go_simp; try with_reducible rfl)
        try simp only [Act.put, List.setIfInBounds_toArray, List.set_cons_zero, List.set_cons_succ]
        refine wpAnyH_take (i := 15) (oi := ({ dst := some 32, op := .load 5 (.tmp 31), type := 5, pos := "ref.go:69", after := #[{ on := 14, ground := .data }], guard := none } : Oper)) (v := ?vs1_15) rfl burst5_plain (by as_aux_lemma => kernel_rfl) (by as_aux_lemma => kernel_rfl) (fun _ _ _ h => h) (Or.inl ⟨by rfl, ?ys1_15⟩) (by assumption) ?rs1_15
        case ys1_15 => (intro w hSw; (try dsimp only at hSw); go_simp; try with_reducible rfl)
        try simp only [Act.put, List.setIfInBounds_toArray, List.set_cons_zero, List.set_cons_succ]
        refine wpAnyH_take (i := 16) (oi := ({ dst := some 33, op := .move (.tmp 7), type := 3, pos := "ref.go:69", after := #[], guard := none } : Oper)) (v := ?vs1_16) rfl burst5_plain (by as_aux_lemma => kernel_rfl) (by as_aux_lemma => kernel_rfl) (fun _ _ _ h => h) (Or.inl ⟨by rfl, ?ys1_16⟩) (by assumption) ?rs1_16
        case ys1_16 => (intro w hSw; (try dsimp only at hSw); go_simp; try with_reducible rfl)
        try simp only [Act.put, List.setIfInBounds_toArray, List.set_cons_zero, List.set_cons_succ]
        refine wpAnyH_take (i := 17) (oi := ({ dst := some 34, op := .binOp .rem 3 (.tmp 33) (.const (.int .i64 8)) 3, type := 3, pos := "ref.go:69", after := #[{ on := 16, ground := .data }], guard := none } : Oper)) (v := ?vs1_17) rfl burst5_plain (by as_aux_lemma => kernel_rfl) (by as_aux_lemma => kernel_rfl) (fun _ _ _ h => h) (Or.inl ⟨by rfl, ?ys1_17⟩) (by assumption) ?rs1_17
        case ys1_17 => (intro w hSw; (try dsimp only at hSw); go_simp; try with_reducible rfl)
        try simp only [Act.put, List.setIfInBounds_toArray, List.set_cons_zero, List.set_cons_succ]
        refine wpAnyH_take (i := 18) (oi := ({ dst := some 35, op := .binOp .sub 3 (.const (.int .i64 7)) (.tmp 34) 3, type := 3, pos := "ref.go:69", after := #[{ on := 17, ground := .data }], guard := none } : Oper)) (v := ?vs1_18) rfl burst5_plain (by as_aux_lemma => kernel_rfl) (by as_aux_lemma => kernel_rfl) (fun _ _ _ h => h) (Or.inl ⟨by rfl, ?ys1_18⟩) (by assumption) ?rs1_18
        case ys1_18 => (intro w hSw; (try dsimp only at hSw); go_simp; try with_reducible rfl)
        try simp only [Act.put, List.setIfInBounds_toArray, List.set_cons_zero, List.set_cons_succ]
        refine wpAnyH_take (i := 19) (oi := ({ dst := some 36, op := .convert 3 31 (.tmp 35), type := 31, pos := "ref.go:69", after := #[{ on := 18, ground := .data }], guard := none } : Oper)) (v := ?vs1_19) rfl burst5_plain (by as_aux_lemma => kernel_rfl) (by as_aux_lemma => kernel_rfl) (fun _ _ _ h => h) (Or.inl ⟨by rfl, ?ys1_19⟩) (by assumption) ?rs1_19
        case ys1_19 => (intro w hSw; (try dsimp only at hSw); go_simp; try with_reducible rfl)
        try simp only [Act.put, List.setIfInBounds_toArray, List.set_cons_zero, List.set_cons_succ]
        refine wpAnyH_take (i := 20) (oi := ({ dst := some 37, op := .binOp .shr 5 (.tmp 32) (.tmp 36) 31, type := 5, pos := "ref.go:69", after := #[{ on := 15, ground := .data }, { on := 19, ground := .data }], guard := none } : Oper)) (v := ?vs1_20) rfl burst5_plain (by as_aux_lemma => kernel_rfl) (by as_aux_lemma => kernel_rfl) (fun _ _ _ h => h) (Or.inl ⟨by rfl, ?ys1_20⟩) (by assumption) ?rs1_20
        case ys1_20 => (intro w hSw; (try dsimp only at hSw); go_simp; try with_reducible rfl)
        try simp only [Act.put, List.setIfInBounds_toArray, List.set_cons_zero, List.set_cons_succ]
        refine wpAnyH_take (i := 21) (oi := ({ dst := some 38, op := .binOp .and 5 (.tmp 37) (.const (.int .u8 1)) 5, type := 5, pos := "ref.go:69", after := #[{ on := 20, ground := .data }], guard := none } : Oper)) (v := ?vs1_21) rfl burst5_plain (by as_aux_lemma => kernel_rfl) (by as_aux_lemma => kernel_rfl) (fun _ _ _ h => h) (Or.inl ⟨by rfl, ?ys1_21⟩) (by assumption) ?rs1_21
        case ys1_21 => (intro w hSw; (try dsimp only at hSw); go_simp; try with_reducible rfl)
        try simp only [Act.put, List.setIfInBounds_toArray, List.set_cons_zero, List.set_cons_succ]
        refine wpAnyH_take (i := 22) (oi := ({ dst := some 39, op := .binOp .eql 5 (.tmp 27) (.tmp 38) 5, type := 4, pos := "ref.go:69", after := #[{ on := 10, ground := .data }, { on := 21, ground := .data }], guard := none } : Oper)) (v := ?vs1_22) rfl burst5_plain (by as_aux_lemma => kernel_rfl) (by as_aux_lemma => kernel_rfl) (fun _ _ _ h => h) (Or.inl ⟨by rfl, ?ys1_22⟩) (by assumption) ?rs1_22
        case ys1_22 => (intro w hSw; (try dsimp only at hSw); go_simp; try with_reducible rfl)
        try simp only [Act.put, List.setIfInBounds_toArray, List.set_cons_zero, List.set_cons_succ]
        refine wpAnyH_done (by as_aux_lemma => kernel_rfl) ?_ _
        refine NoPanic.normal ?_
        go_wp2
        go_roundw
        case rel => exact HE.out _ _ HS.out.symm
        case measure => simp [intOf]; omega
      · have hbq : (p1 == p2) = false := by rw [beq_eq_false_iff_ne]; omega
        rw [if_neg hbb] at hs
        by_cases hf : (bu a b i).1 < 0
        · rw [if_pos hf] at hs
          have HS := Lib.hid hs
          clear hs hbb hp1 hp2
          generalize (bu a b i).1 = f at *
          generalize (bu a b i).2 = l at *
          go_upto_region 5 with fail
          change (Code.region 5 burst5 true).wp Try.prog _ _ _
          refine wp_region_noPanic ?_
          refine wp_region_held_drew (S := fun w' => Below wr.heap.size wr w') (by kernel_rfl) ((Below.refl _ _).drew) (fun hHeld => ?_)
          refine wpAnyH_take (i := 0) (oi := ({ dst := some 17, op := .move (.tmp 0), type := 23, pos := "ref.go:69", after := #[], guard := none } : Oper)) (v := ?vs2_0) rfl burst5_plain (by as_aux_lemma => kernel_rfl) (by as_aux_lemma => kernel_rfl) (fun _ _ _ h => h) (Or.inl ⟨by rfl, ?ys2_0⟩) (by assumption) ?rs2_0
          case ys2_0 => (intro w hSw; (try dsimp only at hSw); go_simp; try with_reducible rfl)
          try simp only [Act.put, List.setIfInBounds_toArray, List.set_cons_zero, List.set_cons_succ]
          refine wpAnyH_take (i := 1) (oi := ({ dst := some 18, op := .move (.tmp 7), type := 3, pos := "ref.go:69", after := #[], guard := none } : Oper)) (v := ?vs2_1) rfl burst5_plain (by as_aux_lemma => kernel_rfl) (by as_aux_lemma => kernel_rfl) (fun _ _ _ h => h) (Or.inl ⟨by rfl, ?ys2_1⟩) (by assumption) ?rs2_1
          case ys2_1 => (intro w hSw; (try dsimp only at hSw); go_simp; try with_reducible rfl)
          try simp only [Act.put, List.setIfInBounds_toArray, List.set_cons_zero, List.set_cons_succ]
          refine wpAnyH_take (i := 2) (oi := ({ dst := some 19, op := .binOp .quo 3 (.tmp 18) (.const (.int .i64 8)) 3, type := 3, pos := "ref.go:69", after := #[{ on := 1, ground := .data }], guard := none } : Oper)) (v := ?vs2_2) rfl burst5_plain (by as_aux_lemma => kernel_rfl) (by as_aux_lemma => kernel_rfl) (fun _ _ _ h => h) (Or.inl ⟨by rfl, ?ys2_2⟩) (by assumption) ?rs2_2
          case ys2_2 => (intro w hSw; (try dsimp only at hSw); go_simp; try with_reducible rfl)
          try simp only [Act.put, List.setIfInBounds_toArray, List.set_cons_zero, List.set_cons_succ]
          refine wpAnyH_take (i := 3) (oi := ({ dst := some 20, op := .indexAddr 23 (.tmp 17) (.tmp 19), type := 0, pos := "ref.go:69", after := #[{ on := 0, ground := .data }, { on := 2, ground := .data }], guard := none } : Oper)) (v := ?vs2_3) rfl burst5_plain (by as_aux_lemma => kernel_rfl) (by as_aux_lemma => kernel_rfl) (fun _ _ _ h => h) (Or.inl ⟨by rfl, ?ys2_3⟩) (by assumption) ?rs2_3
          case ys2_3 => (intro w hSw; (try dsimp only at hSw); go_simp; try with_reducible rfl)
          try simp only [Act.put, List.setIfInBounds_toArray, List.set_cons_zero, List.set_cons_succ]
          refine wpAnyH_take (i := 4) (oi := ({ dst := some 21, op := .load 5 (.tmp 20), type := 5, pos := "ref.go:69", after := #[{ on := 3, ground := .data }], guard := none } : Oper)) (v := ?vs2_4) rfl burst5_plain (by as_aux_lemma => kernel_rfl) (by as_aux_lemma => kernel_rfl) (fun _ _ _ h => h) (Or.inl ⟨by rfl, ?ys2_4⟩) (by assumption) ?rs2_4
          case ys2_4 => (intro w hSw; (try dsimp only at hSw); go_simp; try with_reducible rfl)
          try simp only [Act.put, List.setIfInBounds_toArray, List.set_cons_zero, List.set_cons_succ]
          refine wpAnyH_take (i := 5) (oi := ({ dst := some 22, op := .move (.tmp 7), type := 3, pos := "ref.go:69", after := #[], guard := none } : Oper)) (v := ?vs2_5) rfl burst5_plain (by as_aux_lemma => kernel_rfl) (by as_aux_lemma => kernel_rfl) (fun _ _ _ h => h) (Or.inl ⟨by rfl, ?ys2_5⟩) (by assumption) ?rs2_5
          case ys2_5 => (intro w hSw; (try dsimp only at hSw); go_simp; try with_reducible rfl)
          try simp only [Act.put, List.setIfInBounds_toArray, List.set_cons_zero, List.set_cons_succ]
          refine wpAnyH_take (i := 6) (oi := ({ dst := some 23, op := .binOp .rem 3 (.tmp 22) (.const (.int .i64 8)) 3, type := 3, pos := "ref.go:69", after := #[{ on := 5, ground := .data }], guard := none } : Oper)) (v := ?vs2_6) rfl burst5_plain (by as_aux_lemma => kernel_rfl) (by as_aux_lemma => kernel_rfl) (fun _ _ _ h => h) (Or.inl ⟨by rfl, ?ys2_6⟩) (by assumption) ?rs2_6
          case ys2_6 => (intro w hSw; (try dsimp only at hSw); go_simp; try with_reducible rfl)
          try simp only [Act.put, List.setIfInBounds_toArray, List.set_cons_zero, List.set_cons_succ]
          refine wpAnyH_take (i := 7) (oi := ({ dst := some 24, op := .binOp .sub 3 (.const (.int .i64 7)) (.tmp 23) 3, type := 3, pos := "ref.go:69", after := #[{ on := 6, ground := .data }], guard := none } : Oper)) (v := ?vs2_7) rfl burst5_plain (by as_aux_lemma => kernel_rfl) (by as_aux_lemma => kernel_rfl) (fun _ _ _ h => h) (Or.inl ⟨by rfl, ?ys2_7⟩) (by assumption) ?rs2_7
          case ys2_7 => (intro w hSw; (try dsimp only at hSw); go_simp; try with_reducible rfl)
          try simp only [Act.put, List.setIfInBounds_toArray, List.set_cons_zero, List.set_cons_succ]
          refine wpAnyH_take (i := 8) (oi := ({ dst := some 25, op := .convert 3 31 (.tmp 24), type := 31, pos := "ref.go:69", after := #[{ on := 7, ground := .data }], guard := none } : Oper)) (v := ?vs2_8) rfl burst5_plain (by as_aux_lemma => kernel_rfl) (by as_aux_lemma => kernel_rfl) (fun _ _ _ h => h) (Or.inl ⟨by rfl, ?ys2_8⟩) (by assumption) ?rs2_8
          case ys2_8 => (intro w hSw; (try dsimp only at hSw); go_simp; try with_reducible rfl)
          try simp only [Act.put, List.setIfInBounds_toArray, List.set_cons_zero, List.set_cons_succ]
          refine wpAnyH_take (i := 9) (oi := ({ dst := some 26, op := .binOp .shr 5 (.tmp 21) (.tmp 25) 31, type := 5, pos := "ref.go:69", after := #[{ on := 4, ground := .data }, { on := 8, ground := .data }], guard := none } : Oper)) (v := ?vs2_9) rfl burst5_plain (by as_aux_lemma => kernel_rfl) (by as_aux_lemma => kernel_rfl) (fun _ _ _ h => h) (Or.inl ⟨by rfl, ?ys2_9⟩) (by assumption) ?rs2_9
          case ys2_9 => (intro w hSw; (try dsimp only at hSw); go_simp; try with_reducible rfl)
          try simp only [Act.put, List.setIfInBounds_toArray, List.set_cons_zero, List.set_cons_succ]
          refine wpAnyH_take (i := 10) (oi := ({ dst := some 27, op := .binOp .and 5 (.tmp 26) (.const (.int .u8 1)) 5, type := 5, pos := "ref.go:69", after := #[{ on := 9, ground := .data }], guard := none } : Oper)) (v := ?vs2_10) rfl burst5_plain (by as_aux_lemma => kernel_rfl) (by as_aux_lemma => kernel_rfl) (fun _ _ _ h => h) (Or.inl ⟨by rfl, ?ys2_10⟩) (by assumption) ?rs2_10
          case ys2_10 => (intro w hSw; (try dsimp only at hSw); go_simp; try with_reducible rfl)
          try simp only [Act.put, List.setIfInBounds_toArray, List.set_cons_zero, List.set_cons_succ]
          refine wpAnyH_take (i := 11) (oi := ({ dst := some 28, op := .move (.tmp 1), type := 23, pos := "ref.go:69", after := #[], guard := none } : Oper)) (v := ?vs2_11) rfl burst5_plain (by as_aux_lemma => kernel_rfl) (by as_aux_lemma => kernel_rfl) (fun _ _ _ h => h) (Or.inl ⟨by rfl, ?ys2_11⟩) (by assumption) ?rs2_11
          case ys2_11 => (intro w hSw; (try dsimp only at hSw); go_simp; try with_reducible rfl)
          try simp only [Act.put, List.setIfInBounds_toArray, List.set_cons_zero, List.set_cons_succ]
          refine wpAnyH_take (i := 12) (oi := ({ dst := some 29, op := .move (.tmp 7), type := 3, pos := "ref.go:69", after := #[], guard := none } : Oper)) (v := ?vs2_12) rfl burst5_plain (by as_aux_lemma => kernel_rfl) (by as_aux_lemma => kernel_rfl) (fun _ _ _ h => h) (Or.inl ⟨by rfl, ?ys2_12⟩) (by assumption) ?rs2_12
          case ys2_12 => (intro w hSw; (try dsimp only at hSw); go_simp; try with_reducible rfl)
          try simp only [Act.put, List.setIfInBounds_toArray, List.set_cons_zero, List.set_cons_succ]
          refine wpAnyH_take (i := 13) (oi := ({ dst := some 30, op := .binOp .quo 3 (.tmp 29) (.const (.int .i64 8)) 3, type := 3, pos := "ref.go:69", after := #[{ on := 12, ground := .data }], guard := none } : Oper)) (v := ?vs2_13) rfl burst5_plain (by as_aux_lemma => kernel_rfl) (by as_aux_lemma => kernel_rfl) (fun _ _ _ h => h) (Or.inl ⟨by rfl, ?ys2_13⟩) (by assumption) ?rs2_13
          case ys2_13 => (intro w hSw; (try dsimp only at hSw); go_simp; try with_reducible rfl)
          try simp only [Act.put, List.setIfInBounds_toArray, List.set_cons_zero, List.set_cons_succ]
          refine wpAnyH_take (i := 14) (oi := ({ dst := some 31, op := .indexAddr 23 (.tmp 28) (.tmp 30), type := 0, pos := "ref.go:69", after := #[{ on := 11, ground := .data }, { on := 13, ground := .data }], guard := none } : Oper)) (v := ?vs2_14) rfl burst5_plain (by as_aux_lemma => kernel_rfl) (by as_aux_lemma => kernel_rfl) (fun _ _ _ h => h) (Or.inl ⟨by rfl, ?ys2_14⟩) (by assumption) ?rs2_14
          case ys2_14 => (intro w hSw; (try dsimp only at hSw); go_simp; try with_reducible rfl)
          try simp only [Act.put, List.setIfInBounds_toArray, List.set_cons_zero, List.set_cons_succ]
          refine wpAnyH_take (i := 15) (oi := ({ dst := some 32, op := .load 5 (.tmp 31), type := 5, pos := "ref.go:69", after := #[{ on := 14, ground := .data }], guard := none } : Oper)) (v := ?vs2_15) rfl burst5_plain (by as_aux_lemma => kernel_rfl) (by as_aux_lemma => kernel_rfl) (fun _ _ _ h => h) (Or.inl ⟨by rfl, ?ys2_15⟩) (by assumption) ?rs2_15
          case ys2_15 => (intro w hSw; (try dsimp only at hSw); go_simp; try with_reducible rfl)
          try simp only [Act.put, List.setIfInBounds_toArray, List.set_cons_zero, List.set_cons_succ]
          refine wpAnyH_take (i := 16) (oi := ({ dst := some 33, op := .move (.tmp 7), type := 3, pos := "ref.go:69", after := #[], guard := none } : Oper)) (v := ?vs2_16) rfl burst5_plain (by as_aux_lemma => kernel_rfl) (by as_aux_lemma => kernel_rfl) (fun _ _ _ h => h) (Or.inl ⟨by rfl, ?ys2_16⟩) (by assumption) ?rs2_16
          case ys2_16 => (intro w hSw; (try dsimp only at hSw); go_simp; try with_reducible rfl)
          try simp only [Act.put, List.setIfInBounds_toArray, List.set_cons_zero, List.set_cons_succ]
          refine wpAnyH_take (i := 17) (oi := ({ dst := some 34, op := .binOp .rem 3 (.tmp 33) (.const (.int .i64 8)) 3, type := 3, pos := "ref.go:69", after := #[{ on := 16, ground := .data }], guard := none } : Oper)) (v := ?vs2_17) rfl burst5_plain (by as_aux_lemma => kernel_rfl) (by as_aux_lemma => kernel_rfl) (fun _ _ _ h => h) (Or.inl ⟨by rfl, ?ys2_17⟩) (by assumption) ?rs2_17
          case ys2_17 => (intro w hSw; (try dsimp only at hSw); go_simp; try with_reducible rfl)
          try simp only [Act.put, List.setIfInBounds_toArray, List.set_cons_zero, List.set_cons_succ]
          refine wpAnyH_take (i := 18) (oi := ({ dst := some 35, op := .binOp .sub 3 (.const (.int .i64 7)) (.tmp 34) 3, type := 3, pos := "ref.go:69", after := #[{ on := 17, ground := .data }], guard := none } : Oper)) (v := ?vs2_18) rfl burst5_plain (by as_aux_lemma => kernel_rfl) (by as_aux_lemma => kernel_rfl) (fun _ _ _ h => h) (Or.inl ⟨by rfl, ?ys2_18⟩) (by assumption) ?rs2_18
          case ys2_18 => (intro w hSw; (try dsimp only at hSw); go_simp; try with_reducible rfl)
          try simp only [Act.put, List.setIfInBounds_toArray, List.set_cons_zero, List.set_cons_succ]
          refine wpAnyH_take (i := 19) (oi := ({ dst := some 36, op := .convert 3 31 (.tmp 35), type := 31, pos := "ref.go:69", after := #[{ on := 18, ground := .data }], guard := none } : Oper)) (v := ?vs2_19) rfl burst5_plain (by as_aux_lemma => kernel_rfl) (by as_aux_lemma => kernel_rfl) (fun _ _ _ h => h) (Or.inl ⟨by rfl, ?ys2_19⟩) (by assumption) ?rs2_19
          case ys2_19 => (intro w hSw; (try dsimp only at hSw); go_simp; try with_reducible rfl)
          try simp only [Act.put, List.setIfInBounds_toArray, List.set_cons_zero, List.set_cons_succ]
          refine wpAnyH_take (i := 20) (oi := ({ dst := some 37, op := .binOp .shr 5 (.tmp 32) (.tmp 36) 31, type := 5, pos := "ref.go:69", after := #[{ on := 15, ground := .data }, { on := 19, ground := .data }], guard := none } : Oper)) (v := ?vs2_20) rfl burst5_plain (by as_aux_lemma => kernel_rfl) (by as_aux_lemma => kernel_rfl) (fun _ _ _ h => h) (Or.inl ⟨by rfl, ?ys2_20⟩) (by assumption) ?rs2_20
          case ys2_20 => (intro w hSw; (try dsimp only at hSw); go_simp; try with_reducible rfl)
          try simp only [Act.put, List.setIfInBounds_toArray, List.set_cons_zero, List.set_cons_succ]
          refine wpAnyH_take (i := 21) (oi := ({ dst := some 38, op := .binOp .and 5 (.tmp 37) (.const (.int .u8 1)) 5, type := 5, pos := "ref.go:69", after := #[{ on := 20, ground := .data }], guard := none } : Oper)) (v := ?vs2_21) rfl burst5_plain (by as_aux_lemma => kernel_rfl) (by as_aux_lemma => kernel_rfl) (fun _ _ _ h => h) (Or.inl ⟨by rfl, ?ys2_21⟩) (by assumption) ?rs2_21
          case ys2_21 => (intro w hSw; (try dsimp only at hSw); go_simp; try with_reducible rfl)
          try simp only [Act.put, List.setIfInBounds_toArray, List.set_cons_zero, List.set_cons_succ]
          refine wpAnyH_take (i := 22) (oi := ({ dst := some 39, op := .binOp .eql 5 (.tmp 27) (.tmp 38) 5, type := 4, pos := "ref.go:69", after := #[{ on := 10, ground := .data }, { on := 21, ground := .data }], guard := none } : Oper)) (v := ?vs2_22) rfl burst5_plain (by as_aux_lemma => kernel_rfl) (by as_aux_lemma => kernel_rfl) (fun _ _ _ h => h) (Or.inl ⟨by rfl, ?ys2_22⟩) (by assumption) ?rs2_22
          case ys2_22 => (intro w hSw; (try dsimp only at hSw); go_simp; try with_reducible rfl)
          try simp only [Act.put, List.setIfInBounds_toArray, List.set_cons_zero, List.set_cons_succ]
          refine wpAnyH_done (by as_aux_lemma => kernel_rfl) ?_ _
          refine NoPanic.normal ?_
          go_wp2
          go_roundw
          case rel => exact HE.out _ _ HS.out.symm
          case measure => simp [intOf]; omega
        · have hf' : decide ((bu a b i).1 < 0) = false := decide_eq_false hf
          rw [if_neg hf] at hs
          have HS := Lib.hid hs
          clear hs hbb hp1 hp2
          generalize (bu a b i).1 = f at *
          generalize (bu a b i).2 = l at *
          go_upto_region 5 with fail
          change (Code.region 5 burst5 true).wp Try.prog _ _ _
          refine wp_region_noPanic ?_
          refine wp_region_held_drew (S := fun w' => Below wr.heap.size wr w') (by kernel_rfl) ((Below.refl _ _).drew) (fun hHeld => ?_)
          refine wpAnyH_take (i := 0) (oi := ({ dst := some 17, op := .move (.tmp 0), type := 23, pos := "ref.go:69", after := #[], guard := none } : Oper)) (v := ?vs3_0) rfl burst5_plain (by as_aux_lemma => kernel_rfl) (by as_aux_lemma => kernel_rfl) (fun _ _ _ h => h) (Or.inl ⟨by rfl, ?ys3_0⟩) (by assumption) ?rs3_0
          case ys3_0 => (intro w hSw; (try dsimp only at hSw); go_simp; try with_reducible rfl)
          try simp only [Act.put, List.setIfInBounds_toArray, List.set_cons_zero, List.set_cons_succ]
          refine wpAnyH_take (i := 1) (oi := ({ dst := some 18, op := .move (.tmp 7), type := 3, pos := "ref.go:69", after := #[], guard := none } : Oper)) (v := ?vs3_1) rfl burst5_plain (by as_aux_lemma => kernel_rfl) (by as_aux_lemma => kernel_rfl) (fun _ _ _ h => h) (Or.inl ⟨by rfl, ?ys3_1⟩) (by assumption) ?rs3_1
          case ys3_1 => (intro w hSw; (try dsimp only at hSw); go_simp; try with_reducible rfl)
          try simp only [Act.put, List.setIfInBounds_toArray, List.set_cons_zero, List.set_cons_succ]
          refine wpAnyH_take (i := 2) (oi := ({ dst := some 19, op := .binOp .quo 3 (.tmp 18) (.const (.int .i64 8)) 3, type := 3, pos := "ref.go:69", after := #[{ on := 1, ground := .data }], guard := none } : Oper)) (v := ?vs3_2) rfl burst5_plain (by as_aux_lemma => kernel_rfl) (by as_aux_lemma => kernel_rfl) (fun _ _ _ h => h) (Or.inl ⟨by rfl, ?ys3_2⟩) (by assumption) ?rs3_2
          case ys3_2 => (intro w hSw; (try dsimp only at hSw); go_simp; try with_reducible rfl)
          try simp only [Act.put, List.setIfInBounds_toArray, List.set_cons_zero, List.set_cons_succ]
          refine wpAnyH_take (i := 3) (oi := ({ dst := some 20, op := .indexAddr 23 (.tmp 17) (.tmp 19), type := 0, pos := "ref.go:69", after := #[{ on := 0, ground := .data }, { on := 2, ground := .data }], guard := none } : Oper)) (v := ?vs3_3) rfl burst5_plain (by as_aux_lemma => kernel_rfl) (by as_aux_lemma => kernel_rfl) (fun _ _ _ h => h) (Or.inl ⟨by rfl, ?ys3_3⟩) (by assumption) ?rs3_3
          case ys3_3 => (intro w hSw; (try dsimp only at hSw); go_simp; try with_reducible rfl)
          try simp only [Act.put, List.setIfInBounds_toArray, List.set_cons_zero, List.set_cons_succ]
          refine wpAnyH_take (i := 4) (oi := ({ dst := some 21, op := .load 5 (.tmp 20), type := 5, pos := "ref.go:69", after := #[{ on := 3, ground := .data }], guard := none } : Oper)) (v := ?vs3_4) rfl burst5_plain (by as_aux_lemma => kernel_rfl) (by as_aux_lemma => kernel_rfl) (fun _ _ _ h => h) (Or.inl ⟨by rfl, ?ys3_4⟩) (by assumption) ?rs3_4
          case ys3_4 => (intro w hSw; (try dsimp only at hSw); go_simp; try with_reducible rfl)
          try simp only [Act.put, List.setIfInBounds_toArray, List.set_cons_zero, List.set_cons_succ]
          refine wpAnyH_take (i := 5) (oi := ({ dst := some 22, op := .move (.tmp 7), type := 3, pos := "ref.go:69", after := #[], guard := none } : Oper)) (v := ?vs3_5) rfl burst5_plain (by as_aux_lemma => kernel_rfl) (by as_aux_lemma => kernel_rfl) (fun _ _ _ h => h) (Or.inl ⟨by rfl, ?ys3_5⟩) (by assumption) ?rs3_5
          case ys3_5 => (intro w hSw; (try dsimp only at hSw); go_simp; try with_reducible rfl)
          try simp only [Act.put, List.setIfInBounds_toArray, List.set_cons_zero, List.set_cons_succ]
          refine wpAnyH_take (i := 6) (oi := ({ dst := some 23, op := .binOp .rem 3 (.tmp 22) (.const (.int .i64 8)) 3, type := 3, pos := "ref.go:69", after := #[{ on := 5, ground := .data }], guard := none } : Oper)) (v := ?vs3_6) rfl burst5_plain (by as_aux_lemma => kernel_rfl) (by as_aux_lemma => kernel_rfl) (fun _ _ _ h => h) (Or.inl ⟨by rfl, ?ys3_6⟩) (by assumption) ?rs3_6
          case ys3_6 => (intro w hSw; (try dsimp only at hSw); go_simp; try with_reducible rfl)
          try simp only [Act.put, List.setIfInBounds_toArray, List.set_cons_zero, List.set_cons_succ]
          refine wpAnyH_take (i := 7) (oi := ({ dst := some 24, op := .binOp .sub 3 (.const (.int .i64 7)) (.tmp 23) 3, type := 3, pos := "ref.go:69", after := #[{ on := 6, ground := .data }], guard := none } : Oper)) (v := ?vs3_7) rfl burst5_plain (by as_aux_lemma => kernel_rfl) (by as_aux_lemma => kernel_rfl) (fun _ _ _ h => h) (Or.inl ⟨by rfl, ?ys3_7⟩) (by assumption) ?rs3_7
          case ys3_7 => (intro w hSw; (try dsimp only at hSw); go_simp; try with_reducible rfl)
          try simp only [Act.put, List.setIfInBounds_toArray, List.set_cons_zero, List.set_cons_succ]
          refine wpAnyH_take (i := 8) (oi := ({ dst := some 25, op := .convert 3 31 (.tmp 24), type := 31, pos := "ref.go:69", after := #[{ on := 7, ground := .data }], guard := none } : Oper)) (v := ?vs3_8) rfl burst5_plain (by as_aux_lemma => kernel_rfl) (by as_aux_lemma => kernel_rfl) (fun _ _ _ h => h) (Or.inl ⟨by rfl, ?ys3_8⟩) (by assumption) ?rs3_8
          case ys3_8 => (intro w hSw; (try dsimp only at hSw); go_simp; try with_reducible rfl)
          try simp only [Act.put, List.setIfInBounds_toArray, List.set_cons_zero, List.set_cons_succ]
          refine wpAnyH_take (i := 9) (oi := ({ dst := some 26, op := .binOp .shr 5 (.tmp 21) (.tmp 25) 31, type := 5, pos := "ref.go:69", after := #[{ on := 4, ground := .data }, { on := 8, ground := .data }], guard := none } : Oper)) (v := ?vs3_9) rfl burst5_plain (by as_aux_lemma => kernel_rfl) (by as_aux_lemma => kernel_rfl) (fun _ _ _ h => h) (Or.inl ⟨by rfl, ?ys3_9⟩) (by assumption) ?rs3_9
          case ys3_9 => (intro w hSw; (try dsimp only at hSw); go_simp; try with_reducible rfl)
          try simp only [Act.put, List.setIfInBounds_toArray, List.set_cons_zero, List.set_cons_succ]
          refine wpAnyH_take (i := 10) (oi := ({ dst := some 27, op := .binOp .and 5 (.tmp 26) (.const (.int .u8 1)) 5, type := 5, pos := "ref.go:69", after := #[{ on := 9, ground := .data }], guard := none } : Oper)) (v := ?vs3_10) rfl burst5_plain (by as_aux_lemma => kernel_rfl) (by as_aux_lemma => kernel_rfl) (fun _ _ _ h => h) (Or.inl ⟨by rfl, ?ys3_10⟩) (by assumption) ?rs3_10
          case ys3_10 => (intro w hSw; (try dsimp only at hSw); go_simp; try with_reducible rfl)
          try simp only [Act.put, List.setIfInBounds_toArray, List.set_cons_zero, List.set_cons_succ]
          refine wpAnyH_take (i := 11) (oi := ({ dst := some 28, op := .move (.tmp 1), type := 23, pos := "ref.go:69", after := #[], guard := none } : Oper)) (v := ?vs3_11) rfl burst5_plain (by as_aux_lemma => kernel_rfl) (by as_aux_lemma => kernel_rfl) (fun _ _ _ h => h) (Or.inl ⟨by rfl, ?ys3_11⟩) (by assumption) ?rs3_11
          case ys3_11 => (intro w hSw; (try dsimp only at hSw); go_simp; try with_reducible rfl)
          try simp only [Act.put, List.setIfInBounds_toArray, List.set_cons_zero, List.set_cons_succ]
          refine wpAnyH_take (i := 12) (oi := ({ dst := some 29, op := .move (.tmp 7), type := 3, pos := "ref.go:69", after := #[], guard := none } : Oper)) (v := ?vs3_12) rfl burst5_plain (by as_aux_lemma => kernel_rfl) (by as_aux_lemma => kernel_rfl) (fun _ _ _ h => h) (Or.inl ⟨by rfl, ?ys3_12⟩) (by assumption) ?rs3_12
          case ys3_12 => (intro w hSw; (try dsimp only at hSw); go_simp; try with_reducible rfl)
          try simp only [Act.put, List.setIfInBounds_toArray, List.set_cons_zero, List.set_cons_succ]
          refine wpAnyH_take (i := 13) (oi := ({ dst := some 30, op := .binOp .quo 3 (.tmp 29) (.const (.int .i64 8)) 3, type := 3, pos := "ref.go:69", after := #[{ on := 12, ground := .data }], guard := none } : Oper)) (v := ?vs3_13) rfl burst5_plain (by as_aux_lemma => kernel_rfl) (by as_aux_lemma => kernel_rfl) (fun _ _ _ h => h) (Or.inl ⟨by rfl, ?ys3_13⟩) (by assumption) ?rs3_13
          case ys3_13 => (intro w hSw; (try dsimp only at hSw); go_simp; try with_reducible rfl)
          try simp only [Act.put, List.setIfInBounds_toArray, List.set_cons_zero, List.set_cons_succ]
          refine wpAnyH_take (i := 14) (oi := ({ dst := some 31, op := .indexAddr 23 (.tmp 28) (.tmp 30), type := 0, pos := "ref.go:69", after := #[{ on := 11, ground := .data }, { on := 13, ground := .data }], guard := none } : Oper)) (v := ?vs3_14) rfl burst5_plain (by as_aux_lemma => kernel_rfl) (by as_aux_lemma => kernel_rfl) (fun _ _ _ h => h) (Or.inl ⟨by rfl, ?ys3_14⟩) (by assumption) ?rs3_14
          case ys3_14 => (intro w hSw; (try dsimp only at hSw); go_simp; try with_reducible rfl)
          try simp only [Act.put, List.setIfInBounds_toArray, List.set_cons_zero, List.set_cons_succ]
          refine wpAnyH_take (i := 15) (oi := ({ dst := some 32, op := .load 5 (.tmp 31), type := 5, pos := "ref.go:69", after := #[{ on := 14, ground := .data }], guard := none } : Oper)) (v := ?vs3_15) rfl burst5_plain (by as_aux_lemma => kernel_rfl) (by as_aux_lemma => kernel_rfl) (fun _ _ _ h => h) (Or.inl ⟨by rfl, ?ys3_15⟩) (by assumption) ?rs3_15
          case ys3_15 => (intro w hSw; (try dsimp only at hSw); go_simp; try with_reducible rfl)
          try simp only [Act.put, List.setIfInBounds_toArray, List.set_cons_zero, List.set_cons_succ]
          refine wpAnyH_take (i := 16) (oi := ({ dst := some 33, op := .move (.tmp 7), type := 3, pos := "ref.go:69", after := #[], guard := none } : Oper)) (v := ?vs3_16) rfl burst5_plain (by as_aux_lemma => kernel_rfl) (by as_aux_lemma => kernel_rfl) (fun _ _ _ h => h) (Or.inl ⟨by rfl, ?ys3_16⟩) (by assumption) ?rs3_16
          case ys3_16 => (intro w hSw; (try dsimp only at hSw); go_simp; try with_reducible rfl)
          try simp only [Act.put, List.setIfInBounds_toArray, List.set_cons_zero, List.set_cons_succ]
          refine wpAnyH_take (i := 17) (oi := ({ dst := some 34, op := .binOp .rem 3 (.tmp 33) (.const (.int .i64 8)) 3, type := 3, pos := "ref.go:69", after := #[{ on := 16, ground := .data }], guard := none } : Oper)) (v := ?vs3_17) rfl burst5_plain (by as_aux_lemma => kernel_rfl) (by as_aux_lemma => kernel_rfl) (fun _ _ _ h => h) (Or.inl ⟨by rfl, ?ys3_17⟩) (by assumption) ?rs3_17
          case ys3_17 => (intro w hSw; (try dsimp only at hSw); go_simp; try with_reducible rfl)
          try simp only [Act.put, List.setIfInBounds_toArray, List.set_cons_zero, List.set_cons_succ]
          refine wpAnyH_take (i := 18) (oi := ({ dst := some 35, op := .binOp .sub 3 (.const (.int .i64 7)) (.tmp 34) 3, type := 3, pos := "ref.go:69", after := #[{ on := 17, ground := .data }], guard := none } : Oper)) (v := ?vs3_18) rfl burst5_plain (by as_aux_lemma => kernel_rfl) (by as_aux_lemma => kernel_rfl) (fun _ _ _ h => h) (Or.inl ⟨by rfl, ?ys3_18⟩) (by assumption) ?rs3_18
          case ys3_18 => (intro w hSw; (try dsimp only at hSw); go_simp; try with_reducible rfl)
          try simp only [Act.put, List.setIfInBounds_toArray, List.set_cons_zero, List.set_cons_succ]
          refine wpAnyH_take (i := 19) (oi := ({ dst := some 36, op := .convert 3 31 (.tmp 35), type := 31, pos := "ref.go:69", after := #[{ on := 18, ground := .data }], guard := none } : Oper)) (v := ?vs3_19) rfl burst5_plain (by as_aux_lemma => kernel_rfl) (by as_aux_lemma => kernel_rfl) (fun _ _ _ h => h) (Or.inl ⟨by rfl, ?ys3_19⟩) (by assumption) ?rs3_19
          case ys3_19 => (intro w hSw; (try dsimp only at hSw); go_simp; try with_reducible rfl)
          try simp only [Act.put, List.setIfInBounds_toArray, List.set_cons_zero, List.set_cons_succ]
          refine wpAnyH_take (i := 20) (oi := ({ dst := some 37, op := .binOp .shr 5 (.tmp 32) (.tmp 36) 31, type := 5, pos := "ref.go:69", after := #[{ on := 15, ground := .data }, { on := 19, ground := .data }], guard := none } : Oper)) (v := ?vs3_20) rfl burst5_plain (by as_aux_lemma => kernel_rfl) (by as_aux_lemma => kernel_rfl) (fun _ _ _ h => h) (Or.inl ⟨by rfl, ?ys3_20⟩) (by assumption) ?rs3_20
          case ys3_20 => (intro w hSw; (try dsimp only at hSw); go_simp; try with_reducible rfl)
          try simp only [Act.put, List.setIfInBounds_toArray, List.set_cons_zero, List.set_cons_succ]
          refine wpAnyH_take (i := 21) (oi := ({ dst := some 38, op := .binOp .and 5 (.tmp 37) (.const (.int .u8 1)) 5, type := 5, pos := "ref.go:69", after := #[{ on := 20, ground := .data }], guard := none } : Oper)) (v := ?vs3_21) rfl burst5_plain (by as_aux_lemma => kernel_rfl) (by as_aux_lemma => kernel_rfl) (fun _ _ _ h => h) (Or.inl ⟨by rfl, ?ys3_21⟩) (by assumption) ?rs3_21
          case ys3_21 => (intro w hSw; (try dsimp only at hSw); go_simp; try with_reducible rfl)
          try simp only [Act.put, List.setIfInBounds_toArray, List.set_cons_zero, List.set_cons_succ]
          refine wpAnyH_take (i := 22) (oi := ({ dst := some 39, op := .binOp .eql 5 (.tmp 27) (.tmp 38) 5, type := 4, pos := "ref.go:69", after := #[{ on := 10, ground := .data }, { on := 21, ground := .data }], guard := none } : Oper)) (v := ?vs3_22) rfl burst5_plain (by as_aux_lemma => kernel_rfl) (by as_aux_lemma => kernel_rfl) (fun _ _ _ h => h) (Or.inl ⟨by rfl, ?ys3_22⟩) (by assumption) ?rs3_22
          case ys3_22 => (intro w hSw; (try dsimp only at hSw); go_simp; try with_reducible rfl)
          try simp only [Act.put, List.setIfInBounds_toArray, List.set_cons_zero, List.set_cons_succ]
          refine wpAnyH_done (by as_aux_lemma => kernel_rfl) ?_ _
          refine NoPanic.normal ?_
          go_wp2
          go_roundw
          case rel => exact HE.out _ _ HS.out.symm
          case measure => simp [intOf]; omega
    · obtain rfl : i = 8 * n := by omega
      have B' := Lib.hid B
      clear B hs
      have hR := HR.out
      by_cases hf : (bu a b (8 * n)).1 < 0
      · rw [if_pos hf] at hR
        generalize (bu a b (8 * n)).1 = f at *
        generalize (bu a b (8 * n)).2 = l at *
        clear HR
        subst hR
        go_wp2
        go_ret
        exact ⟨rfl, B'.out⟩
      · rw [if_neg hf] at hR
        have hf' : decide ((bu a b (8 * n)).1 < 0) = false := decide_eq_false hf
        generalize (bu a b (8 * n)).1 = f at *
        generalize (bu a b (8 * n)).2 = l at *
        clear HR
        subst hR
        go_wp2
        go_ret
        exact ⟨rfl, B'.out⟩
end Ref6
end Go.Proofs.Ytaipjhfgkidbfaa
