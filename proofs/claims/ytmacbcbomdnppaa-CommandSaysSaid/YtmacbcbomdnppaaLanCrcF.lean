/- The landed crc's own call Fits. -/
import Derived.Test.YtmacbcbomdnppaaLanCrcA
import Derived.Deep.CutBlock
import Derived.Deep.CutRange
namespace Go.Proofs.Ytmacbcbomdnppaa
open Go.RowKit
theorem or_u16 (x y : Nat) (hx : x < 256) (hy : y < 256) : bits .or .u16 ((x : Int) * 256) (y : Int) = (x : Int) * 256 + (y : Int) := by
  have e : (x : Int) * 256 = ((x * 256 : Nat) : Int) := by omega
  rw [e]
  show IntKind.u16.wrap ((BitVec.ofInt 16 ((x * 256 : Nat) : Int) ||| BitVec.ofInt 16 ((y : Nat) : Int)).toNat : Int) = _
  have o : (BitVec.ofInt 16 ((x * 256 : Nat) : Int)).toNat = x <<< 8 := by
    rw [BitVec.ofInt_natCast, BitVec.toNat_ofNat, Nat.shiftLeft_eq]; exact Nat.mod_eq_of_lt (by omega)
  have o2 : (BitVec.ofInt 16 ((y : Nat) : Int)).toNat = y := by
    rw [BitVec.ofInt_natCast, BitVec.toNat_ofNat]; exact Nat.mod_eq_of_lt (by omega)
  rw [BitVec.toNat_or, o, o2, ← Nat.shiftLeft_add_eq_or_of_lt (by omega : y < 2 ^ 8), Nat.shiftLeft_eq]
  rw [IntKind.wrap_u16]
  omega
theorem fits_eq (s : BitVec 16) (c d : UInt8) : ((s.toNat : Int) == (c.toNat : Int) * 256 + (d.toNat : Int)) = (c.toBitVec == Crc.hiOf s && d.toBitVec == Crc.loOf s) := by
  have h := hi_u16 s; have l := lo_u16 s
  have hc := c.toNat_lt; have hd := d.toNat_lt
  rw [← Ref6.byte_eq, ← Ref6.byte_eq, ← h, ← l]
  by_cases e : (s.toNat : Int) = (c.toNat : Int) * 256 + (d.toNat : Int)
  · have e1 : (c.toNat : Int) = (s.toNat : Int) / 256 := by omega
    have e2 : (d.toNat : Int) = (s.toNat : Int) % 256 := by omega
    rw [← e1, ← e2, e]; simp
  · rw [beq_eq_false_iff_ne.2 e]
    symm
    rw [Bool.and_eq_false_iff, beq_eq_false_iff_ne, beq_eq_false_iff_ne]
    omega
namespace Own6
/-- The operations of a drawn region, as the translation has them. -/
def fits4 : Array Oper := #[
  { dst := some 9, op := .move (.tmp 0), type := 24, pos := "crc.go:54", after := #[], guard := none },
  { dst := some 10, op := .move (.tmp 3), type := 3, pos := "crc.go:54", after := #[], guard := none },
  { dst := some 11, op := .slice 24 (.tmp 9) none (some (.tmp 10)) none, type := 24, pos := "crc.go:54", after := #[{ on := 0, ground := .data }, { on := 1, ground := .data }], guard := none },
  { dst := some 12, op := .call { callee := .value (.func 17), args := #[.tmp 11], argTypes := #[24] }, type := 47, pos := "crc.go:54", after := #[{ on := 2, ground := .data }], guard := none },
  { dst := some 13, op := .move (.tmp 0), type := 24, pos := "crc.go:54", after := #[], guard := none },
  { dst := some 14, op := .move (.tmp 3), type := 3, pos := "crc.go:54", after := #[], guard := none },
  { dst := some 15, op := .indexAddr 24 (.tmp 13) (.tmp 14), type := 0, pos := "crc.go:54", after := #[{ on := 4, ground := .data }, { on := 5, ground := .data }], guard := none },
  { dst := some 16, op := .load 5 (.tmp 15), type := 5, pos := "crc.go:54", after := #[{ on := 6, ground := .data }], guard := none },
  { dst := some 17, op := .convert 5 47 (.tmp 16), type := 47, pos := "crc.go:54", after := #[{ on := 7, ground := .data }], guard := none },
  { dst := some 18, op := .binOp .shl 47 (.tmp 17) (.const (.int .u64 8)) 55, type := 47, pos := "crc.go:54", after := #[{ on := 8, ground := .data }], guard := none },
  { dst := some 19, op := .move (.tmp 0), type := 24, pos := "crc.go:54", after := #[], guard := none },
  { dst := some 20, op := .move (.tmp 3), type := 3, pos := "crc.go:54", after := #[], guard := none },
  { dst := some 21, op := .binOp .add 3 (.tmp 20) (.const (.int .i64 1)) 3, type := 3, pos := "crc.go:54", after := #[{ on := 11, ground := .data }], guard := none },
  { dst := some 22, op := .indexAddr 24 (.tmp 19) (.tmp 21), type := 0, pos := "crc.go:54", after := #[{ on := 10, ground := .data }, { on := 12, ground := .data }], guard := none },
  { dst := some 23, op := .load 5 (.tmp 22), type := 5, pos := "crc.go:54", after := #[{ on := 13, ground := .data }], guard := none },
  { dst := some 24, op := .convert 5 47 (.tmp 23), type := 47, pos := "crc.go:54", after := #[{ on := 14, ground := .data }], guard := none },
  { dst := some 25, op := .binOp .or 47 (.tmp 18) (.tmp 24) 47, type := 47, pos := "crc.go:54", after := #[{ on := 9, ground := .data }, { on := 15, ground := .data }], guard := none },
  { dst := some 26, op := .binOp .eql 47 (.tmp 12) (.tmp 25) 47, type := 4, pos := "crc.go:54", after := #[{ on := 3, ground := .data }, { on := 16, ground := .data }], guard := none },
  { dst := some 2, op := .assign (.tmp 26), type := 4, pos := "crc.go:54", after := #[{ on := 17, ground := .data }, { on := 3, ground := .chain }, { on := 0, ground := .phase }, { on := 1, ground := .phase }, { on := 2, ground := .phase }, { on := 3, ground := .phase }, { on := 4, ground := .phase }, { on := 5, ground := .phase }, { on := 6, ground := .phase }, { on := 7, ground := .phase }, { on := 8, ground := .phase }, { on := 9, ground := .phase }, { on := 10, ground := .phase }, { on := 11, ground := .phase }, { on := 12, ground := .phase }, { on := 13, ground := .phase }, { on := 14, ground := .phase }, { on := 15, ground := .phase }, { on := 16, ground := .phase }, { on := 17, ground := .phase }], guard := none }]
theorem fits4_plain : Region.noSelect fits4 = true := by kernel_rfl


set_option maxHeartbeats 2000000 in
theorem Fits_came {w : World} {ba : Option Addr} {cap : Nat} {l : List UInt8} (C : Came w ba cap l) (_hl : l.length ≤ 4000) :
    Calls Try.prog 20 #[.slice ba l.length cap] w fun e w' => e = .returned (.bool (fitsB l)) ∧ Below w.heap.size w w' := by
  have hm := C.max
  have hle := C.le
  unfold maxLen at hm
  by_cases h2 : (l.length : Int) < 2
  · have e : fitsB l = false := by unfold fitsB; rw [decide_eq_false (by omega)]; rfl
    rw [e]
    obtain ⟨n, hn⟩ : ∃ n : Int, n = IntKind.i64.wrap ((l.length : Int) - 2) := ⟨_, rfl⟩
    have hn0 : n < 0 := by rw [hn, IntKind.wrap_i64]; omega
    have hn' := hn.symm
    clear C hm hle hn
    go_enter Try.func20, Try.ntmps20
    go_wp2
    go_ret
    exact ⟨rfl, Below.refl _ _⟩
  · obtain ⟨n, hn⟩ : ∃ n : Nat, l.length = n + 2 := ⟨l.length - 2, by omega⟩
    have O : ∀ w', Below w.heap.size w w' → Calls Try.prog 17 #[.slice ba n cap] w' fun e w'' => e = .returned (.int .u16 ((Crc.sum (bv (l.take n))).toNat : Int)) ∧ Below w'.heap.size w' w'' := fun w' hb => by
      have h := Of_any ((C.take n (by omega)).keep hb)
      rw [show (l.take n).length = n by rw [List.length_take]; omega] at h
      exact h
    have e : fitsB l = ((l.getD n 0).toBitVec == Crc.hiOf (Crc.sum (bv (l.take n))) && (l.getD (n + 1) 0).toBitVec == Crc.loOf (Crc.sum (bv (l.take n)))) := by
      unfold fitsB
      rw [hn, decide_eq_true (by omega), Bool.true_and]
      rfl
    rw [← fits_eq] at e
    obtain ⟨b, o, rfl, L⟩ := C.lies (by omega)
    have c0 : ∀ w', Below w.heap.size w w' → w'.cell? ⟨b, o + n, none⟩ = some (.int .u8 ((l.getD n 0).toNat : Int)) := fun w' hb => L.keep hb n (by omega)
    have c1 : ∀ w', Below w.heap.size w w' → w'.cell? ⟨b, o + (n + 1), none⟩ = some (.int .u8 ((l.getD (n + 1) 0).toNat : Int)) := fun w' hb => L.keep hb (n + 1) (by omega)
    have r := or_u16 (l.getD n 0).toNat (l.getD (n + 1) 0).toNat (l.getD n 0).toNat_lt (l.getD (n + 1) 0).toNat_lt
    have x0r : ((l.getD n 0).toNat : Int) ≤ 255 := by have := (l.getD n 0).toNat_lt; omega
    have x1r : ((l.getD (n + 1) 0).toNat : Int) ≤ 255 := by have := (l.getD (n + 1) 0).toNat_lt; omega
    have hs := u16_rng (Crc.sum (bv (l.take n)))
    rw [e, hn]
    have OH := Lib.hid O
    generalize (Crc.sum (bv (l.take n))).toNat = s at *
    generalize (l.getD n 0).toNat = x0 at *
    generalize (l.getD (n + 1) 0).toNat = x1 at *
    have hn2 : (n : Int) + 2 ≤ cap := by omega
    have hn3 : (cap : Int) ≤ 9223372036854775807 := by omega
    have hnc : n ≤ cap := by omega
    have i0 : (n : Int) < (n : Int) + 2 := by omega
    have i1 : (n : Int) + 1 < (n : Int) + 2 := by omega
    have i2 : (0 : Int) ≤ (n : Int) + 1 := by omega
    have u0 : IntKind.u16.wrap (x0 : Int) = (x0 : Int) := by rw [IntKind.wrap_u16]; omega
    have u1 : IntKind.u16.wrap (x1 : Int) = (x1 : Int) := by rw [IntKind.wrap_u16]; omega
    have u2 : IntKind.u16.wrap ((x0 : Int) * 256) = (x0 : Int) * 256 := by rw [IntKind.wrap_u16]; omega
    have ew : IntKind.i64.wrap ((n : Int) + 2 - 2) = (n : Int) := by rw [IntKind.wrap_i64]; omega
    have ew2 : IntKind.i64.wrap ((n : Int) + 1) = (n : Int) + 1 := by rw [IntKind.wrap_i64]; omega
    have B0 := Below.refl w.heap.size w
    clear C O L e hn h2 hle hm
    go_enter Try.func20, Try.ntmps20
    go_upto_region 4 with fail

    change (Code.region 4 fits4 true).wp Try.prog _ _ _
    refine wp_region_noPanic ?_
    refine wp_region_held_drew (S := fun w' => Below w.heap.size w w') (by kernel_rfl) ((Below.refl _ _).drew) (fun hHeld => ?_)
    refine wpAnyH_take (i := 0) (oi := ({ dst := some 9, op := .move (.tmp 0), type := 24, pos := "crc.go:54", after := #[], guard := none } : Oper)) (v := ?vs1_0) rfl fits4_plain (by as_aux_lemma => kernel_rfl) (by as_aux_lemma => kernel_rfl) (fun _ _ _ h => h) (Or.inl ⟨by rfl, ?ys1_0⟩) (by assumption) ?rs1_0
    case ys1_0 => (intro w hSw; (try dsimp only at hSw); go_simp; try with_reducible rfl)
    try simp only [Act.put, List.setIfInBounds_toArray, List.set_cons_zero, List.set_cons_succ]
    refine wpAnyH_take (i := 1) (oi := ({ dst := some 10, op := .move (.tmp 3), type := 3, pos := "crc.go:54", after := #[], guard := none } : Oper)) (v := ?vs1_1) rfl fits4_plain (by as_aux_lemma => kernel_rfl) (by as_aux_lemma => kernel_rfl) (fun _ _ _ h => h) (Or.inl ⟨by rfl, ?ys1_1⟩) (by assumption) ?rs1_1
    case ys1_1 => (intro w hSw; (try dsimp only at hSw); go_simp; try with_reducible rfl)
    try simp only [Act.put, List.setIfInBounds_toArray, List.set_cons_zero, List.set_cons_succ]
    refine wpAnyH_take (i := 2) (oi := ({ dst := some 11, op := .slice 24 (.tmp 9) none (some (.tmp 10)) none, type := 24, pos := "crc.go:54", after := #[{ on := 0, ground := .data }, { on := 1, ground := .data }], guard := none } : Oper)) (v := ?vs1_2) rfl fits4_plain (by as_aux_lemma => kernel_rfl) (by as_aux_lemma => kernel_rfl) (fun _ _ _ h => h) (Or.inl ⟨by rfl, ?ys1_2⟩) (by assumption) ?rs1_2
    case ys1_2 => (intro w hSw; (try dsimp only at hSw); go_simp; try with_reducible rfl)
    try simp only [Act.put, List.setIfInBounds_toArray, List.set_cons_zero, List.set_cons_succ]
    refine wpAnyH_take (i := 4) (oi := ({ dst := some 13, op := .move (.tmp 0), type := 24, pos := "crc.go:54", after := #[], guard := none } : Oper)) (v := ?vs1_4) rfl fits4_plain (by as_aux_lemma => kernel_rfl) (by as_aux_lemma => kernel_rfl) (fun _ _ _ h => h) (Or.inl ⟨by rfl, ?ys1_4⟩) (by assumption) ?rs1_4
    case ys1_4 => (intro w hSw; (try dsimp only at hSw); go_simp; try with_reducible rfl)
    try simp only [Act.put, List.setIfInBounds_toArray, List.set_cons_zero, List.set_cons_succ]
    refine wpAnyH_take (i := 5) (oi := ({ dst := some 14, op := .move (.tmp 3), type := 3, pos := "crc.go:54", after := #[], guard := none } : Oper)) (v := ?vs1_5) rfl fits4_plain (by as_aux_lemma => kernel_rfl) (by as_aux_lemma => kernel_rfl) (fun _ _ _ h => h) (Or.inl ⟨by rfl, ?ys1_5⟩) (by assumption) ?rs1_5
    case ys1_5 => (intro w hSw; (try dsimp only at hSw); go_simp; try with_reducible rfl)
    try simp only [Act.put, List.setIfInBounds_toArray, List.set_cons_zero, List.set_cons_succ]
    refine wpAnyH_take (i := 6) (oi := ({ dst := some 15, op := .indexAddr 24 (.tmp 13) (.tmp 14), type := 0, pos := "crc.go:54", after := #[{ on := 4, ground := .data }, { on := 5, ground := .data }], guard := none } : Oper)) (v := ?vs1_6) rfl fits4_plain (by as_aux_lemma => kernel_rfl) (by as_aux_lemma => kernel_rfl) (fun _ _ _ h => h) (Or.inl ⟨by rfl, ?ys1_6⟩) (by assumption) ?rs1_6
    case ys1_6 => (intro w hSw; (try dsimp only at hSw); go_simp; try with_reducible rfl)
    try simp only [Act.put, List.setIfInBounds_toArray, List.set_cons_zero, List.set_cons_succ]
    refine wpAnyH_take (i := 7) (oi := ({ dst := some 16, op := .load 5 (.tmp 15), type := 5, pos := "crc.go:54", after := #[{ on := 6, ground := .data }], guard := none } : Oper)) (v := ?vs1_7) rfl fits4_plain (by as_aux_lemma => kernel_rfl) (by as_aux_lemma => kernel_rfl) (fun _ _ _ h => h) (Or.inl ⟨by rfl, ?ys1_7⟩) (by assumption) ?rs1_7
    case ys1_7 => (intro w hSw; (try dsimp only at hSw); go_simp; try with_reducible rfl)
    try simp only [Act.put, List.setIfInBounds_toArray, List.set_cons_zero, List.set_cons_succ]
    refine wpAnyH_take (i := 8) (oi := ({ dst := some 17, op := .convert 5 47 (.tmp 16), type := 47, pos := "crc.go:54", after := #[{ on := 7, ground := .data }], guard := none } : Oper)) (v := ?vs1_8) rfl fits4_plain (by as_aux_lemma => kernel_rfl) (by as_aux_lemma => kernel_rfl) (fun _ _ _ h => h) (Or.inl ⟨by rfl, ?ys1_8⟩) (by assumption) ?rs1_8
    case ys1_8 => (intro w hSw; (try dsimp only at hSw); go_simp; try with_reducible rfl)
    try simp only [Act.put, List.setIfInBounds_toArray, List.set_cons_zero, List.set_cons_succ]
    refine wpAnyH_take (i := 9) (oi := ({ dst := some 18, op := .binOp .shl 47 (.tmp 17) (.const (.int .u64 8)) 55, type := 47, pos := "crc.go:54", after := #[{ on := 8, ground := .data }], guard := none } : Oper)) (v := ?vs1_9) rfl fits4_plain (by as_aux_lemma => kernel_rfl) (by as_aux_lemma => kernel_rfl) (fun _ _ _ h => h) (Or.inl ⟨by rfl, ?ys1_9⟩) (by assumption) ?rs1_9
    case ys1_9 => (intro w hSw; (try dsimp only at hSw); go_simp; try with_reducible rfl)
    try simp only [Act.put, List.setIfInBounds_toArray, List.set_cons_zero, List.set_cons_succ]
    refine wpAnyH_take (i := 10) (oi := ({ dst := some 19, op := .move (.tmp 0), type := 24, pos := "crc.go:54", after := #[], guard := none } : Oper)) (v := ?vs1_10) rfl fits4_plain (by as_aux_lemma => kernel_rfl) (by as_aux_lemma => kernel_rfl) (fun _ _ _ h => h) (Or.inl ⟨by rfl, ?ys1_10⟩) (by assumption) ?rs1_10
    case ys1_10 => (intro w hSw; (try dsimp only at hSw); go_simp; try with_reducible rfl)
    try simp only [Act.put, List.setIfInBounds_toArray, List.set_cons_zero, List.set_cons_succ]
    refine wpAnyH_take (i := 11) (oi := ({ dst := some 20, op := .move (.tmp 3), type := 3, pos := "crc.go:54", after := #[], guard := none } : Oper)) (v := ?vs1_11) rfl fits4_plain (by as_aux_lemma => kernel_rfl) (by as_aux_lemma => kernel_rfl) (fun _ _ _ h => h) (Or.inl ⟨by rfl, ?ys1_11⟩) (by assumption) ?rs1_11
    case ys1_11 => (intro w hSw; (try dsimp only at hSw); go_simp; try with_reducible rfl)
    try simp only [Act.put, List.setIfInBounds_toArray, List.set_cons_zero, List.set_cons_succ]
    refine wpAnyH_take (i := 12) (oi := ({ dst := some 21, op := .binOp .add 3 (.tmp 20) (.const (.int .i64 1)) 3, type := 3, pos := "crc.go:54", after := #[{ on := 11, ground := .data }], guard := none } : Oper)) (v := ?vs1_12) rfl fits4_plain (by as_aux_lemma => kernel_rfl) (by as_aux_lemma => kernel_rfl) (fun _ _ _ h => h) (Or.inl ⟨by rfl, ?ys1_12⟩) (by assumption) ?rs1_12
    case ys1_12 => (intro w hSw; (try dsimp only at hSw); go_simp; try with_reducible rfl)
    try simp only [Act.put, List.setIfInBounds_toArray, List.set_cons_zero, List.set_cons_succ]
    refine wpAnyH_take (i := 13) (oi := ({ dst := some 22, op := .indexAddr 24 (.tmp 19) (.tmp 21), type := 0, pos := "crc.go:54", after := #[{ on := 10, ground := .data }, { on := 12, ground := .data }], guard := none } : Oper)) (v := ?vs1_13) rfl fits4_plain (by as_aux_lemma => kernel_rfl) (by as_aux_lemma => kernel_rfl) (fun _ _ _ h => h) (Or.inl ⟨by rfl, ?ys1_13⟩) (by assumption) ?rs1_13
    case ys1_13 => (intro w hSw; (try dsimp only at hSw); go_simp; try with_reducible rfl)
    try simp only [Act.put, List.setIfInBounds_toArray, List.set_cons_zero, List.set_cons_succ]
    refine wpAnyH_take (i := 14) (oi := ({ dst := some 23, op := .load 5 (.tmp 22), type := 5, pos := "crc.go:54", after := #[{ on := 13, ground := .data }], guard := none } : Oper)) (v := ?vs1_14) rfl fits4_plain (by as_aux_lemma => kernel_rfl) (by as_aux_lemma => kernel_rfl) (fun _ _ _ h => h) (Or.inl ⟨by rfl, ?ys1_14⟩) (by assumption) ?rs1_14
    case ys1_14 => (intro w hSw; (try dsimp only at hSw); go_simp; try with_reducible rfl)
    try simp only [Act.put, List.setIfInBounds_toArray, List.set_cons_zero, List.set_cons_succ]
    refine wpAnyH_take (i := 15) (oi := ({ dst := some 24, op := .convert 5 47 (.tmp 23), type := 47, pos := "crc.go:54", after := #[{ on := 14, ground := .data }], guard := none } : Oper)) (v := ?vs1_15) rfl fits4_plain (by as_aux_lemma => kernel_rfl) (by as_aux_lemma => kernel_rfl) (fun _ _ _ h => h) (Or.inl ⟨by rfl, ?ys1_15⟩) (by assumption) ?rs1_15
    case ys1_15 => (intro w hSw; (try dsimp only at hSw); go_simp; try with_reducible rfl)
    try simp only [Act.put, List.setIfInBounds_toArray, List.set_cons_zero, List.set_cons_succ]
    refine wpAnyH_take (i := 16) (oi := ({ dst := some 25, op := .binOp .or 47 (.tmp 18) (.tmp 24) 47, type := 47, pos := "crc.go:54", after := #[{ on := 9, ground := .data }, { on := 15, ground := .data }], guard := none } : Oper)) (v := ?vs1_16) rfl fits4_plain (by as_aux_lemma => kernel_rfl) (by as_aux_lemma => kernel_rfl) (fun _ _ _ h => h) (Or.inl ⟨by rfl, ?ys1_16⟩) (by assumption) ?rs1_16
    case ys1_16 => (intro w hSw; (try dsimp only at hSw); go_simp; try with_reducible rfl)
    try simp only [Act.put, List.setIfInBounds_toArray, List.set_cons_zero, List.set_cons_succ]
    refine wpAnyH_ready (rs := [3]) (by as_aux_lemma => kernel_rfl) (by simp) ?_
    refine AllReadyH.cons (o := ({ dst := some 12, op := .call { callee := .value (.func 17), args := #[.tmp 11], argTypes := #[24] }, type := 47, pos := "crc.go:54", after := #[{ on := 2, ground := .data }], guard := none } : Oper)) rfl (fun KK hK => ?_) AllReadyH.nil
    rw [if_pos (by rfl)]
    go_simp
    go_at_call 17; refine (OH.out _ (by assumption)).mono ?_; rintro e w1 ⟨rfl, hb1⟩
    go_wp2_with fail
    refine hK.out _ _ ?_ (fun hHeld1 => ?_)
    · exact belowT (by assumption) hb1
    clear hK KK hb1
    try simp only [Act.put, List.setIfInBounds_toArray, List.set_cons_zero, List.set_cons_succ]
    refine wpAnyH_take (i := 17) (oi := ({ dst := some 26, op := .binOp .eql 47 (.tmp 12) (.tmp 25) 47, type := 4, pos := "crc.go:54", after := #[{ on := 3, ground := .data }, { on := 16, ground := .data }], guard := none } : Oper)) (v := ?vs1_17) rfl fits4_plain (by as_aux_lemma => kernel_rfl) (by as_aux_lemma => kernel_rfl) (fun _ _ _ h => h) (Or.inl ⟨by rfl, ?ys1_17⟩) (by assumption) ?rs1_17
    case ys1_17 => (intro w hSw; (try dsimp only at hSw); go_simp; try with_reducible rfl)
    try simp only [Act.put, List.setIfInBounds_toArray, List.set_cons_zero, List.set_cons_succ]
    refine wpAnyH_take (i := 18) (oi := ({ dst := some 2, op := .assign (.tmp 26), type := 4, pos := "crc.go:54", after := #[{ on := 17, ground := .data }, { on := 3, ground := .chain }, { on := 0, ground := .phase }, { on := 1, ground := .phase }, { on := 2, ground := .phase }, { on := 3, ground := .phase }, { on := 4, ground := .phase }, { on := 5, ground := .phase }, { on := 6, ground := .phase }, { on := 7, ground := .phase }, { on := 8, ground := .phase }, { on := 9, ground := .phase }, { on := 10, ground := .phase }, { on := 11, ground := .phase }, { on := 12, ground := .phase }, { on := 13, ground := .phase }, { on := 14, ground := .phase }, { on := 15, ground := .phase }, { on := 16, ground := .phase }, { on := 17, ground := .phase }], guard := none } : Oper)) (v := ?vs1_18) rfl fits4_plain (by as_aux_lemma => kernel_rfl) (by as_aux_lemma => kernel_rfl) (fun _ _ _ h => h) (Or.inl ⟨by rfl, ?ys1_18⟩) (by assumption) ?rs1_18
    case ys1_18 => (intro w hSw; (try dsimp only at hSw); go_simp; try with_reducible rfl)
    try simp only [Act.put, List.setIfInBounds_toArray, List.set_cons_zero, List.set_cons_succ]
    refine wpAnyH_done (by as_aux_lemma => kernel_rfl) ?_ _
    refine NoPanic.normal ?_
    go_wp2
    go_ret
    exact ⟨rfl, by assumption⟩
end Own6
end Go.Proofs.Ytmacbcbomdnppaa
