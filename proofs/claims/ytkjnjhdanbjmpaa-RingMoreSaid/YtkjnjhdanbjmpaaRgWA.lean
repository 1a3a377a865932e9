
/- The small calls of package wide: numbers as such, sums, opposites, sizes, and where one is of another. -/
import Derived.Test.YtkjnjhdanbjmpaaMem
import Derived.Test.YtkjnjhdanbjmpaaWNum
import Derived.WalkKit
import Derived.WalkSpells
import Derived.WalkLawsBesides
import Derived.Lib.Hide
import Derived.Outline
import Derived.Deep.QuietTactic
import Derived.BigQuiet
import Derived.Below
import Derived.Laws.Externs
import Derived.Laws.Bits64b
namespace Go.Proofs.Ytkjnjhdanbjmpaa
open Go.RowKit

theorem ret_w {a b c d : Int} (h : a = c) (g : b = d) : Ending.returned (.agg #[.int .i64 a, .int .u64 b]) = .returned (.agg #[.int .i64 c, .int .u64 d]) := by rw [h, g]
theorem ret_i {k : IntKind} {a b : Int} (h : a = b) : Ending.returned (.int k a) = .returned (.int k b) := by rw [h]
theorem wrap_u (h : Int) : IntKind.u64.wrap h = h % 18446744073709551616 := by rw [IntKind.wrap_u64]
theorem wrap_i (h : Int) : wrap64 h = (h + 9223372036854775808) % 18446744073709551616 - 9223372036854775808 := by unfold wrap64; omega

theorem add64_run (x y c : Int) (hx : 0 ≤ x) (hy : 0 ≤ y) (hc0 : 0 ≤ c) (hc : c ≤ 1) (w : World) :
    (callFunc 26 #[.int .u64 x, .int .u64 y, .int .u64 c]).run Try.prog w =
      .ok (.value (.tuple #[.int .u64 ((x + y + c) % 18446744073709551616), .int .u64 ((x + y + c) / 18446744073709551616)])) w := by
  rw [run_callFunc_extern Try.func26 (by kernel_rfl) (by kernel_rfl) (by kernel_rfl) (e := add64Entry) (by kernel_rfl), run_add64 x y c hx hy hc0 hc]
  rfl

/-- The model's own entry for math/bits.Sub64, as a function of the arguments. -/
def sub64Entry : Array Value → Sem Value := fun args => do
  let (x, y, b) ← Extern.MathBitsCarry.three "Sub64" args
  pure (Extern.MathBitsCarry.pair ((x + Extern.MathBitsCarry.m64 - y - b) % Extern.MathBitsCarry.m64) (if x < y + b then 1 else 0))

theorem sub64_run_nat (x y b : Nat) (hb : b ≤ 1) (w : World) :
    (sub64Entry #[.int .u64 x, .int .u64 y, .int .u64 b]).run Try.prog w =
      .ok (.tuple #[.int .u64 (((x + 18446744073709551616 - y - b) % 18446744073709551616 : Nat) : Int), .int .u64 ((if x < y + b then 1 else 0 : Nat) : Int)]) w := by
  have : b = 0 ∨ b = 1 := by omega
  rcases this with rfl | rfl <;> rfl

theorem sub64_run (x y b : Int) (hx : 0 ≤ x) (hy : 0 ≤ y) (hy1 : y ≤ 18446744073709551615) (hb0 : 0 ≤ b) (hb : b ≤ 1) (w : World) :
    (callFunc 38 #[.int .u64 x, .int .u64 y, .int .u64 b]).run Try.prog w =
      .ok (.value (.tuple #[.int .u64 ((x + 18446744073709551616 - y - b) % 18446744073709551616), .int .u64 (if x < y + b then 1 else 0)])) w := by
  obtain ⟨x, rfl⟩ := Int.eq_ofNat_of_zero_le hx
  obtain ⟨y, rfl⟩ := Int.eq_ofNat_of_zero_le hy
  obtain ⟨b, rfl⟩ := Int.eq_ofNat_of_zero_le hb0
  rw [run_callFunc_extern Try.func38 (by kernel_rfl) (by kernel_rfl) (by kernel_rfl) (e := sub64Entry) (by kernel_rfl), sub64_run_nat x y b (by omega)]
  have e1 : (((x + 18446744073709551616 - y - b) % 18446744073709551616 : Nat) : Int) = ((x : Int) + 18446744073709551616 - y - b) % 18446744073709551616 := by omega
  have e2 : ((if x < y + b then 1 else 0 : Nat) : Int) = if (x : Int) < y + b then 1 else 0 := by split <;> split <;> omega
  rw [e1, e2]; rfl

theorem Of_any (a : Int) (w : World) (r : Wd.R6 a) :
    Calls Try.prog 17 #[.int .i64 a] w fun e w' => e = .returned (.agg #[.int .i64 (Wd.hi a), .int .u64 (Wd.lo a)]) ∧ Below w.heap.size w w' := by
  have eh := Wd.hi_of r
  have r2 := r
  obtain ⟨h1, h2⟩ := r
  rw [eh]; clear eh r2
  go_enter Try.func17, Try.ntmps17
  go_wp2
  exact bodyPost_ret (v := .agg #[.int .i64 (a / 9223372036854775808), .int .u64 (IntKind.u64.wrap a)]) (by simp [results, Try.results17, go_sem]) rfl ⟨ret_w rfl (wrap_u a), (Below.refl _ _).alloc (Nat.le_refl _) _⟩

theorem Add_core (h1 l1 h2 l2 u1 u2 s c t d : Int) (w : World) (e1 : IntKind.u64.wrap h1 = u1) (e2 : IntKind.u64.wrap h2 = u2)
    (A1 : ∀ w, (callFunc 26 #[.int .u64 l1, .int .u64 l2, .int .u64 0]).run Try.prog w = .ok (.value (.tuple #[.int .u64 s, .int .u64 c])) w)
    (A2 : ∀ w, (callFunc 26 #[.int .u64 u1, .int .u64 u2, .int .u64 c]).run Try.prog w = .ok (.value (.tuple #[.int .u64 t, .int .u64 d])) w) :
    Calls Try.prog 16 #[.agg #[.int .i64 h1, .int .u64 l1], .agg #[.int .i64 h2, .int .u64 l2]] w fun e w' => e = .returned (.agg #[.int .i64 (wrap64 t), .int .u64 s]) ∧ Below w.heap.size w w' := by
  go_enter Try.func16, Try.ntmps16
  go_wp2
  exact bodyPost_ret (v := .agg #[.int .i64 (wrap64 t), .int .u64 s]) (by simp [results, Try.results16, go_sem]) rfl ⟨rfl, below3 w _ _ _⟩

theorem Add_any (x y : Int) (w : World) :
    Calls Try.prog 16 #[.agg #[.int .i64 (Wd.hi x), .int .u64 (Wd.lo x)], .agg #[.int .i64 (Wd.hi y), .int .u64 (Wd.lo y)]] w fun e w' => e = .returned (.agg #[.int .i64 (Wd.hi (x + y)), .int .u64 (Wd.lo (x + y))]) ∧ Below w.heap.size w w' := by
  have lx := Wd.lo_rm x; have ly := Wd.lo_rm y; have c := Wd.carry_le x y
  refine (Add_core (Wd.hi x) (Wd.lo x) (Wd.hi y) (Wd.lo y) _ _ _ _ _ _ w (wrap_u _) (wrap_u _)
    (fun w => add64_run (Wd.lo x) (Wd.lo y) 0 lx.1 ly.1 (by omega) (by omega) w)
    (fun w => add64_run _ _ _ (Int.emod_nonneg _ (by omega)) (Int.emod_nonneg _ (by omega)) c.1 c.2 w)).mono ?_
  rintro e w' ⟨rfl, hb⟩
  exact ⟨ret_w ((wrap_i _).trans (Wd.hi_add x y)) (Wd.lo_add x y), hb⟩

theorem Neg_core (h1 l1 u1 s c t d : Int) (w : World) (e1 : IntKind.u64.wrap h1 = u1)
    (A1 : ∀ w, (callFunc 38 #[.int .u64 0, .int .u64 l1, .int .u64 0]).run Try.prog w = .ok (.value (.tuple #[.int .u64 s, .int .u64 c])) w)
    (A2 : ∀ w, (callFunc 38 #[.int .u64 0, .int .u64 u1, .int .u64 c]).run Try.prog w = .ok (.value (.tuple #[.int .u64 t, .int .u64 d])) w) :
    Calls Try.prog 30 #[.agg #[.int .i64 h1, .int .u64 l1]] w fun e w' => e = .returned (.agg #[.int .i64 (wrap64 t), .int .u64 s]) ∧ Below w.heap.size w w' := by
  go_enter Try.func30, Try.ntmps30
  go_wp2
  exact bodyPost_ret (v := .agg #[.int .i64 (wrap64 t), .int .u64 s]) (by simp [results, Try.results30, go_sem]) rfl ⟨rfl, below2 w _ _⟩

theorem Neg_any (x : Int) (w : World) :
    Calls Try.prog 30 #[.agg #[.int .i64 (Wd.hi x), .int .u64 (Wd.lo x)]] w fun e w' => e = .returned (.agg #[.int .i64 (Wd.hi (-x)), .int .u64 (Wd.lo (-x))]) ∧ Below w.heap.size w w' := by
  have lx := Wd.lo_rm x
  have m0 := Int.emod_nonneg (Wd.hi x) (show (18446744073709551616 : Int) ≠ 0 by omega)
  have m1 := Int.emod_lt_of_pos (Wd.hi x) (show (0 : Int) < 18446744073709551616 by omega)
  have c0 : (0 : Int) ≤ (if 0 < Wd.lo x + 0 then 1 else 0) ∧ (if 0 < Wd.lo x + 0 then (1 : Int) else 0) ≤ 1 := by split <;> omega
  refine (Neg_core (Wd.hi x) (Wd.lo x) _ _ _ _ _ w (wrap_u _)
    (fun w => sub64_run 0 (Wd.lo x) 0 (by omega) lx.1 lx.2 (by omega) (by omega) w)
    (fun w => sub64_run 0 _ _ (by omega) m0 (by omega) c0.1 c0.2 w)).mono ?_
  rintro e w' ⟨rfl, hb⟩
  exact ⟨ret_w ((wrap_i _).trans (Wd.hi_neg x)) (Wd.lo_neg x), hb⟩

theorem Cmp_eq (h l : Int) (w : World) :
    Calls Try.prog 37 #[.agg #[.int .i64 h, .int .u64 l], .agg #[.int .i64 h, .int .u64 l]] w fun e w' => e = .returned (.int .i64 0) ∧ Below w.heap.size w w' := by
  go_enter Try.func37, Try.ntmps37
  go_wp2
  go_ret
  exact ⟨rfl, below2 w _ _⟩

theorem Cmp_lt (h l h2 l2 : Int) (w : World) (p : h < h2) :
    Calls Try.prog 37 #[.agg #[.int .i64 h, .int .u64 l], .agg #[.int .i64 h2, .int .u64 l2]] w fun e w' => e = .returned (.int .i64 (-1)) ∧ Below w.heap.size w w' := by
  have q : (h == h2) = false := by rw [beq_eq_false_iff_ne]; omega
  go_enter Try.func37, Try.ntmps37
  go_wp2
  go_ret
  exact ⟨rfl, below2 w _ _⟩

theorem Cmp_gt (h l h2 l2 : Int) (w : World) (p : h2 < h) :
    Calls Try.prog 37 #[.agg #[.int .i64 h, .int .u64 l], .agg #[.int .i64 h2, .int .u64 l2]] w fun e w' => e = .returned (.int .i64 1) ∧ Below w.heap.size w w' := by
  have q : (h == h2) = false := by rw [beq_eq_false_iff_ne]; omega
  have d : decide (h < h2) = false := decide_eq_false (by omega)
  go_enter Try.func37, Try.ntmps37
  go_wp2
  go_ret
  exact ⟨rfl, below2 w _ _⟩

theorem Cmp_lo (h l l2 : Int) (w : World) (p : l < l2) :
    Calls Try.prog 37 #[.agg #[.int .i64 h, .int .u64 l], .agg #[.int .i64 h, .int .u64 l2]] w fun e w' => e = .returned (.int .i64 (-1)) ∧ Below w.heap.size w w' := by
  have q : (l == l2) = false := by rw [beq_eq_false_iff_ne]; omega
  go_enter Try.func37, Try.ntmps37
  go_wp2
  go_ret
  exact ⟨rfl, below2 w _ _⟩

theorem Cmp_up (h l l2 : Int) (w : World) (p : l2 < l) :
    Calls Try.prog 37 #[.agg #[.int .i64 h, .int .u64 l], .agg #[.int .i64 h, .int .u64 l2]] w fun e w' => e = .returned (.int .i64 1) ∧ Below w.heap.size w w' := by
  have q : (l == l2) = false := by rw [beq_eq_false_iff_ne]; omega
  have d : decide (l < l2) = false := decide_eq_false (by omega)
  go_enter Try.func37, Try.ntmps37
  go_wp2
  go_ret
  exact ⟨rfl, below2 w _ _⟩

theorem Cmp_any (x y : Int) (w : World) (rx : Wd.Rm x) (ry : Wd.Rm y) :
    Calls Try.prog 37 #[.agg #[.int .i64 (Wd.hi x), .int .u64 (Wd.lo x)], .agg #[.int .i64 (Wd.hi y), .int .u64 (Wd.lo y)]] w fun e w' => e = .returned (.int .i64 (Wd.sg (x - y))) ∧ Below w.heap.size w w' := by
  by_cases h : Wd.hi x = Wd.hi y
  · by_cases l : Wd.lo x = Wd.lo y
    · have e := Wd.same_iff rx ry h l
      rw [e, Wd.sg_zero (by omega)]
      exact Cmp_eq _ _ w
    · by_cases l2 : Wd.lo x < Wd.lo y
      · have p := Wd.lt_of_lo rx ry h l2
        rw [h, Wd.sg_neg (by omega)]
        exact Cmp_lo _ _ _ w l2
      · have p := Wd.lt_of_lo ry rx h.symm (show Wd.lo y < Wd.lo x by omega)
        rw [h, Wd.sg_pos (by omega)]
        exact Cmp_up _ _ _ w (by omega)
  · by_cases h2 : Wd.hi x < Wd.hi y
    · have p := Wd.lt_of_hi rx ry h2
      rw [Wd.sg_neg (by omega)]
      exact Cmp_lt _ _ _ _ w h2
    · have p := Wd.lt_of_hi ry rx (show Wd.hi y < Wd.hi x by omega)
      rw [Wd.sg_pos (by omega)]
      exact Cmp_gt _ _ _ _ w (by omega)

theorem Sign_any (x : Int) (w : World) (rx : Wd.Rm x) :
    Calls Try.prog 29 #[.agg #[.int .i64 (Wd.hi x), .int .u64 (Wd.lo x)]] w fun e w' => e = .returned (.int .i64 (Wd.sg x)) ∧ Below w.heap.size w w' := by
  have C := Lib.hid fun w => Cmp_any x 0 w rx Wd.rm_zero
  rw [Wd.hi_zero, Wd.lo_zero, Int.sub_zero] at C
  go_enter Try.func29, Try.ntmps29
  go_wp2_with (go_at_call 37; refine (C.out _).mono ?_; rintro e w' ⟨rfl, hb⟩)
  go_ret
  exact ⟨rfl, (below1 w _).trans (hb.mono (by simp))⟩

theorem Abs_any (x : Int) (w : World) (rx : Wd.Rm x) :
    Calls Try.prog 28 #[.agg #[.int .i64 (Wd.hi x), .int .u64 (Wd.lo x)]] w fun e w' => e = .returned (.agg #[.int .i64 (Wd.hi (x.natAbs : Int)), .int .u64 (Wd.lo (x.natAbs : Int))]) ∧ Below w.heap.size w w' := by
  have S := Lib.hid fun w => Sign_any x w rx
  have N := Lib.hid fun w => Neg_any x w
  by_cases h : x < 0
  · rw [Wd.sg_neg h] at S
    rw [show ((x.natAbs : Nat) : Int) = -x by omega]
    clear h rx
    go_enter Try.func28, Try.ntmps28
    go_wp2_with fail
    refine (S.out _).mono ?_; rintro e w1 ⟨rfl, hb⟩
    have B1 := belowT (below2 w _ _) hb
    obtain ⟨hc, hf⟩ := bcell hb
    have hz : w.heap.size + 1 < w1.heap.size := by have := hb.size; simp at this; omega
    go_wp2_with fail
    refine (N.out _).mono ?_; rintro e w2 ⟨rfl, hb2⟩
    have B2 := belowT B1 hb2
    obtain ⟨hc2, hf2⟩ := bcell hb2
    have hz2 : w.heap.size + 1 < w2.heap.size := by have := hb2.size; omega
    go_wp2_with fail
    exact bodyPost_ret (v := .agg #[.int .i64 (Wd.hi (-x)), .int .u64 (Wd.lo (-x))]) (by simp [results, Try.results28, go_sem, hc, hz, hc2]) rfl ⟨rfl, (B2.setCell (by simp) _).setCell (by simp) _⟩
  · have hs : Wd.sg x = 0 ∨ Wd.sg x = 1 := by
      by_cases h0 : x = 0
      · exact Or.inl (Wd.sg_zero h0)
      · exact Or.inr (Wd.sg_pos (by omega))
    rw [show ((x.natAbs : Nat) : Int) = x by omega]
    clear h rx N
    rcases hs with hs | hs
    all_goals
      rw [hs] at S
      clear hs
      go_enter Try.func28, Try.ntmps28
      go_wp2_with fail
      refine (S.out _).mono ?_; rintro e w1 ⟨rfl, hb⟩
      have B1 := belowT (below2 w _ _) hb
      obtain ⟨hc, hf⟩ := bcell hb
      have hz : w.heap.size + 1 < w1.heap.size := by have := hb.size; simp at this; omega
      go_wp2_with fail
      exact bodyPost_ret (v := .agg #[.int .i64 (Wd.hi x), .int .u64 (Wd.lo x)]) (by simp [results, Try.results28, go_sem, hc]) rfl ⟨rfl, (B1.setCell (by simp) _).setCell (by simp) _⟩

end Go.Proofs.Ytkjnjhdanbjmpaa
