
/- The document's own answers for the small calls of package wide. -/
import Derived.Test.YtkjnjhdanbjmpaaRgWA
import Derived.Deep.RegionHeld3
namespace Go.Proofs.Ytkjnjhdanbjmpaa.Ref
open Go.RowKit Go.Proofs.Ytkjnjhdanbjmpaa

theorem Of_any (a : Int) (w : World) (r : Wd.R6 a) :
    Calls Try.prog 20 #[.int .i64 a] w fun e w' => e = .returned (.agg #[.int .i64 (Wd.hi a), .int .u64 (Wd.lo a)]) ∧ Below w.heap.size w w' := by
  have eh := Wd.hi_of r
  have r2 := r
  obtain ⟨h1, h2⟩ := r
  rw [eh]; clear eh r2
  go_enter Try.func20, Try.ntmps20
  go_wp2
  exact bodyPost_ret (v := .agg #[.int .i64 (a / 9223372036854775808), .int .u64 (IntKind.u64.wrap a)]) (by simp [results, Try.results20, go_sem]) rfl ⟨ret_w rfl (wrap_u a), (Below.refl _ _).alloc (Nat.le_refl _) _⟩

theorem Add_carry (h1 l1 h2 l2 s t u : Int) (w : World) (es : IntKind.u64.wrap (l1 + l2) = s) (et : wrap64 (h1 + h2) = t) (eu : wrap64 (t + 1) = u) (hc : s < l1) :
    Calls Try.prog 21 #[.agg #[.int .i64 h1, .int .u64 l1], .agg #[.int .i64 h2, .int .u64 l2]] w fun e w' => e = .returned (.agg #[.int .i64 u, .int .u64 s]) ∧ Below w.heap.size w w' := by
  go_enter Try.func21, Try.ntmps21
  go_wp2
  exact bodyPost_ret (v := .agg #[.int .i64 u, .int .u64 s]) (by simp [results, Try.results21, go_sem]) rfl ⟨rfl, below3 w _ _ _⟩

theorem Add_plain (h1 l1 h2 l2 s t : Int) (w : World) (es : IntKind.u64.wrap (l1 + l2) = s) (et : wrap64 (h1 + h2) = t) (hc : decide (s < l1) = false) :
    Calls Try.prog 21 #[.agg #[.int .i64 h1, .int .u64 l1], .agg #[.int .i64 h2, .int .u64 l2]] w fun e w' => e = .returned (.agg #[.int .i64 t, .int .u64 s]) ∧ Below w.heap.size w w' := by
  go_enter Try.func21, Try.ntmps21
  go_wp2
  exact bodyPost_ret (v := .agg #[.int .i64 t, .int .u64 s]) (by simp [results, Try.results21, go_sem]) rfl ⟨rfl, below3 w _ _ _⟩

theorem Add_any (x y : Int) (w : World) :
    Calls Try.prog 21 #[.agg #[.int .i64 (Wd.hi x), .int .u64 (Wd.lo x)], .agg #[.int .i64 (Wd.hi y), .int .u64 (Wd.lo y)]] w fun e w' => e = .returned (.agg #[.int .i64 (Wd.hi (x + y)), .int .u64 (Wd.lo (x + y))]) ∧ Below w.heap.size w w' := by
  have lx := Wd.lo_rm x; have ly := Wd.lo_rm y
  have es : IntKind.u64.wrap (Wd.lo x + Wd.lo y) = Wd.lo (x + y) := by rw [wrap_u]; unfold Wd.lo; omega
  by_cases hc : Wd.lo (x + y) < Wd.lo x
  · refine Add_carry _ _ _ _ _ _ _ w es rfl ?_ hc
    rw [wrap_i, wrap_i]; unfold Wd.hi Wd.lo at *; omega
  · refine Add_plain _ _ _ _ _ _ w es ?_ (decide_eq_false hc)
    rw [wrap_i]; unfold Wd.hi Wd.lo at *; omega

theorem not_i64 (h : Int) (r : -9223372036854775808 ≤ h ∧ h ≤ 9223372036854775807) : bits .xor .i64 (-1) h = -h - 1 := by
  have e : (BitVec.ofInt 64 h).toNat = (h % 18446744073709551616).toNat := BitVec.toNat_ofInt h
  have o : BitVec.ofInt 64 (-1) = BitVec.allOnes 64 := by decide
  show IntKind.i64.wrap ((BitVec.ofInt 64 (-1) ^^^ BitVec.ofInt 64 h).toNat : Int) = _
  rw [o, BitVec.allOnes_xor, BitVec.toNat_not, e, IntKind.wrap_i64]
  omega

theorem not_u64 (l : Int) (r : 0 ≤ l ∧ l ≤ 18446744073709551615) : bits .xor .u64 18446744073709551615 l = 18446744073709551615 - l := by
  have e : (BitVec.ofInt 64 l).toNat = (l % 18446744073709551616).toNat := BitVec.toNat_ofInt l
  have o : BitVec.ofInt 64 18446744073709551615 = BitVec.allOnes 64 := by decide
  show IntKind.u64.wrap ((BitVec.ofInt 64 18446744073709551615 ^^^ BitVec.ofInt 64 l).toNat : Int) = _
  rw [o, BitVec.allOnes_xor, BitVec.toNat_not, e, IntKind.wrap_u64]
  omega

theorem Neg_core (h l h' l' u v : Int) (w : World) (e1 : bits .xor .i64 (-1) h = h') (e2 : bits .xor .u64 18446744073709551615 l = l')
    (A : Hid (∀ w, Calls Try.prog 21 #[.agg #[.int .i64 h', .int .u64 l'], .agg #[.int .i64 0, .int .u64 1]] w fun e w' => e = .returned (.agg #[.int .i64 u, .int .u64 v]) ∧ Below w.heap.size w w')) :
    Calls Try.prog 32 #[.agg #[.int .i64 h, .int .u64 l]] w fun e w' => e = .returned (.agg #[.int .i64 u, .int .u64 v]) ∧ Below w.heap.size w w' := by
  have s1 : IntKind.i64.signed = true := rfl
  have s2 : IntKind.u64.signed = false := rfl
  have mx : IntKind.u64.max = 18446744073709551615 := by decide
  have R := own2b w (.cells #[.int .i64 h, .int .u64 l] 42) (.int .i64 0) (.int .u64 0) 42
  go_enter Try.func32, Try.ntmps32
  go_wp2_with fail
  refine (A.out _).mono ?_; rintro e w1 ⟨rfl, hb1⟩
  have B1 := belowT (below2 w _ _) hb1
  have R1 := (R).keep hb1; have R1a := R1.c0; have R1b := R1.c1; have R1c := R1.f0; have R1d := R1.f1; have R1l := R1.lt
  go_wp2_with fail
  exact bodyPost_ret (v := .agg #[.int .i64 u, .int .u64 v]) (by simp [results, Try.results32, go_sem, *]) rfl ⟨rfl, (B1.setCell (by simp) _).setCell (by simp) _⟩

theorem Neg_any (x : Int) (w : World) :
    Calls Try.prog 32 #[.agg #[.int .i64 (Wd.hi x), .int .u64 (Wd.lo x)]] w fun e w' => e = .returned (.agg #[.int .i64 (Wd.hi (-x)), .int .u64 (Wd.lo (-x))]) ∧ Below w.heap.size w w' := by
  refine Neg_core (Wd.hi x) (Wd.lo x) _ _ _ _ w (not_i64 _ (Wd.hi_rm x)) (not_u64 _ (Wd.lo_rm x)) (Lib.hid fun w => ?_)
  have c := Add_any (-x - 1) 1 w
  have e1 : Wd.hi (-x - 1) = -Wd.hi x - 1 := by unfold Wd.hi; omega
  have e2 : Wd.lo (-x - 1) = 18446744073709551615 - Wd.lo x := by unfold Wd.lo; omega
  rw [e1, e2, show Wd.hi 1 = 0 by decide, show Wd.lo 1 = 1 by decide, show -x - 1 + 1 = -x by omega] at c
  exact c

theorem Sign_below (h l : Int) (w : World) (p : h < 0) :
    Calls Try.prog 31 #[.agg #[.int .i64 h, .int .u64 l]] w fun e w' => e = .returned (.int .i64 (-1)) ∧ Below w.heap.size w w' := by
  go_enter Try.func31, Try.ntmps31
  go_wp2
  go_ret
  exact ⟨rfl, below1 w _⟩

theorem Sign_nought (w : World) :
    Calls Try.prog 31 #[.agg #[.int .i64 0, .int .u64 0]] w fun e w' => e = .returned (.int .i64 0) ∧ Below w.heap.size w w' := by
  go_enter Try.func31, Try.ntmps31
  go_wp2
  go_ret
  exact ⟨rfl, below1 w _⟩

theorem Sign_hi (h l : Int) (w : World) (p : decide (h < 0) = false) (q : (h == 0) = false) :
    Calls Try.prog 31 #[.agg #[.int .i64 h, .int .u64 l]] w fun e w' => e = .returned (.int .i64 1) ∧ Below w.heap.size w w' := by
  go_enter Try.func31, Try.ntmps31
  go_wp2
  go_ret
  exact ⟨rfl, below1 w _⟩

theorem Sign_lo (l : Int) (w : World) (q : (l == 0) = false) :
    Calls Try.prog 31 #[.agg #[.int .i64 0, .int .u64 l]] w fun e w' => e = .returned (.int .i64 1) ∧ Below w.heap.size w w' := by
  go_enter Try.func31, Try.ntmps31
  go_wp2
  go_ret
  exact ⟨rfl, below1 w _⟩

theorem Sign_any (x : Int) (w : World) (rx : Wd.Rm x) :
    Calls Try.prog 31 #[.agg #[.int .i64 (Wd.hi x), .int .u64 (Wd.lo x)]] w fun e w' => e = .returned (.int .i64 (Wd.sg x)) ∧ Below w.heap.size w w' := by
  have ex := Wd.halves x rx
  have l := Wd.lo_rm x
  by_cases h : Wd.hi x < 0
  · rw [Wd.sg_neg (by omega)]
    exact Sign_below _ _ w h
  · by_cases h0 : Wd.hi x = 0
    · by_cases l0 : Wd.lo x = 0
      · rw [Wd.sg_zero (by omega), h0, l0]
        exact Sign_nought w
      · rw [Wd.sg_pos (by omega), h0]
        exact Sign_lo _ w (by rw [beq_eq_false_iff_ne]; exact l0)
    · rw [Wd.sg_pos (by omega)]
      exact Sign_hi _ _ w (decide_eq_false h) (by rw [beq_eq_false_iff_ne]; exact h0)

end Go.Proofs.Ytkjnjhdanbjmpaa.Ref
