/- The document's own answers for the small calls of package wide. -/
import Derived.Test.YtfgjkkabipmhhaaWideA
import Derived.Deep.RegionHeld3
namespace Go.Proofs.Ytfgjkkabipmhhaa.Ref
open Go.RowKit Go.Proofs.Ytfgjkkabipmhhaa

theorem Of_any (a : Int) (w : World) (r : Wd.R6 a) :
    Calls Try.prog 14 #[.int .i64 a] w fun e w' => e = .returned (.agg #[.int .i64 (Wd.hi a), .int .u64 (Wd.lo a)]) ∧ Below w.heap.size w w' := by
  have eh := Wd.hi_of r
  have r2 := r
  obtain ⟨h1, h2⟩ := r
  rw [eh]; clear eh r2
  go_enter Try.func14, Try.ntmps14
  go_wp2
  exact bodyPost_ret (v := .agg #[.int .i64 (a / 9223372036854775808), .int .u64 (IntKind.u64.wrap a)]) (by simp [results, Try.results14, go_sem]) rfl ⟨ret_w rfl (wrap_u a), (Below.refl _ _).alloc (Nat.le_refl _) _⟩

theorem Add_carry (h1 l1 h2 l2 s t u : Int) (w : World) (es : IntKind.u64.wrap (l1 + l2) = s) (et : wrap64 (h1 + h2) = t) (eu : wrap64 (t + 1) = u) (hc : s < l1) :
    Calls Try.prog 18 #[.agg #[.int .i64 h1, .int .u64 l1], .agg #[.int .i64 h2, .int .u64 l2]] w fun e w' => e = .returned (.agg #[.int .i64 u, .int .u64 s]) ∧ Below w.heap.size w w' := by
  go_enter Try.func18, Try.ntmps18
  go_wp2
  exact bodyPost_ret (v := .agg #[.int .i64 u, .int .u64 s]) (by simp [results, Try.results18, go_sem]) rfl ⟨rfl, below3 w _ _ _⟩

theorem Add_plain (h1 l1 h2 l2 s t : Int) (w : World) (es : IntKind.u64.wrap (l1 + l2) = s) (et : wrap64 (h1 + h2) = t) (hc : decide (s < l1) = false) :
    Calls Try.prog 18 #[.agg #[.int .i64 h1, .int .u64 l1], .agg #[.int .i64 h2, .int .u64 l2]] w fun e w' => e = .returned (.agg #[.int .i64 t, .int .u64 s]) ∧ Below w.heap.size w w' := by
  go_enter Try.func18, Try.ntmps18
  go_wp2
  exact bodyPost_ret (v := .agg #[.int .i64 t, .int .u64 s]) (by simp [results, Try.results18, go_sem]) rfl ⟨rfl, below3 w _ _ _⟩

theorem Add_any (x y : Int) (w : World) :
    Calls Try.prog 18 #[.agg #[.int .i64 (Wd.hi x), .int .u64 (Wd.lo x)], .agg #[.int .i64 (Wd.hi y), .int .u64 (Wd.lo y)]] w fun e w' => e = .returned (.agg #[.int .i64 (Wd.hi (x + y)), .int .u64 (Wd.lo (x + y))]) ∧ Below w.heap.size w w' := by
  have lx := Wd.lo_rm x; have ly := Wd.lo_rm y
  have es : IntKind.u64.wrap (Wd.lo x + Wd.lo y) = Wd.lo (x + y) := by rw [wrap_u]; unfold Wd.lo; omega
  by_cases hc : Wd.lo (x + y) < Wd.lo x
  · refine Add_carry _ _ _ _ _ _ _ w es rfl ?_ hc
    rw [wrap_i, wrap_i]; unfold Wd.hi Wd.lo at *; omega
  · refine Add_plain _ _ _ _ _ _ w es ?_ (decide_eq_false hc)
    rw [wrap_i]; unfold Wd.hi Wd.lo at *; omega

theorem not_i64 (h : Int) (r : -9223372036854775808 ≤ h ∧ h ≤ 9223372036854775807) : bits .xor .i64 (-1) h = -h - 1 := by
  have e : (BitVec.ofInt 64 h).toNat = (h % 18446744073709551616).toNat := BitVec.toNat_ofInt h
  have o : BitVec.ofInt 64 (-1) = BitVec.allOnes 64 := by decide
  show IntKind.i64.wrap ((BitVec.ofInt 64 (-1) ^^^ BitVec.ofInt 64 h).toNat : Int) = _
  rw [o, BitVec.allOnes_xor, BitVec.toNat_not, e, IntKind.wrap_i64]
  omega

theorem not_u64 (l : Int) (r : 0 ≤ l ∧ l ≤ 18446744073709551615) : bits .xor .u64 18446744073709551615 l = 18446744073709551615 - l := by
  have e : (BitVec.ofInt 64 l).toNat = (l % 18446744073709551616).toNat := BitVec.toNat_ofInt l
  have o : BitVec.ofInt 64 18446744073709551615 = BitVec.allOnes 64 := by decide
  show IntKind.u64.wrap ((BitVec.ofInt 64 18446744073709551615 ^^^ BitVec.ofInt 64 l).toNat : Int) = _
  rw [o, BitVec.allOnes_xor, BitVec.toNat_not, e, IntKind.wrap_u64]
  omega

theorem Neg_core (h l h' l' u v : Int) (w : World) (e1 : bits .xor .i64 (-1) h = h') (e2 : bits .xor .u64 18446744073709551615 l = l')
    (A : Hid (∀ w, Calls Try.prog 18 #[.agg #[.int .i64 h', .int .u64 l'], .agg #[.int .i64 0, .int .u64 1]] w fun e w' => e = .returned (.agg #[.int .i64 u, .int .u64 v]) ∧ Below w.heap.size w w')) :
    Calls Try.prog 20 #[.agg #[.int .i64 h, .int .u64 l]] w fun e w' => e = .returned (.agg #[.int .i64 u, .int .u64 v]) ∧ Below w.heap.size w w' := by
  have s1 : IntKind.i64.signed = true := rfl
  have s2 : IntKind.u64.signed = false := rfl
  have mx : IntKind.u64.max = 18446744073709551615 := by decide
  have R := own2b w (.cells #[.int .i64 h, .int .u64 l] 24) (.int .i64 0) (.int .u64 0) 24
  go_enter Try.func20, Try.ntmps20
  go_wp2_with fail
  refine (A.out _).mono ?_; rintro e w1 ⟨rfl, hb1⟩
  have B1 := belowT (below2 w _ _) hb1
  have R1 := (R).keep hb1; have R1a := R1.c0; have R1b := R1.c1; have R1c := R1.f0; have R1d := R1.f1; have R1l := R1.lt
  go_wp2_with fail
  exact bodyPost_ret (v := .agg #[.int .i64 u, .int .u64 v]) (by simp [results, Try.results20, go_sem, *]) rfl ⟨rfl, (B1.setCell (by simp) _).setCell (by simp) _⟩

theorem Neg_any (x : Int) (w : World) :
    Calls Try.prog 20 #[.agg #[.int .i64 (Wd.hi x), .int .u64 (Wd.lo x)]] w fun e w' => e = .returned (.agg #[.int .i64 (Wd.hi (-x)), .int .u64 (Wd.lo (-x))]) ∧ Below w.heap.size w w' := by
  refine Neg_core (Wd.hi x) (Wd.lo x) _ _ _ _ w (not_i64 _ (Wd.hi_rm x)) (not_u64 _ (Wd.lo_rm x)) (Lib.hid fun w => ?_)
  have c := Add_any (-x - 1) 1 w
  have e1 : Wd.hi (-x - 1) = -Wd.hi x - 1 := by unfold Wd.hi; omega
  have e2 : Wd.lo (-x - 1) = 18446744073709551615 - Wd.lo x := by unfold Wd.lo; omega
  rw [e1, e2, show Wd.hi 1 = 0 by decide, show Wd.lo 1 = 1 by decide, show -x - 1 + 1 = -x by omega] at c
  exact c

theorem Sign_below (h l : Int) (w : World) (p : h < 0) :
    Calls Try.prog 22 #[.agg #[.int .i64 h, .int .u64 l]] w fun e w' => e = .returned (.int .i64 (-1)) ∧ Below w.heap.size w w' := by
  go_enter Try.func22, Try.ntmps22
  go_wp2
  go_ret
  exact ⟨rfl, below1 w _⟩

theorem Sign_nought (w : World) :
    Calls Try.prog 22 #[.agg #[.int .i64 0, .int .u64 0]] w fun e w' => e = .returned (.int .i64 0) ∧ Below w.heap.size w w' := by
  go_enter Try.func22, Try.ntmps22
  go_wp2
  go_ret
  exact ⟨rfl, below1 w _⟩

theorem Sign_hi (h l : Int) (w : World) (p : decide (h < 0) = false) (q : (h == 0) = false) :
    Calls Try.prog 22 #[.agg #[.int .i64 h, .int .u64 l]] w fun e w' => e = .returned (.int .i64 1) ∧ Below w.heap.size w w' := by
  go_enter Try.func22, Try.ntmps22
  go_wp2
  go_ret
  exact ⟨rfl, below1 w _⟩

theorem Sign_lo (l : Int) (w : World) (q : (l == 0) = false) :
    Calls Try.prog 22 #[.agg #[.int .i64 0, .int .u64 l]] w fun e w' => e = .returned (.int .i64 1) ∧ Below w.heap.size w w' := by
  go_enter Try.func22, Try.ntmps22
  go_wp2
  go_ret
  exact ⟨rfl, below1 w _⟩

theorem Sign_any (x : Int) (w : World) (rx : Wd.Rm x) :
    Calls Try.prog 22 #[.agg #[.int .i64 (Wd.hi x), .int .u64 (Wd.lo x)]] w fun e w' => e = .returned (.int .i64 (Wd.sg x)) ∧ Below w.heap.size w w' := by
  have ex := Wd.halves x rx
  have l := Wd.lo_rm x
  by_cases h : Wd.hi x < 0
  · rw [Wd.sg_neg (by omega)]
    exact Sign_below _ _ w h
  · by_cases h0 : Wd.hi x = 0
    · by_cases l0 : Wd.lo x = 0
      · rw [Wd.sg_zero (by omega), h0, l0]
        exact Sign_nought w
      · rw [Wd.sg_pos (by omega), h0]
        exact Sign_lo _ w (by rw [beq_eq_false_iff_ne]; exact l0)
    · rw [Wd.sg_pos (by omega)]
      exact Sign_hi _ _ w (decide_eq_false h) (by rw [beq_eq_false_iff_ne]; exact h0)

theorem Cmp_eq (h l : Int) (w : World) :
    Calls Try.prog 24 #[.agg #[.int .i64 h, .int .u64 l], .agg #[.int .i64 h, .int .u64 l]] w fun e w' => e = .returned (.int .i64 0) ∧ Below w.heap.size w w' := by
  go_enter Try.func24, Try.ntmps24
  go_wp2
  go_ret
  exact ⟨rfl, below2 w _ _⟩

theorem Cmp_lt (h l h2 l2 : Int) (w : World) (p : h < h2) :
    Calls Try.prog 24 #[.agg #[.int .i64 h, .int .u64 l], .agg #[.int .i64 h2, .int .u64 l2]] w fun e w' => e = .returned (.int .i64 (-1)) ∧ Below w.heap.size w w' := by
  go_enter Try.func24, Try.ntmps24
  go_wp2
  go_ret
  exact ⟨rfl, below2 w _ _⟩

theorem Cmp_gt (h l h2 l2 : Int) (w : World) (p : h2 < h) :
    Calls Try.prog 24 #[.agg #[.int .i64 h, .int .u64 l], .agg #[.int .i64 h2, .int .u64 l2]] w fun e w' => e = .returned (.int .i64 1) ∧ Below w.heap.size w w' := by
  have q : (h == h2) = false := by rw [beq_eq_false_iff_ne]; omega
  have d : decide (h < h2) = false := decide_eq_false (by omega)
  clear p
  go_enter Try.func24, Try.ntmps24
  go_wp2
  go_ret
  exact ⟨rfl, below2 w _ _⟩

theorem Cmp_lo (h l l2 : Int) (w : World) (p : l < l2) :
    Calls Try.prog 24 #[.agg #[.int .i64 h, .int .u64 l], .agg #[.int .i64 h, .int .u64 l2]] w fun e w' => e = .returned (.int .i64 (-1)) ∧ Below w.heap.size w w' := by
  go_enter Try.func24, Try.ntmps24
  go_wp2
  go_ret
  exact ⟨rfl, below2 w _ _⟩

theorem Cmp_up (h l l2 : Int) (w : World) (p : l2 < l) :
    Calls Try.prog 24 #[.agg #[.int .i64 h, .int .u64 l], .agg #[.int .i64 h, .int .u64 l2]] w fun e w' => e = .returned (.int .i64 1) ∧ Below w.heap.size w w' := by
  have q : (l == l2) = false := by rw [beq_eq_false_iff_ne]; omega
  have d : decide (l < l2) = false := decide_eq_false (by omega)
  clear p
  go_enter Try.func24, Try.ntmps24
  go_wp2
  go_ret
  exact ⟨rfl, below2 w _ _⟩

theorem Cmp_any (x y : Int) (w : World) (rx : Wd.Rm x) (ry : Wd.Rm y) :
    Calls Try.prog 24 #[.agg #[.int .i64 (Wd.hi x), .int .u64 (Wd.lo x)], .agg #[.int .i64 (Wd.hi y), .int .u64 (Wd.lo y)]] w fun e w' => e = .returned (.int .i64 (Wd.sg (x - y))) ∧ Below w.heap.size w w' := by
  by_cases h : Wd.hi x = Wd.hi y
  · by_cases l : Wd.lo x = Wd.lo y
    · have e := Wd.same_iff rx ry h l
      rw [e, Wd.sg_zero (by omega)]
      exact Cmp_eq _ _ w
    · by_cases l2 : Wd.lo x < Wd.lo y
      · have p := Wd.lt_of_lo rx ry h l2
        rw [h, Wd.sg_neg (by omega)]
        exact Cmp_lo _ _ _ w l2
      · have p := Wd.lt_of_lo ry rx h.symm (show Wd.lo y < Wd.lo x by omega)
        rw [h, Wd.sg_pos (by omega)]
        exact Cmp_up _ _ _ w (by omega)
  · by_cases h2 : Wd.hi x < Wd.hi y
    · have p := Wd.lt_of_hi rx ry h2
      rw [Wd.sg_neg (by omega)]
      exact Cmp_lt _ _ _ _ w h2
    · have p := Wd.lt_of_hi ry rx (show Wd.hi y < Wd.hi x by omega)
      rw [Wd.sg_pos (by omega)]
      exact Cmp_gt _ _ _ _ w (by omega)

theorem size_any (a : Int) (w : World) (r : Wd.R6 a) :
    Calls Try.prog 33 #[.int .i64 a] w fun e w' => e = .returned (.int .u64 (a.natAbs : Int)) ∧ Below w.heap.size w w' := by
  obtain ⟨ha1, ha2⟩ := r
  by_cases p : a < 0
  all_goals
    go_enter Try.func33, Try.ntmps33
    go_wp2
    go_ret
    exact ⟨ret_i (by first | omega | (simp only [IntKind.wrap_u64]; omega)), Below.refl _ _⟩

set_option maxHeartbeats 400000 in
theorem Narrow_same (h l n : Int) (w : World) (en2 : IntKind.i64.wrap l = n) 
    (O : Hid (∀ w, Calls Try.prog 14 #[.int .i64 n] w fun e w' => e = .returned (.agg #[.int .i64 h, .int .u64 l]) ∧ Below w.heap.size w w')) :
    Calls Try.prog 8 #[.agg #[.int .i64 h, .int .u64 l]] w fun e w' => e = .returned (.tuple #[.int .i64 n, .int .i64 0]) ∧ Below w.heap.size w w' := by
  go_enter Try.func8, Try.ntmps8
  go_wp2_with fail
  go_region_held3 (fun w' => w'.cell? ⟨w.heap.size, 0, none⟩ = some (.int .i64 h) ∧ w'.cell? ⟨w.heap.size, 1, none⟩ = some (.int .u64 l))
    (first
      | (go_split_ands; refine ⟨?_, ?_⟩ <;> first | exact keepc hb4 (by assumption))
      | go_keep)
    (first
      | (go_at_call 14; (with_reducible refine (O.out _).mono ?_); rintro e w4 ⟨rfl, hb4⟩; have B4 := belowT (below1 w _).drew hb4))
  all_goals
    (try go_split_ands)
    go_wp2_with fail
    go_ret2
    exact ⟨rfl, B4⟩

set_option maxHeartbeats 400000 in
theorem Narrow_hi (h l n h2 l2 : Int) (w : World) (en2 : IntKind.i64.wrap l = n) (q : (h == h2) = false)
    (O : Hid (∀ w, Calls Try.prog 14 #[.int .i64 n] w fun e w' => e = .returned (.agg #[.int .i64 h2, .int .u64 l2]) ∧ Below w.heap.size w w')) :
    Calls Try.prog 8 #[.agg #[.int .i64 h, .int .u64 l]] w fun e w' => e = .returned (.tuple #[.int .i64 0, .int .i64 8]) ∧ Below w.heap.size w w' := by
  go_enter Try.func8, Try.ntmps8
  go_wp2_with fail
  go_region_held3 (fun w' => w'.cell? ⟨w.heap.size, 0, none⟩ = some (.int .i64 h) ∧ w'.cell? ⟨w.heap.size, 1, none⟩ = some (.int .u64 l))
    (first
      | (go_split_ands; refine ⟨?_, ?_⟩ <;> first | exact keepc hb4 (by assumption))
      | go_keep)
    (first
      | (go_at_call 14; (with_reducible refine (O.out _).mono ?_); rintro e w4 ⟨rfl, hb4⟩; have B4 := belowT (below1 w _).drew hb4))
  all_goals
    (try go_split_ands)
    go_wp2_with fail
    go_ret2
    exact ⟨rfl, B4⟩

set_option maxHeartbeats 400000 in
theorem Narrow_lo (h l n l2 : Int) (w : World) (en2 : IntKind.i64.wrap l = n) (q : (l == l2) = false)
    (O : Hid (∀ w, Calls Try.prog 14 #[.int .i64 n] w fun e w' => e = .returned (.agg #[.int .i64 h, .int .u64 l2]) ∧ Below w.heap.size w w')) :
    Calls Try.prog 8 #[.agg #[.int .i64 h, .int .u64 l]] w fun e w' => e = .returned (.tuple #[.int .i64 0, .int .i64 8]) ∧ Below w.heap.size w w' := by
  go_enter Try.func8, Try.ntmps8
  go_wp2_with fail
  go_region_held3 (fun w' => w'.cell? ⟨w.heap.size, 0, none⟩ = some (.int .i64 h) ∧ w'.cell? ⟨w.heap.size, 1, none⟩ = some (.int .u64 l))
    (first
      | (go_split_ands; refine ⟨?_, ?_⟩ <;> first | exact keepc hb4 (by assumption))
      | go_keep)
    (first
      | (go_at_call 14; (with_reducible refine (O.out _).mono ?_); rintro e w4 ⟨rfl, hb4⟩; have B4 := belowT (below1 w _).drew hb4))
  all_goals
    (try go_split_ands)
    go_wp2_with fail
    go_ret2
    exact ⟨rfl, B4⟩

theorem wrap_two (l : Int) : IntKind.i64.wrap l = wrap64 l := by rw [IntKind.wrap_i64, wrap_i]

theorem Narrow_in (x : Int) (w : World) (r : Wd.R6 x) :
    Calls Try.prog 8 #[.agg #[.int .i64 (Wd.hi x), .int .u64 (Wd.lo x)]] w fun e w' => e = .returned (.tuple #[.int .i64 x, .int .i64 0]) ∧ Below w.heap.size w w' := by
  have e : wrap64 (Wd.lo x) = x := by rw [wrap_i]; unfold Wd.lo Wd.R6 at *; omega
  exact Narrow_same _ _ x w ((wrap_two _).trans e) (Lib.hid fun w => Of_any x w r)

theorem Narrow_out (x : Int) (w : World) (rx : Wd.Rm x) (r : ¬ Wd.R6 x) :
    Calls Try.prog 8 #[.agg #[.int .i64 (Wd.hi x), .int .u64 (Wd.lo x)]] w fun e w' => e = .returned (.tuple #[.int .i64 0, .int .i64 8]) ∧ Below w.heap.size w w' := by
  have r2 : Wd.R6 (wrap64 (Wd.lo x)) := by rw [wrap_i]; unfold Wd.R6; omega
  have O := Lib.hid fun w => Of_any (wrap64 (Wd.lo x)) w r2
  have ne : x ≠ wrap64 (Wd.lo x) := fun e => r (e ▸ r2)
  by_cases h : Wd.hi x = Wd.hi (wrap64 (Wd.lo x))
  · have l : Wd.lo x ≠ Wd.lo (wrap64 (Wd.lo x)) := fun l => ne (Wd.same_iff rx (Wd.rm_of r2) h l)
    rw [← h] at O
    exact Narrow_lo _ _ _ _ w (wrap_two _) (by rw [beq_eq_false_iff_ne]; exact l) O
  · exact Narrow_hi _ _ _ _ _ w (wrap_two _) (by rw [beq_eq_false_iff_ne]; exact h) O

end Go.Proofs.Ytfgjkkabipmhhaa.Ref
