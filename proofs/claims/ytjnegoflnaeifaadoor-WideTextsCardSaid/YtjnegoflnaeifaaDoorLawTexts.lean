/- WideTexts: the walk. -/
import Derived.Test.YtjnegoflnaeifaaDoorParseB
import Derived.Test.YtjnegoflnaeifaaDoorWideF
namespace Go.Proofs.YtjnegoflnaeifaaDoor
open Go.RowKit

theorem texts_long (h l : Int) (s : ByteArray) (w : World) (hl : decide (300 < (s.size : Int)) = true)
    (K : Hid (∀ w, Calls Tryd.prog 5 #[] w fun e w' => e = .returned (.bool true) ∧ Below w.heap.size w w')) :
    Calls Tryd.prog 4 #[.agg #[.int .i64 h, .int .u64 l], .string s] w fun e w' => e = .returned (.bool true) ∧ Below w.heap.size w w' := by
  go_enter Tryd.func4, Tryd.ntmps4
  go_wp2_with fail
  refine (K.out _).mono ?_; rintro e w1 ⟨rfl, hb1⟩
  have B1 := belowT (below1 w _) hb1
  go_wp2_with fail
  go_ret
  exact ⟨rfl, B1⟩

set_option maxHeartbeats 2000000 in
set_option maxRecDepth 100000 in
theorem texts_ok (h : Int) (x : Int) (s : ByteArray) (tx ty : List UInt8) (y : Int) (w : World) (hl : decide (300 < (s.size : Int)) = false) (eh : h / 4 = Wd.hi x) (hq : (ty == s.toList) = true)
    (T : Hid (∀ w', Below w.heap.size w w' → Calls Tryd.prog 16 #[.agg #[.int .i64 (Wd.hi x), .int .u64 (Wd.lo x)]] w' fun e w'' => e = .returned (.string ⟨tx.toArray⟩) ∧ Below w'.heap.size w' w''))
    (P : Hid (∀ w', Below w.heap.size w w' → Calls Tryd.prog 10 #[.string ⟨tx.toArray⟩] w' fun e w'' => e = .returned (.tuple #[.agg #[.int .i64 (Wd.hi x), .int .u64 (Wd.lo x)], .int .i64 0]) ∧ Below w'.heap.size w' w''))
    (P2 : Hid (∀ w', Below w.heap.size w w' → Calls Tryd.prog 10 #[.string s] w' fun e w'' => e = .returned (.tuple #[.agg #[.int .i64 (Wd.hi y), .int .u64 (Wd.lo y)], .int .i64 0]) ∧ Below w'.heap.size w' w''))
    (T2 : Hid (∀ w', Below w.heap.size w w' → Calls Tryd.prog 16 #[.agg #[.int .i64 (Wd.hi y), .int .u64 (Wd.lo y)]] w' fun e w'' => e = .returned (.string ⟨ty.toArray⟩) ∧ Below w'.heap.size w' w''))
    (K : Hid (∀ w, Calls Tryd.prog 5 #[] w fun e w' => e = .returned (.bool true) ∧ Below w.heap.size w w')) :
    Calls Tryd.prog 4 #[.agg #[.int .i64 h, .int .u64 (Wd.lo x)], .string s] w fun e w' => e = .returned (.bool true) ∧ Below w.heap.size w w' := by
  go_enter Tryd.func4, Tryd.ntmps4
  go_wp2_with fail
  refine (T.out _ (below1 w _)).mono ?_; rintro e w1 ⟨rfl, hb1⟩
  have B1 := belowT (below1 w _) hb1
  have X1 := (own2 w _ _ _).keep hb1; have X1a := X1.c0; have X1b := X1.c1; have X1c := X1.f0; have X1d := X1.f1; have X1l := X1.lt
  go_wp2_with fail
  refine (P.out _ B1).mono ?_; rintro e w2 ⟨rfl, hb2⟩
  have B2 := belowT (B1) hb2
  have X2 := (X1).keep hb2; have X2a := X2.c0; have X2b := X2.c1; have X2c := X2.f0; have X2d := X2.f1; have X2l := X2.lt
  go_wp2_with fail
  refine (P2.out _ (belowT B2 (below1 _ _))).mono ?_; rintro e w3 ⟨rfl, hb3⟩
  have B3 := belowT (belowT B2 (below1 _ _)) hb3
  have X3 := (X2.more _).keep hb3; have X3a := X3.c0; have X3b := X3.c1; have X3c := X3.f0; have X3d := X3.f1; have X3l := X3.lt
  go_wp2_with fail
  refine (T2.out _ (belowT B3 (below1 _ _))).mono ?_; rintro e w4 ⟨rfl, hb4⟩
  have B4 := belowT (belowT B3 (below1 _ _)) hb4
  have X4 := (X3.more _).keep hb4; have X4a := X4.c0; have X4b := X4.c1; have X4c := X4.f0; have X4d := X4.f1; have X4l := X4.lt
  go_wp2_with fail
  go_wp2_with fail
  refine (K.out _).mono ?_; rintro e w5 ⟨rfl, hb5⟩
  have B5 := belowT (B4) hb5
  have X5 := (X4).keep hb5; have X5a := X5.c0; have X5b := X5.c1; have X5c := X5.f0; have X5d := X5.f1; have X5l := X5.lt
  go_wp2_with fail
  go_ret
  exact ⟨rfl, B5⟩

set_option maxHeartbeats 2000000 in
set_option maxRecDepth 100000 in
theorem texts_bad (h : Int) (x : Int) (s : ByteArray) (tx : List UInt8) (w : World) (hl : decide (300 < (s.size : Int)) = false) (eh : h / 4 = Wd.hi x)
    (T : Hid (∀ w', Below w.heap.size w w' → Calls Tryd.prog 16 #[.agg #[.int .i64 (Wd.hi x), .int .u64 (Wd.lo x)]] w' fun e w'' => e = .returned (.string ⟨tx.toArray⟩) ∧ Below w'.heap.size w' w''))
    (P : Hid (∀ w', Below w.heap.size w w' → Calls Tryd.prog 10 #[.string ⟨tx.toArray⟩] w' fun e w'' => e = .returned (.tuple #[.agg #[.int .i64 (Wd.hi x), .int .u64 (Wd.lo x)], .int .i64 0]) ∧ Below w'.heap.size w' w''))
    (P2 : Hid (∀ w', Below w.heap.size w w' → Calls Tryd.prog 10 #[.string s] w' fun e w'' => e = .returned (.tuple #[.agg #[.int .i64 0, .int .u64 0], .int .i64 3]) ∧ Below w'.heap.size w' w''))
    (K : Hid (∀ w, Calls Tryd.prog 5 #[] w fun e w' => e = .returned (.bool true) ∧ Below w.heap.size w w')) :
    Calls Tryd.prog 4 #[.agg #[.int .i64 h, .int .u64 (Wd.lo x)], .string s] w fun e w' => e = .returned (.bool true) ∧ Below w.heap.size w w' := by
  go_enter Tryd.func4, Tryd.ntmps4
  go_wp2_with fail
  refine (T.out _ (below1 w _)).mono ?_; rintro e w1 ⟨rfl, hb1⟩
  have B1 := belowT (below1 w _) hb1
  have X1 := (own2 w _ _ _).keep hb1; have X1a := X1.c0; have X1b := X1.c1; have X1c := X1.f0; have X1d := X1.f1; have X1l := X1.lt
  go_wp2_with fail
  refine (P.out _ B1).mono ?_; rintro e w2 ⟨rfl, hb2⟩
  have B2 := belowT (B1) hb2
  have X2 := (X1).keep hb2; have X2a := X2.c0; have X2b := X2.c1; have X2c := X2.f0; have X2d := X2.f1; have X2l := X2.lt
  go_wp2_with fail
  refine (P2.out _ (belowT B2 (below1 _ _))).mono ?_; rintro e w3 ⟨rfl, hb3⟩
  have B3 := belowT (belowT B2 (below1 _ _)) hb3
  have X3 := (X2.more _).keep hb3; have X3a := X3.c0; have X3b := X3.c1; have X3c := X3.f0; have X3d := X3.f1; have X3l := X3.lt
  go_wp2_with fail
  refine (K.out _).mono ?_; rintro e w5 ⟨rfl, hb5⟩
  have B5 := belowT (belowT B3 (below1 _ _)) hb5
  have X5 := (X3.more _).keep hb5; have X5a := X5.c0; have X5b := X5.c1; have X5c := X5.f0; have X5d := X5.f1; have X5l := X5.lt
  go_wp2_with fail
  go_ret
  exact ⟨rfl, B5⟩

/-- the law, at any number and any text -/
theorem texts_any (h l : Int) (s : ByteArray) (w : World) (L : Laid w) (rh : Wd.R6 h) (l0 : 0 ≤ l) (l1 : l ≤ 18446744073709551615) :
    Calls Tryd.prog 4 #[.agg #[.int .i64 h, .int .u64 l], .string s] w fun e w' => e = .returned (.bool true) ∧ Below w.heap.size w w' := by
  by_cases hs : s.size ≤ 300
  · have hd : decide (300 < (s.size : Int)) = false := decide_eq_false (by omega)
    obtain ⟨r1, r2⟩ := rh
    obtain ⟨x1, x2, rx⟩ := Wd.of_halves (h / 4) l (by omega) (by omega) l0 l1
    obtain ⟨x, hx⟩ : ∃ x : Int, x = h / 4 * 18446744073709551616 + l := ⟨_, rfl⟩
    rw [← hx] at x1 x2 rx
    have bx : -99999999999999999999999999999999999999 ≤ x ∧ x ≤ 99999999999999999999999999999999999999 := by omega
    subst x2
    have N := Dec.num_text x bx.1 bx.2
    have nx : Dec.num (text x) = x := N.1
    have N2 : (Dec.tail (text x)).length ≤ 38 := N.2
    have ok : okay (text x) = true := by rw [okay_short _ N2, nx]; simp
    have T := fun w' (b : Below w.heap.size w w') => Text_any x w' rx (tab_keep L.1 b)
    have tz : (text x).length ≤ 39 := by
      have : (text x).length ≤ (Dec.tail (text x)).length + 1 := by
        unfold Dec.tail Lib.trimPrefix
        split
        · rw [List.length_drop]; simp; omega
        · omega
      omega
    have P := fun w' (b : Below w.heap.size w w') => Parse_law ⟨(text x).toArray⟩ (by rw [show (ByteArray.mk (text x).toArray).size = (text x).length from List.size_toArray]; omega) w' (laid_keep L b)
    have P2 := fun w' (b : Below w.heap.size w w') => Parse_law s hs w' (laid_keep L b)
    have e1 : (ByteArray.mk (text x).toArray).data.toList = text x := rfl
    rw [e1, ok, nx] at P
    cases q : okay s.data.toList with
    | false =>
      rw [q, res_false] at P2
      exact texts_bad h x s (text x) w hd x1.symm (Lib.hid T) (Lib.hid P) (Lib.hid P2) (Lib.hid awake_any)
    | true =>
      rw [q] at P2
      have hk : (Dec.tail s.data.toList).length ≤ 38 := by
        by_cases g : (Dec.tail s.data.toList).length ≤ 38
        · exact g
        · rw [okay_long _ g] at q; cases q
      rw [okay_short _ hk] at q
      exact texts_ok h x s (text x) (text (Dec.num s.data.toList)) (Dec.num s.data.toList) w hd x1.symm (by rw [Lib.toList_data]; exact q) (Lib.hid T) (Lib.hid P) (Lib.hid P2) (Lib.hid fun w' b => Text_any _ w' (rm_num _ hk) (tab_keep L.1 b)) (Lib.hid awake_any)
  · exact texts_long h l s w (decide_eq_true (by omega)) (Lib.hid awake_any)

end Go.Proofs.YtjnegoflnaeifaaDoor
