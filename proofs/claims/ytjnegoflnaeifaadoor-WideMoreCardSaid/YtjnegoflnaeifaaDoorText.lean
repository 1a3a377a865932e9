/- Text of package wide. -/
import Derived.Test.YtjnegoflnaeifaaDoorFmtU
import Derived.Test.YtjnegoflnaeifaaDoorDec
import Derived.Test.YtjnegoflnaeifaaDoorWideC
import Derived.WalkSpells
import Derived.WalkLawsBesides
namespace Go.Proofs.YtjnegoflnaeifaaDoor
open Go.RowKit

theorem cat (a b : List UInt8) : ((⟨a.toArray⟩ : ByteArray) ++ (⟨b.toArray⟩ : ByteArray)) = ⟨(a ++ b).toArray⟩ := ByteArray.ext (by simp [ByteArray.data_append])

theorem cat_dash (b : List UInt8) : ((⟨#[45]⟩ : ByteArray) ++ (⟨b.toArray⟩ : ByteArray)) = ⟨(45 :: b).toArray⟩ := cat [45] b

theorem cat3 (a b : List UInt8) (c : Nat) : ((⟨a.toArray⟩ : ByteArray) ++ (⟨Array.replicate c 48⟩ : ByteArray) ++ (⟨b.toArray⟩ : ByteArray)) = ⟨(a ++ List.replicate c 48 ++ b).toArray⟩ := ByteArray.ext (by simp [ByteArray.data_append])

theorem cat4 (a b : List UInt8) (c : Nat) : ((⟨#[45]⟩ : ByteArray) ++ ((⟨a.toArray⟩ : ByteArray) ++ (⟨Array.replicate c 48⟩ : ByteArray) ++ (⟨b.toArray⟩ : ByteArray))) = ⟨(45 :: (a ++ List.replicate c 48 ++ b)).toArray⟩ := ByteArray.ext (by simp [ByteArray.data_append])

theorem repeat_nought : ∀ c, Lib.repeatL [48] c = List.replicate c 48
  | 0 => rfl
  | c + 1 => by rw [Lib.repeatL, repeat_nought c]; rfl

theorem Repeat_nought (c : Nat) (w : World) (hc : c ≤ 19) :
    Calls Tryd.prog 40 #[.string ⟨#[48]⟩, .int .i64 c] w fun e w' => e = .returned (.string ⟨(List.replicate c 48).toArray⟩) ∧ Below w.heap.size w w' := by
  have h := Tryd.strings_Repeat ⟨#[48]⟩ c w (by omega) (by rw [show (ByteArray.mk #[48]).size = 1 from rfl, Nat.one_mul]; omega)
  rw [show (ByteArray.mk #[48]).data.toList = [48] from rfl, repeat_nought] at h
  exact h

theorem Text_core (x m tl g : Int) (w : World) (D1 : List UInt8) (hg : decide (g < 0) = false)
    (A : Hid (∀ w, Calls Tryd.prog 14 #[.agg #[.int .i64 (Wd.hi x), .int .u64 (Wd.lo x)]] w fun e w' => e = .returned (.agg #[.int .i64 (Wd.hi m), .int .u64 (Wd.lo m)]) ∧ Below w.heap.size w w'))
    (S : Hid (∀ w, Calls Tryd.prog 38 #[.agg #[.int .i64 (Wd.hi m), .int .u64 (Wd.lo m)], .int .u64 10000000000000000000] w fun e w' => e = .returned (.tuple #[.agg #[.int .i64 0, .int .u64 0], .int .u64 tl]) ∧ Below w.heap.size w w'))
    (F1 : Hid (∀ w', Below w.heap.size w w' → Calls Tryd.prog 39 #[.int .u64 tl, .int .i64 10] w' fun e w'' => e = .returned (.string ⟨D1.toArray⟩) ∧ Below w'.heap.size w' w''))
    (G : Hid (∀ w, Calls Tryd.prog 23 #[.agg #[.int .i64 (Wd.hi x), .int .u64 (Wd.lo x)]] w fun e w' => e = .returned (.int .i64 g) ∧ Below w.heap.size w w')) :
    Calls Tryd.prog 16 #[.agg #[.int .i64 (Wd.hi x), .int .u64 (Wd.lo x)]] w fun e w' => e = .returned (.string ⟨(D1).toArray⟩) ∧ Below w.heap.size w w' := by
  go_enter Tryd.func16, Tryd.ntmps16
  go_wp2_with fail
  refine (A.out _).mono ?_; rintro e w1 ⟨rfl, hb1⟩
  have B1 := belowT (below1 w _) hb1
  have X1 := (own2 w _ _ _).keep hb1; have X1a := X1.c0; have X1b := X1.c1; have X1c := X1.f0; have X1d := X1.f1; have X1l := X1.lt
  go_wp2_with fail
  refine (S.out _).mono ?_; rintro e w2 ⟨rfl, hb2⟩
  have B2 := belowT (B1) hb2
  have X2 := (X1).keep hb2; have X2a := X2.c0; have X2b := X2.c1; have X2c := X2.f0; have X2d := X2.f1; have X2l := X2.lt
  go_wp2_with fail
  refine (F1.out _ (belowT B2 (below1 _ _))).mono ?_; rintro e w3 ⟨rfl, hb3⟩
  have B3 := belowT (belowT B2 (below1 _ _)) hb3
  have X3 := (X2.more _).keep hb3; have X3a := X3.c0; have X3b := X3.c1; have X3c := X3.f0; have X3d := X3.f1; have X3l := X3.lt
  have P3 := (own2 w2 _ _ _).keep hb3; have P3a := P3.c0; have P3b := P3.c1; have P3c := P3.f0; have P3d := P3.f1; have P3l := P3.lt
  go_wp2_with fail
  refine (G.out _).mono ?_; rintro e w4 ⟨rfl, hb4⟩
  have B4 := belowT (B3) hb4
  have X4 := (X3).keep hb4; have X4a := X4.c0; have X4b := X4.c1; have X4c := X4.f0; have X4d := X4.f1; have X4l := X4.lt
  go_wp2_with fail
  exact bodyPost_ret (v := .string ⟨D1.toArray⟩) (by simp [results, Tryd.results16, go_sem]) rfl ⟨rfl, B4⟩

theorem Text_core_neg (x m tl g : Int) (w : World) (D1 : List UInt8) (hk : D1.length ≤ 19) (hg : decide (g < 0) = true)
    (A : Hid (∀ w, Calls Tryd.prog 14 #[.agg #[.int .i64 (Wd.hi x), .int .u64 (Wd.lo x)]] w fun e w' => e = .returned (.agg #[.int .i64 (Wd.hi m), .int .u64 (Wd.lo m)]) ∧ Below w.heap.size w w'))
    (S : Hid (∀ w, Calls Tryd.prog 38 #[.agg #[.int .i64 (Wd.hi m), .int .u64 (Wd.lo m)], .int .u64 10000000000000000000] w fun e w' => e = .returned (.tuple #[.agg #[.int .i64 0, .int .u64 0], .int .u64 tl]) ∧ Below w.heap.size w w'))
    (F1 : Hid (∀ w', Below w.heap.size w w' → Calls Tryd.prog 39 #[.int .u64 tl, .int .i64 10] w' fun e w'' => e = .returned (.string ⟨D1.toArray⟩) ∧ Below w'.heap.size w' w''))
    (G : Hid (∀ w, Calls Tryd.prog 23 #[.agg #[.int .i64 (Wd.hi x), .int .u64 (Wd.lo x)]] w fun e w' => e = .returned (.int .i64 g) ∧ Below w.heap.size w w')) :
    Calls Tryd.prog 16 #[.agg #[.int .i64 (Wd.hi x), .int .u64 (Wd.lo x)]] w fun e w' => e = .returned (.string ⟨(45 :: D1).toArray⟩) ∧ Below w.heap.size w w' := by
  go_enter Tryd.func16, Tryd.ntmps16
  go_wp2_with fail
  refine (A.out _).mono ?_; rintro e w1 ⟨rfl, hb1⟩
  have B1 := belowT (below1 w _) hb1
  have X1 := (own2 w _ _ _).keep hb1; have X1a := X1.c0; have X1b := X1.c1; have X1c := X1.f0; have X1d := X1.f1; have X1l := X1.lt
  go_wp2_with fail
  refine (S.out _).mono ?_; rintro e w2 ⟨rfl, hb2⟩
  have B2 := belowT (B1) hb2
  have X2 := (X1).keep hb2; have X2a := X2.c0; have X2b := X2.c1; have X2c := X2.f0; have X2d := X2.f1; have X2l := X2.lt
  go_wp2_with fail
  refine (F1.out _ (belowT B2 (below1 _ _))).mono ?_; rintro e w3 ⟨rfl, hb3⟩
  have B3 := belowT (belowT B2 (below1 _ _)) hb3
  have X3 := (X2.more _).keep hb3; have X3a := X3.c0; have X3b := X3.c1; have X3c := X3.f0; have X3d := X3.f1; have X3l := X3.lt
  have P3 := (own2 w2 _ _ _).keep hb3; have P3a := P3.c0; have P3b := P3.c1; have P3c := P3.f0; have P3d := P3.f1; have P3l := P3.lt
  go_wp2_with fail
  refine (G.out _).mono ?_; rintro e w4 ⟨rfl, hb4⟩
  have B4 := belowT (B3) hb4
  have X4 := (X3).keep hb4; have X4a := X4.c0; have X4b := X4.c1; have X4c := X4.f0; have X4d := X4.f1; have X4l := X4.lt
  go_wp2_with fail
  all_goals try (exfalso; omega)
  rw [cat_dash]
  exact bodyPost_ret (v := .string ⟨(45 :: D1).toArray⟩) (by simp [results, Tryd.results16, go_sem]) rfl ⟨rfl, B4⟩

theorem Text_big (x m hd tl g : Int) (w : World) (D1 D2 : List UInt8) (hz : (hd == 0) = false) (hk : D1.length ≤ 19) (hk2 : D2.length ≤ 20) (hg : decide (g < 0) = false) (hc : (19 - (D1.length : Int)) = ((19 - D1.length : Nat) : Int))
    (A : Hid (∀ w, Calls Tryd.prog 14 #[.agg #[.int .i64 (Wd.hi x), .int .u64 (Wd.lo x)]] w fun e w' => e = .returned (.agg #[.int .i64 (Wd.hi m), .int .u64 (Wd.lo m)]) ∧ Below w.heap.size w w'))
    (S : Hid (∀ w, Calls Tryd.prog 38 #[.agg #[.int .i64 (Wd.hi m), .int .u64 (Wd.lo m)], .int .u64 10000000000000000000] w fun e w' => e = .returned (.tuple #[.agg #[.int .i64 0, .int .u64 hd], .int .u64 tl]) ∧ Below w.heap.size w w'))
    (F1 : Hid (∀ w', Below w.heap.size w w' → Calls Tryd.prog 39 #[.int .u64 tl, .int .i64 10] w' fun e w'' => e = .returned (.string ⟨D1.toArray⟩) ∧ Below w'.heap.size w' w''))
    (F2 : Hid (∀ w', Below w.heap.size w w' → Calls Tryd.prog 39 #[.int .u64 hd, .int .i64 10] w' fun e w'' => e = .returned (.string ⟨D2.toArray⟩) ∧ Below w'.heap.size w' w''))
    (G : Hid (∀ w, Calls Tryd.prog 23 #[.agg #[.int .i64 (Wd.hi x), .int .u64 (Wd.lo x)]] w fun e w' => e = .returned (.int .i64 g) ∧ Below w.heap.size w w')) :
    Calls Tryd.prog 16 #[.agg #[.int .i64 (Wd.hi x), .int .u64 (Wd.lo x)]] w fun e w' => e = .returned (.string ⟨(D2 ++ List.replicate (19 - D1.length) 48 ++ D1).toArray⟩) ∧ Below w.heap.size w w' := by
  go_enter Tryd.func16, Tryd.ntmps16
  go_wp2_with fail
  refine (A.out _).mono ?_; rintro e w1 ⟨rfl, hb1⟩
  have B1 := belowT (below1 w _) hb1
  have X1 := (own2 w _ _ _).keep hb1; have X1a := X1.c0; have X1b := X1.c1; have X1c := X1.f0; have X1d := X1.f1; have X1l := X1.lt
  go_wp2_with fail
  refine (S.out _).mono ?_; rintro e w2 ⟨rfl, hb2⟩
  have B2 := belowT (B1) hb2
  have X2 := (X1).keep hb2; have X2a := X2.c0; have X2b := X2.c1; have X2c := X2.f0; have X2d := X2.f1; have X2l := X2.lt
  go_wp2_with fail
  refine (F1.out _ (belowT B2 (below1 _ _))).mono ?_; rintro e w3 ⟨rfl, hb3⟩
  have B3 := belowT (belowT B2 (below1 _ _)) hb3
  have X3 := (X2.more _).keep hb3; have X3a := X3.c0; have X3b := X3.c1; have X3c := X3.f0; have X3d := X3.f1; have X3l := X3.lt
  have P3 := (own2 w2 _ _ _).keep hb3; have P3a := P3.c0; have P3b := P3.c1; have P3c := P3.f0; have P3d := P3.f1; have P3l := P3.lt
  go_wp2_with fail
  refine (F2.out _ B3).mono ?_; rintro e w4 ⟨rfl, hb4⟩
  have B4 := belowT (B3) hb4
  have X4 := (X3).keep hb4; have X4a := X4.c0; have X4b := X4.c1; have X4c := X4.f0; have X4d := X4.f1; have X4l := X4.lt
  have P4 := (P3).keep hb4; have P4a := P4.c0; have P4b := P4.c1; have P4c := P4.f0; have P4d := P4.f1; have P4l := P4.lt
  go_wp2_with fail
  go_wp2_with fail
  refine ((Repeat_nought _ _ (by omega))).mono ?_; rintro e w5 ⟨rfl, hb5⟩
  have B5 := belowT (B4) hb5
  have X5 := (X4).keep hb5; have X5a := X5.c0; have X5b := X5.c1; have X5c := X5.f0; have X5d := X5.f1; have X5l := X5.lt
  go_wp2_with fail
  all_goals try (exfalso; omega)
  go_wp2_with fail
  refine (G.out _).mono ?_; rintro e w6 ⟨rfl, hb6⟩
  have B6 := belowT (B5) hb6
  have X6 := (X5).keep hb6; have X6a := X6.c0; have X6b := X6.c1; have X6c := X6.f0; have X6d := X6.f1; have X6l := X6.lt
  go_wp2_with fail
  all_goals try (exfalso; simp only [ByteArray.size_append, ByteArray.size, List.size_toArray, Array.size_replicate] at *; omega)
  rw [cat3]
  exact bodyPost_ret (v := .string ⟨(D2 ++ List.replicate (19 - D1.length) 48 ++ D1).toArray⟩) (by simp [results, Tryd.results16, go_sem]) rfl ⟨rfl, B6⟩

theorem Text_big_neg (x m hd tl g : Int) (w : World) (D1 D2 : List UInt8) (hz : (hd == 0) = false) (hk : D1.length ≤ 19) (hk2 : D2.length ≤ 20) (hg : decide (g < 0) = true) (hc : (19 - (D1.length : Int)) = ((19 - D1.length : Nat) : Int))
    (A : Hid (∀ w, Calls Tryd.prog 14 #[.agg #[.int .i64 (Wd.hi x), .int .u64 (Wd.lo x)]] w fun e w' => e = .returned (.agg #[.int .i64 (Wd.hi m), .int .u64 (Wd.lo m)]) ∧ Below w.heap.size w w'))
    (S : Hid (∀ w, Calls Tryd.prog 38 #[.agg #[.int .i64 (Wd.hi m), .int .u64 (Wd.lo m)], .int .u64 10000000000000000000] w fun e w' => e = .returned (.tuple #[.agg #[.int .i64 0, .int .u64 hd], .int .u64 tl]) ∧ Below w.heap.size w w'))
    (F1 : Hid (∀ w', Below w.heap.size w w' → Calls Tryd.prog 39 #[.int .u64 tl, .int .i64 10] w' fun e w'' => e = .returned (.string ⟨D1.toArray⟩) ∧ Below w'.heap.size w' w''))
    (F2 : Hid (∀ w', Below w.heap.size w w' → Calls Tryd.prog 39 #[.int .u64 hd, .int .i64 10] w' fun e w'' => e = .returned (.string ⟨D2.toArray⟩) ∧ Below w'.heap.size w' w''))
    (G : Hid (∀ w, Calls Tryd.prog 23 #[.agg #[.int .i64 (Wd.hi x), .int .u64 (Wd.lo x)]] w fun e w' => e = .returned (.int .i64 g) ∧ Below w.heap.size w w')) :
    Calls Tryd.prog 16 #[.agg #[.int .i64 (Wd.hi x), .int .u64 (Wd.lo x)]] w fun e w' => e = .returned (.string ⟨(45 :: (D2 ++ List.replicate (19 - D1.length) 48 ++ D1)).toArray⟩) ∧ Below w.heap.size w w' := by
  go_enter Tryd.func16, Tryd.ntmps16
  go_wp2_with fail
  refine (A.out _).mono ?_; rintro e w1 ⟨rfl, hb1⟩
  have B1 := belowT (below1 w _) hb1
  have X1 := (own2 w _ _ _).keep hb1; have X1a := X1.c0; have X1b := X1.c1; have X1c := X1.f0; have X1d := X1.f1; have X1l := X1.lt
  go_wp2_with fail
  refine (S.out _).mono ?_; rintro e w2 ⟨rfl, hb2⟩
  have B2 := belowT (B1) hb2
  have X2 := (X1).keep hb2; have X2a := X2.c0; have X2b := X2.c1; have X2c := X2.f0; have X2d := X2.f1; have X2l := X2.lt
  go_wp2_with fail
  refine (F1.out _ (belowT B2 (below1 _ _))).mono ?_; rintro e w3 ⟨rfl, hb3⟩
  have B3 := belowT (belowT B2 (below1 _ _)) hb3
  have X3 := (X2.more _).keep hb3; have X3a := X3.c0; have X3b := X3.c1; have X3c := X3.f0; have X3d := X3.f1; have X3l := X3.lt
  have P3 := (own2 w2 _ _ _).keep hb3; have P3a := P3.c0; have P3b := P3.c1; have P3c := P3.f0; have P3d := P3.f1; have P3l := P3.lt
  go_wp2_with fail
  refine (F2.out _ B3).mono ?_; rintro e w4 ⟨rfl, hb4⟩
  have B4 := belowT (B3) hb4
  have X4 := (X3).keep hb4; have X4a := X4.c0; have X4b := X4.c1; have X4c := X4.f0; have X4d := X4.f1; have X4l := X4.lt
  have P4 := (P3).keep hb4; have P4a := P4.c0; have P4b := P4.c1; have P4c := P4.f0; have P4d := P4.f1; have P4l := P4.lt
  go_wp2_with fail
  go_wp2_with fail
  refine ((Repeat_nought _ _ (by omega))).mono ?_; rintro e w5 ⟨rfl, hb5⟩
  have B5 := belowT (B4) hb5
  have X5 := (X4).keep hb5; have X5a := X5.c0; have X5b := X5.c1; have X5c := X5.f0; have X5d := X5.f1; have X5l := X5.lt
  go_wp2_with fail
  all_goals try (exfalso; omega)
  go_wp2_with fail
  refine (G.out _).mono ?_; rintro e w6 ⟨rfl, hb6⟩
  have B6 := belowT (B5) hb6
  have X6 := (X5).keep hb6; have X6a := X6.c0; have X6b := X6.c1; have X6c := X6.f0; have X6d := X6.f1; have X6l := X6.lt
  go_wp2_with fail
  all_goals try (exfalso; simp only [ByteArray.size_append, ByteArray.size, List.size_toArray, Array.size_replicate] at *; omega)
  rw [cat4]
  exact bodyPost_ret (v := .string ⟨(45 :: (D2 ++ List.replicate (19 - D1.length) 48 ++ D1)).toArray⟩) (by simp [results, Tryd.results16, go_sem]) rfl ⟨rfl, B6⟩

end Go.Proofs.YtjnegoflnaeifaaDoor
