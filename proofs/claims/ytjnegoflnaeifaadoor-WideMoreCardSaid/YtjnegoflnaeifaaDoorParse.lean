/- Parse of package wide. -/
import Derived.Test.YtjnegoflnaeifaaDoorTextC
import Derived.Test.YtjnegoflnaeifaaDoorWideB
import Derived.Test.YtjnegoflnaeifaaDoorRefD
import Derived.Deep.RegionHeld3
import Derived.Deep.RegionWith
namespace Go.Proofs.YtjnegoflnaeifaaDoor
open Go.RowKit

/-- what Parse answers -/
def res (q : Bool) (x : Int) : Value := if q then .tuple #[.agg #[.int .i64 (Wd.hi x), .int .u64 (Wd.lo x)], .int .i64 0] else .tuple #[.agg #[.int .i64 0, .int .u64 0], .int .i64 3]

/-- at a normal exit alone -/
def AtNormal (R : Act → World → Prop) : Exit → Act → World → Prop
  | .normal, a, w => R a w
  | _, _, _ => False

theorem Parse_long (s : ByteArray) (dl : List UInt8) (neg : Bool) (w : World) (hk : decide (38 < (dl.length : Int)) = true)
    (C : Hid (∀ w, Calls Tryd.prog 33 #[.string s, .string ⟨#[45]⟩] w fun e w' => e = .returned (.tuple #[.string ⟨dl.toArray⟩, .bool neg]) ∧ Below w.heap.size w w')) :
    Calls Tryd.prog 10 #[.string s] w fun e w' => e = .returned (.tuple #[.agg #[.int .i64 (Wd.hi 0), .int .u64 (Wd.lo 0)], .int .i64 3]) ∧ Below w.heap.size w w' := by
  rw [Wd.hi_zero, Wd.lo_zero]
  go_enter Tryd.func10, Tryd.ntmps10
  go_wp2_with fail
  refine (C.out _).mono ?_; rintro e w1 ⟨rfl, hb1⟩
  have B1 := belowT (below1 w _) hb1
  have X1 := (own2 w _ _ _).keep hb1; have X1a := X1.c0; have X1b := X1.c1; have X1c := X1.f0; have X1d := X1.f1; have X1l := X1.lt
  go_wp2_with fail
  exact bodyPost_ret (v := .tuple #[.agg #[.int .i64 0, .int .u64 0], .int .i64 3]) (by simp [results, Tryd.results10, go_sem, *]) rfl ⟨rfl, (B1.setCell (by simp) _).setCell (by simp) _⟩

set_option maxHeartbeats 4000000 in
set_option maxRecDepth 100000 in
theorem Parse_any (s : ByteArray) (dl : List UInt8) (neg : Bool) (w : World) (c : Nat) (u1 u2 : Nat) (p a : Int) (tl : List UInt8) (m fin : Int) (q : Bool) (hn : neg = true → fin = m) (hy : neg = false → fin = a) (hq : (tl == s.toList) = q) (hk : decide (38 < (dl.length : Int)) = false)
    (TX : Hid (∀ w', Below w.heap.size w w' → Calls Tryd.prog 16 #[.agg #[.int .i64 (Wd.hi fin), .int .u64 (Wd.lo fin)]] w' fun e w'' => e = .returned (.string ⟨tl.toArray⟩) ∧ Below w'.heap.size w' w''))
    (NG : Hid (∀ w, Calls Tryd.prog 26 #[.agg #[.int .i64 (Wd.hi a), .int .u64 (Wd.lo a)]] w fun e w' => e = .returned (.agg #[.int .i64 (Wd.hi m), .int .u64 (Wd.lo m)]) ∧ Below w.heap.size w w'))
    (hc : max (wrap64 ((dl.length : Int) - 19)) 0 = (c : Int)) (c0 : (0 : Int) ≤ c) (c1 : (c : Int) ≤ dl.length) (_c2 : (c : Int) ≤ (ByteArray.mk dl.toArray).size)
    (C : Hid (∀ w, Calls Tryd.prog 33 #[.string s, .string ⟨#[45]⟩] w fun e w' => e = .returned (.tuple #[.string ⟨dl.toArray⟩, .bool neg]) ∧ Below w.heap.size w w'))
    (V1 : Hid (∀ w', Below w.heap.size w w' → Calls Tryd.prog 35 #[.string ((ByteArray.mk dl.toArray).extract 0 c)] w' fun e w'' => e = .returned (.int .u64 u1) ∧ Below w'.heap.size w' w''))
    (V2 : Hid (∀ w', Below w.heap.size w w' → Calls Tryd.prog 35 #[.string ((ByteArray.mk dl.toArray).extract c dl.length)] w' fun e w'' => e = .returned (.int .u64 u2) ∧ Below w'.heap.size w' w''))
    (PR : Hid (∀ w, Calls Tryd.prog 34 #[.int .u64 u1, .int .u64 10000000000000000000] w fun e w' => e = .returned (.agg #[.int .i64 (Wd.hi p), .int .u64 (Wd.lo p)]) ∧ Below w.heap.size w w'))
    (AD : Hid (∀ w, Calls Tryd.prog 25 #[.agg #[.int .i64 (Wd.hi p), .int .u64 (Wd.lo p)], .agg #[.int .i64 0, .int .u64 u2]] w fun e w' => e = .returned (.agg #[.int .i64 (Wd.hi a), .int .u64 (Wd.lo a)]) ∧ Below w.heap.size w w')) :
    Calls Tryd.prog 10 #[.string s] w fun e w' => e = .returned (res q fin) ∧ Below w.heap.size w w' := by
  go_enter Tryd.func10, Tryd.ntmps10
  go_wp2_with fail
  refine (C.out _).mono ?_; rintro e w1 ⟨rfl, hb1⟩
  have B1 := belowT (below1 w _) hb1
  have X1 := (own2 w _ _ _).keep hb1; have X1a := X1.c0; have X1b := X1.c1; have X1c := X1.f0; have X1d := X1.f1; have X1l := X1.lt
  go_wp2_with fail
  have b1 := Below.refl w1.heap.size w1
  refine Code.wp_mono (Q := AtNormal (fun act W => ∃ g, act = (Act.mk #[.string s, undef, .pointer (some ⟨w.heap.size, 0, none⟩), .int .i64 0,
          .string ⟨dl.toArray⟩, .bool neg, .int .i64 c, .pointer (some ⟨g, 0, none⟩),
          .tuple #[.string ⟨dl.toArray⟩, .bool neg], .string s, .tuple #[.string ⟨dl.toArray⟩, .bool neg], .string ⟨dl.toArray⟩,
          .bool neg, .string ⟨dl.toArray⟩, .int .i64 dl.length, .bool false,
          undef, .string ⟨dl.toArray⟩, .int .i64 dl.length, .int .i64 (wrap64 ((dl.length : Int) - 19)), .int .i64 c,
          .string ⟨dl.toArray⟩, .int .i64 c, .string ((ByteArray.mk dl.toArray).extract 0 c), .int .u64 u1, .agg #[.int .i64 (Wd.hi p), .int .u64 (Wd.lo p)],
          .string ⟨dl.toArray⟩, .int .i64 c, .string ((ByteArray.mk dl.toArray).extract c dl.length), .int .u64 u2,
          .agg #[.int .i64 0, .int .u64 u2], .agg #[.int .i64 (Wd.hi a), .int .u64 (Wd.lo a)], undef, undef, undef, undef, undef, undef, undef, undef, undef] []) ∧
      Own2 W g (.int .i64 (Wd.hi a)) (.int .u64 (Wd.lo a)) ∧ Own2 W w.heap.size (.int .i64 0) (.int .u64 0) ∧ g ≠ w.heap.size ∧ w.heap.size ≤ g ∧ Below w.heap.size w W)) ?tail ?_
  case' tail =>
    intro e act W h
    cases e <;> first | exact False.elim h | skip
    obtain ⟨g, rfl, P, X, gn, gl, B⟩ := h
    have Pa := P.c0; have Pb := P.c1; have Pc := P.f0; have Pd := P.f1; have Pl := P.lt
    have Xa := X.c0; have Xb := X.c1; have Xc := X.f0; have Xd := X.f1; have Xl := X.lt
    clear b1
    cases neg <;> cases q
    · obtain rfl := hy rfl
      go_wp2_with fail
      refine (TX.out _ B).mono ?_; rintro e w6 ⟨rfl, hb6⟩
      have B6 := belowT B hb6
      have X6 := (X).keep hb6; have X6a := X6.c0; have X6b := X6.c1; have X6c := X6.f0; have X6d := X6.f1
      have P6 := (P).keep hb6; have P6a := P6.c0; have P6b := P6.c1; have P6c := P6.f0; have P6d := P6.f1
      go_wp2_with fail
      exact bodyPost_ret (v := .tuple #[.agg #[.int .i64 0, .int .u64 0], .int .i64 3]) (by simp [results, Tryd.results10, go_sem, *]) rfl ⟨rfl, (B6.setCell (by simp) _).setCell (by simp) _⟩
    · obtain rfl := hy rfl
      go_wp2_with fail
      refine (TX.out _ B).mono ?_; rintro e w6 ⟨rfl, hb6⟩
      have B6 := belowT B hb6
      have X6 := (X).keep hb6; have X6a := X6.c0; have X6b := X6.c1; have X6c := X6.f0; have X6d := X6.f1
      have P6 := (P).keep hb6; have P6a := P6.c0; have P6b := P6.c1; have P6c := P6.f0; have P6d := P6.f1
      go_wp2_with fail
      exact bodyPost_ret (v := .tuple #[.agg #[.int .i64 (Wd.hi fin), .int .u64 (Wd.lo fin)], .int .i64 0]) (by simp [results, Tryd.results10, go_sem, *]) rfl ⟨rfl, (B6.setCell (by simp) _).setCell (by simp) _⟩
    · obtain rfl := hn rfl
      go_wp2_with fail
      refine (NG.out _).mono ?_; rintro e w5 ⟨rfl, hb5⟩
      have B5 := belowT B hb5
      have P5 := P.keep hb5; have P5a := P5.c0; have P5b := P5.c1; have P5c := P5.f0; have P5d := P5.f1
      have X5 := X.keep hb5
      go_wp2_with fail
      refine (TX.out _ ((B5.setCell gl _).setCell gl _)).mono ?_; rintro e w6 ⟨rfl, hb6⟩
      have B6 := belowT ((B5.setCell gl _).setCell gl _) hb6
      have X6 := ((X5.other gn _ _).other gn _ _).keep hb6; have X6a := X6.c0; have X6b := X6.c1; have X6c := X6.f0; have X6d := X6.f1
      have P6 := (P5.set _ _).keep hb6; have P6a := P6.c0; have P6b := P6.c1; have P6c := P6.f0; have P6d := P6.f1
      go_wp2_with fail
      exact bodyPost_ret (v := .tuple #[.agg #[.int .i64 0, .int .u64 0], .int .i64 3]) (by simp [results, Tryd.results10, go_sem, *]) rfl ⟨rfl, (B6.setCell (by simp) _).setCell (by simp) _⟩
    · obtain rfl := hn rfl
      go_wp2_with fail
      refine (NG.out _).mono ?_; rintro e w5 ⟨rfl, hb5⟩
      have B5 := belowT B hb5
      have P5 := P.keep hb5; have P5a := P5.c0; have P5b := P5.c1; have P5c := P5.f0; have P5d := P5.f1
      have X5 := X.keep hb5
      go_wp2_with fail
      refine (TX.out _ ((B5.setCell gl _).setCell gl _)).mono ?_; rintro e w6 ⟨rfl, hb6⟩
      have B6 := belowT ((B5.setCell gl _).setCell gl _) hb6
      have X6 := ((X5.other gn _ _).other gn _ _).keep hb6; have X6a := X6.c0; have X6b := X6.c1; have X6c := X6.f0; have X6d := X6.f1
      have P6 := (P5.set _ _).keep hb6; have P6a := P6.c0; have P6b := P6.c1; have P6c := P6.f0; have P6d := P6.f1
      go_wp2_with fail
      exact bodyPost_ret (v := .tuple #[.agg #[.int .i64 (Wd.hi fin), .int .u64 (Wd.lo fin)], .int .i64 0]) (by simp [results, Tryd.results10, go_sem, *]) rfl ⟨rfl, (B6.setCell (by simp) _).setCell (by simp) _⟩
  go_region_with (first
      | (go_at_call 25; (refine (AD.out _).mono ?_); rintro e w5 ⟨rfl, hb5⟩; (first | have b5 := belowT b4 hb5 | have b5 := belowT b4.drew hb5 | have b5 := belowT (belowT b4 (below1 _ _)) hb5 | have b5 := belowT (belowT b4.drew (below1 _ _)) hb5 | have b5 := belowT (belowT b4 (below1 _ _)).drew hb5 | have b5 := belowT (belowT b4.drew (below1 _ _)).drew hb5); (first | (have P' := P.keep hb5; clear Pa Pb Pc Pd Pl; clear P; have P := P'; clear P'; have Pa := P.c0; have Pb := P.c1; have Pc := P.f0; have Pd := P.f1; have Pl := P.lt) | (have P := (own2 _ _ _ _).keep hb5; have Pa := P.c0; have Pb := P.c1; have Pc := P.f0; have Pd := P.f1; have Pl := P.lt) | (have P := (Own2.drew (own2 _ _ _ _)).keep hb5; have Pa := P.c0; have Pb := P.c1; have Pc := P.f0; have Pd := P.f1; have Pl := P.lt) | skip))
      | (go_at_call 35; have _t := hb3; clear _t; refine (V2.out _ ?_).mono ?_; (first | exact belowT B1 b3 | exact belowT B1 b3.drew | exact belowT B1 (belowT b3 (below1 _ _)) | exact belowT B1 (belowT b3.drew (below1 _ _)) | exact belowT B1 (belowT b3 (below1 _ _)).drew | exact belowT B1 (belowT b3.drew (below1 _ _)).drew); rintro e w4 ⟨rfl, hb4⟩; (first | have b4 := belowT b3 hb4 | have b4 := belowT b3.drew hb4 | have b4 := belowT (belowT b3 (below1 _ _)) hb4 | have b4 := belowT (belowT b3.drew (below1 _ _)) hb4 | have b4 := belowT (belowT b3 (below1 _ _)).drew hb4 | have b4 := belowT (belowT b3.drew (below1 _ _)).drew hb4); (first | (have P' := P.keep hb4; clear Pa Pb Pc Pd Pl; clear P; have P := P'; clear P'; have Pa := P.c0; have Pb := P.c1; have Pc := P.f0; have Pd := P.f1; have Pl := P.lt) | (have P := (own2 _ _ _ _).keep hb4; have Pa := P.c0; have Pb := P.c1; have Pc := P.f0; have Pd := P.f1; have Pl := P.lt) | (have P := (Own2.drew (own2 _ _ _ _)).keep hb4; have Pa := P.c0; have Pb := P.c1; have Pc := P.f0; have Pd := P.f1; have Pl := P.lt) | skip))
      | (go_at_call 34; (refine (PR.out _).mono ?_); rintro e w3 ⟨rfl, hb3⟩; (first | have b3 := belowT b2 hb3 | have b3 := belowT b2.drew hb3 | have b3 := belowT (belowT b2 (below1 _ _)) hb3 | have b3 := belowT (belowT b2.drew (below1 _ _)) hb3 | have b3 := belowT (belowT b2 (below1 _ _)).drew hb3 | have b3 := belowT (belowT b2.drew (below1 _ _)).drew hb3); (first | (have P' := P.keep hb3; clear Pa Pb Pc Pd Pl; clear P; have P := P'; clear P'; have Pa := P.c0; have Pb := P.c1; have Pc := P.f0; have Pd := P.f1; have Pl := P.lt) | (have P := (own2 _ _ _ _).keep hb3; have Pa := P.c0; have Pb := P.c1; have Pc := P.f0; have Pd := P.f1; have Pl := P.lt) | (have P := (Own2.drew (own2 _ _ _ _)).keep hb3; have Pa := P.c0; have Pb := P.c1; have Pc := P.f0; have Pd := P.f1; have Pl := P.lt) | skip))
      | (go_at_call 35; refine (V1.out _ ?_).mono ?_; (first | exact belowT B1 b1 | exact belowT B1 b1.drew | exact belowT B1 (belowT b1 (below1 _ _)) | exact belowT B1 (belowT b1.drew (below1 _ _)) | exact belowT B1 (belowT b1 (below1 _ _)).drew | exact belowT B1 (belowT b1.drew (below1 _ _)).drew); rintro e w2 ⟨rfl, hb2⟩; (first | have b2 := belowT b1 hb2 | have b2 := belowT b1.drew hb2 | have b2 := belowT (belowT b1 (below1 _ _)) hb2 | have b2 := belowT (belowT b1.drew (below1 _ _)) hb2 | have b2 := belowT (belowT b1 (below1 _ _)).drew hb2 | have b2 := belowT (belowT b1.drew (below1 _ _)).drew hb2); (first | (have P' := P.keep hb2; clear Pa Pb Pc Pd Pl; clear P; have P := P'; clear P'; have Pa := P.c0; have Pb := P.c1; have Pc := P.f0; have Pd := P.f1; have Pl := P.lt) | (have P := (own2 _ _ _ _).keep hb2; have Pa := P.c0; have Pb := P.c1; have Pc := P.f0; have Pd := P.f1; have Pl := P.lt) | (have P := (Own2.drew (own2 _ _ _ _)).keep hb2; have Pa := P.c0; have Pb := P.c1; have Pc := P.f0; have Pd := P.f1; have Pl := P.lt) | skip)))
  all_goals dsimp only [AtNormal]
  all_goals first
    | exact ⟨_, rfl, Own2.set (P) _ _, Own2.other (Own2.other (X1.keep b5) (by have := X1l; have := b2.size; have := b3.size; have := b4.size; have := b5.size; (try dsimp only); (try simp only [heap1]); omega) _ _) (by have := X1l; have := b2.size; have := b3.size; have := b4.size; have := b5.size; (try dsimp only); (try simp only [heap1]); omega) _ _, (by have := X1l; have := b2.size; have := b3.size; have := b4.size; have := b5.size; (try dsimp only); (try simp only [heap1]); omega), (by have := X1l; have := b2.size; have := b3.size; have := b4.size; have := b5.size; (try dsimp only); (try simp only [heap1]); omega), ((belowT B1 b5).setCell (by have := X1l; have := b2.size; have := b3.size; have := b4.size; have := b5.size; (try dsimp only); (try simp only [heap1]); omega) _).setCell (by have := X1l; have := b2.size; have := b3.size; have := b4.size; have := b5.size; (try dsimp only); (try simp only [heap1]); omega) _⟩
    | exact ⟨_, rfl, own2 _ _ _ _, X1.keep (belowT b5 (below1 _ _)), (by have := X1l; have := b2.size; have := b3.size; have := b4.size; have := b5.size; (try dsimp only); (try simp only [heap1]); omega), (by have := X1l; have := b2.size; have := b3.size; have := b4.size; have := b5.size; (try dsimp only); (try simp only [heap1]); omega), belowT B1 (belowT b5 (below1 _ _))⟩

end Go.Proofs.YtjnegoflnaeifaaDoor
