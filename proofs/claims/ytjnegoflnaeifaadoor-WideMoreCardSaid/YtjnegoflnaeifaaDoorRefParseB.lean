/- The document's Parse: the walk through the digits. -/
import Derived.Test.YtjnegoflnaeifaaDoorRefParse
namespace Go.Proofs.YtjnegoflnaeifaaDoor.Ref
open Go.RowKit Go.Proofs.YtjnegoflnaeifaaDoor

theorem ten37 (v k : Nat) (h : v < 10 ^ k) (hk : k ≤ 37) : v < 10000000000000000000000000000000000000 := by
  have : (10 : Nat) ^ k ≤ 10 ^ 37 := Nat.pow_le_pow_right (by decide) hk
  have e : (10 : Nat) ^ 37 = 10000000000000000000000000000000000000 := by decide
  omega

/-- the contracts of a round -/
structure Steps (v d : Nat) (y8 y2 y10 nv : Int) : Prop where
  s3 : ∀ w, Calls Tryd.prog 36 #[.agg #[.int .i64 (Wd.hi ((v : Int))), .int .u64 (Wd.lo ((v : Int)))], .int .i64 3] w fun e w' => e = .returned (.tuple #[.agg #[.int .i64 (Wd.hi y8), .int .u64 (Wd.lo y8)], .bool true]) ∧ Below w.heap.size w w'
  s1 : ∀ w, Calls Tryd.prog 36 #[.agg #[.int .i64 (Wd.hi ((v : Int))), .int .u64 (Wd.lo ((v : Int)))], .int .i64 1] w fun e w' => e = .returned (.tuple #[.agg #[.int .i64 (Wd.hi y2), .int .u64 (Wd.lo y2)], .bool true]) ∧ Below w.heap.size w w'
  a1 : ∀ w, Calls Tryd.prog 28 #[.agg #[.int .i64 (Wd.hi y8), .int .u64 (Wd.lo y8)], .agg #[.int .i64 (Wd.hi y2), .int .u64 (Wd.lo y2)]] w fun e w' => e = .returned (.agg #[.int .i64 (Wd.hi y10), .int .u64 (Wd.lo y10)]) ∧ Below w.heap.size w w'
  o : ∀ w, Calls Tryd.prog 29 #[.int .i64 d] w fun e w' => e = .returned (.agg #[.int .i64 (Wd.hi ((d : Int))), .int .u64 (Wd.lo ((d : Int)))]) ∧ Below w.heap.size w w'
  a2 : ∀ w, Calls Tryd.prog 28 #[.agg #[.int .i64 (Wd.hi y10), .int .u64 (Wd.lo y10)], .agg #[.int .i64 (Wd.hi ((d : Int))), .int .u64 (Wd.lo ((d : Int)))]] w fun e w' => e = .returned (.agg #[.int .i64 (Wd.hi nv), .int .u64 (Wd.lo nv)]) ∧ Below w.heap.size w w'

theorem steps_of (v d : Nat) (hv : v < 10000000000000000000000000000000000000) (hd : d ≤ 9) :
    ∃ y8 y2 y10 : Int, Steps v d y8 y2 y10 ((v * 10 + d : Nat) : Int) := by
  have e : (v : Int) * 8 + (v : Int) * 2 + (d : Int) = ((v * 10 + d : Nat) : Int) := by omega
  refine ⟨(v : Int) * 8, (v : Int) * 2, (v : Int) * 8 + (v : Int) * 2, fun w => shl3 v w (by omega) (by omega), fun w => shl1 v w (by omega) (by omega), fun w => Add_any _ _ w, fun w => Of_any d w (by unfold Wd.R6; omega), fun w => ?_⟩
  have h := Add_any ((v : Int) * 8 + (v : Int) * 2) (d : Int) w
  rw [e] at h
  exact h

set_option maxHeartbeats 8000000 in
set_option maxRecDepth 100000 in
theorem Parse_neg (s t : ByteArray) (w : World) (hs : 0 < s.size) (hne : s.toList.isEmpty = false) (h1 : s.extract 1 s.size = t) (h0 : ((s[0].toNat : Int) == 45) = true) (h2 : t.size < s.size)
    (ta : t.toList.isEmpty = false) (tc : decide (38 < (t.size : Int)) = false) (tz : (t.size : Int) ≤ 38)
    (hbad : ∀ (k : Nat) (h : k < t.size), ¬ (48 ≤ t[k].toNat ∧ t[k].toNat ≤ 57) → okay s.data.toList = false)
    (x : Int) (tl : List UInt8) (q : Bool) (hq : (tl == s.toList) = q) (ho : okay s.data.toList = q) (hx : q = true → Dec.num s.data.toList = x)
    (hv : ∀ v, Px t.data.toList t.size v → x = -(v : Int))
    (T : Hid (∀ w, Calls Tryd.prog 17 #[.agg #[.int .i64 (Wd.hi x), .int .u64 (Wd.lo x)]] w fun e w' => e = .returned (.string ⟨tl.toArray⟩) ∧ Below w.heap.size w w')) :
    Calls Tryd.prog 11 #[.string s] w (Ans s.data.toList w) := by
  have HB := Lib.hid hbad
  have HO := Lib.hid ho
  have HX := Lib.hid hx
  have HV := Lib.hid hv
  clear hbad ho hx hv
  have W0 := own2b w (.cells #[.int .i64 0, .int .u64 0] 24) (.int .i64 0) (.int .u64 0) 24
  have R0 := (own2 w (.int .i64 0) (.int .u64 0) 24).more (.cells #[.int .i64 0, .int .u64 0] 24)
  go_enter Tryd.func11, Tryd.ntmps11
  go_wp2_with fail
  go_loopw [32] (fun si wr => ∃ (k v : Nat), Px t.data.toList k v ∧ si = .int .i64 k ∧ Own2 wr (w.heap.size + 1) (.int .i64 (Wd.hi v)) (.int .u64 (Wd.lo v)) ∧ Own2 wr w.heap.size (.int .i64 0) (.int .u64 0) ∧ Below w.heap.size w wr) (fun si _ => ((t.size : Int) - intOf si).toNat)
  case atStart => exact ⟨0, 0, px_start _, rfl, W0, R0, below2 w _ _⟩
  case round =>
    obtain ⟨k, v, hP, rfl, O, R, B⟩ := hrel
    have Oa := O.c0; have Ob := O.c1; have Oc := O.f0; have Od := O.f1; have Ol := O.lt
    have Ra := R.c0; have Rb := R.c1; have Rc := R.f0; have Rd := R.f1; have Rl := R.lt
    have P := Lib.hid hP
    have kl := hP.le
    rw [← Lib.size_eq] at kl
    clear hP W0 R0
    by_cases hk : k < t.size
    · have k0 : (0 : Int) ≤ (k : Int) := by omega
      have k1 : (k : Int) < (t.size : Int) := by omega
      by_cases c0 : (t[k].toNat : Int) < 48
      · have Z := Lib.hid (HB.out k hk (by omega))
        go_wp2_with fail
        exact bodyPost_ret (v := .tuple #[.agg #[.int .i64 0, .int .u64 0], .int .i64 3]) (by simp [results, Tryd.results11, go_sem, *]) rfl (ans_bad Z.out ((B.setCell (by simp) _).setCell (by simp) _))
      · have c0' : decide ((t[k].toNat : Int) < 48) = false := decide_eq_false c0
        by_cases c1 : 57 < (t[k].toNat : Int)
        · have Z := Lib.hid (HB.out k hk (by omega))
          go_wp2_with fail
          exact bodyPost_ret (v := .tuple #[.agg #[.int .i64 0, .int .u64 0], .int .i64 3]) (by simp [results, Tryd.results11, go_sem, *]) rfl (ans_bad Z.out ((B.setCell (by simp) _).setCell (by simp) _))
        · have c1' : decide (57 < (t[k].toNat : Int)) = false := decide_eq_false c1
          obtain ⟨y8, y2, y10, st⟩ := steps_of v (t[k].toNat - 48) (ten37 v k P.out.small (by omega)) (by omega)
          have NX := Lib.hid (P.out.next (c := t[k]) (by rw [← Lib.size_eq]; exact hk) (by rw [Array.getElem?_toList]; exact Array.getElem?_eq_getElem _) (by omega) (by omega))
          obtain ⟨d, hd⟩ : ∃ d : Nat, t[k].toNat - 48 = d := ⟨_, rfl⟩
          rw [hd] at st NX
          have dw : IntKind.u8.wrap ((t[k].toNat : Int) - 48) = (d : Int) := by rw [IntKind.wrap_u8]; omega
          have d0 : (0 : Int) ≤ (d : Int) := by omega
          have d9 : (d : Int) ≤ 9 := by omega
          have dw2 : IntKind.i64.wrap (d : Int) = (d : Int) := by rw [IntKind.wrap_i64]; omega
          obtain ⟨nv, hnv⟩ : ∃ nv : Nat, v * 10 + d = nv := ⟨_, rfl⟩
          rw [hnv] at st NX
          have S3 := Lib.hid st.s3
          have S1 := Lib.hid st.s1
          have A1 := Lib.hid st.a1
          have OF := Lib.hid st.o
          have A2 := Lib.hid st.a2
          clear st hd hnv kl c0 c1 HB
          go_wp2_with fail
          refine (S3.out _).mono ?_; rintro e w1 ⟨rfl, hb1⟩
          have B1 := belowT (B) hb1
          have O1 := (O).keep hb1; have O1a := O1.c0; have O1b := O1.c1; have O1c := O1.f0; have O1d := O1.f1; have O1l := O1.lt
          have R1 := (R).keep hb1; have R1a := R1.c0; have R1b := R1.c1; have R1c := R1.f0; have R1d := R1.f1; have R1l := R1.lt
          go_wp2_with fail
          refine (S1.out _).mono ?_; rintro e w2 ⟨rfl, hb2⟩
          have B2 := belowT (belowT B1 (below1 _ _)) hb2
          have O2 := (O1.more _).keep hb2; have O2a := O2.c0; have O2b := O2.c1; have O2c := O2.f0; have O2d := O2.f1; have O2l := O2.lt
          have R2 := (R1.more _).keep hb2; have R2a := R2.c0; have R2b := R2.c1; have R2c := R2.f0; have R2d := R2.f1; have R2l := R2.lt
          have T2 := (own2 w1 _ _ _).keep hb2; have T2a := T2.c0; have T2b := T2.c1; have T2c := T2.f0; have T2d := T2.f1; have T2l := T2.lt
          go_wp2_with fail
          have U0 := (own2 w2 (.int .i64 (Wd.hi y2)) (.int .u64 (Wd.lo y2)) 24).drew
          have T0 := (T2.more (.cells #[.int .i64 (Wd.hi y2), .int .u64 (Wd.lo y2)] 24)).drew
          have gT : w.heap.size + 1 ≠ w1.heap.size := Nat.ne_of_lt O1l
          have gU : w.heap.size + 1 ≠ w2.heap.size := Nat.ne_of_lt O2l
          go_region_held3 (fun w' => w'.cell? ⟨w1.heap.size, 0, none⟩ = some (.int .i64 (Wd.hi y8)) ∧ w'.cell? ⟨w1.heap.size, 1, none⟩ = some (.int .u64 (Wd.lo y8)) ∧ w'.cell? ⟨w2.heap.size, 0, none⟩ = some (.int .i64 (Wd.hi y2)) ∧ w'.cell? ⟨w2.heap.size, 1, none⟩ = some (.int .u64 (Wd.lo y2)))
            (first
              | (go_split_ands; refine ⟨?_, ?_, ?_, ?_⟩ <;> first | exact keepc hb5 (by assumption) | exact keepc hb4 (by assumption) | exact keepc hb3 (by assumption))
              | (go_split_ands; refine ⟨?_, ?_, ?_, ?_⟩ <;> first | exact keeps gT (keeps gT (by assumption)) | exact keeps gU (keeps gU (by assumption)))
              | exact ⟨T0.c0, T0.c1, U0.c0, U0.c1⟩
              | go_keep)
            (first
              | (go_at_call 28; have _t := hb4; clear _t; (with_reducible refine (A2.out _).mono ?_); rintro e w5 ⟨rfl, hb5⟩; have B5 := belowT B4 hb5; have O5 := O4.keep hb5; have R5 := R4.keep hb5; have O5a := O5.c0; have O5b := O5.c1; have O5c := O5.f0; have O5d := O5.f1)
              | (go_at_call 29; have _t := hb3; clear _t; (with_reducible refine (OF.out _).mono ?_); rintro e w4 ⟨rfl, hb4⟩; have B4 := belowT B3 hb4; have O4 := O3.keep hb4; have R4 := R3.keep hb4)
              | (go_at_call 28; (with_reducible refine (A1.out _).mono ?_); rintro e w3 ⟨rfl, hb3⟩; have B3 := belowT (belowT B2 (below1 _ _)).drew hb3; have O3 := (O2.more _).drew.keep hb3; have R3 := (R2.more _).drew.keep hb3))
          all_goals
            go_wp2_with fail
            go_roundw
            case rel => exact ⟨k + 1, nv, NX.out, by go_num, O5.set _ _, (R5.other (by omega) _ _).other (by omega) _ _, (B5.setCell (by simp) _).setCell (by simp) _⟩
            case measure => simp [intOf]; omega
    · skip
      obtain rfl : k = t.size := by omega
      have NG : Hid (∀ w, Calls Tryd.prog 37 #[.agg #[.int .i64 (Wd.hi ((v : Int))), .int .u64 (Wd.lo ((v : Int)))]] w fun e w' => e = .returned (.agg #[.int .i64 (Wd.hi x), .int .u64 (Wd.lo x)]) ∧ Below w.heap.size w w') := by
        have h := Neg_any (v : Int)
        rw [← HV.out v P.out] at h
        exact Lib.hid h
      clear HB HV hk
      have gO : w.heap.size + 1 ≠ w.heap.size := by omega
      cases q
      · skip
        go_wp2_with fail
        refine (NG.out _).mono ?_; rintro e w6 ⟨rfl, hb6⟩
        have B6 := belowT (B) hb6
        have O6 := (O).keep hb6; have O6a := O6.c0; have O6b := O6.c1; have O6c := O6.f0; have O6d := O6.f1; have O6l := O6.lt
        have R6 := (R).keep hb6; have R6a := R6.c0; have R6b := R6.c1; have R6c := R6.f0; have R6d := R6.f1; have R6l := R6.lt
        go_wp2_with fail
        have B7 := (B6.setCell (p := ⟨w.heap.size + 1, 0, none⟩) (by simp) (.int .i64 (Wd.hi x))).setCell (p := ⟨w.heap.size + 1, 1, none⟩) (by simp) (.int .u64 (Wd.lo x))
        go_wp2_with fail
        refine (T.out _).mono ?_; rintro e w8 ⟨rfl, hb8⟩
        have B8 := belowT (B7) hb8
        have O8 := (O6.set _ _).keep hb8; have O8a := O8.c0; have O8b := O8.c1; have O8c := O8.f0; have O8d := O8.f1; have O8l := O8.lt
        have R8 := ((R6.other gO _ _).other gO _ _).keep hb8; have R8a := R8.c0; have R8b := R8.c1; have R8c := R8.f0; have R8d := R8.f1; have R8l := R8.lt
        go_wp2_with fail
        exact bodyPost_ret (v := .tuple #[.agg #[.int .i64 0, .int .u64 0], .int .i64 3]) (by simp [results, Tryd.results11, go_sem, *]) rfl (ans_bad HO.out ((B8.setCell (by simp) _).setCell (by simp) _))
      · skip
        go_wp2_with fail
        refine (NG.out _).mono ?_; rintro e w6 ⟨rfl, hb6⟩
        have B6 := belowT (B) hb6
        have O6 := (O).keep hb6; have O6a := O6.c0; have O6b := O6.c1; have O6c := O6.f0; have O6d := O6.f1; have O6l := O6.lt
        have R6 := (R).keep hb6; have R6a := R6.c0; have R6b := R6.c1; have R6c := R6.f0; have R6d := R6.f1; have R6l := R6.lt
        go_wp2_with fail
        have B7 := (B6.setCell (p := ⟨w.heap.size + 1, 0, none⟩) (by simp) (.int .i64 (Wd.hi x))).setCell (p := ⟨w.heap.size + 1, 1, none⟩) (by simp) (.int .u64 (Wd.lo x))
        go_wp2_with fail
        refine (T.out _).mono ?_; rintro e w8 ⟨rfl, hb8⟩
        have B8 := belowT (B7) hb8
        have O8 := (O6.set _ _).keep hb8; have O8a := O8.c0; have O8b := O8.c1; have O8c := O8.f0; have O8d := O8.f1; have O8l := O8.lt
        have R8 := ((R6.other gO _ _).other gO _ _).keep hb8; have R8a := R8.c0; have R8b := R8.c1; have R8c := R8.f0; have R8d := R8.f1; have R8l := R8.lt
        go_wp2_with fail
        exact bodyPost_ret (v := .tuple #[.agg #[.int .i64 (Wd.hi x), .int .u64 (Wd.lo x)], .int .i64 0]) (by simp [results, Tryd.results11, go_sem, *]) rfl (ans_good HO.out (HX.out (by trivial)) ((B8.setCell (by simp) _).setCell (by simp) _))


set_option maxHeartbeats 8000000 in
set_option maxRecDepth 100000 in
theorem Parse_plain (s : ByteArray) (w : World) (hs : 0 < s.size) (hne : s.toList.isEmpty = false) (h0 : ((s[0].toNat : Int) == 45) = false)
    (tc : decide (38 < (s.size : Int)) = false) (tz : (s.size : Int) ≤ 38)
    (hbad : ∀ (k : Nat) (h : k < s.size), ¬ (48 ≤ s[k].toNat ∧ s[k].toNat ≤ 57) → okay s.data.toList = false)
    (x : Int) (tl : List UInt8) (q : Bool) (hq : (tl == s.toList) = q) (ho : okay s.data.toList = q) (hx : q = true → Dec.num s.data.toList = x)
    (hv : ∀ v, Px s.data.toList s.size v → x = (v : Int))
    (T : Hid (∀ w, Calls Tryd.prog 17 #[.agg #[.int .i64 (Wd.hi x), .int .u64 (Wd.lo x)]] w fun e w' => e = .returned (.string ⟨tl.toArray⟩) ∧ Below w.heap.size w w')) :
    Calls Tryd.prog 11 #[.string s] w (Ans s.data.toList w) := by
  have HB := Lib.hid hbad
  have HO := Lib.hid ho
  have HX := Lib.hid hx
  have HV := Lib.hid hv
  clear hbad ho hx hv
  have W0 := own2b w (.cells #[.int .i64 0, .int .u64 0] 24) (.int .i64 0) (.int .u64 0) 24
  have R0 := (own2 w (.int .i64 0) (.int .u64 0) 24).more (.cells #[.int .i64 0, .int .u64 0] 24)
  go_enter Tryd.func11, Tryd.ntmps11
  go_wp2_with fail
  go_loopw [32] (fun si wr => ∃ (k v : Nat), Px s.data.toList k v ∧ si = .int .i64 k ∧ Own2 wr (w.heap.size + 1) (.int .i64 (Wd.hi v)) (.int .u64 (Wd.lo v)) ∧ Own2 wr w.heap.size (.int .i64 0) (.int .u64 0) ∧ Below w.heap.size w wr) (fun si _ => ((s.size : Int) - intOf si).toNat)
  case atStart => exact ⟨0, 0, px_start _, rfl, W0, R0, below2 w _ _⟩
  case round =>
    obtain ⟨k, v, hP, rfl, O, R, B⟩ := hrel
    have Oa := O.c0; have Ob := O.c1; have Oc := O.f0; have Od := O.f1; have Ol := O.lt
    have Ra := R.c0; have Rb := R.c1; have Rc := R.f0; have Rd := R.f1; have Rl := R.lt
    have P := Lib.hid hP
    have kl := hP.le
    rw [← Lib.size_eq] at kl
    clear hP W0 R0
    by_cases hk : k < s.size
    · have k0 : (0 : Int) ≤ (k : Int) := by omega
      have k1 : (k : Int) < (s.size : Int) := by omega
      by_cases c0 : (s[k].toNat : Int) < 48
      · have Z := Lib.hid (HB.out k hk (by omega))
        go_wp2_with fail
        exact bodyPost_ret (v := .tuple #[.agg #[.int .i64 0, .int .u64 0], .int .i64 3]) (by simp [results, Tryd.results11, go_sem, *]) rfl (ans_bad Z.out ((B.setCell (by simp) _).setCell (by simp) _))
      · have c0' : decide ((s[k].toNat : Int) < 48) = false := decide_eq_false c0
        by_cases c1 : 57 < (s[k].toNat : Int)
        · have Z := Lib.hid (HB.out k hk (by omega))
          go_wp2_with fail
          exact bodyPost_ret (v := .tuple #[.agg #[.int .i64 0, .int .u64 0], .int .i64 3]) (by simp [results, Tryd.results11, go_sem, *]) rfl (ans_bad Z.out ((B.setCell (by simp) _).setCell (by simp) _))
        · have c1' : decide (57 < (s[k].toNat : Int)) = false := decide_eq_false c1
          obtain ⟨y8, y2, y10, st⟩ := steps_of v (s[k].toNat - 48) (ten37 v k P.out.small (by omega)) (by omega)
          have NX := Lib.hid (P.out.next (c := s[k]) (by rw [← Lib.size_eq]; exact hk) (by rw [Array.getElem?_toList]; exact Array.getElem?_eq_getElem _) (by omega) (by omega))
          obtain ⟨d, hd⟩ : ∃ d : Nat, s[k].toNat - 48 = d := ⟨_, rfl⟩
          rw [hd] at st NX
          have dw : IntKind.u8.wrap ((s[k].toNat : Int) - 48) = (d : Int) := by rw [IntKind.wrap_u8]; omega
          have d0 : (0 : Int) ≤ (d : Int) := by omega
          have d9 : (d : Int) ≤ 9 := by omega
          have dw2 : IntKind.i64.wrap (d : Int) = (d : Int) := by rw [IntKind.wrap_i64]; omega
          obtain ⟨nv, hnv⟩ : ∃ nv : Nat, v * 10 + d = nv := ⟨_, rfl⟩
          rw [hnv] at st NX
          have S3 := Lib.hid st.s3
          have S1 := Lib.hid st.s1
          have A1 := Lib.hid st.a1
          have OF := Lib.hid st.o
          have A2 := Lib.hid st.a2
          clear st hd hnv kl c0 c1 HB
          go_wp2_with fail
          refine (S3.out _).mono ?_; rintro e w1 ⟨rfl, hb1⟩
          have B1 := belowT (B) hb1
          have O1 := (O).keep hb1; have O1a := O1.c0; have O1b := O1.c1; have O1c := O1.f0; have O1d := O1.f1; have O1l := O1.lt
          have R1 := (R).keep hb1; have R1a := R1.c0; have R1b := R1.c1; have R1c := R1.f0; have R1d := R1.f1; have R1l := R1.lt
          go_wp2_with fail
          refine (S1.out _).mono ?_; rintro e w2 ⟨rfl, hb2⟩
          have B2 := belowT (belowT B1 (below1 _ _)) hb2
          have O2 := (O1.more _).keep hb2; have O2a := O2.c0; have O2b := O2.c1; have O2c := O2.f0; have O2d := O2.f1; have O2l := O2.lt
          have R2 := (R1.more _).keep hb2; have R2a := R2.c0; have R2b := R2.c1; have R2c := R2.f0; have R2d := R2.f1; have R2l := R2.lt
          have T2 := (own2 w1 _ _ _).keep hb2; have T2a := T2.c0; have T2b := T2.c1; have T2c := T2.f0; have T2d := T2.f1; have T2l := T2.lt
          go_wp2_with fail
          have U0 := (own2 w2 (.int .i64 (Wd.hi y2)) (.int .u64 (Wd.lo y2)) 24).drew
          have T0 := (T2.more (.cells #[.int .i64 (Wd.hi y2), .int .u64 (Wd.lo y2)] 24)).drew
          have gT : w.heap.size + 1 ≠ w1.heap.size := Nat.ne_of_lt O1l
          have gU : w.heap.size + 1 ≠ w2.heap.size := Nat.ne_of_lt O2l
          go_region_held3 (fun w' => w'.cell? ⟨w1.heap.size, 0, none⟩ = some (.int .i64 (Wd.hi y8)) ∧ w'.cell? ⟨w1.heap.size, 1, none⟩ = some (.int .u64 (Wd.lo y8)) ∧ w'.cell? ⟨w2.heap.size, 0, none⟩ = some (.int .i64 (Wd.hi y2)) ∧ w'.cell? ⟨w2.heap.size, 1, none⟩ = some (.int .u64 (Wd.lo y2)))
            (first
              | (go_split_ands; refine ⟨?_, ?_, ?_, ?_⟩ <;> first | exact keepc hb5 (by assumption) | exact keepc hb4 (by assumption) | exact keepc hb3 (by assumption))
              | (go_split_ands; refine ⟨?_, ?_, ?_, ?_⟩ <;> first | exact keeps gT (keeps gT (by assumption)) | exact keeps gU (keeps gU (by assumption)))
              | exact ⟨T0.c0, T0.c1, U0.c0, U0.c1⟩
              | go_keep)
            (first
              | (go_at_call 28; have _t := hb4; clear _t; (with_reducible refine (A2.out _).mono ?_); rintro e w5 ⟨rfl, hb5⟩; have B5 := belowT B4 hb5; have O5 := O4.keep hb5; have R5 := R4.keep hb5; have O5a := O5.c0; have O5b := O5.c1; have O5c := O5.f0; have O5d := O5.f1)
              | (go_at_call 29; have _t := hb3; clear _t; (with_reducible refine (OF.out _).mono ?_); rintro e w4 ⟨rfl, hb4⟩; have B4 := belowT B3 hb4; have O4 := O3.keep hb4; have R4 := R3.keep hb4)
              | (go_at_call 28; (with_reducible refine (A1.out _).mono ?_); rintro e w3 ⟨rfl, hb3⟩; have B3 := belowT (belowT B2 (below1 _ _)).drew hb3; have O3 := (O2.more _).drew.keep hb3; have R3 := (R2.more _).drew.keep hb3))
          all_goals
            go_wp2_with fail
            go_roundw
            case rel => exact ⟨k + 1, nv, NX.out, by go_num, O5.set _ _, (R5.other (by omega) _ _).other (by omega) _ _, (B5.setCell (by simp) _).setCell (by simp) _⟩
            case measure => simp [intOf]; omega
    · skip
      obtain rfl : k = s.size := by omega
      have TV : Hid (∀ w, Calls Tryd.prog 17 #[.agg #[.int .i64 (Wd.hi ((v : Int))), .int .u64 (Wd.lo ((v : Int)))]] w fun e w' => e = .returned (.string ⟨tl.toArray⟩) ∧ Below w.heap.size w w') := by
        have h := T.out
        rw [HV.out v P.out] at h
        exact Lib.hid h
      have XV := Lib.hid (HV.out v P.out)
      clear HB HV hk
      cases q
      · skip
        go_wp2_with fail
        refine (TV.out _).mono ?_; rintro e w8 ⟨rfl, hb8⟩
        have B8 := belowT (B) hb8
        have O8 := (O).keep hb8; have O8a := O8.c0; have O8b := O8.c1; have O8c := O8.f0; have O8d := O8.f1; have O8l := O8.lt
        have R8 := (R).keep hb8; have R8a := R8.c0; have R8b := R8.c1; have R8c := R8.f0; have R8d := R8.f1; have R8l := R8.lt
        go_wp2_with fail
        exact bodyPost_ret (v := .tuple #[.agg #[.int .i64 0, .int .u64 0], .int .i64 3]) (by simp [results, Tryd.results11, go_sem, *]) rfl (ans_bad HO.out ((B8.setCell (by simp) _).setCell (by simp) _))
      · skip
        go_wp2_with fail
        refine (TV.out _).mono ?_; rintro e w8 ⟨rfl, hb8⟩
        have B8 := belowT (B) hb8
        have O8 := (O).keep hb8; have O8a := O8.c0; have O8b := O8.c1; have O8c := O8.f0; have O8d := O8.f1; have O8l := O8.lt
        have R8 := (R).keep hb8; have R8a := R8.c0; have R8b := R8.c1; have R8c := R8.f0; have R8d := R8.f1; have R8l := R8.lt
        go_wp2_with fail
        exact bodyPost_ret (v := .tuple #[.agg #[.int .i64 (Wd.hi ((v : Int))), .int .u64 (Wd.lo ((v : Int)))], .int .i64 0]) (by simp [results, Tryd.results11, go_sem, *]) rfl (ans_good HO.out ((HX.out (by trivial)).trans XV.out) ((B8.setCell (by simp) _).setCell (by simp) _))


end Go.Proofs.YtjnegoflnaeifaaDoor.Ref
