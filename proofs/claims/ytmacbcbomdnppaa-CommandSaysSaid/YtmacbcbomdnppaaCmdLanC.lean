/- The landed Read for layer 34. -/
import Derived.Test.YtmacbcbomdnppaaCmdLanB
import Derived.Test.YtmacbcbomdnppaaCmdRefC
import Derived.Test.YtmacbcbomdnppaaLanCrcF
import Derived.Test.YtmacbcbomdnppaaSp
import Derived.BigQuiet
namespace Go.Proofs.Ytmacbcbomdnppaa
open Go.RowKit

namespace Lan34
set_option maxRecDepth 100000 in
theorem Read_short (ba : Option Addr) (n cap : Nat) (w : World) (_h : ((n : Int) == 5) = false) (_h' : ((n : Int) != 5) = true) (_hn : (n : Int) ≤ 9223372036854775807) :
    Calls Try.prog 9 #[.slice ba n cap] w fun e w' => e = .returned (.tuple #[cv0, .int .i64 2]) ∧ Below w.heap.size w w' := by
  have B1 := below1 w (.cells #[.int .i64 0, .int .i64 0] 23)
  go_enter Try.func9, Try.ntmps9
  go_wp2
  exact bodyPost_ret (v := .tuple #[cv0, .int .i64 2]) (by simp [cv0, results, Try.results9, go_sem]) rfl ⟨rfl, B1⟩

set_option maxRecDepth 100000 in
theorem Read_form {w : World} {b o cap : Nat} (x0 : Nat) (q : w.cell? ⟨b, o, none⟩ = some (.int .u8 x0)) (_h0 : ((x0 : Int) == 195) = false) (h0' : ((x0 : Int) != 195) = true) :
    Calls Try.prog 9 #[.slice (some ⟨b, o, none⟩) 5 cap] w fun e w' => e = .returned (.tuple #[cv0, .int .i64 3]) ∧ Below w.heap.size w w' := by
  have B1 := below1 w (.cells #[.int .i64 0, .int .i64 0] 23)
  have S1 := (Sp.none w).more [.int .i64 0, .int .i64 0] 23
  have q1 := keepc B1 q
  have c0 := (S1).at 0 rfl 0 rfl; have f0 := (S1).free 0 rfl 0 rfl
  have c1 := (S1).at 0 rfl 1 rfl; have f1 := (S1).free 0 rfl 1 rfl
  have HB := Lib.hid B1
  clear S1 q B1
  go_enter Try.func9, Try.ntmps9
  go_wp2
  exact bodyPost_ret (v := .tuple #[cv0, .int .i64 3]) (by simp [cv0, results, Try.results9, go_sem]) rfl ⟨rfl, HB.out⟩

/-- The operations of a drawn region, as the translation has them. -/
def lread7 : Array Oper := #[
  { dst := some 21, op := .move (.tmp 0), type := 24, pos := "command.go:60", after := #[], guard := none },
  { dst := some 22, op := .indexAddr 24 (.tmp 21) (.const (.int .i64 1)), type := 0, pos := "command.go:60", after := #[{ on := 0, ground := .data }], guard := none },
  { dst := some 23, op := .load 5 (.tmp 22), type := 5, pos := "command.go:60", after := #[{ on := 1, ground := .data }], guard := none },
  { dst := some 24, op := .convert 5 3 (.tmp 23), type := 3, pos := "command.go:60", after := #[{ on := 2, ground := .data }], guard := none },
  { dst := some 25, op := .move (.tmp 0), type := 24, pos := "command.go:60", after := #[], guard := none },
  { dst := some 26, op := .indexAddr 24 (.tmp 25) (.const (.int .i64 2)), type := 0, pos := "command.go:60", after := #[{ on := 4, ground := .data }], guard := none },
  { dst := some 27, op := .load 5 (.tmp 26), type := 5, pos := "command.go:60", after := #[{ on := 5, ground := .data }], guard := none },
  { dst := some 28, op := .convert 5 3 (.tmp 27), type := 3, pos := "command.go:60", after := #[{ on := 6, ground := .data }], guard := none },
  { dst := some 29, op := .build 23 #[(0, .tmp 24), (1, .tmp 28)], type := 23, pos := "command.go:60", after := #[{ on := 3, ground := .data }, { on := 7, ground := .data }], guard := none },
  { dst := some 4, op := .alloc 23, type := 0, pos := "command.go:60", after := #[], guard := none },
  { dst := none, op := .store 23 (.tmp 4) (.tmp 29), type := 0, pos := "command.go:60", after := #[{ on := 9, ground := .data }, { on := 8, ground := .data }, { on := 0, ground := .phase }, { on := 1, ground := .phase }, { on := 2, ground := .phase }, { on := 3, ground := .phase }, { on := 4, ground := .phase }, { on := 5, ground := .phase }, { on := 6, ground := .phase }, { on := 7, ground := .phase }, { on := 8, ground := .phase }, { on := 9, ground := .phase }], guard := none }]
theorem lread7_plain : Region.noSelect lread7 = true := by kernel_rfl

set_option maxHeartbeats 4000000 in
set_option maxRecDepth 100000 in
theorem read_core {w : World} {b o cap : Nat} {l : List UInt8} (L : Lies w b o l) (h : l.length = 5) (hc : l.length ≤ cap) (hm : cap ≤ maxLen)
    (x0 x1 x2 : Nat) (ft good : Bool) (r : Value) (e0 : (l.getD 0 0).toNat = x0) (e1 : (l.getD 1 0).toNat = x1) (e2 : (l.getD 2 0).toNat = x2) (_h0 : ((x0 : Int) == 195) = true) (h0' : ((x0 : Int) != 195) = false)
    (hft : fitsB l = ft) (hgood : rightC ⟨x1, x2⟩ = good) (h1 : (x1 : Int) ≤ 255) (h2 : (x2 : Int) ≤ 255)
    (hB : ft = false → r = .tuple #[cv0, .int .i64 5]) (hC : ft = true → good = false → r = .tuple #[cv0, .int .i64 3]) (hD : ft = true → good = true → r = .tuple #[cv ⟨x1, x2⟩, .int .i64 0]) :
    Calls Try.prog 9 #[.slice (some ⟨b, o, none⟩) 5 cap] w fun e w' => e = .returned r ∧ Below w.heap.size w w' := by
  have RB := Lib.hid hB
  have RC := Lib.hid hC
  have RD := Lib.hid hD
  clear hB hC hD
  have B1 := Lib.hid (below1 w (.cells #[.int .i64 0, .int .i64 0] 23))
  have S1 := Lib.hid ((Sp.none w).more [.int .i64 0, .int .i64 0] 23)
  have L1 := L.keep B1.out
  have C1 : Came (w.alloc (.cells #[.int .i64 0, .int .i64 0] 23)) (some ⟨b, o, none⟩) cap l := ⟨hc, hm, fun h => (by cases h), fun _ => ⟨b, o, rfl, L1⟩⟩
  have FT := Own6.Fits_came C1 (by omega)
  rw [hft, h] at FT
  have FT : Hid (Calls Try.prog 20 #[.slice (some ⟨b, o, none⟩) 5 cap] (w.alloc (.cells #[.int .i64 0, .int .i64 0] 23)) fun e w' => e = .returned (.bool ft) ∧ Below (w.alloc (.cells #[.int .i64 0, .int .i64 0] 23)).heap.size (w.alloc (.cells #[.int .i64 0, .int .i64 0] 23)) w') := Lib.hid FT
  have q0 := L1 0 (by omega)
  have q1 := L1 1 (by omega)
  have q2 := L1 2 (by omega)
  rw [e0, Nat.add_zero] at q0
  rw [e1] at q1
  rw [e2] at q2
  have RR := Lib.hid fun w => Right_any ⟨x1, x2⟩ w
  rw [hgood] at RR
  simp only [cv] at RR
  clear L L1 C1 h hc hm e0 e1 e2 hft hgood
  go_enter Try.func9, Try.ntmps9
  go_wp2_with fail
  refine FT.out.mono ?_; rintro e W0 ⟨rfl, hbf⟩
  have B1 := Lib.hid (belowT B1.out hbf)
  have S1 := Lib.hid (S1.out.keep hbf)
  replace q0 := keepc hbf q0
  replace q1 := keepc hbf q1
  replace q2 := keepc hbf q2
  clear hbf FT
  cases ft
  · have hr := Lib.hid (RB.out (by trivial))
    have c0 := (S1.out).at 0 rfl 0 rfl; have f0 := (S1.out).free 0 rfl 0 rfl
    have c1 := (S1.out).at 0 rfl 1 rfl; have f1 := (S1.out).free 0 rfl 1 rfl
    clear S1 RR RB RC RD q0 q1 q2
    go_wp2
    exact bodyPost_ret (v := .tuple #[cv0, .int .i64 5]) (by simp [cv0, results, Try.results9, go_sem, c0, c1]) rfl ⟨by rw [hr.out], below_set2 B1.out _ _⟩
  · go_upto_region 7 with fail
    have r1 : ∀ w', Below W0.heap.size W0 w' → w'.cell? ⟨b, o + 1, none⟩ = some (.int .u8 x1) := fun w' h => keepc h q1
    have r2 : ∀ w', Below W0.heap.size W0 w' → w'.cell? ⟨b, o + 2, none⟩ = some (.int .u8 x2) := fun w' h => keepc h q2
    have i1 : IntKind.i64.wrap (x1 : Int) = x1 := by rw [IntKind.wrap_i64]; omega
    have i2 : IntKind.i64.wrap (x2 : Int) = x2 := by rw [IntKind.wrap_i64]; omega
    go_cut [4] from 4 to 35 (fun us wx => ∃ g, us = .pointer (some ⟨g, 0, none⟩) ∧ Below W0.heap.size W0 wx ∧ OwnL wx g [.int .i64 x1, .int .i64 x2])
    case first =>
      change (Code.region 7 lread7 true).wp Try.prog _ _ _
      refine wp_region_noPanic ?_
      refine wp_region_held_drew (S := fun w' => Below W0.heap.size W0 w') (by kernel_rfl) ((Below.refl _ _).drew) (fun hHeld => ?_)
      refine wpAnyH_take (i := 0) (oi := ({ dst := some 21, op := .move (.tmp 0), type := 24, pos := "command.go:60", after := #[], guard := none } : Oper)) (v := ?vv1_1_) rfl lread7_plain (by as_aux_lemma => kernel_rfl) (by as_aux_lemma => kernel_rfl) (fun _ _ _ h => h) (Or.inl ⟨by rfl, ?yv1_1_⟩) (by assumption) ?rv1_1_
      case yv1_1_ => (intro w hSw; (try dsimp only at hSw); go_simp; try with_reducible rfl)
      try simp only [Act.put, List.setIfInBounds_toArray, List.set_cons_zero, List.set_cons_succ]
      refine wpAnyH_take (i := 1) (oi := ({ dst := some 22, op := .indexAddr 24 (.tmp 21) (.const (.int .i64 1)), type := 0, pos := "command.go:60", after := #[{ on := 0, ground := .data }], guard := none } : Oper)) (v := ?vv1_2_) rfl lread7_plain (by as_aux_lemma => kernel_rfl) (by as_aux_lemma => kernel_rfl) (fun _ _ _ h => h) (Or.inl ⟨by rfl, ?yv1_2_⟩) (by assumption) ?rv1_2_
      case yv1_2_ => (intro w hSw; (try dsimp only at hSw); go_simp; try with_reducible rfl)
      try simp only [Act.put, List.setIfInBounds_toArray, List.set_cons_zero, List.set_cons_succ]
      refine wpAnyH_take (i := 2) (oi := ({ dst := some 23, op := .load 5 (.tmp 22), type := 5, pos := "command.go:60", after := #[{ on := 1, ground := .data }], guard := none } : Oper)) (v := ?vv1_3_) rfl lread7_plain (by as_aux_lemma => kernel_rfl) (by as_aux_lemma => kernel_rfl) (fun _ _ _ h => h) (Or.inl ⟨by rfl, ?yv1_3_⟩) (by assumption) ?rv1_3_
      case yv1_3_ => (intro w hSw; (try dsimp only at hSw); go_simp; try with_reducible rfl)
      try simp only [Act.put, List.setIfInBounds_toArray, List.set_cons_zero, List.set_cons_succ]
      refine wpAnyH_take (i := 3) (oi := ({ dst := some 24, op := .convert 5 3 (.tmp 23), type := 3, pos := "command.go:60", after := #[{ on := 2, ground := .data }], guard := none } : Oper)) (v := ?vv1_4_) rfl lread7_plain (by as_aux_lemma => kernel_rfl) (by as_aux_lemma => kernel_rfl) (fun _ _ _ h => h) (Or.inl ⟨by rfl, ?yv1_4_⟩) (by assumption) ?rv1_4_
      case yv1_4_ => (intro w hSw; (try dsimp only at hSw); go_simp; try with_reducible rfl)
      try simp only [Act.put, List.setIfInBounds_toArray, List.set_cons_zero, List.set_cons_succ]
      refine wpAnyH_take (i := 4) (oi := ({ dst := some 25, op := .move (.tmp 0), type := 24, pos := "command.go:60", after := #[], guard := none } : Oper)) (v := ?vv1_5_) rfl lread7_plain (by as_aux_lemma => kernel_rfl) (by as_aux_lemma => kernel_rfl) (fun _ _ _ h => h) (Or.inl ⟨by rfl, ?yv1_5_⟩) (by assumption) ?rv1_5_
      case yv1_5_ => (intro w hSw; (try dsimp only at hSw); go_simp; try with_reducible rfl)
      try simp only [Act.put, List.setIfInBounds_toArray, List.set_cons_zero, List.set_cons_succ]
      refine wpAnyH_take (i := 5) (oi := ({ dst := some 26, op := .indexAddr 24 (.tmp 25) (.const (.int .i64 2)), type := 0, pos := "command.go:60", after := #[{ on := 4, ground := .data }], guard := none } : Oper)) (v := ?vv1_6_) rfl lread7_plain (by as_aux_lemma => kernel_rfl) (by as_aux_lemma => kernel_rfl) (fun _ _ _ h => h) (Or.inl ⟨by rfl, ?yv1_6_⟩) (by assumption) ?rv1_6_
      case yv1_6_ => (intro w hSw; (try dsimp only at hSw); go_simp; try with_reducible rfl)
      try simp only [Act.put, List.setIfInBounds_toArray, List.set_cons_zero, List.set_cons_succ]
      refine wpAnyH_take (i := 6) (oi := ({ dst := some 27, op := .load 5 (.tmp 26), type := 5, pos := "command.go:60", after := #[{ on := 5, ground := .data }], guard := none } : Oper)) (v := ?vv1_7_) rfl lread7_plain (by as_aux_lemma => kernel_rfl) (by as_aux_lemma => kernel_rfl) (fun _ _ _ h => h) (Or.inl ⟨by rfl, ?yv1_7_⟩) (by assumption) ?rv1_7_
      case yv1_7_ => (intro w hSw; (try dsimp only at hSw); go_simp; try with_reducible rfl)
      try simp only [Act.put, List.setIfInBounds_toArray, List.set_cons_zero, List.set_cons_succ]
      refine wpAnyH_take (i := 7) (oi := ({ dst := some 28, op := .convert 5 3 (.tmp 27), type := 3, pos := "command.go:60", after := #[{ on := 6, ground := .data }], guard := none } : Oper)) (v := ?vv1_8_) rfl lread7_plain (by as_aux_lemma => kernel_rfl) (by as_aux_lemma => kernel_rfl) (fun _ _ _ h => h) (Or.inl ⟨by rfl, ?yv1_8_⟩) (by assumption) ?rv1_8_
      case yv1_8_ => (intro w hSw; (try dsimp only at hSw); go_simp; try with_reducible rfl)
      try simp only [Act.put, List.setIfInBounds_toArray, List.set_cons_zero, List.set_cons_succ]
      refine wpAnyH_take (i := 8) (oi := ({ dst := some 29, op := .build 23 #[(0, .tmp 24), (1, .tmp 28)], type := 23, pos := "command.go:60", after := #[{ on := 3, ground := .data }, { on := 7, ground := .data }], guard := none } : Oper)) (v := ?vv1_9_) rfl lread7_plain (by as_aux_lemma => kernel_rfl) (by as_aux_lemma => kernel_rfl) (fun _ _ _ h => h) (Or.inl ⟨by rfl, ?yv1_9_⟩) (by assumption) ?rv1_9_
      case yv1_9_ => (intro w hSw; (try dsimp only at hSw); go_simp; try with_reducible rfl)
      try simp only [Act.put, List.setIfInBounds_toArray, List.set_cons_zero, List.set_cons_succ]
      refine wpAnyH_ready (rs := [9]) (by as_aux_lemma => kernel_rfl) (by simp) ?_
      refine AllReadyH.cons (o := ({ dst := some 4, op := .alloc 23, type := 0, pos := "command.go:60", after := #[], guard := none } : Oper)) rfl (fun KK hK => ?_) AllReadyH.nil
      rw [if_pos (by rfl)]
      go_simp
      refine hK.out _ _ ?_ (fun _hHeldA => ?_)
      · first | exact below1 W0 (.cells #[.int .i64 0, .int .i64 0] 23) | exact (below1 W0 (.cells #[.int .i64 0, .int .i64 0] 23)).drew
      clear hK KK
      try simp only [Act.put, List.setIfInBounds_toArray, List.set_cons_zero, List.set_cons_succ]
      refine wpAnyH_ready (rs := [10]) (by as_aux_lemma => kernel_rfl) (by simp) ?_
      refine AllReadyH.cons (o := ({ dst := none, op := .store 23 (.tmp 4) (.tmp 29), type := 0, pos := "command.go:60", after := #[{ on := 9, ground := .data }, { on := 8, ground := .data }, { on := 0, ground := .phase }, { on := 1, ground := .phase }, { on := 2, ground := .phase }, { on := 3, ground := .phase }, { on := 4, ground := .phase }, { on := 5, ground := .phase }, { on := 6, ground := .phase }, { on := 7, ground := .phase }, { on := 8, ground := .phase }, { on := 9, ground := .phase }], guard := none } : Oper)) rfl (fun KK hK => ?_) AllReadyH.nil
      rw [if_pos (by rfl)]
      have p0 := ((ownl W0 [.int .i64 0, .int .i64 0] 23).drew).1.at 0 rfl
      have q0 := ((ownl W0 [.int .i64 0, .int .i64 0] 23).drew).2 0 (by simp)
      have p1 := ((ownl W0 [.int .i64 0, .int .i64 0] 23).drew).1.at 1 rfl
      have q1 := ((ownl W0 [.int .i64 0, .int .i64 0] 23).drew).2 1 (by simp)
      go_simp
      refine hK.out _ _ ?_ (fun _hHeldS => ?_)
      · exact (below1 W0 (.cells #[.int .i64 x1, .int .i64 x2] 23)).drew
      clear hK KK
      try simp only [Act.put, List.setIfInBounds_toArray, List.set_cons_zero, List.set_cons_succ]
      refine wpAnyH_done (by as_aux_lemma => kernel_rfl) ?_ _
      refine NoPanic.normal ?_
      go_wp2_with fail
      go_meet
      exact ⟨_, rfl, (below1 W0 (.cells #[.int .i64 x1, .int .i64 x2] 23)).drew, ownl W0 [.int .i64 x1, .int .i64 x2] 23⟩
    case rest =>
      rename World => wx
      obtain ⟨gb, rfl, hbx, ho⟩ := hcut
      have HBX := Lib.hid (belowT B1.out hbx)
      have S3 := Lib.hid (S1.out.keep hbx)
      have p0 := ho.1.at 0 rfl
      have p1 := ho.1.at 1 rfl
      have HO := Lib.hid ho
      clear r1 r2 q0 q1 q2 hbx ho S1 B1 RB
      go_wp2_with fail
      refine (RR.out _).mono ?_; rintro e w4 ⟨rfl, hb4⟩
      have HB4 := Lib.hid (belowT HBX.out hb4)
      have T4 := S3.out.keep hb4
      have O4 := HO.out.keep hb4
      have m0 := O4.1.at 0 rfl
      have m1 := O4.1.at 1 rfl
      have c0 := (T4).at 0 rfl 0 rfl; have f0 := (T4).free 0 rfl 0 rfl
      have c1 := (T4).at 0 rfl 1 rfl; have f1 := (T4).free 0 rfl 1 rfl
      clear p0 p1 hb4 T4 O4 HO S3 HBX RR
      cases good
      · have hr := Lib.hid (RC.out (by trivial) (by trivial))
        clear m0 m1 RC RD
        go_wp2
        exact bodyPost_ret (v := .tuple #[cv0, .int .i64 3]) (by simp [cv0, results, Try.results9, go_sem, c0, c1]) rfl ⟨by rw [hr.out], below_set2 HB4.out _ _⟩
      · have hr := Lib.hid (RD.out (by trivial) (by trivial))
        clear RC RD
        go_wp2
        exact bodyPost_ret (v := .tuple #[cv ⟨x1, x2⟩, .int .i64 0]) (by simp [cv, results, Try.results9, go_sem, c0, c1]) rfl ⟨by rw [hr.out], below_set2 HB4.out _ _⟩

theorem Read_came {w : World} {ba : Option Addr} {cap : Nat} {l : List UInt8} (C : Came w ba cap l) :
    Calls Try.prog 9 #[.slice ba l.length cap] w fun e w' => e = .returned (.tuple #[cv (readC l).1, .int .i64 (readC l).2]) ∧ Below w.heap.size w w' := by
  by_cases h : l.length = 5
  · obtain ⟨b, o, rfl, L⟩ := C.lies (by omega)
    have k1 := (l.getD 1 0).toNat_lt
    have k2 := (l.getD 2 0).toNat_lt
    have u8 : l.getD 0 0 = 195 ↔ (l.getD 0 0).toNat = 195 := ⟨fun h => by rw [h]; rfl, fun h => UInt8.toNat_inj.1 h⟩
    by_cases h0 : (l.getD 0 0).toNat = 195
    · have k := read_core L h C.le C.max _ _ _ (fitsB l) (rightC (ofC l)) (.tuple #[cv (readC l).1, .int .i64 (readC l).2]) rfl rfl rfl (is195 h0).1 (is195 h0).2 rfl rfl (by omega) (by omega)
        (fun hf => ?_) (fun hf hg => ?_) (fun hf hg => ?_)
      · rw [h]; exact k
      · have : readC l = (cm0, 5) := by
          unfold readC
          rw [if_neg (by omega), if_neg (by rw [ne_eq, u8]; omega), if_pos hf]
        rw [this]; rfl
      · have : readC l = (cm0, 3) := by
          unfold readC
          rw [if_neg (by omega), if_neg (by rw [ne_eq, u8]; omega), if_neg (by rw [hf]; simp), if_pos hg]
        rw [this]; rfl
      · have : readC l = (ofC l, 0) := by
          unfold readC
          rw [if_neg (by omega), if_neg (by rw [ne_eq, u8]; omega), if_neg (by rw [hf]; simp), if_neg (by rw [hg]; simp)]
        rw [this]; rfl
    · have : readC l = (cm0, 3) := by
        unfold readC
        rw [if_neg (by omega), if_pos (by rw [ne_eq, u8]; omega)]
      have q := L 0 (by omega)
      rw [Nat.add_zero] at q
      rw [this, h]
      exact Read_form _ q (not195 h0).1 (not195 h0).2
  · have : readC l = (cm0, 2) := by
      unfold readC
      rw [if_pos h]
    rw [this]
    have c1 := C.le
    have c2 := C.max
    unfold maxLen at c2
    exact Read_short ba l.length cap w (by simp; omega) (by simp; omega) (by omega)
end Lan34
end Go.Proofs.Ytmacbcbomdnppaa
