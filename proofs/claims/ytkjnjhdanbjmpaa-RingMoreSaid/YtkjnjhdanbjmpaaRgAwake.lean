/- Layer 27's own example: one, Keep at its two sets, awake. -/
import Derived.Test.YtkjnjhdanbjmpaaRgLanB
import Derived.Test.YtkjnjhdanbjmpaaRgMemC
import Derived.Test.YtkjnjhdanbjmpaaSp
namespace Go.Proofs.Ytkjnjhdanbjmpaa
open Go.RowKit

/-- a reading of source 0 alone -/
def oneR (n : Int) (h : -9223372036854775808 ≤ n ∧ n ≤ 9223372036854775807) : Rd := ⟨n :: List.replicate 11 0, true :: List.replicate 11 false, rfl, rfl, fun m hm => by
  rcases List.mem_cons.1 hm with rfl | hm
  · exact h
  · rw [List.eq_of_mem_replicate hm]; decide⟩
theorem _root_.Go.Proofs.Ytkjnjhdanbjmpaa.Sp.rd {W w : World} {bs : List (Nat × List (Option Value))} (h : Sp W bs w) (i : Nat) {b : Nat} {r : Rd} (hi : bs[i]? = some (b, (rc r).map some)) : RdAt w b r := fun j v hv => by
  rw [Nat.zero_add]
  exact h.at i hi j (by rw [List.getElem?_map, hv]; rfl)
theorem _root_.Go.Proofs.Ytkjnjhdanbjmpaa.Sp.th {W w : World} {bs : List (Nat × List (Option Value))} (h : Sp W bs w) (i : Nat) {b : Nat} {l : List (Option Value)} (hi : bs[i]? = some (b, l)) (hl : l.length = 24) : ThR w b := fun j hj => by
  obtain ⟨z, hz, hf⟩ := h.there i hi j (List.getElem?_eq_getElem (by omega))
  rw [Nat.zero_add]
  exact ⟨by rw [hz]; rfl, hf⟩
def z24 : List (Option Value) := (rc rd0).map some

set_option maxHeartbeats 4000000 in
set_option maxRecDepth 100000 in
theorem one_any (n : Int) (h : -9223372036854775808 ≤ n ∧ n ≤ 9223372036854775807) (w : World) :
    Calls Try.prog 11 #[.int .i64 n] w fun e w' => e = .returned (rv (oneR n h)) ∧ Below w.heap.size w w' := by
  obtain ⟨r, hr⟩ : ∃ r, r = oneR n h := ⟨_, rfl⟩
  have hcs : (rc r).map some = (z24.set 0 (some (.int .i64 n))).set 12 (some (.bool true)) := by rw [hr]; rfl
  rw [← hr]
  clear hr
  have S0 := ((Sp.none w).more (rc rd0) 27).more (rc rd0) 27
  rw [heap1] at S0
  obtain ⟨W0, hW⟩ : ∃ W0, W0 = (w.alloc (.cells (rc rd0).toArray 27)).alloc (.cells (rc rd0).toArray 27) := ⟨_, rfl⟩
  rw [← hW] at S0
  have c0 := S0.at 1 rfl 0 rfl
  have c1 := S0.at 1 rfl 12 rfl
  have f0 := S0.free 1 rfl 0 rfl
  have f1 := S0.free 1 rfl 12 rfl
  have S1 := (S0.put 1 rfl 0 (.int .i64 n)).put 1 rfl 12 (.bool true)
  have R1 := Lib.hid (S1.rd 1 (r := r) (by rw [hcs]; rfl))
  have T0 := S1.th 0 rfl (by decide)
  have L1 := Lib.hid (RdAt.put T0 r)
  have HB := Lib.hid (below_setCells (b := w.heap.size) (Nat.le_refl _) (rc r) 0 _ S1.below)
  have HT := Lib.hid T0
  clear S0 S1 T0 hcs
  have HW := Lib.hid hW
  clear hW
  go_enter Try.func11, Try.ntmps11
  go_upto_region 2 with fail
  change Code.wp _ _ _ _ ((w.alloc (.cells (rc rd0).toArray 27)).alloc (.cells (rc rd0).toArray 27))
  rw [← HW.out]
  go_upto_region 3 with fail
  go_wp2_with (first | refine list_load_rd rfl _ rfl (w.heap.size + 1) 0 rfl r R1.out ?_ | refine list_put_rd (r := r) rfl rfl rfl rfl HT.out ?_)
  exact bodyPost_ret (results_row rfl rfl L1.out Try.underlying27 rfl (sizeRd r)) rfl ⟨rfl, HB.out⟩

set_option maxHeartbeats 4000000 in
set_option maxRecDepth 100000 in
theorem Keep_one (r q : Rd) (x : Int) (i : Nat) (hi : i < 6) (hm : memI x = [(i : Int)]) (hk : (rc q).map some = (((rc r).map some).set i (some (.int .i64 0))).set (12 + i) (some (.bool false))) (w : World) :
    Calls Try.prog 13 #[rv r, .int .i64 x] w fun e w' => e = .returned (rv q) ∧ Below w.heap.size w w' := by
  have S0 := ((Sp.none w).more (rc r) 27).more (rc rd0) 27
  rw [heap1] at S0
  obtain ⟨W0, hW⟩ : ∃ W0, W0 = (w.alloc (.cells (ra r) 27)).alloc (.cells (ra rd0) 27) := ⟨_, rfl⟩
  replace S0 : Sp w [(w.heap.size, (rc r).map some), (w.heap.size + 1, z24)] W0 := hW ▸ S0
  have MB := Lan11.Members_any x W0
  rw [hm] at MB
  have HM := Lib.hid MB
  have HS := Lib.hid S0
  have HK := Lib.hid hk
  have HW := Lib.hid hW
  have hi12 : (i : Int) < 12 := by omega
  clear hm S0 MB hk hW
  unfold rv
  go_enter Try.func13, Try.ntmps13
  go_upto_region 1 with fail
  change Code.wp _ _ _ _ ((w.alloc (.cells (ra r) 27)).alloc (.cells (ra rd0) 27))
  rw [← HW.out]
  go_wp2_with fail
  refine HM.out.mono ?_; rintro e W1 ⟨v, rfl, hv⟩
  have S1 := HS.out.keep hv.below
  obtain ⟨ba, cap, rfl, L, hle, hmax⟩ := hv.lies
  obtain ⟨g, rfl, hg⟩ := L (by simp)
  have g0 := hg 0 (by simp)
  simp only [List.getD_cons_zero] at g0
  simp only [List.length_singleton] at hle ⊢
  have c0 := S1.at 0 rfl i (by rw [List.getElem?_map, rc_val r i (by omega)]; rfl)
  have c1 := S1.at 0 rfl (12 + i) (by rw [List.getElem?_map, rc_there r i (by omega)]; rfl)
  have f0 := S1.free 0 rfl i (by rw [List.getElem?_map, rc_val r i (by omega)]; rfl)
  have f1 := S1.free 0 rfl (12 + i) (by rw [List.getElem?_map, rc_there r i (by omega)]; rfl)
  have S2 := (S1.put 0 rfl i (.int .i64 0)).put 0 rfl (12 + i) (.bool false)
  have R1 := Lib.hid (S2.rd 0 (r := q) (by rw [HK.out]; rfl))
  have T0 := S2.th 1 rfl (by decide)
  have L1 := Lib.hid (RdAt.put T0 q)
  have HB := Lib.hid (below_setCells (b := w.heap.size + 1) (Nat.le_succ _) (rc q) 0 _ S2.below)
  have HT := Lib.hid T0
  clear HM HS HK HW hv L hg hmax S1 S2 T0
  go_wp2_with fail
  refine wp_loop_rounds 2 ?_
  iterate 2 (rw [rounds_succ]; go_wp2_with (first | refine list_load_rd rfl _ rfl w.heap.size 0 rfl q R1.out ?_ | refine list_put_rd (r := q) rfl rfl rfl rfl HT.out ?_))
  exact bodyPost_ret (results_row rfl rfl L1.out Try.underlying27 rfl (sizeRd q)) rfl ⟨rfl, HB.out⟩

theorem r5 : (-9223372036854775808 : Int) ≤ 5 ∧ (5 : Int) ≤ 9223372036854775807 := by decide
theorem Keep_1 (w : World) : Calls Try.prog 13 #[rv (oneR 5 r5), .int .i64 1] w fun e w' => e = .returned (rv rd0) ∧ Below w.heap.size w w' :=
  Keep_one _ _ 1 0 (by decide) (by decide) (by rfl) w
theorem Keep_2 (w : World) : Calls Try.prog 13 #[rv (oneR 5 r5), .int .i64 2] w fun e w' => e = .returned (rv (oneR 5 r5)) ∧ Below w.heap.size w w' :=
  Keep_one _ _ 2 1 (by decide) (by decide) (by rfl) w

/-- the readings of the example -/
def oneN (k : Nat) : Rd := oneR ((min k 100 : Nat) : Int) ⟨by omega, by omega⟩
theorem oneN_any (k : Nat) (hk : k ≤ 100) (w : World) :
    Calls Try.prog 11 #[.int .i64 k] w fun e w' => e = .returned (rv (oneN k)) ∧ Below w.heap.size w w' := by
  have c := one_any ((min k 100 : Nat) : Int) ⟨by omega, by omega⟩ w
  have e : ((min k 100 : Nat) : Int) = (k : Int) := by omega
  rw [← e]
  exact c
def pushed (j : Nat) : List Rd := (List.range j).map fun i => oneN (i + 1)
theorem pushed_next (j : Nat) : pushed (j + 1) = pushed j ++ [oneN (j + 1)] := by unfold pushed; rw [List.range_succ, List.map_append]; rfl
theorem pushed_len (j : Nat) : (pushed j).length = j := by unfold pushed; rw [List.length_map, List.length_range]
theorem goes_9 : (pushR (keptR (pushed 8)) (oneN 9)).2.1 = oneN 1 := rfl
theorem kept_9 : (keptR (pushed 9)).length = 8 ∧ (keptR (pushed 9)).getD 7 rd0 = oneN 9 := ⟨rfl, rfl⟩
theorem last_8 {w : World} {ba : Option Addr} {cap : Nat} {l : List Rd} (C : CameRd w ba cap l) (h8 : l.length = 8) :
    Calls Try.prog 12 #[.slice ba 8 cap, .int .i64 0] w fun e w' => e = .returned (.tuple #[rv (l.getD 7 rd0), .bool true]) ∧ Below w.heap.size w w' := by
  have c := Last_some C 0 (by omega)
  rw [h8] at c
  exact c

/-- The operations of a drawn region, as the translation has them. -/
def awake27 : Array Oper := #[
  { dst := some 33, op := .move (.tmp 1), type := 22, pos := "law.go:25", after := #[], guard := none },
  { dst := some 34, op := .call { callee := .builtin .len, args := #[.tmp 33], argTypes := #[22] }, type := 3, pos := "law.go:25", after := #[{ on := 0, ground := .data }], guard := none },
  { dst := some 35, op := .binOp .eql 3 (.tmp 34) (.const (.int .i64 8)) 3, type := 4, pos := "law.go:25", after := #[{ on := 1, ground := .data }], guard := none },
  { dst := some 36, op := .move (.tmp 35), type := 4, pos := "law.go:25", after := #[{ on := 2, ground := .data }], guard := none },
  { dst := some 37, op := .move (.tmp 2), type := 4, pos := "law.go:25", after := #[{ on := 3, ground := .guard }], guard := some (3, true) },
  { dst := some 38, op := .pick (.tmp 36) (.tmp 37) (.const (.bool false)), type := 4, pos := "law.go:25", after := #[{ on := 3, ground := .data }, { on := 4, ground := .data }], guard := none },
  { dst := some 39, op := .move (.tmp 38), type := 4, pos := "law.go:25", after := #[{ on := 5, ground := .data }, { on := 3, ground := .chain }], guard := none },
  { dst := some 40, op := .load 27 (.tmp 3), type := 27, pos := "law.go:25", after := #[{ on := 6, ground := .guard }], guard := some (6, true) },
  { dst := some 41, op := .call { callee := .value (.func 11), args := #[.const (.int .i64 1)], argTypes := #[2] }, type := 27, pos := "law.go:25", after := #[{ on := 6, ground := .chain }, { on := 6, ground := .guard }], guard := some (6, true) },
  { dst := some 42, op := .binOp .eql 27 (.tmp 40) (.tmp 41) 27, type := 4, pos := "law.go:25", after := #[{ on := 7, ground := .data }, { on := 8, ground := .data }, { on := 6, ground := .guard }], guard := some (6, true) },
  { dst := some 43, op := .pick (.tmp 39) (.tmp 42) (.const (.bool false)), type := 4, pos := "law.go:25", after := #[{ on := 6, ground := .data }, { on := 9, ground := .data }], guard := none },
  { dst := some 44, op := .move (.tmp 43), type := 4, pos := "law.go:25", after := #[{ on := 10, ground := .data }, { on := 8, ground := .chain }], guard := none },
  { dst := some 45, op := .move (.tmp 6), type := 4, pos := "law.go:25", after := #[{ on := 11, ground := .guard }], guard := some (11, true) },
  { dst := some 46, op := .pick (.tmp 44) (.tmp 45) (.const (.bool false)), type := 4, pos := "law.go:25", after := #[{ on := 11, ground := .data }, { on := 12, ground := .data }], guard := none },
  { dst := some 47, op := .move (.tmp 46), type := 4, pos := "law.go:25", after := #[{ on := 13, ground := .data }, { on := 11, ground := .chain }], guard := none },
  { dst := some 48, op := .load 27 (.tmp 5), type := 27, pos := "law.go:25", after := #[{ on := 14, ground := .guard }], guard := some (14, true) },
  { dst := some 49, op := .call { callee := .value (.func 11), args := #[.const (.int .i64 9)], argTypes := #[2] }, type := 27, pos := "law.go:25", after := #[{ on := 14, ground := .chain }, { on := 14, ground := .guard }], guard := some (14, true) },
  { dst := some 50, op := .binOp .eql 27 (.tmp 48) (.tmp 49) 27, type := 4, pos := "law.go:25", after := #[{ on := 15, ground := .data }, { on := 16, ground := .data }, { on := 14, ground := .guard }], guard := some (14, true) },
  { dst := some 51, op := .pick (.tmp 47) (.tmp 50) (.const (.bool false)), type := 4, pos := "law.go:25", after := #[{ on := 14, ground := .data }, { on := 17, ground := .data }], guard := none },
  { dst := some 52, op := .move (.tmp 51), type := 4, pos := "law.go:25", after := #[{ on := 18, ground := .data }, { on := 16, ground := .chain }], guard := none },
  { dst := some 53, op := .move (.tmp 8), type := 4, pos := "law.go:25", after := #[{ on := 19, ground := .guard }], guard := some (19, true) },
  { dst := some 54, op := .unOp .not 4 (.tmp 53), type := 4, pos := "law.go:25", after := #[{ on := 20, ground := .data }, { on := 19, ground := .guard }], guard := some (19, true) },
  { dst := some 55, op := .pick (.tmp 52) (.tmp 54) (.const (.bool false)), type := 4, pos := "law.go:25", after := #[{ on := 19, ground := .data }, { on := 21, ground := .data }], guard := none },
  { dst := some 56, op := .move (.tmp 55), type := 4, pos := "law.go:25", after := #[{ on := 22, ground := .data }, { on := 19, ground := .chain }], guard := none },
  { dst := some 57, op := .call { callee := .value (.func 11), args := #[.const (.int .i64 5)], argTypes := #[2] }, type := 27, pos := "law.go:25", after := #[{ on := 23, ground := .chain }, { on := 23, ground := .guard }], guard := some (23, true) },
  { dst := some 58, op := .call { callee := .value (.func 13), args := #[.tmp 57, .const (.int .i64 1)], argTypes := #[27, 3] }, type := 27, pos := "law.go:25", after := #[{ on := 24, ground := .data }, { on := 24, ground := .chain }, { on := 23, ground := .guard }], guard := some (23, true) },
  { dst := some 59, op := .build 27 #[], type := 27, pos := "law.go:25", after := #[{ on := 23, ground := .guard }], guard := some (23, true) },
  { dst := some 60, op := .binOp .eql 27 (.tmp 58) (.tmp 59) 27, type := 4, pos := "law.go:25", after := #[{ on := 25, ground := .data }, { on := 26, ground := .data }, { on := 23, ground := .guard }], guard := some (23, true) },
  { dst := some 61, op := .pick (.tmp 56) (.tmp 60) (.const (.bool false)), type := 4, pos := "law.go:25", after := #[{ on := 23, ground := .data }, { on := 27, ground := .data }], guard := none },
  { dst := some 62, op := .move (.tmp 61), type := 4, pos := "law.go:25", after := #[{ on := 28, ground := .data }, { on := 25, ground := .chain }], guard := none },
  { dst := some 63, op := .call { callee := .value (.func 11), args := #[.const (.int .i64 5)], argTypes := #[2] }, type := 27, pos := "law.go:25", after := #[{ on := 29, ground := .chain }, { on := 29, ground := .guard }], guard := some (29, true) },
  { dst := some 64, op := .call { callee := .value (.func 13), args := #[.tmp 63, .const (.int .i64 2)], argTypes := #[27, 3] }, type := 27, pos := "law.go:25", after := #[{ on := 30, ground := .data }, { on := 30, ground := .chain }, { on := 29, ground := .guard }], guard := some (29, true) },
  { dst := some 65, op := .call { callee := .value (.func 11), args := #[.const (.int .i64 5)], argTypes := #[2] }, type := 27, pos := "law.go:25", after := #[{ on := 31, ground := .chain }, { on := 29, ground := .guard }], guard := some (29, true) },
  { dst := some 66, op := .binOp .eql 27 (.tmp 64) (.tmp 65) 27, type := 4, pos := "law.go:25", after := #[{ on := 31, ground := .data }, { on := 32, ground := .data }, { on := 29, ground := .guard }], guard := some (29, true) },
  { dst := some 67, op := .pick (.tmp 62) (.tmp 66) (.const (.bool false)), type := 4, pos := "law.go:25", after := #[{ on := 29, ground := .data }, { on := 33, ground := .data }], guard := none },
  { dst := some 0, op := .assign (.tmp 67), type := 4, pos := "law.go:25", after := #[{ on := 34, ground := .data }, { on := 32, ground := .chain }, { on := 0, ground := .phase }, { on := 1, ground := .phase }, { on := 2, ground := .phase }, { on := 3, ground := .phase }, { on := 4, ground := .phase }, { on := 5, ground := .phase }, { on := 6, ground := .phase }, { on := 7, ground := .phase }, { on := 8, ground := .phase }, { on := 9, ground := .phase }, { on := 10, ground := .phase }, { on := 11, ground := .phase }, { on := 12, ground := .phase }, { on := 13, ground := .phase }, { on := 14, ground := .phase }, { on := 15, ground := .phase }, { on := 16, ground := .phase }, { on := 17, ground := .phase }, { on := 18, ground := .phase }, { on := 19, ground := .phase }, { on := 20, ground := .phase }, { on := 21, ground := .phase }, { on := 22, ground := .phase }, { on := 23, ground := .phase }, { on := 24, ground := .phase }, { on := 25, ground := .phase }, { on := 26, ground := .phase }, { on := 27, ground := .phase }, { on := 28, ground := .phase }, { on := 29, ground := .phase }, { on := 30, ground := .phase }, { on := 31, ground := .phase }, { on := 32, ground := .phase }, { on := 33, ground := .phase }, { on := 34, ground := .phase }], guard := none }]
theorem awake27_plain : Region.noSelect awake27 = true := by kernel_rfl

set_option maxHeartbeats 8000000 in
set_option maxRecDepth 100000 in
theorem awake_any (w : World) : Calls Try.prog 5 #[] w fun e w' => e = .returned (.bool true) ∧ Below w.heap.size w w' := by
  obtain ⟨W0, hW⟩ : ∃ W0, W0 = w.alloc (.cells (ra rd0) 27) := ⟨_, rfl⟩
  have HB0 := Lib.hid (show Below w.heap.size w W0 from hW ▸ below1 w _)
  have HT0 := Lib.hid (show ThR W0 w.heap.size from hW ▸ ThR.new w (ra rd0) (ra_size rd0) _)
  have HW := Lib.hid hW
  have ON := Lib.hid (fun (k : Nat) (hk : k ≤ 100) (w : World) => oneN_any k hk w)
  clear hW
  go_enter Try.func5, Try.ntmps5
  go_upto_region 3 with fail
  go_wp2_with (refine list_store_rd rfl _ _ rfl _ rd0 rfl rfl rfl ?_)
  rw [← HW.out]
  go_loopw [1, 2, 10] (fun v1 v2 i wr => ∃ j : Nat, j ≤ 9 ∧ i = .int .i64 j ∧ ∃ ba cap, v1 = .slice ba (keptR (pushed j)).length cap ∧ v2 = .bool (decide (9 ≤ j)) ∧ CameRd wr ba cap (keptR (pushed j)) ∧ ThR wr w.heap.size ∧ (9 ≤ j → RdAt wr w.heap.size (oneN 1)) ∧ Below w.heap.size w wr) (fun _ _ i _ => 9 - (intOf i).toNat)
  case atStart => exact ⟨0, by omega, rfl, none, 0, rfl, rfl, CameRd.nought _, HT0.out, fun h => absurd h (by decide), HB0.out⟩
  case round =>
    obtain ⟨j, hj, rfl, ba, cap, rfl, rfl, C, hT, hR, hB⟩ := hrel
    by_cases h9 : (j : Int) < 9
    · have O1 : Hid (∀ w, Calls Try.prog 11 #[.int .i64 ((j : Int) + 1)] w fun e w' => e = .returned (rv (oneN (j + 1))) ∧ Below w.heap.size w w') := Lib.hid fun w => by
        have := ON.out (j + 1) (by omega) w
        push_cast at this
        exact this
      have hlk : (keptR (pushed j)).length + 1 ≤ 1000000000000 := by rw [kept_len, pushed_len]; omega
      have PU := Lib.hid (fun (w' : World) (C : CameRd w' ba cap (keptR (pushed j))) => Push_any C (oneN (j + 1)) hlk)
      obtain ⟨k1, k2, _⟩ := push_kept (pushed j) (oneN (j + 1))
      rw [← pushed_next] at k1
      rw [pushed_len] at k2
      rw [k1, k2] at PU
      have k3 : j = 8 → (pushR (keptR (pushed j)) (oneN (j + 1))).2.1 = oneN 1 := fun e => by subst e; exact goes_9
      generalize (pushR (keptR (pushed j)) (oneN (j + 1))).2.1 = x at PU k3
      have K3 := Lib.hid k3
      have HC := Lib.hid C
      have HT := Lib.hid hT
      have HB := Lib.hid hB
      generalize oneN (j + 1) = r at *
      generalize hkl : keptR (pushed j) = kl at *
      generalize hkn : keptR (pushed (j + 1)) = kn at *
      have HKN := Lib.hid hkn
      clear k1 k2 k3 hlk C hT hR hB hkl hkn
      go_wp2_with fail
      refine (O1.out _).mono ?_; rintro e w1 ⟨rfl, hb1⟩
      have P1 := Lib.hid (PU.out w1 (HC.out.keep hb1))
      have B1 := Lib.hid hb1
      clear PU hb1 O1 HC
      go_wp2_with fail
      refine P1.out.mono ?_; rintro e w2 ⟨ba2, cap2, rfl, hC2, hO2, hb2⟩
      have B2 := belowT B1.out hb2
      have hT2 := HT.out.keep B2
      have hO := hO2 w.heap.size (Nat.lt_of_lt_of_le HT.out.lt B1.out.size)
      have C3 := Lib.hid (hC2.put hO x)
      have T3 := Lib.hid (hT2.put w.heap.size x)
      have R3 := Lib.hid (RdAt.put hT2 x)
      have B3 := Lib.hid (below_setCells (b := w.heap.size) (Nat.le_refl _) (rc x) 0 _ (HB.out.trans (B2.mono HB.out.size)))
      have T2 := Lib.hid hT2
      clear P1 B1 hC2 hO2 hb2 B2 hT2 hO HT HB
      go_wp2_with (refine list_put_rd (r := x) rfl rfl rfl rfl T2.out ?_)
      go_roundw
      case rel => exact ⟨j + 1, by omega, rfl, ba2, cap2, by rw [HKN.out], by simp, by rw [HKN.out]; exact C3.out, T3.out, fun h => by rw [← K3.out (by omega)]; exact R3.out, B3.out⟩
      case measure => simp [intOf]; omega
    · obtain rfl : j = 9 := by omega
      obtain ⟨hl8, hg7⟩ := kept_9
      have R1 := hR (by omega)
      have L0 := Lib.hid (fun (w' : World) (C : CameRd w' ba cap (keptR (pushed 9))) => last_8 C hl8)
      have L8 := Lib.hid (fun (w' : World) => Last_none ba 8 cap 8 w' (by decide) (by decide))
      rw [hg7] at L0
      rw [hl8]
      generalize keptR (pushed 9) = kl at *
      have O1 : Hid (∀ w, Calls Try.prog 11 #[.int .i64 1] w fun e w' => e = .returned (.agg (ra (oneN 1))) ∧ Below w.heap.size w w') := Lib.hid fun w => ON.out 1 (by omega) w
      have O9 : Hid (∀ w, Calls Try.prog 11 #[.int .i64 9] w fun e w' => e = .returned (.agg (ra (oneN 9))) ∧ Below w.heap.size w w') := Lib.hid fun w => ON.out 9 (by omega) w
      have O5 : Hid (∀ w, Calls Try.prog 11 #[.int .i64 5] w fun e w' => e = .returned (.agg (ra (oneN 5))) ∧ Below w.heap.size w w') := Lib.hid fun w => ON.out 5 (by omega) w
      have K1 : Hid (∀ w, Calls Try.prog 13 #[.agg (ra (oneN 5)), .int .i64 1] w fun e w' => e = .returned (.agg (ra rd0)) ∧ Below w.heap.size w w') := Lib.hid Keep_1
      have K2 : Hid (∀ w, Calls Try.prog 13 #[.agg (ra (oneN 5)), .int .i64 2] w fun e w' => e = .returned (.agg (ra (oneN 5))) ∧ Below w.heap.size w w') := Lib.hid Keep_2
      have E0 : ∀ w, (Op.equalIn 10000 27 (.agg (ra rd0)) (.agg #[.int .i64 0, .int .i64 0, .int .i64 0, .int .i64 0, .int .i64 0, .int .i64 0, .int .i64 0, .int .i64 0, .int .i64 0, .int .i64 0, .int .i64 0, .int .i64 0, .bool false, .bool false, .bool false, .bool false, .bool false, .bool false, .bool false, .bool false, .bool false, .bool false, .bool false, .bool false])).run Try.prog w = .ok true w := rd_same rd0
      have E1 := rd_same (oneN 1)
      have E9 := rd_same (oneN 9)
      have E5 := rd_same (oneN 5)
      generalize oneN 1 = r1 at *
      generalize oneN 9 = r9 at *
      generalize oneN 5 = r5 at *
      have HC := Lib.hid C
      have HR := Lib.hid R1
      have HB := Lib.hid hB
      simp only [Nat.le_refl, decide_true]
      clear C hT hR R1 hB hl8 hg7 ON HT0 HB0 HW hj h9
      go_wp2_with fail
      refine (L0.out _ HC.out).mono ?_; rintro e w1 ⟨rfl, hb1⟩
      have X1 := Lib.hid (below1 w1 (.cells (ra r9) 27))
      have Y1 := Lib.hid (HR.out.keep (belowT hb1 X1.out))
      have Z1 := Lib.hid (RdAt.new w1 r9 27)
      have V1 := Lib.hid (HB.out.trans ((belowT hb1 X1.out).mono HB.out.size))
      clear L0 hb1 HC HR HB
      go_wp2_with (refine list_store_rd rfl _ _ rfl _ r9 rfl rfl rfl ?_)
      refine (L8.out _).mono ?_; rintro e w2 ⟨rfl, hb2⟩
      have X2 := Lib.hid (below1 w2 (.cells (ra rd0) 27))
      have Y2 := Lib.hid (Y1.out.keep (belowT hb2 X2.out))
      have Z2 := Lib.hid (Z1.out.keep (belowT hb2 X2.out))
      have V2 := Lib.hid (V1.out.trans ((belowT hb2 X2.out).mono V1.out.size))
      clear L8 hb2 X1 X2 Y1 Z1 V1
      go_upto_region 11 with (refine list_store_rd rfl _ _ rfl _ rd0 rfl rfl rfl ?_)
      obtain ⟨W1, hW1⟩ : ∃ W1, W1 = w2.alloc (.cells (ra rd0) 27) := ⟨_, rfl⟩
      rw [← hW1] at Y2 Z2 V2 ⊢
      clear hW1
      have RA : Hid (∀ w', Below W1.heap.size W1 w' → w'.rangeAt w.heap.size 0 (ra r1).toList) := Lib.hid fun w' h => Y2.out.keep h
      have RB : Hid (∀ w', Below W1.heap.size W1 w' → w'.rangeAt w1.heap.size 0 (ra r9).toList) := Lib.hid fun w' h => Z2.out.keep h
      have I1 := Lib.hid (sizeRd r1)
      have I9 := Lib.hid (sizeRd r9)
      clear Y2 Z2
      change (Code.region 11 awake27 true).wp Try.prog _ _ _
      refine wp_region_noPanic ?_
      refine wp_region_held_drew (S := fun w' => Below W1.heap.size W1 w') (by kernel_rfl) ((Below.refl _ _).drew) (fun hHeld => ?_)
      refine wpAnyH_take (i := 0) (oi := ({ dst := some 33, op := .move (.tmp 1), type := 22, pos := "law.go:25", after := #[], guard := none } : Oper)) (v := ?vs4_0) rfl awake27_plain (by as_aux_lemma => kernel_rfl) (by as_aux_lemma => kernel_rfl) (fun _ _ _ h => h) (Or.inl ⟨by rfl, ?ys4_0⟩) (by assumption) ?rs4_0
      case ys4_0 => (intro w hSw; (try dsimp only at hSw); go_simp; try with_reducible rfl)
      try simp only [Act.put, List.setIfInBounds_toArray, List.set_cons_zero, List.set_cons_succ]
      refine wpAnyH_take (i := 1) (oi := ({ dst := some 34, op := .call { callee := .builtin .len, args := #[.tmp 33], argTypes := #[22] }, type := 3, pos := "law.go:25", after := #[{ on := 0, ground := .data }], guard := none } : Oper)) (v := ?vs4_1) rfl awake27_plain (by as_aux_lemma => kernel_rfl) (by as_aux_lemma => kernel_rfl) (fun _ _ _ h => h) (Or.inl ⟨by rfl, ?ys4_1⟩) (by assumption) ?rs4_1
      case ys4_1 => (intro w hSw; (try dsimp only at hSw); go_simp; try with_reducible rfl)
      try simp only [Act.put, List.setIfInBounds_toArray, List.set_cons_zero, List.set_cons_succ]
      refine wpAnyH_take (i := 2) (oi := ({ dst := some 35, op := .binOp .eql 3 (.tmp 34) (.const (.int .i64 8)) 3, type := 4, pos := "law.go:25", after := #[{ on := 1, ground := .data }], guard := none } : Oper)) (v := ?vs4_2) rfl awake27_plain (by as_aux_lemma => kernel_rfl) (by as_aux_lemma => kernel_rfl) (fun _ _ _ h => h) (Or.inl ⟨by rfl, ?ys4_2⟩) (by assumption) ?rs4_2
      case ys4_2 => (intro w hSw; (try dsimp only at hSw); go_simp; try with_reducible rfl)
      try simp only [Act.put, List.setIfInBounds_toArray, List.set_cons_zero, List.set_cons_succ]
      refine wpAnyH_take (i := 3) (oi := ({ dst := some 36, op := .move (.tmp 35), type := 4, pos := "law.go:25", after := #[{ on := 2, ground := .data }], guard := none } : Oper)) (v := ?vs4_3) rfl awake27_plain (by as_aux_lemma => kernel_rfl) (by as_aux_lemma => kernel_rfl) (fun _ _ _ h => h) (Or.inl ⟨by rfl, ?ys4_3⟩) (by assumption) ?rs4_3
      case ys4_3 => (intro w hSw; (try dsimp only at hSw); go_simp; try with_reducible rfl)
      try simp only [Act.put, List.setIfInBounds_toArray, List.set_cons_zero, List.set_cons_succ]
      refine wpAnyH_take (i := 4) (oi := ({ dst := some 37, op := .move (.tmp 2), type := 4, pos := "law.go:25", after := #[{ on := 3, ground := .guard }], guard := some (3, true) } : Oper)) (v := ?vs4_4) rfl awake27_plain (by as_aux_lemma => kernel_rfl) (by as_aux_lemma => kernel_rfl) (fun _ _ _ h => h) (Or.inl ⟨by rfl, ?ys4_4⟩) (by assumption) ?rs4_4
      case ys4_4 => (intro w hSw; (try dsimp only at hSw); go_simp; try with_reducible rfl)
      try simp only [Act.put, List.setIfInBounds_toArray, List.set_cons_zero, List.set_cons_succ]
      refine wpAnyH_take (i := 5) (oi := ({ dst := some 38, op := .pick (.tmp 36) (.tmp 37) (.const (.bool false)), type := 4, pos := "law.go:25", after := #[{ on := 3, ground := .data }, { on := 4, ground := .data }], guard := none } : Oper)) (v := ?vs4_5) rfl awake27_plain (by as_aux_lemma => kernel_rfl) (by as_aux_lemma => kernel_rfl) (fun _ _ _ h => h) (Or.inl ⟨by rfl, ?ys4_5⟩) (by assumption) ?rs4_5
      case ys4_5 => (intro w hSw; (try dsimp only at hSw); go_simp; try with_reducible rfl)
      try simp only [Act.put, List.setIfInBounds_toArray, List.set_cons_zero, List.set_cons_succ]
      refine wpAnyH_take (i := 6) (oi := ({ dst := some 39, op := .move (.tmp 38), type := 4, pos := "law.go:25", after := #[{ on := 5, ground := .data }, { on := 3, ground := .chain }], guard := none } : Oper)) (v := ?vs4_6) rfl awake27_plain (by as_aux_lemma => kernel_rfl) (by as_aux_lemma => kernel_rfl) (fun _ _ _ h => h) (Or.inl ⟨by rfl, ?ys4_6⟩) (by assumption) ?rs4_6
      case ys4_6 => (intro w hSw; (try dsimp only at hSw); go_simp; try with_reducible rfl)
      try simp only [Act.put, List.setIfInBounds_toArray, List.set_cons_zero, List.set_cons_succ]
      refine wpAnyH_take (i := 7) (oi := ({ dst := some 40, op := .load 27 (.tmp 3), type := 27, pos := "law.go:25", after := #[{ on := 6, ground := .guard }], guard := some (6, true) } : Oper)) rfl awake27_plain (by as_aux_lemma => kernel_rfl) (by as_aux_lemma => kernel_rfl) (fun _ _ _ h => h) (yields_load (by rfl) 27 _ rfl _ _ rfl _ _ RA.out Try.underlying27 rfl I1.out) (by assumption) ?_
      try simp only [Act.put, List.setIfInBounds_toArray, List.set_cons_zero, List.set_cons_succ]
      refine wpAnyH_ready (rs := [8]) (by as_aux_lemma => kernel_rfl) (by simp) ?_
      refine AllReadyH.cons (o := ({ dst := some 41, op := .call { callee := .value (.func 11), args := #[.const (.int .i64 1)], argTypes := #[2] }, type := 27, pos := "law.go:25", after := #[{ on := 6, ground := .chain }, { on := 6, ground := .guard }], guard := some (6, true) } : Oper)) rfl (fun KK hK => ?_) AllReadyH.nil
      rw [if_pos (by rfl)]
      go_simp
      go_at_call 11; refine (O1.out _).mono ?_; rintro e w3 ⟨rfl, hb3⟩
      go_wp2_with fail
      refine hK.out _ _ ?_ (fun hHeld3 => ?_)
      · exact belowT (by assumption) hb3
      clear hK KK hb3
      try simp only [Act.put, List.setIfInBounds_toArray, List.set_cons_zero, List.set_cons_succ]
      refine wpAnyH_take (i := 9) (oi := ({ dst := some 42, op := .binOp .eql 27 (.tmp 40) (.tmp 41) 27, type := 4, pos := "law.go:25", after := #[{ on := 7, ground := .data }, { on := 8, ground := .data }, { on := 6, ground := .guard }], guard := some (6, true) } : Oper)) (v := ?vs4_9) rfl awake27_plain (by as_aux_lemma => kernel_rfl) (by as_aux_lemma => kernel_rfl) (fun _ _ _ h => h) (Or.inl ⟨by rfl, ?ys4_9⟩) (by assumption) ?rs4_9
      case ys4_9 => (intro w hSw; (try dsimp only at hSw); go_simp; try with_reducible rfl)
      try simp only [Act.put, List.setIfInBounds_toArray, List.set_cons_zero, List.set_cons_succ]
      refine wpAnyH_take (i := 10) (oi := ({ dst := some 43, op := .pick (.tmp 39) (.tmp 42) (.const (.bool false)), type := 4, pos := "law.go:25", after := #[{ on := 6, ground := .data }, { on := 9, ground := .data }], guard := none } : Oper)) (v := ?vs4_10) rfl awake27_plain (by as_aux_lemma => kernel_rfl) (by as_aux_lemma => kernel_rfl) (fun _ _ _ h => h) (Or.inl ⟨by rfl, ?ys4_10⟩) (by assumption) ?rs4_10
      case ys4_10 => (intro w hSw; (try dsimp only at hSw); go_simp; try with_reducible rfl)
      try simp only [Act.put, List.setIfInBounds_toArray, List.set_cons_zero, List.set_cons_succ]
      refine wpAnyH_take (i := 11) (oi := ({ dst := some 44, op := .move (.tmp 43), type := 4, pos := "law.go:25", after := #[{ on := 10, ground := .data }, { on := 8, ground := .chain }], guard := none } : Oper)) (v := ?vs4_11) rfl awake27_plain (by as_aux_lemma => kernel_rfl) (by as_aux_lemma => kernel_rfl) (fun _ _ _ h => h) (Or.inl ⟨by rfl, ?ys4_11⟩) (by assumption) ?rs4_11
      case ys4_11 => (intro w hSw; (try dsimp only at hSw); go_simp; try with_reducible rfl)
      try simp only [Act.put, List.setIfInBounds_toArray, List.set_cons_zero, List.set_cons_succ]
      refine wpAnyH_take (i := 12) (oi := ({ dst := some 45, op := .move (.tmp 6), type := 4, pos := "law.go:25", after := #[{ on := 11, ground := .guard }], guard := some (11, true) } : Oper)) (v := ?vs4_12) rfl awake27_plain (by as_aux_lemma => kernel_rfl) (by as_aux_lemma => kernel_rfl) (fun _ _ _ h => h) (Or.inl ⟨by rfl, ?ys4_12⟩) (by assumption) ?rs4_12
      case ys4_12 => (intro w hSw; (try dsimp only at hSw); go_simp; try with_reducible rfl)
      try simp only [Act.put, List.setIfInBounds_toArray, List.set_cons_zero, List.set_cons_succ]
      refine wpAnyH_take (i := 13) (oi := ({ dst := some 46, op := .pick (.tmp 44) (.tmp 45) (.const (.bool false)), type := 4, pos := "law.go:25", after := #[{ on := 11, ground := .data }, { on := 12, ground := .data }], guard := none } : Oper)) (v := ?vs4_13) rfl awake27_plain (by as_aux_lemma => kernel_rfl) (by as_aux_lemma => kernel_rfl) (fun _ _ _ h => h) (Or.inl ⟨by rfl, ?ys4_13⟩) (by assumption) ?rs4_13
      case ys4_13 => (intro w hSw; (try dsimp only at hSw); go_simp; try with_reducible rfl)
      try simp only [Act.put, List.setIfInBounds_toArray, List.set_cons_zero, List.set_cons_succ]
      refine wpAnyH_take (i := 14) (oi := ({ dst := some 47, op := .move (.tmp 46), type := 4, pos := "law.go:25", after := #[{ on := 13, ground := .data }, { on := 11, ground := .chain }], guard := none } : Oper)) (v := ?vs4_14) rfl awake27_plain (by as_aux_lemma => kernel_rfl) (by as_aux_lemma => kernel_rfl) (fun _ _ _ h => h) (Or.inl ⟨by rfl, ?ys4_14⟩) (by assumption) ?rs4_14
      case ys4_14 => (intro w hSw; (try dsimp only at hSw); go_simp; try with_reducible rfl)
      try simp only [Act.put, List.setIfInBounds_toArray, List.set_cons_zero, List.set_cons_succ]
      refine wpAnyH_take (i := 15) (oi := ({ dst := some 48, op := .load 27 (.tmp 5), type := 27, pos := "law.go:25", after := #[{ on := 14, ground := .guard }], guard := some (14, true) } : Oper)) rfl awake27_plain (by as_aux_lemma => kernel_rfl) (by as_aux_lemma => kernel_rfl) (fun _ _ _ h => h) (yields_load (by rfl) 27 _ rfl _ _ rfl _ _ RB.out Try.underlying27 rfl I9.out) (by assumption) ?_
      try simp only [Act.put, List.setIfInBounds_toArray, List.set_cons_zero, List.set_cons_succ]
      refine wpAnyH_ready (rs := [16]) (by as_aux_lemma => kernel_rfl) (by simp) ?_
      refine AllReadyH.cons (o := ({ dst := some 49, op := .call { callee := .value (.func 11), args := #[.const (.int .i64 9)], argTypes := #[2] }, type := 27, pos := "law.go:25", after := #[{ on := 14, ground := .chain }, { on := 14, ground := .guard }], guard := some (14, true) } : Oper)) rfl (fun KK hK => ?_) AllReadyH.nil
      rw [if_pos (by rfl)]
      go_simp
      go_at_call 11; refine (O9.out _).mono ?_; rintro e w4 ⟨rfl, hb4⟩
      go_wp2_with fail
      refine hK.out _ _ ?_ (fun hHeld4 => ?_)
      · exact belowT (by assumption) hb4
      clear hK KK hb4 hHeld3
      try simp only [Act.put, List.setIfInBounds_toArray, List.set_cons_zero, List.set_cons_succ]
      refine wpAnyH_take (i := 17) (oi := ({ dst := some 50, op := .binOp .eql 27 (.tmp 48) (.tmp 49) 27, type := 4, pos := "law.go:25", after := #[{ on := 15, ground := .data }, { on := 16, ground := .data }, { on := 14, ground := .guard }], guard := some (14, true) } : Oper)) (v := ?vs4_17) rfl awake27_plain (by as_aux_lemma => kernel_rfl) (by as_aux_lemma => kernel_rfl) (fun _ _ _ h => h) (Or.inl ⟨by rfl, ?ys4_17⟩) (by assumption) ?rs4_17
      case ys4_17 => (intro w hSw; (try dsimp only at hSw); go_simp; try with_reducible rfl)
      try simp only [Act.put, List.setIfInBounds_toArray, List.set_cons_zero, List.set_cons_succ]
      refine wpAnyH_take (i := 18) (oi := ({ dst := some 51, op := .pick (.tmp 47) (.tmp 50) (.const (.bool false)), type := 4, pos := "law.go:25", after := #[{ on := 14, ground := .data }, { on := 17, ground := .data }], guard := none } : Oper)) (v := ?vs4_18) rfl awake27_plain (by as_aux_lemma => kernel_rfl) (by as_aux_lemma => kernel_rfl) (fun _ _ _ h => h) (Or.inl ⟨by rfl, ?ys4_18⟩) (by assumption) ?rs4_18
      case ys4_18 => (intro w hSw; (try dsimp only at hSw); go_simp; try with_reducible rfl)
      try simp only [Act.put, List.setIfInBounds_toArray, List.set_cons_zero, List.set_cons_succ]
      refine wpAnyH_take (i := 19) (oi := ({ dst := some 52, op := .move (.tmp 51), type := 4, pos := "law.go:25", after := #[{ on := 18, ground := .data }, { on := 16, ground := .chain }], guard := none } : Oper)) (v := ?vs4_19) rfl awake27_plain (by as_aux_lemma => kernel_rfl) (by as_aux_lemma => kernel_rfl) (fun _ _ _ h => h) (Or.inl ⟨by rfl, ?ys4_19⟩) (by assumption) ?rs4_19
      case ys4_19 => (intro w hSw; (try dsimp only at hSw); go_simp; try with_reducible rfl)
      try simp only [Act.put, List.setIfInBounds_toArray, List.set_cons_zero, List.set_cons_succ]
      refine wpAnyH_take (i := 20) (oi := ({ dst := some 53, op := .move (.tmp 8), type := 4, pos := "law.go:25", after := #[{ on := 19, ground := .guard }], guard := some (19, true) } : Oper)) (v := ?vs4_20) rfl awake27_plain (by as_aux_lemma => kernel_rfl) (by as_aux_lemma => kernel_rfl) (fun _ _ _ h => h) (Or.inl ⟨by rfl, ?ys4_20⟩) (by assumption) ?rs4_20
      case ys4_20 => (intro w hSw; (try dsimp only at hSw); go_simp; try with_reducible rfl)
      try simp only [Act.put, List.setIfInBounds_toArray, List.set_cons_zero, List.set_cons_succ]
      refine wpAnyH_take (i := 21) (oi := ({ dst := some 54, op := .unOp .not 4 (.tmp 53), type := 4, pos := "law.go:25", after := #[{ on := 20, ground := .data }, { on := 19, ground := .guard }], guard := some (19, true) } : Oper)) (v := ?vs4_21) rfl awake27_plain (by as_aux_lemma => kernel_rfl) (by as_aux_lemma => kernel_rfl) (fun _ _ _ h => h) (Or.inl ⟨by rfl, ?ys4_21⟩) (by assumption) ?rs4_21
      case ys4_21 => (intro w hSw; (try dsimp only at hSw); go_simp; try with_reducible rfl)
      try simp only [Act.put, List.setIfInBounds_toArray, List.set_cons_zero, List.set_cons_succ]
      refine wpAnyH_take (i := 22) (oi := ({ dst := some 55, op := .pick (.tmp 52) (.tmp 54) (.const (.bool false)), type := 4, pos := "law.go:25", after := #[{ on := 19, ground := .data }, { on := 21, ground := .data }], guard := none } : Oper)) (v := ?vs4_22) rfl awake27_plain (by as_aux_lemma => kernel_rfl) (by as_aux_lemma => kernel_rfl) (fun _ _ _ h => h) (Or.inl ⟨by rfl, ?ys4_22⟩) (by assumption) ?rs4_22
      case ys4_22 => (intro w hSw; (try dsimp only at hSw); go_simp; try with_reducible rfl)
      try simp only [Act.put, List.setIfInBounds_toArray, List.set_cons_zero, List.set_cons_succ]
      refine wpAnyH_take (i := 23) (oi := ({ dst := some 56, op := .move (.tmp 55), type := 4, pos := "law.go:25", after := #[{ on := 22, ground := .data }, { on := 19, ground := .chain }], guard := none } : Oper)) (v := ?vs4_23) rfl awake27_plain (by as_aux_lemma => kernel_rfl) (by as_aux_lemma => kernel_rfl) (fun _ _ _ h => h) (Or.inl ⟨by rfl, ?ys4_23⟩) (by assumption) ?rs4_23
      case ys4_23 => (intro w hSw; (try dsimp only at hSw); go_simp; try with_reducible rfl)
      try simp only [Act.put, List.setIfInBounds_toArray, List.set_cons_zero, List.set_cons_succ]
      refine wpAnyH_take (i := 26) (oi := ({ dst := some 59, op := .build 27 #[], type := 27, pos := "law.go:25", after := #[{ on := 23, ground := .guard }], guard := some (23, true) } : Oper)) (v := ?vs4_26) rfl awake27_plain (by as_aux_lemma => kernel_rfl) (by as_aux_lemma => kernel_rfl) (fun _ _ _ h => h) (Or.inl ⟨by rfl, ?ys4_26⟩) (by assumption) ?rs4_26
      case ys4_26 => (intro w hSw; (try dsimp only at hSw); go_simp; try with_reducible rfl)
      try simp only [Act.put, List.setIfInBounds_toArray, List.set_cons_zero, List.set_cons_succ]
      refine wpAnyH_ready (rs := [24]) (by as_aux_lemma => kernel_rfl) (by simp) ?_
      refine AllReadyH.cons (o := ({ dst := some 57, op := .call { callee := .value (.func 11), args := #[.const (.int .i64 5)], argTypes := #[2] }, type := 27, pos := "law.go:25", after := #[{ on := 23, ground := .chain }, { on := 23, ground := .guard }], guard := some (23, true) } : Oper)) rfl (fun KK hK => ?_) AllReadyH.nil
      rw [if_pos (by rfl)]
      go_simp
      go_at_call 11; refine (O5.out _).mono ?_; rintro e w5 ⟨rfl, hb5⟩
      go_wp2_with fail
      refine hK.out _ _ ?_ (fun hHeld5 => ?_)
      · exact belowT (by assumption) hb5
      clear hK KK hb5 hHeld4
      try simp only [Act.put, List.setIfInBounds_toArray, List.set_cons_zero, List.set_cons_succ]
      refine wpAnyH_ready (rs := [25]) (by as_aux_lemma => kernel_rfl) (by simp) ?_
      refine AllReadyH.cons (o := ({ dst := some 58, op := .call { callee := .value (.func 13), args := #[.tmp 57, .const (.int .i64 1)], argTypes := #[27, 3] }, type := 27, pos := "law.go:25", after := #[{ on := 24, ground := .data }, { on := 24, ground := .chain }, { on := 23, ground := .guard }], guard := some (23, true) } : Oper)) rfl (fun KK hK => ?_) AllReadyH.nil
      rw [if_pos (by rfl)]
      go_simp
      go_at_call 13; refine (K1.out _).mono ?_; rintro e w6 ⟨rfl, hb6⟩
      go_wp2_with fail
      refine hK.out _ _ ?_ (fun hHeld6 => ?_)
      · exact belowT (by assumption) hb6
      clear hK KK hb6 hHeld5
      try simp only [Act.put, List.setIfInBounds_toArray, List.set_cons_zero, List.set_cons_succ]
      refine wpAnyH_take (i := 27) (oi := ({ dst := some 60, op := .binOp .eql 27 (.tmp 58) (.tmp 59) 27, type := 4, pos := "law.go:25", after := #[{ on := 25, ground := .data }, { on := 26, ground := .data }, { on := 23, ground := .guard }], guard := some (23, true) } : Oper)) (v := ?vs4_27) rfl awake27_plain (by as_aux_lemma => kernel_rfl) (by as_aux_lemma => kernel_rfl) (fun _ _ _ h => h) (Or.inl ⟨by rfl, ?ys4_27⟩) (by assumption) ?rs4_27
      case ys4_27 => (intro w hSw; (try dsimp only at hSw); go_simp; try with_reducible rfl)
      try simp only [Act.put, List.setIfInBounds_toArray, List.set_cons_zero, List.set_cons_succ]
      refine wpAnyH_take (i := 28) (oi := ({ dst := some 61, op := .pick (.tmp 56) (.tmp 60) (.const (.bool false)), type := 4, pos := "law.go:25", after := #[{ on := 23, ground := .data }, { on := 27, ground := .data }], guard := none } : Oper)) (v := ?vs4_28) rfl awake27_plain (by as_aux_lemma => kernel_rfl) (by as_aux_lemma => kernel_rfl) (fun _ _ _ h => h) (Or.inl ⟨by rfl, ?ys4_28⟩) (by assumption) ?rs4_28
      case ys4_28 => (intro w hSw; (try dsimp only at hSw); go_simp; try with_reducible rfl)
      try simp only [Act.put, List.setIfInBounds_toArray, List.set_cons_zero, List.set_cons_succ]
      refine wpAnyH_take (i := 29) (oi := ({ dst := some 62, op := .move (.tmp 61), type := 4, pos := "law.go:25", after := #[{ on := 28, ground := .data }, { on := 25, ground := .chain }], guard := none } : Oper)) (v := ?vs4_29) rfl awake27_plain (by as_aux_lemma => kernel_rfl) (by as_aux_lemma => kernel_rfl) (fun _ _ _ h => h) (Or.inl ⟨by rfl, ?ys4_29⟩) (by assumption) ?rs4_29
      case ys4_29 => (intro w hSw; (try dsimp only at hSw); go_simp; try with_reducible rfl)
      try simp only [Act.put, List.setIfInBounds_toArray, List.set_cons_zero, List.set_cons_succ]
      refine wpAnyH_ready (rs := [30]) (by as_aux_lemma => kernel_rfl) (by simp) ?_
      refine AllReadyH.cons (o := ({ dst := some 63, op := .call { callee := .value (.func 11), args := #[.const (.int .i64 5)], argTypes := #[2] }, type := 27, pos := "law.go:25", after := #[{ on := 29, ground := .chain }, { on := 29, ground := .guard }], guard := some (29, true) } : Oper)) rfl (fun KK hK => ?_) AllReadyH.nil
      rw [if_pos (by rfl)]
      go_simp
      go_at_call 11; refine (O5.out _).mono ?_; rintro e w7 ⟨rfl, hb7⟩
      go_wp2_with fail
      refine hK.out _ _ ?_ (fun hHeld7 => ?_)
      · exact belowT (by assumption) hb7
      clear hK KK hb7 hHeld6
      try simp only [Act.put, List.setIfInBounds_toArray, List.set_cons_zero, List.set_cons_succ]
      refine wpAnyH_ready (rs := [31]) (by as_aux_lemma => kernel_rfl) (by simp) ?_
      refine AllReadyH.cons (o := ({ dst := some 64, op := .call { callee := .value (.func 13), args := #[.tmp 63, .const (.int .i64 2)], argTypes := #[27, 3] }, type := 27, pos := "law.go:25", after := #[{ on := 30, ground := .data }, { on := 30, ground := .chain }, { on := 29, ground := .guard }], guard := some (29, true) } : Oper)) rfl (fun KK hK => ?_) AllReadyH.nil
      rw [if_pos (by rfl)]
      go_simp
      go_at_call 13; refine (K2.out _).mono ?_; rintro e w8 ⟨rfl, hb8⟩
      go_wp2_with fail
      refine hK.out _ _ ?_ (fun hHeld8 => ?_)
      · exact belowT (by assumption) hb8
      clear hK KK hb8 hHeld7
      try simp only [Act.put, List.setIfInBounds_toArray, List.set_cons_zero, List.set_cons_succ]
      refine wpAnyH_ready (rs := [32]) (by as_aux_lemma => kernel_rfl) (by simp) ?_
      refine AllReadyH.cons (o := ({ dst := some 65, op := .call { callee := .value (.func 11), args := #[.const (.int .i64 5)], argTypes := #[2] }, type := 27, pos := "law.go:25", after := #[{ on := 31, ground := .chain }, { on := 29, ground := .guard }], guard := some (29, true) } : Oper)) rfl (fun KK hK => ?_) AllReadyH.nil
      rw [if_pos (by rfl)]
      go_simp
      go_at_call 11; refine (O5.out _).mono ?_; rintro e w9 ⟨rfl, hb9⟩
      go_wp2_with fail
      refine hK.out _ _ ?_ (fun hHeld9 => ?_)
      · exact belowT (by assumption) hb9
      clear hK KK hb9 hHeld8
      try simp only [Act.put, List.setIfInBounds_toArray, List.set_cons_zero, List.set_cons_succ]
      refine wpAnyH_take (i := 33) (oi := ({ dst := some 66, op := .binOp .eql 27 (.tmp 64) (.tmp 65) 27, type := 4, pos := "law.go:25", after := #[{ on := 31, ground := .data }, { on := 32, ground := .data }, { on := 29, ground := .guard }], guard := some (29, true) } : Oper)) (v := ?vs4_33) rfl awake27_plain (by as_aux_lemma => kernel_rfl) (by as_aux_lemma => kernel_rfl) (fun _ _ _ h => h) (Or.inl ⟨by rfl, ?ys4_33⟩) (by assumption) ?rs4_33
      case ys4_33 => (intro w hSw; (try dsimp only at hSw); go_simp; try with_reducible rfl)
      try simp only [Act.put, List.setIfInBounds_toArray, List.set_cons_zero, List.set_cons_succ]
      refine wpAnyH_take (i := 34) (oi := ({ dst := some 67, op := .pick (.tmp 62) (.tmp 66) (.const (.bool false)), type := 4, pos := "law.go:25", after := #[{ on := 29, ground := .data }, { on := 33, ground := .data }], guard := none } : Oper)) (v := ?vs4_34) rfl awake27_plain (by as_aux_lemma => kernel_rfl) (by as_aux_lemma => kernel_rfl) (fun _ _ _ h => h) (Or.inl ⟨by rfl, ?ys4_34⟩) (by assumption) ?rs4_34
      case ys4_34 => (intro w hSw; (try dsimp only at hSw); go_simp; try with_reducible rfl)
      try simp only [Act.put, List.setIfInBounds_toArray, List.set_cons_zero, List.set_cons_succ]
      refine wpAnyH_take (i := 35) (oi := ({ dst := some 0, op := .assign (.tmp 67), type := 4, pos := "law.go:25", after := #[{ on := 34, ground := .data }, { on := 32, ground := .chain }, { on := 0, ground := .phase }, { on := 1, ground := .phase }, { on := 2, ground := .phase }, { on := 3, ground := .phase }, { on := 4, ground := .phase }, { on := 5, ground := .phase }, { on := 6, ground := .phase }, { on := 7, ground := .phase }, { on := 8, ground := .phase }, { on := 9, ground := .phase }, { on := 10, ground := .phase }, { on := 11, ground := .phase }, { on := 12, ground := .phase }, { on := 13, ground := .phase }, { on := 14, ground := .phase }, { on := 15, ground := .phase }, { on := 16, ground := .phase }, { on := 17, ground := .phase }, { on := 18, ground := .phase }, { on := 19, ground := .phase }, { on := 20, ground := .phase }, { on := 21, ground := .phase }, { on := 22, ground := .phase }, { on := 23, ground := .phase }, { on := 24, ground := .phase }, { on := 25, ground := .phase }, { on := 26, ground := .phase }, { on := 27, ground := .phase }, { on := 28, ground := .phase }, { on := 29, ground := .phase }, { on := 30, ground := .phase }, { on := 31, ground := .phase }, { on := 32, ground := .phase }, { on := 33, ground := .phase }, { on := 34, ground := .phase }], guard := none } : Oper)) (v := ?vs4_35) rfl awake27_plain (by as_aux_lemma => kernel_rfl) (by as_aux_lemma => kernel_rfl) (fun _ _ _ h => h) (Or.inl ⟨by rfl, ?ys4_35⟩) (by assumption) ?rs4_35
      case ys4_35 => (intro w hSw; (try dsimp only at hSw); go_simp; try with_reducible rfl)
      try simp only [Act.put, List.setIfInBounds_toArray, List.set_cons_zero]
      refine wpAnyH_done (by as_aux_lemma => kernel_rfl) ?_ _
      refine NoPanic.normal ?_
      go_wp2_with fail
      go_ret
      exact ⟨rfl, V2.out.trans (Below.mono (by assumption) V2.out.size)⟩
end Go.Proofs.Ytkjnjhdanbjmpaa
