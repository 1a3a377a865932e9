/- HypoParts. -/
import Derived.Test.YtaooigldchojcaaDoorHypAwake
import Derived.Test.YtaooigldchojcaaDoorHypLeast
import Derived.Test.YtaooigldchojcaaDoorHypInts
import Derived.Test.YtaooigldchojcaaDoorRebase
import Derived.Deep.Cut
import Derived.Deep.CutBlock
import Derived.Deep.CutRange
import Derived.Deep.RegionHeld3
import Derived.BigQuiet
namespace Go.Proofs.YtaooigldchojcaaDoor
open Go.RowKit

/-- The operations of a drawn region, as the translation has them. -/
def parts14 : Array Oper := #[
  { dst := some 42, op := .move (.tmp 5), type := 34, pos := "law.go:114", after := #[], guard := none },
  { dst := some 43, op := .call { callee := .builtin .len, args := #[.tmp 42], argTypes := #[34] }, type := 3, pos := "law.go:114", after := #[{ on := 0, ground := .data }], guard := none },
  { dst := some 44, op := .binOp .eql 3 (.tmp 43) (.const (.int .i64 0)) 3, type := 4, pos := "law.go:114", after := #[{ on := 1, ground := .data }], guard := none },
  { dst := some 45, op := .load 26 (.tmp 2), type := 26, pos := "law.go:114", after := #[], guard := none },
  { dst := some 46, op := .call { callee := .value (.func 10), args := #[.tmp 45], argTypes := #[26] }, type := 4, pos := "law.go:114", after := #[{ on := 3, ground := .data }], guard := none },
  { dst := some 47, op := .unOp .not 4 (.tmp 46), type := 4, pos := "law.go:114", after := #[{ on := 4, ground := .data }], guard := none },
  { dst := some 48, op := .binOp .neq 4 (.tmp 44) (.tmp 47) 4, type := 4, pos := "law.go:114", after := #[{ on := 2, ground := .data }, { on := 5, ground := .data }], guard := none },
  { dst := some 49, op := .move (.tmp 48), type := 4, pos := "law.go:114", after := #[{ on := 6, ground := .data }, { on := 4, ground := .chain }], guard := none },
  { dst := some 50, op := .move (.tmp 5), type := 34, pos := "law.go:114", after := #[{ on := 7, ground := .guard }], guard := some (7, false) },
  { dst := some 51, op := .call { callee := .builtin .len, args := #[.tmp 50], argTypes := #[34] }, type := 3, pos := "law.go:114", after := #[{ on := 8, ground := .data }, { on := 7, ground := .guard }], guard := some (7, false) },
  { dst := some 52, op := .binOp .eql 3 (.tmp 51) (.const (.int .i64 1)) 3, type := 4, pos := "law.go:114", after := #[{ on := 9, ground := .data }, { on := 7, ground := .guard }], guard := some (7, false) },
  { dst := some 53, op := .move (.tmp 52), type := 4, pos := "law.go:114", after := #[{ on := 10, ground := .data }, { on := 7, ground := .chain }, { on := 7, ground := .guard }], guard := some (7, false) },
  { dst := some 54, op := .load 26 (.tmp 2), type := 26, pos := "law.go:114", after := #[{ on := 11, ground := .guard }], guard := some (11, true) },
  { dst := some 55, op := .call { callee := .value (.func 12), args := #[.tmp 54], argTypes := #[26] }, type := 3, pos := "law.go:114", after := #[{ on := 12, ground := .data }, { on := 11, ground := .chain }, { on := 11, ground := .guard }], guard := some (11, true) },
  { dst := some 56, op := .move (.tmp 5), type := 34, pos := "law.go:114", after := #[{ on := 11, ground := .guard }], guard := some (11, true) },
  { dst := some 57, op := .indexAddr 34 (.tmp 56) (.const (.int .i64 0)), type := 0, pos := "law.go:114", after := #[{ on := 14, ground := .data }, { on := 11, ground := .guard }], guard := some (11, true) },
  { dst := some 58, op := .load 3 (.tmp 57), type := 3, pos := "law.go:114", after := #[{ on := 15, ground := .data }, { on := 11, ground := .guard }], guard := some (11, true) },
  { dst := some 59, op := .binOp .neq 3 (.tmp 55) (.tmp 58) 3, type := 4, pos := "law.go:114", after := #[{ on := 13, ground := .data }, { on := 16, ground := .data }, { on := 11, ground := .guard }], guard := some (11, true) },
  { dst := some 60, op := .move (.tmp 59), type := 4, pos := "law.go:114", after := #[{ on := 17, ground := .data }, { on := 13, ground := .chain }, { on := 11, ground := .guard }], guard := some (11, true) },
  { dst := some 61, op := .load 26 (.tmp 2), type := 26, pos := "law.go:114", after := #[{ on := 18, ground := .guard }], guard := some (18, false) },
  { dst := some 62, op := .call { callee := .value (.func 14), args := #[.tmp 61], argTypes := #[26] }, type := 4, pos := "law.go:114", after := #[{ on := 19, ground := .data }, { on := 18, ground := .chain }, { on := 18, ground := .guard }], guard := some (18, false) },
  { dst := some 63, op := .pick (.tmp 60) (.const (.bool true)) (.tmp 62), type := 4, pos := "law.go:114", after := #[{ on := 18, ground := .data }, { on := 20, ground := .data }, { on := 11, ground := .guard }], guard := some (11, true) },
  { dst := some 64, op := .pick (.tmp 53) (.tmp 63) (.const (.bool false)), type := 4, pos := "law.go:114", after := #[{ on := 11, ground := .data }, { on := 21, ground := .data }, { on := 7, ground := .guard }], guard := some (7, false) },
  { dst := some 65, op := .pick (.tmp 49) (.const (.bool true)) (.tmp 64), type := 4, pos := "law.go:114", after := #[{ on := 7, ground := .data }, { on := 22, ground := .data }], guard := none },
  { dst := some 66, op := .move (.tmp 65), type := 4, pos := "law.go:114", after := #[{ on := 23, ground := .data }, { on := 20, ground := .chain }], guard := none },
  { dst := some 67, op := .move (.tmp 5), type := 34, pos := "law.go:114", after := #[{ on := 24, ground := .guard }], guard := some (24, false) },
  { dst := some 68, op := .call { callee := .builtin .len, args := #[.tmp 67], argTypes := #[34] }, type := 3, pos := "law.go:114", after := #[{ on := 25, ground := .data }, { on := 24, ground := .guard }], guard := some (24, false) },
  { dst := some 69, op := .binOp .gtr 3 (.tmp 68) (.const (.int .i64 1)) 3, type := 4, pos := "law.go:114", after := #[{ on := 26, ground := .data }, { on := 24, ground := .guard }], guard := some (24, false) },
  { dst := some 70, op := .move (.tmp 69), type := 4, pos := "law.go:114", after := #[{ on := 27, ground := .data }, { on := 24, ground := .chain }, { on := 24, ground := .guard }], guard := some (24, false) },
  { dst := some 71, op := .load 26 (.tmp 2), type := 26, pos := "law.go:114", after := #[{ on := 28, ground := .guard }], guard := some (28, true) },
  { dst := some 72, op := .call { callee := .value (.func 14), args := #[.tmp 71], argTypes := #[26] }, type := 4, pos := "law.go:114", after := #[{ on := 29, ground := .data }, { on := 28, ground := .chain }, { on := 28, ground := .guard }], guard := some (28, true) },
  { dst := some 73, op := .unOp .not 4 (.tmp 72), type := 4, pos := "law.go:114", after := #[{ on := 30, ground := .data }, { on := 28, ground := .guard }], guard := some (28, true) },
  { dst := some 74, op := .pick (.tmp 70) (.tmp 73) (.const (.bool false)), type := 4, pos := "law.go:114", after := #[{ on := 28, ground := .data }, { on := 31, ground := .data }, { on := 24, ground := .guard }], guard := some (24, false) },
  { dst := some 75, op := .pick (.tmp 66) (.const (.bool true)) (.tmp 74), type := 4, pos := "law.go:114", after := #[{ on := 24, ground := .data }, { on := 32, ground := .data }], guard := none }]
theorem parts14_plain : Region.noSelect parts14 = true := by kernel_rfl

/-- The operations of a drawn region, as the translation has them. -/
def parts17 : Array Oper := #[
  { dst := some 86, op := .call { callee := .value (.func 20), args := #[], argTypes := #[] }, type := 38, pos := "law.go:118", after := #[], guard := none },
  { dst := some 87, op := .move (.tmp 11), type := 3, pos := "law.go:118", after := #[], guard := none },
  { dst := some 88, op := .index 38 (.tmp 86) (.tmp 87), type := 3, pos := "law.go:118", after := #[{ on := 0, ground := .data }, { on := 1, ground := .data }], guard := none },
  { dst := some 89, op := .call { callee := .value (.func 20), args := #[], argTypes := #[] }, type := 38, pos := "law.go:118", after := #[{ on := 0, ground := .chain }], guard := none },
  { dst := some 90, op := .move (.tmp 12), type := 3, pos := "law.go:118", after := #[], guard := none },
  { dst := some 91, op := .index 38 (.tmp 89) (.tmp 90), type := 3, pos := "law.go:118", after := #[{ on := 3, ground := .data }, { on := 4, ground := .data }], guard := none },
  { dst := some 92, op := .call { callee := .value (.func 27), args := #[.tmp 88, .tmp 91], argTypes := #[3, 3] }, type := 34, pos := "law.go:118", after := #[{ on := 2, ground := .data }, { on := 5, ground := .data }, { on := 3, ground := .chain }], guard := none },
  { dst := some 93, op := .call { callee := .builtin .len, args := #[.tmp 92], argTypes := #[34] }, type := 3, pos := "law.go:118", after := #[{ on := 6, ground := .data }], guard := none },
  { dst := some 94, op := .binOp .eql 3 (.tmp 93) (.const (.int .i64 0)) 3, type := 4, pos := "law.go:118", after := #[{ on := 7, ground := .data }], guard := none },
  { dst := some 95, op := .move (.tmp 11), type := 3, pos := "law.go:118", after := #[], guard := none },
  { dst := some 96, op := .move (.tmp 12), type := 3, pos := "law.go:118", after := #[], guard := none },
  { dst := some 97, op := .binOp .eql 3 (.tmp 95) (.tmp 96) 3, type := 4, pos := "law.go:118", after := #[{ on := 9, ground := .data }, { on := 10, ground := .data }], guard := none },
  { dst := some 98, op := .binOp .eql 4 (.tmp 94) (.tmp 97) 4, type := 4, pos := "law.go:118", after := #[{ on := 8, ground := .data }, { on := 11, ground := .data }], guard := none },
  { dst := some 99, op := .move (.tmp 98), type := 4, pos := "law.go:118", after := #[{ on := 12, ground := .data }, { on := 6, ground := .chain }], guard := none },
  { dst := some 100, op := .call { callee := .value (.func 18), args := #[], argTypes := #[] }, type := 4, pos := "law.go:118", after := #[{ on := 13, ground := .chain }, { on := 13, ground := .guard }], guard := some (13, true) },
  { dst := some 101, op := .pick (.tmp 99) (.tmp 100) (.const (.bool false)), type := 4, pos := "law.go:118", after := #[{ on := 13, ground := .data }, { on := 14, ground := .data }], guard := none },
  { dst := some 4, op := .assign (.tmp 101), type := 4, pos := "law.go:118", after := #[{ on := 15, ground := .data }, { on := 14, ground := .chain }, { on := 0, ground := .phase }, { on := 1, ground := .phase }, { on := 2, ground := .phase }, { on := 3, ground := .phase }, { on := 4, ground := .phase }, { on := 5, ground := .phase }, { on := 6, ground := .phase }, { on := 7, ground := .phase }, { on := 8, ground := .phase }, { on := 9, ground := .phase }, { on := 10, ground := .phase }, { on := 11, ground := .phase }, { on := 12, ground := .phase }, { on := 13, ground := .phase }, { on := 14, ground := .phase }, { on := 15, ground := .phase }], guard := none }]
theorem parts17_plain : Region.noSelect parts17 = true := by kernel_rfl


theorem Hyp.any_take {l : List Nat} {h j : Nat} (hj : j < l.length) : ((l.take (j + 1)).any fun p => Sub.within p h) = (((l.take j).any fun p => Sub.within p h) || Sub.within (l.getD j 0) h) := by
  rw [Hyp.take_one hj, List.any_append]
  simp

namespace Law23
set_option maxHeartbeats 8000000 in
set_option maxRecDepth 100000 in
theorem Parts_nil (al : List Bool) (hl : al.length = 22) (a c : Int) (m k : Nat) (hm : m < 22) (hk : k < 22) (em : (IntKind.u64.wrap a).tmod 22 = m) (em' : wrap64 ((IntKind.u64.wrap a).tmod 22) = m) (ek : (IntKind.u64.wrap c).tmod 22 = k) (ek' : wrap64 ((IntKind.u64.wrap c).tmod 22) = k)
    (ns : List Nat) (hns : ns = Hyp.parts al) (hc : ns = []) (w : World) (n : PairsAt w) :
    Calls Tryd.prog 7 #[.agg (bl al), .agg #[.int .i64 a, .int .i64 c]] w fun e w' => e = .returned (.bool true) ∧ Below w.heap.size w w' := by
  have L1 := Lib.hid (fun w n => lies_out (Lan23.Parts_any al hl w n))
  rw [← hns] at L1
  have hle : ns.length ≤ 22 := by rw [hns]; exact Hyp.parts_len al
  have HLT : Hid (∀ x ∈ ns, x < 64) := Lib.hid fun x h => by rw [hns] at h; exact Hyp.parts_lt h
  have HFO : Hid (∀ j, j < 22 → al.getD j false = true → (ns.any fun p => Sub.within p (Hyp.setN j)) = true) := Lib.hid fun j h1 h2 => by rw [hns]; exact Hyp.found_of al j h1 h2
  have QA : Hid (∀ w, PairsAt w → Calls Tryd.prog 10 #[.agg (bl al)] w fun e w' => e = .returned (.bool false) ∧ Below w.heap.size w w') := Lib.hid fun w n => by
    have h := Lan23.Any_any al hl w n
    rwa [Hyp.parts_nil al (hns ▸ hc)] at h
  have AW := Lib.hid awake_any
  have TL := Lib.hid (fun w n => lies_out (Lan23.Tell_any (Hyp.setN m : Int) (Hyp.setN k : Int) w n))
  have TI := Lib.hid (Hyp.tell_iff m k hm hk)
  have HY := Lib.hid (fun w n => Lan11.Hypos_any w n)
  have hxm := fun w => hypoCell_at m hm w
  have hxk := fun w => hypoCell_at k hk w
  rw [Hyp.num_set m hm] at hxm
  rw [Hyp.num_set k hk] at hxk
  have HXM := Lib.hid hxm
  have HXK := Lib.hid hxk
  have HI := Lib.hid hypoCell_at
  have EM := Lib.hid (And.intro em (And.intro em' (And.intro ek ek')))
  have HMK : Hid (m < 22 ∧ k < 22) := Lib.hid ⟨hm, hk⟩
  have iA := info22 hl
  have SZ : Hid ((Tryd.prog.info? 26).map (·.size) = some (bl al).size) := Lib.hid iA
  generalize hypoCells = harr at *
  obtain ⟨W0, hW0⟩ : ∃ W0, W0 = (w.alloc (.cells (bl al) 26)).alloc (.cells #[.int .i64 a, .int .i64 c] 27) := ⟨_, rfl⟩
  have B0 : Below w.heap.size w W0 := hW0 ▸ below2 w _ _
  have N0 := Lib.hid (n.keep B0)
  have HAL : Hid (ArrB W0 w.heap.size al) := Lib.hid (by rw [hW0]; exact (ArrB.new w al _).keep (below1 _ _))
  have HC0 : Hid (Own2 W0 (w.heap.size + 1) (.int .i64 a) (.int .i64 c)) := Lib.hid (by rw [hW0]; exact own2b w _ _ _ _)
  have HRA : Hid (∀ w', ArrB w' w.heap.size al → w'.rangeAt w.heap.size 0 (bl al).toList) := Lib.hid fun _ h => h
  have RA0 := HRA.out _ HAL.out
  have HCC := Lib.hid hc
  clear hc hns hxm hxk em em' ek ek' hm hk
  generalize bl al = arr at *
  generalize Hyp.ints (Hyp.tell (Hyp.setN m : Int) (Hyp.setN k : Int) 15) = tl at *
  have HB0 := Lib.hid B0
  clear B0
  go_enter Tryd.func7, Tryd.ntmps7
  go_upto_region 1 with fail
  rw [← hW0]
  clear hW0
  go_wp2_with (refine list_load_any rfl 26 _ rfl _ 0 rfl arr _ RA0 Tryd.underlying26 rfl iA ?_)
  clear RA0
  refine (L1.out W0 N0.out).mono ?_
  rintro e w1 ⟨ba, cap, rfl, D1, hb1⟩
  have HL := Lib.hid D1
  have HB1 := Lib.hid (belowT HB0.out hb1)
  have N1 := Lib.hid (N0.out.keep hb1)
  have HAL1 := Lib.hid (HAL.out.keep hb1)
  have HC1 := Lib.hid (HC0.out.keep hb1)
  clear D1 hb1 HB0 N0 HAL HC0 L1
  rw [Hyp.ints_len]
  go_wp2_with fail
  refine (HY.out w1 N1.out).mono ?_
  rintro e w2 ⟨rfl, hb2⟩
  have HL2 := Lib.hid (HL.out.keep hb2)
  have HB2 := Lib.hid (belowT HB1.out hb2)
  have N2 := Lib.hid (N1.out.keep hb2)
  have HAL2 := Lib.hid (HAL1.out.keep hb2)
  have HC2 := Lib.hid (HC1.out.keep hb2)
  clear hb2 HL HB1 N1 HAL1 HC1
  go_wp2
  go_loop [16] (fun i => ∃ j : Nat, j ≤ 22 ∧ i = .int .i64 j) (fun i => 22 - (intOf i).toNat)
  case atStart => exact ⟨0, by omega, rfl⟩
  case round =>
    obtain ⟨j, hj, rfl⟩ := hrel
    by_cases h22 : (j : Int) < 22
    · have HJ : Hid (j < 22) := Lib.hid (by omega)
      have hix := HI.out j HJ.out
      rw [Hyp.num_set j HJ.out] at hix
      have hcell := HAL2.out.at j (by rw [hl]; exact HJ.out)
      have HCE := Lib.hid hcell
      clear hcell
      go_wp2
      go_loop [8, 22] (fun v i => ∃ q : Nat, q ≤ ns.length ∧ i = .int .i64 q ∧ v = .bool ((ns.take q).any fun p => Sub.within p (Hyp.setN j))) (fun _ i => 22 - (intOf i).toNat)
      case atStart => exact ⟨0, by omega, rfl, rfl⟩
      case round =>
        clear hix
        obtain ⟨q, hq, rfl, rfl⟩ := hrel
        by_cases hlt : (q : Int) < ns.length
        · have hqn : q < ns.length := by omega
          obtain ⟨g, rfl, hc⟩ := HL2.out (by rw [Hyp.ints_len]; omega)
          have c1 := hc q (by rw [Hyp.ints_len]; exact hqn)
          rw [Hyp.ints_at] at c1
          have h64 : ns.getD q 0 < 64 := by
            rw [List.getD_eq_getElem?_getD, List.getElem?_eq_getElem hqn]
            exact HLT.out _ (List.getElem_mem hqn)
          have HT := Lib.hid (Hyp.any_take (h := Hyp.setN j) hqn)
          have han := Sub.andNot_bits (ns.getD q 0) h64 (Hyp.setN j : Int)
          rw [Hyp.low_set] at han
          generalize ns.getD q 0 = z at *
          generalize (ns.take q).any (fun p => Sub.within p (Hyp.setN j)) = f0 at *
          generalize Sub.within z (Hyp.setN j) = f1 at *
          clear hc hqn h64
          cases f0
          · go_wp2
            go_round
            case rel => exact ⟨q + 1, by omega, rfl, by rw [HT.out]; rfl⟩
            case measure => simp [intOf]; omega
          · clear han
            go_wp2
            go_round
            case rel => exact ⟨q + 1, by omega, rfl, by rw [HT.out]; rfl⟩
            case measure => simp [intOf]; omega
        · obtain rfl : q = ns.length := by omega
          rw [List.take_length]
          have hcell := HCE.out
          have HF := Lib.hid (HFO.out j HJ.out)
          generalize (ns.any fun p => Sub.within p (Hyp.setN j)) = f0 at *
          cases hq2 : al.getD j false
          · rw [hq2] at hcell
            clear hq2
            go_wp2
            go_round
            case rel => exact ⟨j + 1, by omega, rfl⟩
            case measure => simp [intOf]; omega
          · rw [hq2] at hcell
            have := HF.out hq2
            subst this
            clear hq2
            go_wp2
            go_round
            case rel => exact ⟨j + 1, by omega, rfl⟩
            case measure => simp [intOf]; omega
    · obtain rfl : j = 22 := by omega
      have RA : ∀ w', Below w2.heap.size w2 w' → w'.rangeAt w.heap.size 0 arr.toList := fun w' h => HRA.out _ (HAL2.out.keep h)
      have PN : Hid (∀ w', Below w2.heap.size w2 w' → PairsAt w') := Lib.hid fun w' h => N2.out.keep h
      have hlen : ns.length = 0 := by rw [HCC.out]; rfl
      generalize ns.length = L at *
      subst hlen
      clear HI HFO HLT hle
      go_upto_region 14 with fail
      change (Code.region 14 parts14 true).wp Tryd.prog _ _ _
      refine wp_region_noPanic ?_
      refine wp_region_held_drew (S := fun w' => Below w2.heap.size w2 w') (by kernel_rfl) ((Below.refl _ _).drew) (fun hHeld => ?_)
      refine wpAnyH_take (i := 0) (oi := ({ dst := some 42, op := .move (.tmp 5), type := 34, pos := "law.go:114", after := #[], guard := none } : Oper)) (v := ?vs1_0) rfl parts14_plain (by as_aux_lemma => kernel_rfl) (by as_aux_lemma => kernel_rfl) (fun _ _ _ h => h) (Or.inl ⟨by rfl, ?ys1_0⟩) (by assumption) ?rs1_0
      case ys1_0 => (intro w hSw; (try dsimp only at hSw); go_simp; try with_reducible rfl)
      try simp only [Act.put, List.setIfInBounds_toArray, List.set_cons_zero, List.set_cons_succ]
      refine wpAnyH_take (i := 1) (oi := ({ dst := some 43, op := .call { callee := .builtin .len, args := #[.tmp 42], argTypes := #[34] }, type := 3, pos := "law.go:114", after := #[{ on := 0, ground := .data }], guard := none } : Oper)) (v := ?vs1_1) rfl parts14_plain (by as_aux_lemma => kernel_rfl) (by as_aux_lemma => kernel_rfl) (fun _ _ _ h => h) (Or.inl ⟨by rfl, ?ys1_1⟩) (by assumption) ?rs1_1
      case ys1_1 => (intro w hSw; (try dsimp only at hSw); go_simp; try with_reducible rfl)
      try simp only [Act.put, List.setIfInBounds_toArray, List.set_cons_zero, List.set_cons_succ]
      refine wpAnyH_take (i := 2) (oi := ({ dst := some 44, op := .binOp .eql 3 (.tmp 43) (.const (.int .i64 0)) 3, type := 4, pos := "law.go:114", after := #[{ on := 1, ground := .data }], guard := none } : Oper)) (v := ?vs1_2) rfl parts14_plain (by as_aux_lemma => kernel_rfl) (by as_aux_lemma => kernel_rfl) (fun _ _ _ h => h) (Or.inl ⟨by rfl, ?ys1_2⟩) (by assumption) ?rs1_2
      case ys1_2 => (intro w hSw; (try dsimp only at hSw); go_simp; try with_reducible rfl)
      try simp only [Act.put, List.setIfInBounds_toArray, List.set_cons_zero, List.set_cons_succ]
      refine wpAnyH_take (i := 3) (oi := ({ dst := some 45, op := .load 26 (.tmp 2), type := 26, pos := "law.go:114", after := #[], guard := none } : Oper)) rfl parts14_plain (by as_aux_lemma => kernel_rfl) (by as_aux_lemma => kernel_rfl) (fun _ _ _ h => h) (yields_load (by rfl) 26 _ rfl _ _ rfl _ _ RA Tryd.underlying26 rfl iA) (by assumption) ?_
      try simp only [Act.put, List.setIfInBounds_toArray, List.set_cons_zero, List.set_cons_succ]
      refine wpAnyH_ready (rs := [4]) (by as_aux_lemma => kernel_rfl) (by simp) ?_
      refine AllReadyH.cons (o := ({ dst := some 46, op := .call { callee := .value (.func 10), args := #[.tmp 45], argTypes := #[26] }, type := 4, pos := "law.go:114", after := #[{ on := 3, ground := .data }], guard := none } : Oper)) rfl (fun KK hK => ?_) AllReadyH.nil
      rw [if_pos (by rfl)]
      go_simp
      go_at_call 10; refine (QA.out _ (PN.out _ (by assumption))).mono ?_; rintro e w10 ⟨rfl, hb10⟩
      go_wp2_with fail
      refine hK.out _ _ ?_ (fun hHeld10 => ?_)
      · exact belowT (by assumption) hb10
      clear hK KK hb10
      try simp only [Act.put, List.setIfInBounds_toArray, List.set_cons_zero, List.set_cons_succ]
      refine wpAnyH_take (i := 5) (oi := ({ dst := some 47, op := .unOp .not 4 (.tmp 46), type := 4, pos := "law.go:114", after := #[{ on := 4, ground := .data }], guard := none } : Oper)) (v := ?vs1_5) rfl parts14_plain (by as_aux_lemma => kernel_rfl) (by as_aux_lemma => kernel_rfl) (fun _ _ _ h => h) (Or.inl ⟨by rfl, ?ys1_5⟩) (by assumption) ?rs1_5
      case ys1_5 => (intro w hSw; (try dsimp only at hSw); go_simp; try with_reducible rfl)
      try simp only [Act.put, List.setIfInBounds_toArray, List.set_cons_zero, List.set_cons_succ]
      refine wpAnyH_take (i := 6) (oi := ({ dst := some 48, op := .binOp .neq 4 (.tmp 44) (.tmp 47) 4, type := 4, pos := "law.go:114", after := #[{ on := 2, ground := .data }, { on := 5, ground := .data }], guard := none } : Oper)) (v := ?vs1_6) rfl parts14_plain (by as_aux_lemma => kernel_rfl) (by as_aux_lemma => kernel_rfl) (fun _ _ _ h => h) (Or.inl ⟨by rfl, ?ys1_6⟩) (by assumption) ?rs1_6
      case ys1_6 => (intro w hSw; (try dsimp only at hSw); go_simp; try with_reducible rfl)
      try simp only [Act.put, List.setIfInBounds_toArray, List.set_cons_zero, List.set_cons_succ]
      refine wpAnyH_take (i := 7) (oi := ({ dst := some 49, op := .move (.tmp 48), type := 4, pos := "law.go:114", after := #[{ on := 6, ground := .data }, { on := 4, ground := .chain }], guard := none } : Oper)) (v := ?vs1_7) rfl parts14_plain (by as_aux_lemma => kernel_rfl) (by as_aux_lemma => kernel_rfl) (fun _ _ _ h => h) (Or.inl ⟨by rfl, ?ys1_7⟩) (by assumption) ?rs1_7
      case ys1_7 => (intro w hSw; (try dsimp only at hSw); go_simp; try with_reducible rfl)
      try simp only [Act.put, List.setIfInBounds_toArray, List.set_cons_zero, List.set_cons_succ]
      refine wpAnyH_take (i := 8) (oi := ({ dst := some 50, op := .move (.tmp 5), type := 34, pos := "law.go:114", after := #[{ on := 7, ground := .guard }], guard := some (7, false) } : Oper)) (v := ?vs1_8) rfl parts14_plain (by as_aux_lemma => kernel_rfl) (by as_aux_lemma => kernel_rfl) (fun _ _ _ h => h) (Or.inl ⟨by rfl, ?ys1_8⟩) (by assumption) ?rs1_8
      case ys1_8 => (intro w hSw; (try dsimp only at hSw); go_simp; try with_reducible rfl)
      try simp only [Act.put, List.setIfInBounds_toArray, List.set_cons_zero, List.set_cons_succ]
      refine wpAnyH_take (i := 9) (oi := ({ dst := some 51, op := .call { callee := .builtin .len, args := #[.tmp 50], argTypes := #[34] }, type := 3, pos := "law.go:114", after := #[{ on := 8, ground := .data }, { on := 7, ground := .guard }], guard := some (7, false) } : Oper)) (v := ?vs1_9) rfl parts14_plain (by as_aux_lemma => kernel_rfl) (by as_aux_lemma => kernel_rfl) (fun _ _ _ h => h) (Or.inl ⟨by rfl, ?ys1_9⟩) (by assumption) ?rs1_9
      case ys1_9 => (intro w hSw; (try dsimp only at hSw); go_simp; try with_reducible rfl)
      try simp only [Act.put, List.setIfInBounds_toArray, List.set_cons_zero, List.set_cons_succ]
      refine wpAnyH_take (i := 10) (oi := ({ dst := some 52, op := .binOp .eql 3 (.tmp 51) (.const (.int .i64 1)) 3, type := 4, pos := "law.go:114", after := #[{ on := 9, ground := .data }, { on := 7, ground := .guard }], guard := some (7, false) } : Oper)) (v := ?vs1_10) rfl parts14_plain (by as_aux_lemma => kernel_rfl) (by as_aux_lemma => kernel_rfl) (fun _ _ _ h => h) (Or.inl ⟨by rfl, ?ys1_10⟩) (by assumption) ?rs1_10
      case ys1_10 => (intro w hSw; (try dsimp only at hSw); go_simp; try with_reducible rfl)
      try simp only [Act.put, List.setIfInBounds_toArray, List.set_cons_zero, List.set_cons_succ]
      refine wpAnyH_take (i := 11) (oi := ({ dst := some 53, op := .move (.tmp 52), type := 4, pos := "law.go:114", after := #[{ on := 10, ground := .data }, { on := 7, ground := .chain }, { on := 7, ground := .guard }], guard := some (7, false) } : Oper)) (v := ?vs1_11) rfl parts14_plain (by as_aux_lemma => kernel_rfl) (by as_aux_lemma => kernel_rfl) (fun _ _ _ h => h) (Or.inl ⟨by rfl, ?ys1_11⟩) (by assumption) ?rs1_11
      case ys1_11 => (intro w hSw; (try dsimp only at hSw); go_simp; try with_reducible rfl)
      try simp only [Act.put, List.setIfInBounds_toArray, List.set_cons_zero, List.set_cons_succ]
      refine wpAnyH_take (i := 12) (oi := ({ dst := some 54, op := .load 26 (.tmp 2), type := 26, pos := "law.go:114", after := #[{ on := 11, ground := .guard }], guard := some (11, true) } : Oper)) (v := undef) rfl parts14_plain (by as_aux_lemma => kernel_rfl) (by as_aux_lemma => kernel_rfl) (fun _ _ _ h => h) (Or.inr ⟨by rfl, rfl⟩) (by assumption) ?_
      try simp only [Act.put, List.setIfInBounds_toArray, List.set_cons_zero, List.set_cons_succ]
      refine wpAnyH_take (i := 13) (oi := ({ dst := some 55, op := .call { callee := .value (.func 12), args := #[.tmp 54], argTypes := #[26] }, type := 3, pos := "law.go:114", after := #[{ on := 12, ground := .data }, { on := 11, ground := .chain }, { on := 11, ground := .guard }], guard := some (11, true) } : Oper)) (v := undef) rfl parts14_plain (by as_aux_lemma => kernel_rfl) (by as_aux_lemma => kernel_rfl) (fun _ _ _ h => h) (Or.inr ⟨by rfl, rfl⟩) (by assumption) ?_
      try simp only [Act.put, List.setIfInBounds_toArray, List.set_cons_zero, List.set_cons_succ]
      refine wpAnyH_take (i := 14) (oi := ({ dst := some 56, op := .move (.tmp 5), type := 34, pos := "law.go:114", after := #[{ on := 11, ground := .guard }], guard := some (11, true) } : Oper)) (v := undef) rfl parts14_plain (by as_aux_lemma => kernel_rfl) (by as_aux_lemma => kernel_rfl) (fun _ _ _ h => h) (Or.inr ⟨by rfl, rfl⟩) (by assumption) ?_
      try simp only [Act.put, List.setIfInBounds_toArray, List.set_cons_zero, List.set_cons_succ]
      refine wpAnyH_take (i := 15) (oi := ({ dst := some 57, op := .indexAddr 34 (.tmp 56) (.const (.int .i64 0)), type := 0, pos := "law.go:114", after := #[{ on := 14, ground := .data }, { on := 11, ground := .guard }], guard := some (11, true) } : Oper)) (v := undef) rfl parts14_plain (by as_aux_lemma => kernel_rfl) (by as_aux_lemma => kernel_rfl) (fun _ _ _ h => h) (Or.inr ⟨by rfl, rfl⟩) (by assumption) ?_
      try simp only [Act.put, List.setIfInBounds_toArray, List.set_cons_zero, List.set_cons_succ]
      refine wpAnyH_take (i := 16) (oi := ({ dst := some 58, op := .load 3 (.tmp 57), type := 3, pos := "law.go:114", after := #[{ on := 15, ground := .data }, { on := 11, ground := .guard }], guard := some (11, true) } : Oper)) (v := undef) rfl parts14_plain (by as_aux_lemma => kernel_rfl) (by as_aux_lemma => kernel_rfl) (fun _ _ _ h => h) (Or.inr ⟨by rfl, rfl⟩) (by assumption) ?_
      try simp only [Act.put, List.setIfInBounds_toArray, List.set_cons_zero, List.set_cons_succ]
      refine wpAnyH_take (i := 17) (oi := ({ dst := some 59, op := .binOp .neq 3 (.tmp 55) (.tmp 58) 3, type := 4, pos := "law.go:114", after := #[{ on := 13, ground := .data }, { on := 16, ground := .data }, { on := 11, ground := .guard }], guard := some (11, true) } : Oper)) (v := undef) rfl parts14_plain (by as_aux_lemma => kernel_rfl) (by as_aux_lemma => kernel_rfl) (fun _ _ _ h => h) (Or.inr ⟨by rfl, rfl⟩) (by assumption) ?_
      try simp only [Act.put, List.setIfInBounds_toArray, List.set_cons_zero, List.set_cons_succ]
      refine wpAnyH_take (i := 18) (oi := ({ dst := some 60, op := .move (.tmp 59), type := 4, pos := "law.go:114", after := #[{ on := 17, ground := .data }, { on := 13, ground := .chain }, { on := 11, ground := .guard }], guard := some (11, true) } : Oper)) (v := undef) rfl parts14_plain (by as_aux_lemma => kernel_rfl) (by as_aux_lemma => kernel_rfl) (fun _ _ _ h => h) (Or.inr ⟨by rfl, rfl⟩) (by assumption) ?_
      try simp only [Act.put, List.setIfInBounds_toArray, List.set_cons_zero, List.set_cons_succ]
      refine wpAnyH_take (i := 19) (oi := ({ dst := some 61, op := .load 26 (.tmp 2), type := 26, pos := "law.go:114", after := #[{ on := 18, ground := .guard }], guard := some (18, false) } : Oper)) (v := undef) rfl parts14_plain (by as_aux_lemma => kernel_rfl) (by as_aux_lemma => kernel_rfl) (fun _ _ _ h => h) (Or.inr ⟨by rfl, rfl⟩) (by assumption) ?_
      try simp only [Act.put, List.setIfInBounds_toArray, List.set_cons_zero, List.set_cons_succ]
      refine wpAnyH_take (i := 20) (oi := ({ dst := some 62, op := .call { callee := .value (.func 14), args := #[.tmp 61], argTypes := #[26] }, type := 4, pos := "law.go:114", after := #[{ on := 19, ground := .data }, { on := 18, ground := .chain }, { on := 18, ground := .guard }], guard := some (18, false) } : Oper)) (v := undef) rfl parts14_plain (by as_aux_lemma => kernel_rfl) (by as_aux_lemma => kernel_rfl) (fun _ _ _ h => h) (Or.inr ⟨by rfl, rfl⟩) (by assumption) ?_
      try simp only [Act.put, List.setIfInBounds_toArray, List.set_cons_zero, List.set_cons_succ]
      refine wpAnyH_take (i := 21) (oi := ({ dst := some 63, op := .pick (.tmp 60) (.const (.bool true)) (.tmp 62), type := 4, pos := "law.go:114", after := #[{ on := 18, ground := .data }, { on := 20, ground := .data }, { on := 11, ground := .guard }], guard := some (11, true) } : Oper)) (v := undef) rfl parts14_plain (by as_aux_lemma => kernel_rfl) (by as_aux_lemma => kernel_rfl) (fun _ _ _ h => h) (Or.inr ⟨by rfl, rfl⟩) (by assumption) ?_
      try simp only [Act.put, List.setIfInBounds_toArray, List.set_cons_zero, List.set_cons_succ]
      refine wpAnyH_take (i := 22) (oi := ({ dst := some 64, op := .pick (.tmp 53) (.tmp 63) (.const (.bool false)), type := 4, pos := "law.go:114", after := #[{ on := 11, ground := .data }, { on := 21, ground := .data }, { on := 7, ground := .guard }], guard := some (7, false) } : Oper)) (v := ?vs1_22) rfl parts14_plain (by as_aux_lemma => kernel_rfl) (by as_aux_lemma => kernel_rfl) (fun _ _ _ h => h) (Or.inl ⟨by rfl, ?ys1_22⟩) (by assumption) ?rs1_22
      case ys1_22 => (intro w hSw; (try dsimp only at hSw); go_simp; try with_reducible rfl)
      try simp only [Act.put, List.setIfInBounds_toArray, List.set_cons_zero, List.set_cons_succ]
      refine wpAnyH_take (i := 23) (oi := ({ dst := some 65, op := .pick (.tmp 49) (.const (.bool true)) (.tmp 64), type := 4, pos := "law.go:114", after := #[{ on := 7, ground := .data }, { on := 22, ground := .data }], guard := none } : Oper)) (v := ?vs1_23) rfl parts14_plain (by as_aux_lemma => kernel_rfl) (by as_aux_lemma => kernel_rfl) (fun _ _ _ h => h) (Or.inl ⟨by rfl, ?ys1_23⟩) (by assumption) ?rs1_23
      case ys1_23 => (intro w hSw; (try dsimp only at hSw); go_simp; try with_reducible rfl)
      try simp only [Act.put, List.setIfInBounds_toArray, List.set_cons_zero, List.set_cons_succ]
      refine wpAnyH_take (i := 24) (oi := ({ dst := some 66, op := .move (.tmp 65), type := 4, pos := "law.go:114", after := #[{ on := 23, ground := .data }, { on := 20, ground := .chain }], guard := none } : Oper)) (v := ?vs1_24) rfl parts14_plain (by as_aux_lemma => kernel_rfl) (by as_aux_lemma => kernel_rfl) (fun _ _ _ h => h) (Or.inl ⟨by rfl, ?ys1_24⟩) (by assumption) ?rs1_24
      case ys1_24 => (intro w hSw; (try dsimp only at hSw); go_simp; try with_reducible rfl)
      try simp only [Act.put, List.setIfInBounds_toArray, List.set_cons_zero, List.set_cons_succ]
      refine wpAnyH_take (i := 25) (oi := ({ dst := some 67, op := .move (.tmp 5), type := 34, pos := "law.go:114", after := #[{ on := 24, ground := .guard }], guard := some (24, false) } : Oper)) (v := ?vs1_25) rfl parts14_plain (by as_aux_lemma => kernel_rfl) (by as_aux_lemma => kernel_rfl) (fun _ _ _ h => h) (Or.inl ⟨by rfl, ?ys1_25⟩) (by assumption) ?rs1_25
      case ys1_25 => (intro w hSw; (try dsimp only at hSw); go_simp; try with_reducible rfl)
      try simp only [Act.put, List.setIfInBounds_toArray, List.set_cons_zero, List.set_cons_succ]
      refine wpAnyH_take (i := 26) (oi := ({ dst := some 68, op := .call { callee := .builtin .len, args := #[.tmp 67], argTypes := #[34] }, type := 3, pos := "law.go:114", after := #[{ on := 25, ground := .data }, { on := 24, ground := .guard }], guard := some (24, false) } : Oper)) (v := ?vs1_26) rfl parts14_plain (by as_aux_lemma => kernel_rfl) (by as_aux_lemma => kernel_rfl) (fun _ _ _ h => h) (Or.inl ⟨by rfl, ?ys1_26⟩) (by assumption) ?rs1_26
      case ys1_26 => (intro w hSw; (try dsimp only at hSw); go_simp; try with_reducible rfl)
      try simp only [Act.put, List.setIfInBounds_toArray, List.set_cons_zero, List.set_cons_succ]
      refine wpAnyH_take (i := 27) (oi := ({ dst := some 69, op := .binOp .gtr 3 (.tmp 68) (.const (.int .i64 1)) 3, type := 4, pos := "law.go:114", after := #[{ on := 26, ground := .data }, { on := 24, ground := .guard }], guard := some (24, false) } : Oper)) (v := ?vs1_27) rfl parts14_plain (by as_aux_lemma => kernel_rfl) (by as_aux_lemma => kernel_rfl) (fun _ _ _ h => h) (Or.inl ⟨by rfl, ?ys1_27⟩) (by assumption) ?rs1_27
      case ys1_27 => (intro w hSw; (try dsimp only at hSw); go_simp; try with_reducible rfl)
      try simp only [Act.put, List.setIfInBounds_toArray, List.set_cons_zero, List.set_cons_succ]
      refine wpAnyH_take (i := 28) (oi := ({ dst := some 70, op := .move (.tmp 69), type := 4, pos := "law.go:114", after := #[{ on := 27, ground := .data }, { on := 24, ground := .chain }, { on := 24, ground := .guard }], guard := some (24, false) } : Oper)) (v := ?vs1_28) rfl parts14_plain (by as_aux_lemma => kernel_rfl) (by as_aux_lemma => kernel_rfl) (fun _ _ _ h => h) (Or.inl ⟨by rfl, ?ys1_28⟩) (by assumption) ?rs1_28
      case ys1_28 => (intro w hSw; (try dsimp only at hSw); go_simp; try with_reducible rfl)
      try simp only [Act.put, List.setIfInBounds_toArray, List.set_cons_zero, List.set_cons_succ]
      refine wpAnyH_take (i := 29) (oi := ({ dst := some 71, op := .load 26 (.tmp 2), type := 26, pos := "law.go:114", after := #[{ on := 28, ground := .guard }], guard := some (28, true) } : Oper)) (v := undef) rfl parts14_plain (by as_aux_lemma => kernel_rfl) (by as_aux_lemma => kernel_rfl) (fun _ _ _ h => h) (Or.inr ⟨by rfl, rfl⟩) (by assumption) ?_
      try simp only [Act.put, List.setIfInBounds_toArray, List.set_cons_zero, List.set_cons_succ]
      refine wpAnyH_take (i := 30) (oi := ({ dst := some 72, op := .call { callee := .value (.func 14), args := #[.tmp 71], argTypes := #[26] }, type := 4, pos := "law.go:114", after := #[{ on := 29, ground := .data }, { on := 28, ground := .chain }, { on := 28, ground := .guard }], guard := some (28, true) } : Oper)) (v := undef) rfl parts14_plain (by as_aux_lemma => kernel_rfl) (by as_aux_lemma => kernel_rfl) (fun _ _ _ h => h) (Or.inr ⟨by rfl, rfl⟩) (by assumption) ?_
      try simp only [Act.put, List.setIfInBounds_toArray, List.set_cons_zero, List.set_cons_succ]
      refine wpAnyH_take (i := 31) (oi := ({ dst := some 73, op := .unOp .not 4 (.tmp 72), type := 4, pos := "law.go:114", after := #[{ on := 30, ground := .data }, { on := 28, ground := .guard }], guard := some (28, true) } : Oper)) (v := undef) rfl parts14_plain (by as_aux_lemma => kernel_rfl) (by as_aux_lemma => kernel_rfl) (fun _ _ _ h => h) (Or.inr ⟨by rfl, rfl⟩) (by assumption) ?_
      try simp only [Act.put, List.setIfInBounds_toArray, List.set_cons_zero, List.set_cons_succ]
      refine wpAnyH_take (i := 32) (oi := ({ dst := some 74, op := .pick (.tmp 70) (.tmp 73) (.const (.bool false)), type := 4, pos := "law.go:114", after := #[{ on := 28, ground := .data }, { on := 31, ground := .data }, { on := 24, ground := .guard }], guard := some (24, false) } : Oper)) (v := ?vs1_32) rfl parts14_plain (by as_aux_lemma => kernel_rfl) (by as_aux_lemma => kernel_rfl) (fun _ _ _ h => h) (Or.inl ⟨by rfl, ?ys1_32⟩) (by assumption) ?rs1_32
      case ys1_32 => (intro w hSw; (try dsimp only at hSw); go_simp; try with_reducible rfl)
      try simp only [Act.put, List.setIfInBounds_toArray, List.set_cons_zero, List.set_cons_succ]
      refine wpAnyH_take (i := 33) (oi := ({ dst := some 75, op := .pick (.tmp 66) (.const (.bool true)) (.tmp 74), type := 4, pos := "law.go:114", after := #[{ on := 24, ground := .data }, { on := 32, ground := .data }], guard := none } : Oper)) (v := ?vs1_33) rfl parts14_plain (by as_aux_lemma => kernel_rfl) (by as_aux_lemma => kernel_rfl) (fun _ _ _ h => h) (Or.inl ⟨by rfl, ?ys1_33⟩) (by assumption) ?rs1_33
      case ys1_33 => (intro w hSw; (try dsimp only at hSw); go_simp; try with_reducible rfl)
      try simp only [Act.put, List.setIfInBounds_toArray, List.set_cons_zero, List.set_cons_succ]
      refine wpAnyH_done (by as_aux_lemma => kernel_rfl) ?_ _
      refine NoPanic.normal ?_
      have HBL := Lib.hid ((by assumption : Below w2.heap.size w2 w10))
      clear RA
      obtain ⟨wl, hwl⟩ : ∃ wl, wl = w10 := ⟨_, rfl⟩
      rw [← hwl] at HBL ⊢
      clear hwl
      have HBW := Lib.hid (belowT HB2.out HBL.out)
      have NL := Lib.hid (N2.out.keep HBL.out)
      have HC3 := HC2.out.keep HBL.out
      have c0 := HC3.c0
      have c1 := HC3.c1
      clear HC3
      obtain ⟨em, em', ek, ek'⟩ := EM.out
      rw [em] at em'
      rw [ek] at ek'
      go_upto_region 16 with fail
      go_quiet (fail)
      generalize hW4 : World.drewN wl _ = W4
      have B4 : Below wl.heap.size wl W4 := by rw [← hW4]; exact belowN (Below.refl _ _) _
      clear hW4 c0 c1 em ek
      have HB4 := Lib.hid (belowT HBW.out B4)
      have PN4 : Hid (∀ w', Below W4.heap.size W4 w' → PairsAt w') := Lib.hid fun w' h => NL.out.keep (belowT B4 h)
      clear B4
      have hxm := HXM.out
      have hxk := HXK.out
      have hm22 : (m : Int) < 22 := by have := HMK.out.1; omega
      have hk22 : (k : Int) < 22 := by have := HMK.out.2; omega
      obtain ⟨bq, hbq⟩ : ∃ bq, bq = ((m : Int) == (k : Int)) := ⟨_, rfl⟩
      have hq1 : ((tl.length : Int) == 0) = bq := by rw [hbq]; exact TI.out
      have hq2 : ((m : Int) == (k : Int)) = bq := hbq.symm
      clear hbq
      go_upto_region 17 with fail
      change (Code.region 17 parts17 true).wp Tryd.prog _ _ _
      refine wp_region_noPanic ?_
      refine wp_region_held_drew (S := fun w' => Below W4.heap.size W4 w') (by kernel_rfl) ((Below.refl _ _).drew) (fun hHeld => ?_)
      refine wpAnyH_take (i := 1) (oi := ({ dst := some 87, op := .move (.tmp 11), type := 3, pos := "law.go:118", after := #[], guard := none } : Oper)) (v := ?vs2_1) rfl parts17_plain (by as_aux_lemma => kernel_rfl) (by as_aux_lemma => kernel_rfl) (fun _ _ _ h => h) (Or.inl ⟨by rfl, ?ys2_1⟩) (by assumption) ?rs2_1
      case ys2_1 => (intro w hSw; (try dsimp only at hSw); go_simp; try with_reducible rfl)
      try simp only [Act.put, List.setIfInBounds_toArray, List.set_cons_zero, List.set_cons_succ]
      refine wpAnyH_take (i := 4) (oi := ({ dst := some 90, op := .move (.tmp 12), type := 3, pos := "law.go:118", after := #[], guard := none } : Oper)) (v := ?vs2_4) rfl parts17_plain (by as_aux_lemma => kernel_rfl) (by as_aux_lemma => kernel_rfl) (fun _ _ _ h => h) (Or.inl ⟨by rfl, ?ys2_4⟩) (by assumption) ?rs2_4
      case ys2_4 => (intro w hSw; (try dsimp only at hSw); go_simp; try with_reducible rfl)
      try simp only [Act.put, List.setIfInBounds_toArray, List.set_cons_zero, List.set_cons_succ]
      refine wpAnyH_take (i := 9) (oi := ({ dst := some 95, op := .move (.tmp 11), type := 3, pos := "law.go:118", after := #[], guard := none } : Oper)) (v := ?vs2_9) rfl parts17_plain (by as_aux_lemma => kernel_rfl) (by as_aux_lemma => kernel_rfl) (fun _ _ _ h => h) (Or.inl ⟨by rfl, ?ys2_9⟩) (by assumption) ?rs2_9
      case ys2_9 => (intro w hSw; (try dsimp only at hSw); go_simp; try with_reducible rfl)
      try simp only [Act.put, List.setIfInBounds_toArray, List.set_cons_zero, List.set_cons_succ]
      refine wpAnyH_take (i := 10) (oi := ({ dst := some 96, op := .move (.tmp 12), type := 3, pos := "law.go:118", after := #[], guard := none } : Oper)) (v := ?vs2_10) rfl parts17_plain (by as_aux_lemma => kernel_rfl) (by as_aux_lemma => kernel_rfl) (fun _ _ _ h => h) (Or.inl ⟨by rfl, ?ys2_10⟩) (by assumption) ?rs2_10
      case ys2_10 => (intro w hSw; (try dsimp only at hSw); go_simp; try with_reducible rfl)
      try simp only [Act.put, List.setIfInBounds_toArray, List.set_cons_zero, List.set_cons_succ]
      refine wpAnyH_take (i := 11) (oi := ({ dst := some 97, op := .binOp .eql 3 (.tmp 95) (.tmp 96) 3, type := 4, pos := "law.go:118", after := #[{ on := 9, ground := .data }, { on := 10, ground := .data }], guard := none } : Oper)) (v := ?vs2_11) rfl parts17_plain (by as_aux_lemma => kernel_rfl) (by as_aux_lemma => kernel_rfl) (fun _ _ _ h => h) (Or.inl ⟨by rfl, ?ys2_11⟩) (by assumption) ?rs2_11
      case ys2_11 => (intro w hSw; (try dsimp only at hSw); go_simp; try with_reducible rfl)
      try simp only [Act.put, List.setIfInBounds_toArray, List.set_cons_zero, List.set_cons_succ]
      refine wpAnyH_ready (rs := [0]) (by as_aux_lemma => kernel_rfl) (by simp) ?_
      refine AllReadyH.cons (o := ({ dst := some 86, op := .call { callee := .value (.func 20), args := #[], argTypes := #[] }, type := 38, pos := "law.go:118", after := #[], guard := none } : Oper)) rfl (fun KK hK => ?_) AllReadyH.nil
      rw [if_pos (by rfl)]
      go_simp
      go_at_call 20; refine (HY.out _ (PN4.out _ (by assumption))).mono ?_; rintro e w30 ⟨rfl, hb30⟩
      go_wp2_with fail
      refine hK.out _ _ ?_ (fun hHeld30 => ?_)
      · exact belowT (by assumption) hb30
      clear hK KK hb30
      try simp only [Act.put, List.setIfInBounds_toArray, List.set_cons_zero, List.set_cons_succ]
      refine wpAnyH_take (i := 2) (oi := ({ dst := some 88, op := .index 38 (.tmp 86) (.tmp 87), type := 3, pos := "law.go:118", after := #[{ on := 0, ground := .data }, { on := 1, ground := .data }], guard := none } : Oper)) (v := ?vs2_2) rfl parts17_plain (by as_aux_lemma => kernel_rfl) (by as_aux_lemma => kernel_rfl) (fun _ _ _ h => h) (Or.inl ⟨by rfl, ?ys2_2⟩) (by assumption) ?rs2_2
      case ys2_2 => (intro w hSw; (try dsimp only at hSw); go_simp; try with_reducible rfl)
      try simp only [Act.put, List.setIfInBounds_toArray, List.set_cons_zero, List.set_cons_succ]
      refine wpAnyH_ready (rs := [3]) (by as_aux_lemma => kernel_rfl) (by simp) ?_
      refine AllReadyH.cons (o := ({ dst := some 89, op := .call { callee := .value (.func 20), args := #[], argTypes := #[] }, type := 38, pos := "law.go:118", after := #[{ on := 0, ground := .chain }], guard := none } : Oper)) rfl (fun KK hK => ?_) AllReadyH.nil
      rw [if_pos (by rfl)]
      go_simp
      go_at_call 20; refine (HY.out _ (PN4.out _ (by assumption))).mono ?_; rintro e w31 ⟨rfl, hb31⟩
      go_wp2_with fail
      refine hK.out _ _ ?_ (fun hHeld31 => ?_)
      · exact belowT (by assumption) hb31
      clear hK KK hb31 hHeld30
      try simp only [Act.put, List.setIfInBounds_toArray, List.set_cons_zero, List.set_cons_succ]
      refine wpAnyH_take (i := 5) (oi := ({ dst := some 91, op := .index 38 (.tmp 89) (.tmp 90), type := 3, pos := "law.go:118", after := #[{ on := 3, ground := .data }, { on := 4, ground := .data }], guard := none } : Oper)) (v := ?vs2_5) rfl parts17_plain (by as_aux_lemma => kernel_rfl) (by as_aux_lemma => kernel_rfl) (fun _ _ _ h => h) (Or.inl ⟨by rfl, ?ys2_5⟩) (by assumption) ?rs2_5
      case ys2_5 => (intro w hSw; (try dsimp only at hSw); go_simp; try with_reducible rfl)
      try simp only [Act.put, List.setIfInBounds_toArray, List.set_cons_zero, List.set_cons_succ]
      refine wpAnyH_ready (rs := [6]) (by as_aux_lemma => kernel_rfl) (by simp) ?_
      refine AllReadyH.cons (o := ({ dst := some 92, op := .call { callee := .value (.func 27), args := #[.tmp 88, .tmp 91], argTypes := #[3, 3] }, type := 34, pos := "law.go:118", after := #[{ on := 2, ground := .data }, { on := 5, ground := .data }, { on := 3, ground := .chain }], guard := none } : Oper)) rfl (fun KK hK => ?_) AllReadyH.nil
      rw [if_pos (by rfl)]
      go_simp
      go_at_call 27; refine (TL.out _ (PN4.out _ (by assumption))).mono ?_; rintro e w32 ⟨b32, k32, rfl, D32, hb32⟩
      have E32 := Lib.hid D32
      go_wp2_with fail
      refine hK.out _ _ ?_ (fun hHeld32 => ?_)
      · exact belowT (by assumption) hb32
      refine wpAnyH_rebase (S' := fun w' => Below w32.heap.size w32 w') (fun w' h => belowT hHeld32 h) _ _ _ _ ?_
      have hHeldR32 := Below.refl w32.heap.size w32
      clear hK KK
      try simp only [Act.put, List.setIfInBounds_toArray, List.set_cons_zero, List.set_cons_succ]
      refine wpAnyH_take (i := 7) (oi := ({ dst := some 93, op := .call { callee := .builtin .len, args := #[.tmp 92], argTypes := #[34] }, type := 3, pos := "law.go:118", after := #[{ on := 6, ground := .data }], guard := none } : Oper)) (v := ?vs2_7) rfl parts17_plain (by as_aux_lemma => kernel_rfl) (by as_aux_lemma => kernel_rfl) (fun _ _ _ h => h) (Or.inl ⟨by rfl, ?ys2_7⟩) (by assumption) ?rs2_7
      case ys2_7 => (intro w hSw; (try dsimp only at hSw); have hS0 := belowT hHeld32 hSw; go_simp; try with_reducible rfl)
      try simp only [Act.put, List.setIfInBounds_toArray, List.set_cons_zero, List.set_cons_succ]
      refine wpAnyH_take (i := 8) (oi := ({ dst := some 94, op := .binOp .eql 3 (.tmp 93) (.const (.int .i64 0)) 3, type := 4, pos := "law.go:118", after := #[{ on := 7, ground := .data }], guard := none } : Oper)) (v := ?vs2_8) rfl parts17_plain (by as_aux_lemma => kernel_rfl) (by as_aux_lemma => kernel_rfl) (fun _ _ _ h => h) (Or.inl ⟨by rfl, ?ys2_8⟩) (by assumption) ?rs2_8
      case ys2_8 => (intro w hSw; (try dsimp only at hSw); have hS0 := belowT hHeld32 hSw; go_simp; try with_reducible rfl)
      try simp only [Act.put, List.setIfInBounds_toArray, List.set_cons_zero, List.set_cons_succ]
      refine wpAnyH_take (i := 12) (oi := ({ dst := some 98, op := .binOp .eql 4 (.tmp 94) (.tmp 97) 4, type := 4, pos := "law.go:118", after := #[{ on := 8, ground := .data }, { on := 11, ground := .data }], guard := none } : Oper)) (v := ?vs2_12) rfl parts17_plain (by as_aux_lemma => kernel_rfl) (by as_aux_lemma => kernel_rfl) (fun _ _ _ h => h) (Or.inl ⟨by rfl, ?ys2_12⟩) (by assumption) ?rs2_12
      case ys2_12 => (intro w hSw; (try dsimp only at hSw); have hS0 := belowT hHeld32 hSw; go_simp; try with_reducible rfl)
      try simp only [Act.put, List.setIfInBounds_toArray, List.set_cons_zero, List.set_cons_succ]
      refine wpAnyH_take (i := 13) (oi := ({ dst := some 99, op := .move (.tmp 98), type := 4, pos := "law.go:118", after := #[{ on := 12, ground := .data }, { on := 6, ground := .chain }], guard := none } : Oper)) (v := ?vs2_13) rfl parts17_plain (by as_aux_lemma => kernel_rfl) (by as_aux_lemma => kernel_rfl) (fun _ _ _ h => h) (Or.inl ⟨by rfl, ?ys2_13⟩) (by assumption) ?rs2_13
      case ys2_13 => (intro w hSw; (try dsimp only at hSw); have hS0 := belowT hHeld32 hSw; go_simp; try with_reducible rfl)
      try simp only [Act.put, List.setIfInBounds_toArray, List.set_cons_zero, List.set_cons_succ]
      refine wpAnyH_ready (rs := [14]) (by as_aux_lemma => kernel_rfl) (by simp) ?_
      refine AllReadyH.cons (o := ({ dst := some 100, op := .call { callee := .value (.func 18), args := #[], argTypes := #[] }, type := 4, pos := "law.go:118", after := #[{ on := 13, ground := .chain }, { on := 13, ground := .guard }], guard := some (13, true) } : Oper)) rfl (fun KK hK => ?_) AllReadyH.nil
      rw [if_pos (by rfl)]
      go_simp
      go_at_call 18; refine (AW.out _ (PN4.out _ (belowT hHeld32 (by assumption)))).mono ?_; rintro e w33 ⟨rfl, hb33⟩
      go_wp2_with fail
      refine hK.out _ _ ?_ (fun hHeld33 => ?_)
      · exact belowT (by assumption) hb33
      clear hK KK hb33
      try simp only [Act.put, List.setIfInBounds_toArray, List.set_cons_zero, List.set_cons_succ]
      refine wpAnyH_take (i := 15) (oi := ({ dst := some 101, op := .pick (.tmp 99) (.tmp 100) (.const (.bool false)), type := 4, pos := "law.go:118", after := #[{ on := 13, ground := .data }, { on := 14, ground := .data }], guard := none } : Oper)) (v := ?vs2_15) rfl parts17_plain (by as_aux_lemma => kernel_rfl) (by as_aux_lemma => kernel_rfl) (fun _ _ _ h => h) (Or.inl ⟨by rfl, ?ys2_15⟩) (by assumption) ?rs2_15
      case ys2_15 => (intro w hSw; (try dsimp only at hSw); have hS0 := belowT hHeld32 hSw; go_simp; try with_reducible rfl)
      try simp only [Act.put, List.setIfInBounds_toArray, List.set_cons_zero, List.set_cons_succ]
      refine wpAnyH_take (i := 16) (oi := ({ dst := some 4, op := .assign (.tmp 101), type := 4, pos := "law.go:118", after := #[{ on := 15, ground := .data }, { on := 14, ground := .chain }, { on := 0, ground := .phase }, { on := 1, ground := .phase }, { on := 2, ground := .phase }, { on := 3, ground := .phase }, { on := 4, ground := .phase }, { on := 5, ground := .phase }, { on := 6, ground := .phase }, { on := 7, ground := .phase }, { on := 8, ground := .phase }, { on := 9, ground := .phase }, { on := 10, ground := .phase }, { on := 11, ground := .phase }, { on := 12, ground := .phase }, { on := 13, ground := .phase }, { on := 14, ground := .phase }, { on := 15, ground := .phase }], guard := none } : Oper)) (v := ?vs2_16) rfl parts17_plain (by as_aux_lemma => kernel_rfl) (by as_aux_lemma => kernel_rfl) (fun _ _ _ h => h) (Or.inl ⟨by rfl, ?ys2_16⟩) (by assumption) ?rs2_16
      case ys2_16 => (intro w hSw; (try dsimp only at hSw); have hS0 := belowT hHeld32 hSw; go_simp; try with_reducible rfl)
      try simp only [Act.put, List.setIfInBounds_toArray, List.set_cons_zero, List.set_cons_succ]
      refine wpAnyH_done (by as_aux_lemma => kernel_rfl) ?_ _
      refine NoPanic.normal ?_
      have hz := hHeld33
      go_wp2
      go_ret
      exact ⟨rfl, belowT HB4.out (belowT hHeld32 hz)⟩

set_option maxHeartbeats 8000000 in
set_option maxRecDepth 100000 in
theorem Parts_one (al : List Bool) (hl : al.length = 22) (a c : Int) (m k : Nat) (hm : m < 22) (hk : k < 22) (em : (IntKind.u64.wrap a).tmod 22 = m) (em' : wrap64 ((IntKind.u64.wrap a).tmod 22) = m) (ek : (IntKind.u64.wrap c).tmod 22 = k) (ek' : wrap64 ((IntKind.u64.wrap c).tmod 22) = k)
    (ns : List Nat) (hns : ns = Hyp.parts al) (p0 : Nat) (hc : ns = [p0]) (w : World) (n : PairsAt w) :
    Calls Tryd.prog 7 #[.agg (bl al), .agg #[.int .i64 a, .int .i64 c]] w fun e w' => e = .returned (.bool true) ∧ Below w.heap.size w w' := by
  have L1 := Lib.hid (fun w n => lies_out (Lan23.Parts_any al hl w n))
  rw [← hns] at L1
  have hle : ns.length ≤ 22 := by rw [hns]; exact Hyp.parts_len al
  have HLT : Hid (∀ x ∈ ns, x < 64) := Lib.hid fun x h => by rw [hns] at h; exact Hyp.parts_lt h
  have HFO : Hid (∀ j, j < 22 → al.getD j false = true → (ns.any fun p => Sub.within p (Hyp.setN j)) = true) := Lib.hid fun j h1 h2 => by rw [hns]; exact Hyp.found_of al j h1 h2
  have QA : Hid (∀ w, PairsAt w → Calls Tryd.prog 10 #[.agg (bl al)] w fun e w' => e = .returned (.bool true) ∧ Below w.heap.size w w') := Lib.hid fun w n => by
    have h := Lan23.Any_any al hl w n
    rwa [(Hyp.parts_one (hns ▸ hc)).1] at h
  have QE : Hid (∀ w, PairsAt w → Calls Tryd.prog 12 #[.agg (bl al)] w fun e w' => e = .returned (.int .i64 (p0 : Int)) ∧ Below w.heap.size w w') := Lib.hid fun w n => by
    have h := Lan23.Excluded_any al hl w n
    rwa [(Hyp.parts_one (hns ▸ hc)).2.1] at h
  have QM : Hid (∀ w, PairsAt w → Calls Tryd.prog 14 #[.agg (bl al)] w fun e w' => e = .returned (.bool false) ∧ Below w.heap.size w w') := Lib.hid fun w n => by
    have h := Lan23.Ambiguous_any al hl w n
    rwa [(Hyp.parts_one (hns ▸ hc)).2.2] at h
  have AW := Lib.hid awake_any
  have TL := Lib.hid (fun w n => lies_out (Lan23.Tell_any (Hyp.setN m : Int) (Hyp.setN k : Int) w n))
  have TI := Lib.hid (Hyp.tell_iff m k hm hk)
  have HY := Lib.hid (fun w n => Lan11.Hypos_any w n)
  have hxm := fun w => hypoCell_at m hm w
  have hxk := fun w => hypoCell_at k hk w
  rw [Hyp.num_set m hm] at hxm
  rw [Hyp.num_set k hk] at hxk
  have HXM := Lib.hid hxm
  have HXK := Lib.hid hxk
  have HI := Lib.hid hypoCell_at
  have EM := Lib.hid (And.intro em (And.intro em' (And.intro ek ek')))
  have HMK : Hid (m < 22 ∧ k < 22) := Lib.hid ⟨hm, hk⟩
  have iA := info22 hl
  have SZ : Hid ((Tryd.prog.info? 26).map (·.size) = some (bl al).size) := Lib.hid iA
  generalize hypoCells = harr at *
  obtain ⟨W0, hW0⟩ : ∃ W0, W0 = (w.alloc (.cells (bl al) 26)).alloc (.cells #[.int .i64 a, .int .i64 c] 27) := ⟨_, rfl⟩
  have B0 : Below w.heap.size w W0 := hW0 ▸ below2 w _ _
  have N0 := Lib.hid (n.keep B0)
  have HAL : Hid (ArrB W0 w.heap.size al) := Lib.hid (by rw [hW0]; exact (ArrB.new w al _).keep (below1 _ _))
  have HC0 : Hid (Own2 W0 (w.heap.size + 1) (.int .i64 a) (.int .i64 c)) := Lib.hid (by rw [hW0]; exact own2b w _ _ _ _)
  have HRA : Hid (∀ w', ArrB w' w.heap.size al → w'.rangeAt w.heap.size 0 (bl al).toList) := Lib.hid fun _ h => h
  have RA0 := HRA.out _ HAL.out
  have HCC := Lib.hid hc
  clear hc hns hxm hxk em em' ek ek' hm hk
  generalize bl al = arr at *
  generalize Hyp.ints (Hyp.tell (Hyp.setN m : Int) (Hyp.setN k : Int) 15) = tl at *
  have HB0 := Lib.hid B0
  clear B0
  go_enter Tryd.func7, Tryd.ntmps7
  go_upto_region 1 with fail
  rw [← hW0]
  clear hW0
  go_wp2_with (refine list_load_any rfl 26 _ rfl _ 0 rfl arr _ RA0 Tryd.underlying26 rfl iA ?_)
  clear RA0
  refine (L1.out W0 N0.out).mono ?_
  rintro e w1 ⟨ba, cap, rfl, D1, hb1⟩
  have HL := Lib.hid D1
  have HB1 := Lib.hid (belowT HB0.out hb1)
  have N1 := Lib.hid (N0.out.keep hb1)
  have HAL1 := Lib.hid (HAL.out.keep hb1)
  have HC1 := Lib.hid (HC0.out.keep hb1)
  clear D1 hb1 HB0 N0 HAL HC0 L1
  rw [Hyp.ints_len]
  go_wp2_with fail
  refine (HY.out w1 N1.out).mono ?_
  rintro e w2 ⟨rfl, hb2⟩
  have HL2 := Lib.hid (HL.out.keep hb2)
  have HB2 := Lib.hid (belowT HB1.out hb2)
  have N2 := Lib.hid (N1.out.keep hb2)
  have HAL2 := Lib.hid (HAL1.out.keep hb2)
  have HC2 := Lib.hid (HC1.out.keep hb2)
  clear hb2 HL HB1 N1 HAL1 HC1
  go_wp2
  go_loop [16] (fun i => ∃ j : Nat, j ≤ 22 ∧ i = .int .i64 j) (fun i => 22 - (intOf i).toNat)
  case atStart => exact ⟨0, by omega, rfl⟩
  case round =>
    obtain ⟨j, hj, rfl⟩ := hrel
    by_cases h22 : (j : Int) < 22
    · have HJ : Hid (j < 22) := Lib.hid (by omega)
      have hix := HI.out j HJ.out
      rw [Hyp.num_set j HJ.out] at hix
      have hcell := HAL2.out.at j (by rw [hl]; exact HJ.out)
      have HCE := Lib.hid hcell
      clear hcell
      go_wp2
      go_loop [8, 22] (fun v i => ∃ q : Nat, q ≤ ns.length ∧ i = .int .i64 q ∧ v = .bool ((ns.take q).any fun p => Sub.within p (Hyp.setN j))) (fun _ i => 22 - (intOf i).toNat)
      case atStart => exact ⟨0, by omega, rfl, rfl⟩
      case round =>
        clear hix
        obtain ⟨q, hq, rfl, rfl⟩ := hrel
        by_cases hlt : (q : Int) < ns.length
        · have hqn : q < ns.length := by omega
          obtain ⟨g, rfl, hc⟩ := HL2.out (by rw [Hyp.ints_len]; omega)
          have c1 := hc q (by rw [Hyp.ints_len]; exact hqn)
          rw [Hyp.ints_at] at c1
          have h64 : ns.getD q 0 < 64 := by
            rw [List.getD_eq_getElem?_getD, List.getElem?_eq_getElem hqn]
            exact HLT.out _ (List.getElem_mem hqn)
          have HT := Lib.hid (Hyp.any_take (h := Hyp.setN j) hqn)
          have han := Sub.andNot_bits (ns.getD q 0) h64 (Hyp.setN j : Int)
          rw [Hyp.low_set] at han
          generalize ns.getD q 0 = z at *
          generalize (ns.take q).any (fun p => Sub.within p (Hyp.setN j)) = f0 at *
          generalize Sub.within z (Hyp.setN j) = f1 at *
          clear hc hqn h64
          cases f0
          · go_wp2
            go_round
            case rel => exact ⟨q + 1, by omega, rfl, by rw [HT.out]; rfl⟩
            case measure => simp [intOf]; omega
          · clear han
            go_wp2
            go_round
            case rel => exact ⟨q + 1, by omega, rfl, by rw [HT.out]; rfl⟩
            case measure => simp [intOf]; omega
        · obtain rfl : q = ns.length := by omega
          rw [List.take_length]
          have hcell := HCE.out
          have HF := Lib.hid (HFO.out j HJ.out)
          generalize (ns.any fun p => Sub.within p (Hyp.setN j)) = f0 at *
          cases hq2 : al.getD j false
          · rw [hq2] at hcell
            clear hq2
            go_wp2
            go_round
            case rel => exact ⟨j + 1, by omega, rfl⟩
            case measure => simp [intOf]; omega
          · rw [hq2] at hcell
            have := HF.out hq2
            subst this
            clear hq2
            go_wp2
            go_round
            case rel => exact ⟨j + 1, by omega, rfl⟩
            case measure => simp [intOf]; omega
    · obtain rfl : j = 22 := by omega
      have RA : ∀ w', Below w2.heap.size w2 w' → w'.rangeAt w.heap.size 0 arr.toList := fun w' h => HRA.out _ (HAL2.out.keep h)
      have PN : Hid (∀ w', Below w2.heap.size w2 w' → PairsAt w') := Lib.hid fun w' h => N2.out.keep h
      have hlen : ns.length = 1 := by rw [HCC.out]; rfl
      obtain ⟨g, rfl, hcs⟩ := HL2.out (by rw [Hyp.ints_len, hlen]; decide)
      have hp0 : w2.cell? ⟨g, 0, none⟩ = some (.int .i64 (p0 : Int)) := by
        have := hcs 0 (by rw [Hyp.ints_len, hlen]; decide)
        rw [Hyp.ints_at, HCC.out] at this
        exact this
      have hcp : ∀ w', Below w2.heap.size w2 w' → w'.cell? ⟨g, 0, none⟩ = some (.int .i64 (p0 : Int)) := fun w' h => keepc h hp0
      clear hcs hp0
      clear HCC
      generalize ns.length = L at *
      subst hlen
      clear HI HFO HLT hle
      go_upto_region 14 with fail
      change (Code.region 14 parts14 true).wp Tryd.prog _ _ _
      refine wp_region_noPanic ?_
      refine wp_region_held_drew (S := fun w' => Below w2.heap.size w2 w') (by kernel_rfl) ((Below.refl _ _).drew) (fun hHeld => ?_)
      refine wpAnyH_take (i := 0) (oi := ({ dst := some 42, op := .move (.tmp 5), type := 34, pos := "law.go:114", after := #[], guard := none } : Oper)) (v := ?vs3_0) rfl parts14_plain (by as_aux_lemma => kernel_rfl) (by as_aux_lemma => kernel_rfl) (fun _ _ _ h => h) (Or.inl ⟨by rfl, ?ys3_0⟩) (by assumption) ?rs3_0
      case ys3_0 => (intro w hSw; (try dsimp only at hSw); go_simp; try with_reducible rfl)
      try simp only [Act.put, List.setIfInBounds_toArray, List.set_cons_zero, List.set_cons_succ]
      refine wpAnyH_take (i := 1) (oi := ({ dst := some 43, op := .call { callee := .builtin .len, args := #[.tmp 42], argTypes := #[34] }, type := 3, pos := "law.go:114", after := #[{ on := 0, ground := .data }], guard := none } : Oper)) (v := ?vs3_1) rfl parts14_plain (by as_aux_lemma => kernel_rfl) (by as_aux_lemma => kernel_rfl) (fun _ _ _ h => h) (Or.inl ⟨by rfl, ?ys3_1⟩) (by assumption) ?rs3_1
      case ys3_1 => (intro w hSw; (try dsimp only at hSw); go_simp; try with_reducible rfl)
      try simp only [Act.put, List.setIfInBounds_toArray, List.set_cons_zero, List.set_cons_succ]
      refine wpAnyH_take (i := 2) (oi := ({ dst := some 44, op := .binOp .eql 3 (.tmp 43) (.const (.int .i64 0)) 3, type := 4, pos := "law.go:114", after := #[{ on := 1, ground := .data }], guard := none } : Oper)) (v := ?vs3_2) rfl parts14_plain (by as_aux_lemma => kernel_rfl) (by as_aux_lemma => kernel_rfl) (fun _ _ _ h => h) (Or.inl ⟨by rfl, ?ys3_2⟩) (by assumption) ?rs3_2
      case ys3_2 => (intro w hSw; (try dsimp only at hSw); go_simp; try with_reducible rfl)
      try simp only [Act.put, List.setIfInBounds_toArray, List.set_cons_zero, List.set_cons_succ]
      refine wpAnyH_take (i := 3) (oi := ({ dst := some 45, op := .load 26 (.tmp 2), type := 26, pos := "law.go:114", after := #[], guard := none } : Oper)) rfl parts14_plain (by as_aux_lemma => kernel_rfl) (by as_aux_lemma => kernel_rfl) (fun _ _ _ h => h) (yields_load (by rfl) 26 _ rfl _ _ rfl _ _ RA Tryd.underlying26 rfl iA) (by assumption) ?_
      try simp only [Act.put, List.setIfInBounds_toArray, List.set_cons_zero, List.set_cons_succ]
      refine wpAnyH_ready (rs := [4]) (by as_aux_lemma => kernel_rfl) (by simp) ?_
      refine AllReadyH.cons (o := ({ dst := some 46, op := .call { callee := .value (.func 10), args := #[.tmp 45], argTypes := #[26] }, type := 4, pos := "law.go:114", after := #[{ on := 3, ground := .data }], guard := none } : Oper)) rfl (fun KK hK => ?_) AllReadyH.nil
      rw [if_pos (by rfl)]
      go_simp
      go_at_call 10; refine (QA.out _ (PN.out _ (by assumption))).mono ?_; rintro e w10 ⟨rfl, hb10⟩
      go_wp2_with fail
      refine hK.out _ _ ?_ (fun hHeld10 => ?_)
      · exact belowT (by assumption) hb10
      clear hK KK hb10
      try simp only [Act.put, List.setIfInBounds_toArray, List.set_cons_zero, List.set_cons_succ]
      refine wpAnyH_take (i := 5) (oi := ({ dst := some 47, op := .unOp .not 4 (.tmp 46), type := 4, pos := "law.go:114", after := #[{ on := 4, ground := .data }], guard := none } : Oper)) (v := ?vs3_5) rfl parts14_plain (by as_aux_lemma => kernel_rfl) (by as_aux_lemma => kernel_rfl) (fun _ _ _ h => h) (Or.inl ⟨by rfl, ?ys3_5⟩) (by assumption) ?rs3_5
      case ys3_5 => (intro w hSw; (try dsimp only at hSw); go_simp; try with_reducible rfl)
      try simp only [Act.put, List.setIfInBounds_toArray, List.set_cons_zero, List.set_cons_succ]
      refine wpAnyH_take (i := 6) (oi := ({ dst := some 48, op := .binOp .neq 4 (.tmp 44) (.tmp 47) 4, type := 4, pos := "law.go:114", after := #[{ on := 2, ground := .data }, { on := 5, ground := .data }], guard := none } : Oper)) (v := ?vs3_6) rfl parts14_plain (by as_aux_lemma => kernel_rfl) (by as_aux_lemma => kernel_rfl) (fun _ _ _ h => h) (Or.inl ⟨by rfl, ?ys3_6⟩) (by assumption) ?rs3_6
      case ys3_6 => (intro w hSw; (try dsimp only at hSw); go_simp; try with_reducible rfl)
      try simp only [Act.put, List.setIfInBounds_toArray, List.set_cons_zero, List.set_cons_succ]
      refine wpAnyH_take (i := 7) (oi := ({ dst := some 49, op := .move (.tmp 48), type := 4, pos := "law.go:114", after := #[{ on := 6, ground := .data }, { on := 4, ground := .chain }], guard := none } : Oper)) (v := ?vs3_7) rfl parts14_plain (by as_aux_lemma => kernel_rfl) (by as_aux_lemma => kernel_rfl) (fun _ _ _ h => h) (Or.inl ⟨by rfl, ?ys3_7⟩) (by assumption) ?rs3_7
      case ys3_7 => (intro w hSw; (try dsimp only at hSw); go_simp; try with_reducible rfl)
      try simp only [Act.put, List.setIfInBounds_toArray, List.set_cons_zero, List.set_cons_succ]
      refine wpAnyH_take (i := 8) (oi := ({ dst := some 50, op := .move (.tmp 5), type := 34, pos := "law.go:114", after := #[{ on := 7, ground := .guard }], guard := some (7, false) } : Oper)) (v := ?vs3_8) rfl parts14_plain (by as_aux_lemma => kernel_rfl) (by as_aux_lemma => kernel_rfl) (fun _ _ _ h => h) (Or.inl ⟨by rfl, ?ys3_8⟩) (by assumption) ?rs3_8
      case ys3_8 => (intro w hSw; (try dsimp only at hSw); go_simp; try with_reducible rfl)
      try simp only [Act.put, List.setIfInBounds_toArray, List.set_cons_zero, List.set_cons_succ]
      refine wpAnyH_take (i := 9) (oi := ({ dst := some 51, op := .call { callee := .builtin .len, args := #[.tmp 50], argTypes := #[34] }, type := 3, pos := "law.go:114", after := #[{ on := 8, ground := .data }, { on := 7, ground := .guard }], guard := some (7, false) } : Oper)) (v := ?vs3_9) rfl parts14_plain (by as_aux_lemma => kernel_rfl) (by as_aux_lemma => kernel_rfl) (fun _ _ _ h => h) (Or.inl ⟨by rfl, ?ys3_9⟩) (by assumption) ?rs3_9
      case ys3_9 => (intro w hSw; (try dsimp only at hSw); go_simp; try with_reducible rfl)
      try simp only [Act.put, List.setIfInBounds_toArray, List.set_cons_zero, List.set_cons_succ]
      refine wpAnyH_take (i := 10) (oi := ({ dst := some 52, op := .binOp .eql 3 (.tmp 51) (.const (.int .i64 1)) 3, type := 4, pos := "law.go:114", after := #[{ on := 9, ground := .data }, { on := 7, ground := .guard }], guard := some (7, false) } : Oper)) (v := ?vs3_10) rfl parts14_plain (by as_aux_lemma => kernel_rfl) (by as_aux_lemma => kernel_rfl) (fun _ _ _ h => h) (Or.inl ⟨by rfl, ?ys3_10⟩) (by assumption) ?rs3_10
      case ys3_10 => (intro w hSw; (try dsimp only at hSw); go_simp; try with_reducible rfl)
      try simp only [Act.put, List.setIfInBounds_toArray, List.set_cons_zero, List.set_cons_succ]
      refine wpAnyH_take (i := 11) (oi := ({ dst := some 53, op := .move (.tmp 52), type := 4, pos := "law.go:114", after := #[{ on := 10, ground := .data }, { on := 7, ground := .chain }, { on := 7, ground := .guard }], guard := some (7, false) } : Oper)) (v := ?vs3_11) rfl parts14_plain (by as_aux_lemma => kernel_rfl) (by as_aux_lemma => kernel_rfl) (fun _ _ _ h => h) (Or.inl ⟨by rfl, ?ys3_11⟩) (by assumption) ?rs3_11
      case ys3_11 => (intro w hSw; (try dsimp only at hSw); go_simp; try with_reducible rfl)
      try simp only [Act.put, List.setIfInBounds_toArray, List.set_cons_zero, List.set_cons_succ]
      refine wpAnyH_take (i := 12) (oi := ({ dst := some 54, op := .load 26 (.tmp 2), type := 26, pos := "law.go:114", after := #[{ on := 11, ground := .guard }], guard := some (11, true) } : Oper)) rfl parts14_plain (by as_aux_lemma => kernel_rfl) (by as_aux_lemma => kernel_rfl) (fun _ _ _ h => h) (yields_load (by rfl) 26 _ rfl _ _ rfl _ _ RA Tryd.underlying26 rfl iA) (by assumption) ?_
      try simp only [Act.put, List.setIfInBounds_toArray, List.set_cons_zero, List.set_cons_succ]
      refine wpAnyH_take (i := 14) (oi := ({ dst := some 56, op := .move (.tmp 5), type := 34, pos := "law.go:114", after := #[{ on := 11, ground := .guard }], guard := some (11, true) } : Oper)) (v := ?vs3_14) rfl parts14_plain (by as_aux_lemma => kernel_rfl) (by as_aux_lemma => kernel_rfl) (fun _ _ _ h => h) (Or.inl ⟨by rfl, ?ys3_14⟩) (by assumption) ?rs3_14
      case ys3_14 => (intro w hSw; (try dsimp only at hSw); go_simp; try with_reducible rfl)
      try simp only [Act.put, List.setIfInBounds_toArray, List.set_cons_zero, List.set_cons_succ]
      refine wpAnyH_take (i := 15) (oi := ({ dst := some 57, op := .indexAddr 34 (.tmp 56) (.const (.int .i64 0)), type := 0, pos := "law.go:114", after := #[{ on := 14, ground := .data }, { on := 11, ground := .guard }], guard := some (11, true) } : Oper)) (v := ?vs3_15) rfl parts14_plain (by as_aux_lemma => kernel_rfl) (by as_aux_lemma => kernel_rfl) (fun _ _ _ h => h) (Or.inl ⟨by rfl, ?ys3_15⟩) (by assumption) ?rs3_15
      case ys3_15 => (intro w hSw; (try dsimp only at hSw); go_simp; try with_reducible rfl)
      try simp only [Act.put, List.setIfInBounds_toArray, List.set_cons_zero, List.set_cons_succ]
      refine wpAnyH_take (i := 16) (oi := ({ dst := some 58, op := .load 3 (.tmp 57), type := 3, pos := "law.go:114", after := #[{ on := 15, ground := .data }, { on := 11, ground := .guard }], guard := some (11, true) } : Oper)) (v := ?vs3_16) rfl parts14_plain (by as_aux_lemma => kernel_rfl) (by as_aux_lemma => kernel_rfl) (fun _ _ _ h => h) (Or.inl ⟨by rfl, ?ys3_16⟩) (by assumption) ?rs3_16
      case ys3_16 => (intro w hSw; (try dsimp only at hSw); go_simp; try with_reducible rfl)
      try simp only [Act.put, List.setIfInBounds_toArray, List.set_cons_zero, List.set_cons_succ]
      refine wpAnyH_ready (rs := [13]) (by as_aux_lemma => kernel_rfl) (by simp) ?_
      refine AllReadyH.cons (o := ({ dst := some 55, op := .call { callee := .value (.func 12), args := #[.tmp 54], argTypes := #[26] }, type := 3, pos := "law.go:114", after := #[{ on := 12, ground := .data }, { on := 11, ground := .chain }, { on := 11, ground := .guard }], guard := some (11, true) } : Oper)) rfl (fun KK hK => ?_) AllReadyH.nil
      rw [if_pos (by rfl)]
      go_simp
      go_at_call 12; refine (QE.out _ (PN.out _ (by assumption))).mono ?_; rintro e w11 ⟨rfl, hb11⟩
      go_wp2_with fail
      refine hK.out _ _ ?_ (fun hHeld11 => ?_)
      · exact belowT (by assumption) hb11
      clear hK KK hb11 hHeld10
      try simp only [Act.put, List.setIfInBounds_toArray, List.set_cons_zero, List.set_cons_succ]
      refine wpAnyH_take (i := 17) (oi := ({ dst := some 59, op := .binOp .neq 3 (.tmp 55) (.tmp 58) 3, type := 4, pos := "law.go:114", after := #[{ on := 13, ground := .data }, { on := 16, ground := .data }, { on := 11, ground := .guard }], guard := some (11, true) } : Oper)) (v := ?vs3_17) rfl parts14_plain (by as_aux_lemma => kernel_rfl) (by as_aux_lemma => kernel_rfl) (fun _ _ _ h => h) (Or.inl ⟨by rfl, ?ys3_17⟩) (by assumption) ?rs3_17
      case ys3_17 => (intro w hSw; (try dsimp only at hSw); go_simp; try with_reducible rfl)
      try simp only [Act.put, List.setIfInBounds_toArray, List.set_cons_zero, List.set_cons_succ]
      refine wpAnyH_take (i := 18) (oi := ({ dst := some 60, op := .move (.tmp 59), type := 4, pos := "law.go:114", after := #[{ on := 17, ground := .data }, { on := 13, ground := .chain }, { on := 11, ground := .guard }], guard := some (11, true) } : Oper)) (v := ?vs3_18) rfl parts14_plain (by as_aux_lemma => kernel_rfl) (by as_aux_lemma => kernel_rfl) (fun _ _ _ h => h) (Or.inl ⟨by rfl, ?ys3_18⟩) (by assumption) ?rs3_18
      case ys3_18 => (intro w hSw; (try dsimp only at hSw); go_simp; try with_reducible rfl)
      try simp only [Act.put, List.setIfInBounds_toArray, List.set_cons_zero, List.set_cons_succ]
      refine wpAnyH_take (i := 19) (oi := ({ dst := some 61, op := .load 26 (.tmp 2), type := 26, pos := "law.go:114", after := #[{ on := 18, ground := .guard }], guard := some (18, false) } : Oper)) rfl parts14_plain (by as_aux_lemma => kernel_rfl) (by as_aux_lemma => kernel_rfl) (fun _ _ _ h => h) (yields_load (by rfl) 26 _ rfl _ _ rfl _ _ RA Tryd.underlying26 rfl iA) (by assumption) ?_
      try simp only [Act.put, List.setIfInBounds_toArray, List.set_cons_zero, List.set_cons_succ]
      refine wpAnyH_ready (rs := [20]) (by as_aux_lemma => kernel_rfl) (by simp) ?_
      refine AllReadyH.cons (o := ({ dst := some 62, op := .call { callee := .value (.func 14), args := #[.tmp 61], argTypes := #[26] }, type := 4, pos := "law.go:114", after := #[{ on := 19, ground := .data }, { on := 18, ground := .chain }, { on := 18, ground := .guard }], guard := some (18, false) } : Oper)) rfl (fun KK hK => ?_) AllReadyH.nil
      rw [if_pos (by rfl)]
      go_simp
      go_at_call 14; refine (QM.out _ (PN.out _ (by assumption))).mono ?_; rintro e w12 ⟨rfl, hb12⟩
      go_wp2_with fail
      refine hK.out _ _ ?_ (fun hHeld12 => ?_)
      · exact belowT (by assumption) hb12
      clear hK KK hb12 hHeld11
      try simp only [Act.put, List.setIfInBounds_toArray, List.set_cons_zero, List.set_cons_succ]
      refine wpAnyH_take (i := 21) (oi := ({ dst := some 63, op := .pick (.tmp 60) (.const (.bool true)) (.tmp 62), type := 4, pos := "law.go:114", after := #[{ on := 18, ground := .data }, { on := 20, ground := .data }, { on := 11, ground := .guard }], guard := some (11, true) } : Oper)) (v := ?vs3_21) rfl parts14_plain (by as_aux_lemma => kernel_rfl) (by as_aux_lemma => kernel_rfl) (fun _ _ _ h => h) (Or.inl ⟨by rfl, ?ys3_21⟩) (by assumption) ?rs3_21
      case ys3_21 => (intro w hSw; (try dsimp only at hSw); go_simp; try with_reducible rfl)
      try simp only [Act.put, List.setIfInBounds_toArray, List.set_cons_zero, List.set_cons_succ]
      refine wpAnyH_take (i := 22) (oi := ({ dst := some 64, op := .pick (.tmp 53) (.tmp 63) (.const (.bool false)), type := 4, pos := "law.go:114", after := #[{ on := 11, ground := .data }, { on := 21, ground := .data }, { on := 7, ground := .guard }], guard := some (7, false) } : Oper)) (v := ?vs3_22) rfl parts14_plain (by as_aux_lemma => kernel_rfl) (by as_aux_lemma => kernel_rfl) (fun _ _ _ h => h) (Or.inl ⟨by rfl, ?ys3_22⟩) (by assumption) ?rs3_22
      case ys3_22 => (intro w hSw; (try dsimp only at hSw); go_simp; try with_reducible rfl)
      try simp only [Act.put, List.setIfInBounds_toArray, List.set_cons_zero, List.set_cons_succ]
      refine wpAnyH_take (i := 23) (oi := ({ dst := some 65, op := .pick (.tmp 49) (.const (.bool true)) (.tmp 64), type := 4, pos := "law.go:114", after := #[{ on := 7, ground := .data }, { on := 22, ground := .data }], guard := none } : Oper)) (v := ?vs3_23) rfl parts14_plain (by as_aux_lemma => kernel_rfl) (by as_aux_lemma => kernel_rfl) (fun _ _ _ h => h) (Or.inl ⟨by rfl, ?ys3_23⟩) (by assumption) ?rs3_23
      case ys3_23 => (intro w hSw; (try dsimp only at hSw); go_simp; try with_reducible rfl)
      try simp only [Act.put, List.setIfInBounds_toArray, List.set_cons_zero, List.set_cons_succ]
      refine wpAnyH_take (i := 24) (oi := ({ dst := some 66, op := .move (.tmp 65), type := 4, pos := "law.go:114", after := #[{ on := 23, ground := .data }, { on := 20, ground := .chain }], guard := none } : Oper)) (v := ?vs3_24) rfl parts14_plain (by as_aux_lemma => kernel_rfl) (by as_aux_lemma => kernel_rfl) (fun _ _ _ h => h) (Or.inl ⟨by rfl, ?ys3_24⟩) (by assumption) ?rs3_24
      case ys3_24 => (intro w hSw; (try dsimp only at hSw); go_simp; try with_reducible rfl)
      try simp only [Act.put, List.setIfInBounds_toArray, List.set_cons_zero, List.set_cons_succ]
      refine wpAnyH_take (i := 25) (oi := ({ dst := some 67, op := .move (.tmp 5), type := 34, pos := "law.go:114", after := #[{ on := 24, ground := .guard }], guard := some (24, false) } : Oper)) (v := ?vs3_25) rfl parts14_plain (by as_aux_lemma => kernel_rfl) (by as_aux_lemma => kernel_rfl) (fun _ _ _ h => h) (Or.inl ⟨by rfl, ?ys3_25⟩) (by assumption) ?rs3_25
      case ys3_25 => (intro w hSw; (try dsimp only at hSw); go_simp; try with_reducible rfl)
      try simp only [Act.put, List.setIfInBounds_toArray, List.set_cons_zero, List.set_cons_succ]
      refine wpAnyH_take (i := 26) (oi := ({ dst := some 68, op := .call { callee := .builtin .len, args := #[.tmp 67], argTypes := #[34] }, type := 3, pos := "law.go:114", after := #[{ on := 25, ground := .data }, { on := 24, ground := .guard }], guard := some (24, false) } : Oper)) (v := ?vs3_26) rfl parts14_plain (by as_aux_lemma => kernel_rfl) (by as_aux_lemma => kernel_rfl) (fun _ _ _ h => h) (Or.inl ⟨by rfl, ?ys3_26⟩) (by assumption) ?rs3_26
      case ys3_26 => (intro w hSw; (try dsimp only at hSw); go_simp; try with_reducible rfl)
      try simp only [Act.put, List.setIfInBounds_toArray, List.set_cons_zero, List.set_cons_succ]
      refine wpAnyH_take (i := 27) (oi := ({ dst := some 69, op := .binOp .gtr 3 (.tmp 68) (.const (.int .i64 1)) 3, type := 4, pos := "law.go:114", after := #[{ on := 26, ground := .data }, { on := 24, ground := .guard }], guard := some (24, false) } : Oper)) (v := ?vs3_27) rfl parts14_plain (by as_aux_lemma => kernel_rfl) (by as_aux_lemma => kernel_rfl) (fun _ _ _ h => h) (Or.inl ⟨by rfl, ?ys3_27⟩) (by assumption) ?rs3_27
      case ys3_27 => (intro w hSw; (try dsimp only at hSw); go_simp; try with_reducible rfl)
      try simp only [Act.put, List.setIfInBounds_toArray, List.set_cons_zero, List.set_cons_succ]
      refine wpAnyH_take (i := 28) (oi := ({ dst := some 70, op := .move (.tmp 69), type := 4, pos := "law.go:114", after := #[{ on := 27, ground := .data }, { on := 24, ground := .chain }, { on := 24, ground := .guard }], guard := some (24, false) } : Oper)) (v := ?vs3_28) rfl parts14_plain (by as_aux_lemma => kernel_rfl) (by as_aux_lemma => kernel_rfl) (fun _ _ _ h => h) (Or.inl ⟨by rfl, ?ys3_28⟩) (by assumption) ?rs3_28
      case ys3_28 => (intro w hSw; (try dsimp only at hSw); go_simp; try with_reducible rfl)
      try simp only [Act.put, List.setIfInBounds_toArray, List.set_cons_zero, List.set_cons_succ]
      refine wpAnyH_take (i := 29) (oi := ({ dst := some 71, op := .load 26 (.tmp 2), type := 26, pos := "law.go:114", after := #[{ on := 28, ground := .guard }], guard := some (28, true) } : Oper)) (v := undef) rfl parts14_plain (by as_aux_lemma => kernel_rfl) (by as_aux_lemma => kernel_rfl) (fun _ _ _ h => h) (Or.inr ⟨by rfl, rfl⟩) (by assumption) ?_
      try simp only [Act.put, List.setIfInBounds_toArray, List.set_cons_zero, List.set_cons_succ]
      refine wpAnyH_take (i := 30) (oi := ({ dst := some 72, op := .call { callee := .value (.func 14), args := #[.tmp 71], argTypes := #[26] }, type := 4, pos := "law.go:114", after := #[{ on := 29, ground := .data }, { on := 28, ground := .chain }, { on := 28, ground := .guard }], guard := some (28, true) } : Oper)) (v := undef) rfl parts14_plain (by as_aux_lemma => kernel_rfl) (by as_aux_lemma => kernel_rfl) (fun _ _ _ h => h) (Or.inr ⟨by rfl, rfl⟩) (by assumption) ?_
      try simp only [Act.put, List.setIfInBounds_toArray, List.set_cons_zero, List.set_cons_succ]
      refine wpAnyH_take (i := 31) (oi := ({ dst := some 73, op := .unOp .not 4 (.tmp 72), type := 4, pos := "law.go:114", after := #[{ on := 30, ground := .data }, { on := 28, ground := .guard }], guard := some (28, true) } : Oper)) (v := undef) rfl parts14_plain (by as_aux_lemma => kernel_rfl) (by as_aux_lemma => kernel_rfl) (fun _ _ _ h => h) (Or.inr ⟨by rfl, rfl⟩) (by assumption) ?_
      try simp only [Act.put, List.setIfInBounds_toArray, List.set_cons_zero, List.set_cons_succ]
      refine wpAnyH_take (i := 32) (oi := ({ dst := some 74, op := .pick (.tmp 70) (.tmp 73) (.const (.bool false)), type := 4, pos := "law.go:114", after := #[{ on := 28, ground := .data }, { on := 31, ground := .data }, { on := 24, ground := .guard }], guard := some (24, false) } : Oper)) (v := ?vs3_32) rfl parts14_plain (by as_aux_lemma => kernel_rfl) (by as_aux_lemma => kernel_rfl) (fun _ _ _ h => h) (Or.inl ⟨by rfl, ?ys3_32⟩) (by assumption) ?rs3_32
      case ys3_32 => (intro w hSw; (try dsimp only at hSw); go_simp; try with_reducible rfl)
      try simp only [Act.put, List.setIfInBounds_toArray, List.set_cons_zero, List.set_cons_succ]
      refine wpAnyH_take (i := 33) (oi := ({ dst := some 75, op := .pick (.tmp 66) (.const (.bool true)) (.tmp 74), type := 4, pos := "law.go:114", after := #[{ on := 24, ground := .data }, { on := 32, ground := .data }], guard := none } : Oper)) (v := ?vs3_33) rfl parts14_plain (by as_aux_lemma => kernel_rfl) (by as_aux_lemma => kernel_rfl) (fun _ _ _ h => h) (Or.inl ⟨by rfl, ?ys3_33⟩) (by assumption) ?rs3_33
      case ys3_33 => (intro w hSw; (try dsimp only at hSw); go_simp; try with_reducible rfl)
      try simp only [Act.put, List.setIfInBounds_toArray, List.set_cons_zero, List.set_cons_succ]
      refine wpAnyH_done (by as_aux_lemma => kernel_rfl) ?_ _
      refine NoPanic.normal ?_
      have HBL := Lib.hid ((by assumption : Below w2.heap.size w2 w12))
      clear RA
      obtain ⟨wl, hwl⟩ : ∃ wl, wl = w12 := ⟨_, rfl⟩
      rw [← hwl] at HBL ⊢
      clear hwl
      have HBW := Lib.hid (belowT HB2.out HBL.out)
      have NL := Lib.hid (N2.out.keep HBL.out)
      have HC3 := HC2.out.keep HBL.out
      have c0 := HC3.c0
      have c1 := HC3.c1
      clear HC3
      obtain ⟨em, em', ek, ek'⟩ := EM.out
      rw [em] at em'
      rw [ek] at ek'
      clear hcp
      go_upto_region 16 with fail
      go_quiet (fail)
      generalize hW4 : World.drewN wl _ = W4
      have B4 : Below wl.heap.size wl W4 := by rw [← hW4]; exact belowN (Below.refl _ _) _
      clear hW4 c0 c1 em ek
      have HB4 := Lib.hid (belowT HBW.out B4)
      have PN4 : Hid (∀ w', Below W4.heap.size W4 w' → PairsAt w') := Lib.hid fun w' h => NL.out.keep (belowT B4 h)
      clear B4
      have hxm := HXM.out
      have hxk := HXK.out
      have hm22 : (m : Int) < 22 := by have := HMK.out.1; omega
      have hk22 : (k : Int) < 22 := by have := HMK.out.2; omega
      obtain ⟨bq, hbq⟩ : ∃ bq, bq = ((m : Int) == (k : Int)) := ⟨_, rfl⟩
      have hq1 : ((tl.length : Int) == 0) = bq := by rw [hbq]; exact TI.out
      have hq2 : ((m : Int) == (k : Int)) = bq := hbq.symm
      clear hbq
      go_upto_region 17 with fail
      change (Code.region 17 parts17 true).wp Tryd.prog _ _ _
      refine wp_region_noPanic ?_
      refine wp_region_held_drew (S := fun w' => Below W4.heap.size W4 w') (by kernel_rfl) ((Below.refl _ _).drew) (fun hHeld => ?_)
      refine wpAnyH_take (i := 1) (oi := ({ dst := some 87, op := .move (.tmp 11), type := 3, pos := "law.go:118", after := #[], guard := none } : Oper)) (v := ?vs4_1) rfl parts17_plain (by as_aux_lemma => kernel_rfl) (by as_aux_lemma => kernel_rfl) (fun _ _ _ h => h) (Or.inl ⟨by rfl, ?ys4_1⟩) (by assumption) ?rs4_1
      case ys4_1 => (intro w hSw; (try dsimp only at hSw); go_simp; try with_reducible rfl)
      try simp only [Act.put, List.setIfInBounds_toArray, List.set_cons_zero, List.set_cons_succ]
      refine wpAnyH_take (i := 4) (oi := ({ dst := some 90, op := .move (.tmp 12), type := 3, pos := "law.go:118", after := #[], guard := none } : Oper)) (v := ?vs4_4) rfl parts17_plain (by as_aux_lemma => kernel_rfl) (by as_aux_lemma => kernel_rfl) (fun _ _ _ h => h) (Or.inl ⟨by rfl, ?ys4_4⟩) (by assumption) ?rs4_4
      case ys4_4 => (intro w hSw; (try dsimp only at hSw); go_simp; try with_reducible rfl)
      try simp only [Act.put, List.setIfInBounds_toArray, List.set_cons_zero, List.set_cons_succ]
      refine wpAnyH_take (i := 9) (oi := ({ dst := some 95, op := .move (.tmp 11), type := 3, pos := "law.go:118", after := #[], guard := none } : Oper)) (v := ?vs4_9) rfl parts17_plain (by as_aux_lemma => kernel_rfl) (by as_aux_lemma => kernel_rfl) (fun _ _ _ h => h) (Or.inl ⟨by rfl, ?ys4_9⟩) (by assumption) ?rs4_9
      case ys4_9 => (intro w hSw; (try dsimp only at hSw); go_simp; try with_reducible rfl)
      try simp only [Act.put, List.setIfInBounds_toArray, List.set_cons_zero, List.set_cons_succ]
      refine wpAnyH_take (i := 10) (oi := ({ dst := some 96, op := .move (.tmp 12), type := 3, pos := "law.go:118", after := #[], guard := none } : Oper)) (v := ?vs4_10) rfl parts17_plain (by as_aux_lemma => kernel_rfl) (by as_aux_lemma => kernel_rfl) (fun _ _ _ h => h) (Or.inl ⟨by rfl, ?ys4_10⟩) (by assumption) ?rs4_10
      case ys4_10 => (intro w hSw; (try dsimp only at hSw); go_simp; try with_reducible rfl)
      try simp only [Act.put, List.setIfInBounds_toArray, List.set_cons_zero, List.set_cons_succ]
      refine wpAnyH_take (i := 11) (oi := ({ dst := some 97, op := .binOp .eql 3 (.tmp 95) (.tmp 96) 3, type := 4, pos := "law.go:118", after := #[{ on := 9, ground := .data }, { on := 10, ground := .data }], guard := none } : Oper)) (v := ?vs4_11) rfl parts17_plain (by as_aux_lemma => kernel_rfl) (by as_aux_lemma => kernel_rfl) (fun _ _ _ h => h) (Or.inl ⟨by rfl, ?ys4_11⟩) (by assumption) ?rs4_11
      case ys4_11 => (intro w hSw; (try dsimp only at hSw); go_simp; try with_reducible rfl)
      try simp only [Act.put, List.setIfInBounds_toArray, List.set_cons_zero, List.set_cons_succ]
      refine wpAnyH_ready (rs := [0]) (by as_aux_lemma => kernel_rfl) (by simp) ?_
      refine AllReadyH.cons (o := ({ dst := some 86, op := .call { callee := .value (.func 20), args := #[], argTypes := #[] }, type := 38, pos := "law.go:118", after := #[], guard := none } : Oper)) rfl (fun KK hK => ?_) AllReadyH.nil
      rw [if_pos (by rfl)]
      go_simp
      go_at_call 20; refine (HY.out _ (PN4.out _ (by assumption))).mono ?_; rintro e w30 ⟨rfl, hb30⟩
      go_wp2_with fail
      refine hK.out _ _ ?_ (fun hHeld30 => ?_)
      · exact belowT (by assumption) hb30
      clear hK KK hb30
      try simp only [Act.put, List.setIfInBounds_toArray, List.set_cons_zero, List.set_cons_succ]
      refine wpAnyH_take (i := 2) (oi := ({ dst := some 88, op := .index 38 (.tmp 86) (.tmp 87), type := 3, pos := "law.go:118", after := #[{ on := 0, ground := .data }, { on := 1, ground := .data }], guard := none } : Oper)) (v := ?vs4_2) rfl parts17_plain (by as_aux_lemma => kernel_rfl) (by as_aux_lemma => kernel_rfl) (fun _ _ _ h => h) (Or.inl ⟨by rfl, ?ys4_2⟩) (by assumption) ?rs4_2
      case ys4_2 => (intro w hSw; (try dsimp only at hSw); go_simp; try with_reducible rfl)
      try simp only [Act.put, List.setIfInBounds_toArray, List.set_cons_zero, List.set_cons_succ]
      refine wpAnyH_ready (rs := [3]) (by as_aux_lemma => kernel_rfl) (by simp) ?_
      refine AllReadyH.cons (o := ({ dst := some 89, op := .call { callee := .value (.func 20), args := #[], argTypes := #[] }, type := 38, pos := "law.go:118", after := #[{ on := 0, ground := .chain }], guard := none } : Oper)) rfl (fun KK hK => ?_) AllReadyH.nil
      rw [if_pos (by rfl)]
      go_simp
      go_at_call 20; refine (HY.out _ (PN4.out _ (by assumption))).mono ?_; rintro e w31 ⟨rfl, hb31⟩
      go_wp2_with fail
      refine hK.out _ _ ?_ (fun hHeld31 => ?_)
      · exact belowT (by assumption) hb31
      clear hK KK hb31 hHeld30
      try simp only [Act.put, List.setIfInBounds_toArray, List.set_cons_zero, List.set_cons_succ]
      refine wpAnyH_take (i := 5) (oi := ({ dst := some 91, op := .index 38 (.tmp 89) (.tmp 90), type := 3, pos := "law.go:118", after := #[{ on := 3, ground := .data }, { on := 4, ground := .data }], guard := none } : Oper)) (v := ?vs4_5) rfl parts17_plain (by as_aux_lemma => kernel_rfl) (by as_aux_lemma => kernel_rfl) (fun _ _ _ h => h) (Or.inl ⟨by rfl, ?ys4_5⟩) (by assumption) ?rs4_5
      case ys4_5 => (intro w hSw; (try dsimp only at hSw); go_simp; try with_reducible rfl)
      try simp only [Act.put, List.setIfInBounds_toArray, List.set_cons_zero, List.set_cons_succ]
      refine wpAnyH_ready (rs := [6]) (by as_aux_lemma => kernel_rfl) (by simp) ?_
      refine AllReadyH.cons (o := ({ dst := some 92, op := .call { callee := .value (.func 27), args := #[.tmp 88, .tmp 91], argTypes := #[3, 3] }, type := 34, pos := "law.go:118", after := #[{ on := 2, ground := .data }, { on := 5, ground := .data }, { on := 3, ground := .chain }], guard := none } : Oper)) rfl (fun KK hK => ?_) AllReadyH.nil
      rw [if_pos (by rfl)]
      go_simp
      go_at_call 27; refine (TL.out _ (PN4.out _ (by assumption))).mono ?_; rintro e w32 ⟨b32, k32, rfl, D32, hb32⟩
      have E32 := Lib.hid D32
      go_wp2_with fail
      refine hK.out _ _ ?_ (fun hHeld32 => ?_)
      · exact belowT (by assumption) hb32
      refine wpAnyH_rebase (S' := fun w' => Below w32.heap.size w32 w') (fun w' h => belowT hHeld32 h) _ _ _ _ ?_
      have hHeldR32 := Below.refl w32.heap.size w32
      clear hK KK
      try simp only [Act.put, List.setIfInBounds_toArray, List.set_cons_zero, List.set_cons_succ]
      refine wpAnyH_take (i := 7) (oi := ({ dst := some 93, op := .call { callee := .builtin .len, args := #[.tmp 92], argTypes := #[34] }, type := 3, pos := "law.go:118", after := #[{ on := 6, ground := .data }], guard := none } : Oper)) (v := ?vs4_7) rfl parts17_plain (by as_aux_lemma => kernel_rfl) (by as_aux_lemma => kernel_rfl) (fun _ _ _ h => h) (Or.inl ⟨by rfl, ?ys4_7⟩) (by assumption) ?rs4_7
      case ys4_7 => (intro w hSw; (try dsimp only at hSw); have hS0 := belowT hHeld32 hSw; go_simp; try with_reducible rfl)
      try simp only [Act.put, List.setIfInBounds_toArray, List.set_cons_zero, List.set_cons_succ]
      refine wpAnyH_take (i := 8) (oi := ({ dst := some 94, op := .binOp .eql 3 (.tmp 93) (.const (.int .i64 0)) 3, type := 4, pos := "law.go:118", after := #[{ on := 7, ground := .data }], guard := none } : Oper)) (v := ?vs4_8) rfl parts17_plain (by as_aux_lemma => kernel_rfl) (by as_aux_lemma => kernel_rfl) (fun _ _ _ h => h) (Or.inl ⟨by rfl, ?ys4_8⟩) (by assumption) ?rs4_8
      case ys4_8 => (intro w hSw; (try dsimp only at hSw); have hS0 := belowT hHeld32 hSw; go_simp; try with_reducible rfl)
      try simp only [Act.put, List.setIfInBounds_toArray, List.set_cons_zero, List.set_cons_succ]
      refine wpAnyH_take (i := 12) (oi := ({ dst := some 98, op := .binOp .eql 4 (.tmp 94) (.tmp 97) 4, type := 4, pos := "law.go:118", after := #[{ on := 8, ground := .data }, { on := 11, ground := .data }], guard := none } : Oper)) (v := ?vs4_12) rfl parts17_plain (by as_aux_lemma => kernel_rfl) (by as_aux_lemma => kernel_rfl) (fun _ _ _ h => h) (Or.inl ⟨by rfl, ?ys4_12⟩) (by assumption) ?rs4_12
      case ys4_12 => (intro w hSw; (try dsimp only at hSw); have hS0 := belowT hHeld32 hSw; go_simp; try with_reducible rfl)
      try simp only [Act.put, List.setIfInBounds_toArray, List.set_cons_zero, List.set_cons_succ]
      refine wpAnyH_take (i := 13) (oi := ({ dst := some 99, op := .move (.tmp 98), type := 4, pos := "law.go:118", after := #[{ on := 12, ground := .data }, { on := 6, ground := .chain }], guard := none } : Oper)) (v := ?vs4_13) rfl parts17_plain (by as_aux_lemma => kernel_rfl) (by as_aux_lemma => kernel_rfl) (fun _ _ _ h => h) (Or.inl ⟨by rfl, ?ys4_13⟩) (by assumption) ?rs4_13
      case ys4_13 => (intro w hSw; (try dsimp only at hSw); have hS0 := belowT hHeld32 hSw; go_simp; try with_reducible rfl)
      try simp only [Act.put, List.setIfInBounds_toArray, List.set_cons_zero, List.set_cons_succ]
      refine wpAnyH_ready (rs := [14]) (by as_aux_lemma => kernel_rfl) (by simp) ?_
      refine AllReadyH.cons (o := ({ dst := some 100, op := .call { callee := .value (.func 18), args := #[], argTypes := #[] }, type := 4, pos := "law.go:118", after := #[{ on := 13, ground := .chain }, { on := 13, ground := .guard }], guard := some (13, true) } : Oper)) rfl (fun KK hK => ?_) AllReadyH.nil
      rw [if_pos (by rfl)]
      go_simp
      go_at_call 18; refine (AW.out _ (PN4.out _ (belowT hHeld32 (by assumption)))).mono ?_; rintro e w33 ⟨rfl, hb33⟩
      go_wp2_with fail
      refine hK.out _ _ ?_ (fun hHeld33 => ?_)
      · exact belowT (by assumption) hb33
      clear hK KK hb33
      try simp only [Act.put, List.setIfInBounds_toArray, List.set_cons_zero, List.set_cons_succ]
      refine wpAnyH_take (i := 15) (oi := ({ dst := some 101, op := .pick (.tmp 99) (.tmp 100) (.const (.bool false)), type := 4, pos := "law.go:118", after := #[{ on := 13, ground := .data }, { on := 14, ground := .data }], guard := none } : Oper)) (v := ?vs4_15) rfl parts17_plain (by as_aux_lemma => kernel_rfl) (by as_aux_lemma => kernel_rfl) (fun _ _ _ h => h) (Or.inl ⟨by rfl, ?ys4_15⟩) (by assumption) ?rs4_15
      case ys4_15 => (intro w hSw; (try dsimp only at hSw); have hS0 := belowT hHeld32 hSw; go_simp; try with_reducible rfl)
      try simp only [Act.put, List.setIfInBounds_toArray, List.set_cons_zero, List.set_cons_succ]
      refine wpAnyH_take (i := 16) (oi := ({ dst := some 4, op := .assign (.tmp 101), type := 4, pos := "law.go:118", after := #[{ on := 15, ground := .data }, { on := 14, ground := .chain }, { on := 0, ground := .phase }, { on := 1, ground := .phase }, { on := 2, ground := .phase }, { on := 3, ground := .phase }, { on := 4, ground := .phase }, { on := 5, ground := .phase }, { on := 6, ground := .phase }, { on := 7, ground := .phase }, { on := 8, ground := .phase }, { on := 9, ground := .phase }, { on := 10, ground := .phase }, { on := 11, ground := .phase }, { on := 12, ground := .phase }, { on := 13, ground := .phase }, { on := 14, ground := .phase }, { on := 15, ground := .phase }], guard := none } : Oper)) (v := ?vs4_16) rfl parts17_plain (by as_aux_lemma => kernel_rfl) (by as_aux_lemma => kernel_rfl) (fun _ _ _ h => h) (Or.inl ⟨by rfl, ?ys4_16⟩) (by assumption) ?rs4_16
      case ys4_16 => (intro w hSw; (try dsimp only at hSw); have hS0 := belowT hHeld32 hSw; go_simp; try with_reducible rfl)
      try simp only [Act.put, List.setIfInBounds_toArray, List.set_cons_zero, List.set_cons_succ]
      refine wpAnyH_done (by as_aux_lemma => kernel_rfl) ?_ _
      refine NoPanic.normal ?_
      have hz := hHeld33
      go_wp2
      go_ret
      exact ⟨rfl, belowT HB4.out (belowT hHeld32 hz)⟩

set_option maxHeartbeats 8000000 in
set_option maxRecDepth 100000 in
theorem Parts_many (al : List Bool) (hl : al.length = 22) (a c : Int) (m k : Nat) (hm : m < 22) (hk : k < 22) (em : (IntKind.u64.wrap a).tmod 22 = m) (em' : wrap64 ((IntKind.u64.wrap a).tmod 22) = m) (ek : (IntKind.u64.wrap c).tmod 22 = k) (ek' : wrap64 ((IntKind.u64.wrap c).tmod 22) = k)
    (ns : List Nat) (hns : ns = Hyp.parts al) (hc : 1 < ns.length) (w : World) (n : PairsAt w) :
    Calls Tryd.prog 7 #[.agg (bl al), .agg #[.int .i64 a, .int .i64 c]] w fun e w' => e = .returned (.bool true) ∧ Below w.heap.size w w' := by
  have L1 := Lib.hid (fun w n => lies_out (Lan23.Parts_any al hl w n))
  rw [← hns] at L1
  have hle : ns.length ≤ 22 := by rw [hns]; exact Hyp.parts_len al
  have HLT : Hid (∀ x ∈ ns, x < 64) := Lib.hid fun x h => by rw [hns] at h; exact Hyp.parts_lt h
  have HFO : Hid (∀ j, j < 22 → al.getD j false = true → (ns.any fun p => Sub.within p (Hyp.setN j)) = true) := Lib.hid fun j h1 h2 => by rw [hns]; exact Hyp.found_of al j h1 h2
  have QA : Hid (∀ w, PairsAt w → Calls Tryd.prog 10 #[.agg (bl al)] w fun e w' => e = .returned (.bool true) ∧ Below w.heap.size w w') := Lib.hid fun w n => by
    have h := Lan23.Any_any al hl w n
    rwa [(Hyp.parts_more (hns ▸ hc)).1] at h
  have QM : Hid (∀ w, PairsAt w → Calls Tryd.prog 14 #[.agg (bl al)] w fun e w' => e = .returned (.bool true) ∧ Below w.heap.size w w') := Lib.hid fun w n => by
    have h := Lan23.Ambiguous_any al hl w n
    rwa [(Hyp.parts_more (hns ▸ hc)).2] at h
  have AW := Lib.hid awake_any
  have TL := Lib.hid (fun w n => lies_out (Lan23.Tell_any (Hyp.setN m : Int) (Hyp.setN k : Int) w n))
  have TI := Lib.hid (Hyp.tell_iff m k hm hk)
  have HY := Lib.hid (fun w n => Lan11.Hypos_any w n)
  have hxm := fun w => hypoCell_at m hm w
  have hxk := fun w => hypoCell_at k hk w
  rw [Hyp.num_set m hm] at hxm
  rw [Hyp.num_set k hk] at hxk
  have HXM := Lib.hid hxm
  have HXK := Lib.hid hxk
  have HI := Lib.hid hypoCell_at
  have EM := Lib.hid (And.intro em (And.intro em' (And.intro ek ek')))
  have HMK : Hid (m < 22 ∧ k < 22) := Lib.hid ⟨hm, hk⟩
  have iA := info22 hl
  have SZ : Hid ((Tryd.prog.info? 26).map (·.size) = some (bl al).size) := Lib.hid iA
  generalize hypoCells = harr at *
  obtain ⟨W0, hW0⟩ : ∃ W0, W0 = (w.alloc (.cells (bl al) 26)).alloc (.cells #[.int .i64 a, .int .i64 c] 27) := ⟨_, rfl⟩
  have B0 : Below w.heap.size w W0 := hW0 ▸ below2 w _ _
  have N0 := Lib.hid (n.keep B0)
  have HAL : Hid (ArrB W0 w.heap.size al) := Lib.hid (by rw [hW0]; exact (ArrB.new w al _).keep (below1 _ _))
  have HC0 : Hid (Own2 W0 (w.heap.size + 1) (.int .i64 a) (.int .i64 c)) := Lib.hid (by rw [hW0]; exact own2b w _ _ _ _)
  have HRA : Hid (∀ w', ArrB w' w.heap.size al → w'.rangeAt w.heap.size 0 (bl al).toList) := Lib.hid fun _ h => h
  have RA0 := HRA.out _ HAL.out
  have HCC := Lib.hid hc
  clear hc hns hxm hxk em em' ek ek' hm hk
  generalize bl al = arr at *
  generalize Hyp.ints (Hyp.tell (Hyp.setN m : Int) (Hyp.setN k : Int) 15) = tl at *
  have HB0 := Lib.hid B0
  clear B0
  go_enter Tryd.func7, Tryd.ntmps7
  go_upto_region 1 with fail
  rw [← hW0]
  clear hW0
  go_wp2_with (refine list_load_any rfl 26 _ rfl _ 0 rfl arr _ RA0 Tryd.underlying26 rfl iA ?_)
  clear RA0
  refine (L1.out W0 N0.out).mono ?_
  rintro e w1 ⟨ba, cap, rfl, D1, hb1⟩
  have HL := Lib.hid D1
  have HB1 := Lib.hid (belowT HB0.out hb1)
  have N1 := Lib.hid (N0.out.keep hb1)
  have HAL1 := Lib.hid (HAL.out.keep hb1)
  have HC1 := Lib.hid (HC0.out.keep hb1)
  clear D1 hb1 HB0 N0 HAL HC0 L1
  rw [Hyp.ints_len]
  go_wp2_with fail
  refine (HY.out w1 N1.out).mono ?_
  rintro e w2 ⟨rfl, hb2⟩
  have HL2 := Lib.hid (HL.out.keep hb2)
  have HB2 := Lib.hid (belowT HB1.out hb2)
  have N2 := Lib.hid (N1.out.keep hb2)
  have HAL2 := Lib.hid (HAL1.out.keep hb2)
  have HC2 := Lib.hid (HC1.out.keep hb2)
  clear hb2 HL HB1 N1 HAL1 HC1
  go_wp2
  go_loop [16] (fun i => ∃ j : Nat, j ≤ 22 ∧ i = .int .i64 j) (fun i => 22 - (intOf i).toNat)
  case atStart => exact ⟨0, by omega, rfl⟩
  case round =>
    obtain ⟨j, hj, rfl⟩ := hrel
    by_cases h22 : (j : Int) < 22
    · have HJ : Hid (j < 22) := Lib.hid (by omega)
      have hix := HI.out j HJ.out
      rw [Hyp.num_set j HJ.out] at hix
      have hcell := HAL2.out.at j (by rw [hl]; exact HJ.out)
      have HCE := Lib.hid hcell
      clear hcell
      go_wp2
      go_loop [8, 22] (fun v i => ∃ q : Nat, q ≤ ns.length ∧ i = .int .i64 q ∧ v = .bool ((ns.take q).any fun p => Sub.within p (Hyp.setN j))) (fun _ i => 22 - (intOf i).toNat)
      case atStart => exact ⟨0, by omega, rfl, rfl⟩
      case round =>
        clear hix
        obtain ⟨q, hq, rfl, rfl⟩ := hrel
        by_cases hlt : (q : Int) < ns.length
        · have hqn : q < ns.length := by omega
          obtain ⟨g, rfl, hc⟩ := HL2.out (by rw [Hyp.ints_len]; omega)
          have c1 := hc q (by rw [Hyp.ints_len]; exact hqn)
          rw [Hyp.ints_at] at c1
          have h64 : ns.getD q 0 < 64 := by
            rw [List.getD_eq_getElem?_getD, List.getElem?_eq_getElem hqn]
            exact HLT.out _ (List.getElem_mem hqn)
          have HT := Lib.hid (Hyp.any_take (h := Hyp.setN j) hqn)
          have han := Sub.andNot_bits (ns.getD q 0) h64 (Hyp.setN j : Int)
          rw [Hyp.low_set] at han
          generalize ns.getD q 0 = z at *
          generalize (ns.take q).any (fun p => Sub.within p (Hyp.setN j)) = f0 at *
          generalize Sub.within z (Hyp.setN j) = f1 at *
          clear hc hqn h64
          cases f0
          · go_wp2
            go_round
            case rel => exact ⟨q + 1, by omega, rfl, by rw [HT.out]; rfl⟩
            case measure => simp [intOf]; omega
          · clear han
            go_wp2
            go_round
            case rel => exact ⟨q + 1, by omega, rfl, by rw [HT.out]; rfl⟩
            case measure => simp [intOf]; omega
        · obtain rfl : q = ns.length := by omega
          rw [List.take_length]
          have hcell := HCE.out
          have HF := Lib.hid (HFO.out j HJ.out)
          generalize (ns.any fun p => Sub.within p (Hyp.setN j)) = f0 at *
          cases hq2 : al.getD j false
          · rw [hq2] at hcell
            clear hq2
            go_wp2
            go_round
            case rel => exact ⟨j + 1, by omega, rfl⟩
            case measure => simp [intOf]; omega
          · rw [hq2] at hcell
            have := HF.out hq2
            subst this
            clear hq2
            go_wp2
            go_round
            case rel => exact ⟨j + 1, by omega, rfl⟩
            case measure => simp [intOf]; omega
    · obtain rfl : j = 22 := by omega
      have RA : ∀ w', Below w2.heap.size w2 w' → w'.rangeAt w.heap.size 0 arr.toList := fun w' h => HRA.out _ (HAL2.out.keep h)
      have PN : Hid (∀ w', Below w2.heap.size w2 w' → PairsAt w') := Lib.hid fun w' h => N2.out.keep h
      have hq0 : ((ns.length : Int) == 0) = false := by
        have := HCC.out
        have : ¬ ((ns.length : Int) = 0) := by omega
        simpa using this
      have hq1 : ((ns.length : Int) == 1) = false := by
        have := HCC.out
        have : ¬ ((ns.length : Int) = 1) := by omega
        simpa using this
      have hg1 : decide ((1 : Int) < (ns.length : Int)) = true := decide_eq_true (by have := HCC.out; omega)
      generalize ns.length = L at *
      clear HI HFO HLT hle
      go_upto_region 14 with fail
      change (Code.region 14 parts14 true).wp Tryd.prog _ _ _
      refine wp_region_noPanic ?_
      refine wp_region_held_drew (S := fun w' => Below w2.heap.size w2 w') (by kernel_rfl) ((Below.refl _ _).drew) (fun hHeld => ?_)
      refine wpAnyH_take (i := 0) (oi := ({ dst := some 42, op := .move (.tmp 5), type := 34, pos := "law.go:114", after := #[], guard := none } : Oper)) (v := ?vs5_0) rfl parts14_plain (by as_aux_lemma => kernel_rfl) (by as_aux_lemma => kernel_rfl) (fun _ _ _ h => h) (Or.inl ⟨by rfl, ?ys5_0⟩) (by assumption) ?rs5_0
      case ys5_0 => (intro w hSw; (try dsimp only at hSw); go_simp; try with_reducible rfl)
      try simp only [Act.put, List.setIfInBounds_toArray, List.set_cons_zero, List.set_cons_succ]
      refine wpAnyH_take (i := 1) (oi := ({ dst := some 43, op := .call { callee := .builtin .len, args := #[.tmp 42], argTypes := #[34] }, type := 3, pos := "law.go:114", after := #[{ on := 0, ground := .data }], guard := none } : Oper)) (v := ?vs5_1) rfl parts14_plain (by as_aux_lemma => kernel_rfl) (by as_aux_lemma => kernel_rfl) (fun _ _ _ h => h) (Or.inl ⟨by rfl, ?ys5_1⟩) (by assumption) ?rs5_1
      case ys5_1 => (intro w hSw; (try dsimp only at hSw); go_simp; try with_reducible rfl)
      try simp only [Act.put, List.setIfInBounds_toArray, List.set_cons_zero, List.set_cons_succ]
      refine wpAnyH_take (i := 2) (oi := ({ dst := some 44, op := .binOp .eql 3 (.tmp 43) (.const (.int .i64 0)) 3, type := 4, pos := "law.go:114", after := #[{ on := 1, ground := .data }], guard := none } : Oper)) (v := ?vs5_2) rfl parts14_plain (by as_aux_lemma => kernel_rfl) (by as_aux_lemma => kernel_rfl) (fun _ _ _ h => h) (Or.inl ⟨by rfl, ?ys5_2⟩) (by assumption) ?rs5_2
      case ys5_2 => (intro w hSw; (try dsimp only at hSw); go_simp; try with_reducible rfl)
      try simp only [Act.put, List.setIfInBounds_toArray, List.set_cons_zero, List.set_cons_succ]
      refine wpAnyH_take (i := 3) (oi := ({ dst := some 45, op := .load 26 (.tmp 2), type := 26, pos := "law.go:114", after := #[], guard := none } : Oper)) rfl parts14_plain (by as_aux_lemma => kernel_rfl) (by as_aux_lemma => kernel_rfl) (fun _ _ _ h => h) (yields_load (by rfl) 26 _ rfl _ _ rfl _ _ RA Tryd.underlying26 rfl iA) (by assumption) ?_
      try simp only [Act.put, List.setIfInBounds_toArray, List.set_cons_zero, List.set_cons_succ]
      refine wpAnyH_ready (rs := [4]) (by as_aux_lemma => kernel_rfl) (by simp) ?_
      refine AllReadyH.cons (o := ({ dst := some 46, op := .call { callee := .value (.func 10), args := #[.tmp 45], argTypes := #[26] }, type := 4, pos := "law.go:114", after := #[{ on := 3, ground := .data }], guard := none } : Oper)) rfl (fun KK hK => ?_) AllReadyH.nil
      rw [if_pos (by rfl)]
      go_simp
      go_at_call 10; refine (QA.out _ (PN.out _ (by assumption))).mono ?_; rintro e w10 ⟨rfl, hb10⟩
      go_wp2_with fail
      refine hK.out _ _ ?_ (fun hHeld10 => ?_)
      · exact belowT (by assumption) hb10
      clear hK KK hb10
      try simp only [Act.put, List.setIfInBounds_toArray, List.set_cons_zero, List.set_cons_succ]
      refine wpAnyH_take (i := 5) (oi := ({ dst := some 47, op := .unOp .not 4 (.tmp 46), type := 4, pos := "law.go:114", after := #[{ on := 4, ground := .data }], guard := none } : Oper)) (v := ?vs5_5) rfl parts14_plain (by as_aux_lemma => kernel_rfl) (by as_aux_lemma => kernel_rfl) (fun _ _ _ h => h) (Or.inl ⟨by rfl, ?ys5_5⟩) (by assumption) ?rs5_5
      case ys5_5 => (intro w hSw; (try dsimp only at hSw); go_simp; try with_reducible rfl)
      try simp only [Act.put, List.setIfInBounds_toArray, List.set_cons_zero, List.set_cons_succ]
      refine wpAnyH_take (i := 6) (oi := ({ dst := some 48, op := .binOp .neq 4 (.tmp 44) (.tmp 47) 4, type := 4, pos := "law.go:114", after := #[{ on := 2, ground := .data }, { on := 5, ground := .data }], guard := none } : Oper)) (v := ?vs5_6) rfl parts14_plain (by as_aux_lemma => kernel_rfl) (by as_aux_lemma => kernel_rfl) (fun _ _ _ h => h) (Or.inl ⟨by rfl, ?ys5_6⟩) (by assumption) ?rs5_6
      case ys5_6 => (intro w hSw; (try dsimp only at hSw); go_simp; try with_reducible rfl)
      try simp only [Act.put, List.setIfInBounds_toArray, List.set_cons_zero, List.set_cons_succ]
      refine wpAnyH_take (i := 7) (oi := ({ dst := some 49, op := .move (.tmp 48), type := 4, pos := "law.go:114", after := #[{ on := 6, ground := .data }, { on := 4, ground := .chain }], guard := none } : Oper)) (v := ?vs5_7) rfl parts14_plain (by as_aux_lemma => kernel_rfl) (by as_aux_lemma => kernel_rfl) (fun _ _ _ h => h) (Or.inl ⟨by rfl, ?ys5_7⟩) (by assumption) ?rs5_7
      case ys5_7 => (intro w hSw; (try dsimp only at hSw); go_simp; try with_reducible rfl)
      try simp only [Act.put, List.setIfInBounds_toArray, List.set_cons_zero, List.set_cons_succ]
      refine wpAnyH_take (i := 8) (oi := ({ dst := some 50, op := .move (.tmp 5), type := 34, pos := "law.go:114", after := #[{ on := 7, ground := .guard }], guard := some (7, false) } : Oper)) (v := ?vs5_8) rfl parts14_plain (by as_aux_lemma => kernel_rfl) (by as_aux_lemma => kernel_rfl) (fun _ _ _ h => h) (Or.inl ⟨by rfl, ?ys5_8⟩) (by assumption) ?rs5_8
      case ys5_8 => (intro w hSw; (try dsimp only at hSw); go_simp; try with_reducible rfl)
      try simp only [Act.put, List.setIfInBounds_toArray, List.set_cons_zero, List.set_cons_succ]
      refine wpAnyH_take (i := 9) (oi := ({ dst := some 51, op := .call { callee := .builtin .len, args := #[.tmp 50], argTypes := #[34] }, type := 3, pos := "law.go:114", after := #[{ on := 8, ground := .data }, { on := 7, ground := .guard }], guard := some (7, false) } : Oper)) (v := ?vs5_9) rfl parts14_plain (by as_aux_lemma => kernel_rfl) (by as_aux_lemma => kernel_rfl) (fun _ _ _ h => h) (Or.inl ⟨by rfl, ?ys5_9⟩) (by assumption) ?rs5_9
      case ys5_9 => (intro w hSw; (try dsimp only at hSw); go_simp; try with_reducible rfl)
      try simp only [Act.put, List.setIfInBounds_toArray, List.set_cons_zero, List.set_cons_succ]
      refine wpAnyH_take (i := 10) (oi := ({ dst := some 52, op := .binOp .eql 3 (.tmp 51) (.const (.int .i64 1)) 3, type := 4, pos := "law.go:114", after := #[{ on := 9, ground := .data }, { on := 7, ground := .guard }], guard := some (7, false) } : Oper)) (v := ?vs5_10) rfl parts14_plain (by as_aux_lemma => kernel_rfl) (by as_aux_lemma => kernel_rfl) (fun _ _ _ h => h) (Or.inl ⟨by rfl, ?ys5_10⟩) (by assumption) ?rs5_10
      case ys5_10 => (intro w hSw; (try dsimp only at hSw); go_simp; try with_reducible rfl)
      try simp only [Act.put, List.setIfInBounds_toArray, List.set_cons_zero, List.set_cons_succ]
      refine wpAnyH_take (i := 11) (oi := ({ dst := some 53, op := .move (.tmp 52), type := 4, pos := "law.go:114", after := #[{ on := 10, ground := .data }, { on := 7, ground := .chain }, { on := 7, ground := .guard }], guard := some (7, false) } : Oper)) (v := ?vs5_11) rfl parts14_plain (by as_aux_lemma => kernel_rfl) (by as_aux_lemma => kernel_rfl) (fun _ _ _ h => h) (Or.inl ⟨by rfl, ?ys5_11⟩) (by assumption) ?rs5_11
      case ys5_11 => (intro w hSw; (try dsimp only at hSw); go_simp; try with_reducible rfl)
      try simp only [Act.put, List.setIfInBounds_toArray, List.set_cons_zero, List.set_cons_succ]
      refine wpAnyH_take (i := 12) (oi := ({ dst := some 54, op := .load 26 (.tmp 2), type := 26, pos := "law.go:114", after := #[{ on := 11, ground := .guard }], guard := some (11, true) } : Oper)) (v := undef) rfl parts14_plain (by as_aux_lemma => kernel_rfl) (by as_aux_lemma => kernel_rfl) (fun _ _ _ h => h) (Or.inr ⟨by rfl, rfl⟩) (by assumption) ?_
      try simp only [Act.put, List.setIfInBounds_toArray, List.set_cons_zero, List.set_cons_succ]
      refine wpAnyH_take (i := 13) (oi := ({ dst := some 55, op := .call { callee := .value (.func 12), args := #[.tmp 54], argTypes := #[26] }, type := 3, pos := "law.go:114", after := #[{ on := 12, ground := .data }, { on := 11, ground := .chain }, { on := 11, ground := .guard }], guard := some (11, true) } : Oper)) (v := undef) rfl parts14_plain (by as_aux_lemma => kernel_rfl) (by as_aux_lemma => kernel_rfl) (fun _ _ _ h => h) (Or.inr ⟨by rfl, rfl⟩) (by assumption) ?_
      try simp only [Act.put, List.setIfInBounds_toArray, List.set_cons_zero, List.set_cons_succ]
      refine wpAnyH_take (i := 14) (oi := ({ dst := some 56, op := .move (.tmp 5), type := 34, pos := "law.go:114", after := #[{ on := 11, ground := .guard }], guard := some (11, true) } : Oper)) (v := undef) rfl parts14_plain (by as_aux_lemma => kernel_rfl) (by as_aux_lemma => kernel_rfl) (fun _ _ _ h => h) (Or.inr ⟨by rfl, rfl⟩) (by assumption) ?_
      try simp only [Act.put, List.setIfInBounds_toArray, List.set_cons_zero, List.set_cons_succ]
      refine wpAnyH_take (i := 15) (oi := ({ dst := some 57, op := .indexAddr 34 (.tmp 56) (.const (.int .i64 0)), type := 0, pos := "law.go:114", after := #[{ on := 14, ground := .data }, { on := 11, ground := .guard }], guard := some (11, true) } : Oper)) (v := undef) rfl parts14_plain (by as_aux_lemma => kernel_rfl) (by as_aux_lemma => kernel_rfl) (fun _ _ _ h => h) (Or.inr ⟨by rfl, rfl⟩) (by assumption) ?_
      try simp only [Act.put, List.setIfInBounds_toArray, List.set_cons_zero, List.set_cons_succ]
      refine wpAnyH_take (i := 16) (oi := ({ dst := some 58, op := .load 3 (.tmp 57), type := 3, pos := "law.go:114", after := #[{ on := 15, ground := .data }, { on := 11, ground := .guard }], guard := some (11, true) } : Oper)) (v := undef) rfl parts14_plain (by as_aux_lemma => kernel_rfl) (by as_aux_lemma => kernel_rfl) (fun _ _ _ h => h) (Or.inr ⟨by rfl, rfl⟩) (by assumption) ?_
      try simp only [Act.put, List.setIfInBounds_toArray, List.set_cons_zero, List.set_cons_succ]
      refine wpAnyH_take (i := 17) (oi := ({ dst := some 59, op := .binOp .neq 3 (.tmp 55) (.tmp 58) 3, type := 4, pos := "law.go:114", after := #[{ on := 13, ground := .data }, { on := 16, ground := .data }, { on := 11, ground := .guard }], guard := some (11, true) } : Oper)) (v := undef) rfl parts14_plain (by as_aux_lemma => kernel_rfl) (by as_aux_lemma => kernel_rfl) (fun _ _ _ h => h) (Or.inr ⟨by rfl, rfl⟩) (by assumption) ?_
      try simp only [Act.put, List.setIfInBounds_toArray, List.set_cons_zero, List.set_cons_succ]
      refine wpAnyH_take (i := 18) (oi := ({ dst := some 60, op := .move (.tmp 59), type := 4, pos := "law.go:114", after := #[{ on := 17, ground := .data }, { on := 13, ground := .chain }, { on := 11, ground := .guard }], guard := some (11, true) } : Oper)) (v := undef) rfl parts14_plain (by as_aux_lemma => kernel_rfl) (by as_aux_lemma => kernel_rfl) (fun _ _ _ h => h) (Or.inr ⟨by rfl, rfl⟩) (by assumption) ?_
      try simp only [Act.put, List.setIfInBounds_toArray, List.set_cons_zero, List.set_cons_succ]
      refine wpAnyH_take (i := 19) (oi := ({ dst := some 61, op := .load 26 (.tmp 2), type := 26, pos := "law.go:114", after := #[{ on := 18, ground := .guard }], guard := some (18, false) } : Oper)) (v := undef) rfl parts14_plain (by as_aux_lemma => kernel_rfl) (by as_aux_lemma => kernel_rfl) (fun _ _ _ h => h) (Or.inr ⟨by rfl, rfl⟩) (by assumption) ?_
      try simp only [Act.put, List.setIfInBounds_toArray, List.set_cons_zero, List.set_cons_succ]
      refine wpAnyH_take (i := 20) (oi := ({ dst := some 62, op := .call { callee := .value (.func 14), args := #[.tmp 61], argTypes := #[26] }, type := 4, pos := "law.go:114", after := #[{ on := 19, ground := .data }, { on := 18, ground := .chain }, { on := 18, ground := .guard }], guard := some (18, false) } : Oper)) (v := undef) rfl parts14_plain (by as_aux_lemma => kernel_rfl) (by as_aux_lemma => kernel_rfl) (fun _ _ _ h => h) (Or.inr ⟨by rfl, rfl⟩) (by assumption) ?_
      try simp only [Act.put, List.setIfInBounds_toArray, List.set_cons_zero, List.set_cons_succ]
      refine wpAnyH_take (i := 21) (oi := ({ dst := some 63, op := .pick (.tmp 60) (.const (.bool true)) (.tmp 62), type := 4, pos := "law.go:114", after := #[{ on := 18, ground := .data }, { on := 20, ground := .data }, { on := 11, ground := .guard }], guard := some (11, true) } : Oper)) (v := undef) rfl parts14_plain (by as_aux_lemma => kernel_rfl) (by as_aux_lemma => kernel_rfl) (fun _ _ _ h => h) (Or.inr ⟨by rfl, rfl⟩) (by assumption) ?_
      try simp only [Act.put, List.setIfInBounds_toArray, List.set_cons_zero, List.set_cons_succ]
      refine wpAnyH_take (i := 22) (oi := ({ dst := some 64, op := .pick (.tmp 53) (.tmp 63) (.const (.bool false)), type := 4, pos := "law.go:114", after := #[{ on := 11, ground := .data }, { on := 21, ground := .data }, { on := 7, ground := .guard }], guard := some (7, false) } : Oper)) (v := ?vs5_22) rfl parts14_plain (by as_aux_lemma => kernel_rfl) (by as_aux_lemma => kernel_rfl) (fun _ _ _ h => h) (Or.inl ⟨by rfl, ?ys5_22⟩) (by assumption) ?rs5_22
      case ys5_22 => (intro w hSw; (try dsimp only at hSw); go_simp; try with_reducible rfl)
      try simp only [Act.put, List.setIfInBounds_toArray, List.set_cons_zero, List.set_cons_succ]
      refine wpAnyH_take (i := 23) (oi := ({ dst := some 65, op := .pick (.tmp 49) (.const (.bool true)) (.tmp 64), type := 4, pos := "law.go:114", after := #[{ on := 7, ground := .data }, { on := 22, ground := .data }], guard := none } : Oper)) (v := ?vs5_23) rfl parts14_plain (by as_aux_lemma => kernel_rfl) (by as_aux_lemma => kernel_rfl) (fun _ _ _ h => h) (Or.inl ⟨by rfl, ?ys5_23⟩) (by assumption) ?rs5_23
      case ys5_23 => (intro w hSw; (try dsimp only at hSw); go_simp; try with_reducible rfl)
      try simp only [Act.put, List.setIfInBounds_toArray, List.set_cons_zero, List.set_cons_succ]
      refine wpAnyH_take (i := 24) (oi := ({ dst := some 66, op := .move (.tmp 65), type := 4, pos := "law.go:114", after := #[{ on := 23, ground := .data }, { on := 20, ground := .chain }], guard := none } : Oper)) (v := ?vs5_24) rfl parts14_plain (by as_aux_lemma => kernel_rfl) (by as_aux_lemma => kernel_rfl) (fun _ _ _ h => h) (Or.inl ⟨by rfl, ?ys5_24⟩) (by assumption) ?rs5_24
      case ys5_24 => (intro w hSw; (try dsimp only at hSw); go_simp; try with_reducible rfl)
      try simp only [Act.put, List.setIfInBounds_toArray, List.set_cons_zero, List.set_cons_succ]
      refine wpAnyH_take (i := 25) (oi := ({ dst := some 67, op := .move (.tmp 5), type := 34, pos := "law.go:114", after := #[{ on := 24, ground := .guard }], guard := some (24, false) } : Oper)) (v := ?vs5_25) rfl parts14_plain (by as_aux_lemma => kernel_rfl) (by as_aux_lemma => kernel_rfl) (fun _ _ _ h => h) (Or.inl ⟨by rfl, ?ys5_25⟩) (by assumption) ?rs5_25
      case ys5_25 => (intro w hSw; (try dsimp only at hSw); go_simp; try with_reducible rfl)
      try simp only [Act.put, List.setIfInBounds_toArray, List.set_cons_zero, List.set_cons_succ]
      refine wpAnyH_take (i := 26) (oi := ({ dst := some 68, op := .call { callee := .builtin .len, args := #[.tmp 67], argTypes := #[34] }, type := 3, pos := "law.go:114", after := #[{ on := 25, ground := .data }, { on := 24, ground := .guard }], guard := some (24, false) } : Oper)) (v := ?vs5_26) rfl parts14_plain (by as_aux_lemma => kernel_rfl) (by as_aux_lemma => kernel_rfl) (fun _ _ _ h => h) (Or.inl ⟨by rfl, ?ys5_26⟩) (by assumption) ?rs5_26
      case ys5_26 => (intro w hSw; (try dsimp only at hSw); go_simp; try with_reducible rfl)
      try simp only [Act.put, List.setIfInBounds_toArray, List.set_cons_zero, List.set_cons_succ]
      refine wpAnyH_take (i := 27) (oi := ({ dst := some 69, op := .binOp .gtr 3 (.tmp 68) (.const (.int .i64 1)) 3, type := 4, pos := "law.go:114", after := #[{ on := 26, ground := .data }, { on := 24, ground := .guard }], guard := some (24, false) } : Oper)) (v := ?vs5_27) rfl parts14_plain (by as_aux_lemma => kernel_rfl) (by as_aux_lemma => kernel_rfl) (fun _ _ _ h => h) (Or.inl ⟨by rfl, ?ys5_27⟩) (by assumption) ?rs5_27
      case ys5_27 => (intro w hSw; (try dsimp only at hSw); go_simp; try with_reducible rfl)
      try simp only [Act.put, List.setIfInBounds_toArray, List.set_cons_zero, List.set_cons_succ]
      refine wpAnyH_take (i := 28) (oi := ({ dst := some 70, op := .move (.tmp 69), type := 4, pos := "law.go:114", after := #[{ on := 27, ground := .data }, { on := 24, ground := .chain }, { on := 24, ground := .guard }], guard := some (24, false) } : Oper)) (v := ?vs5_28) rfl parts14_plain (by as_aux_lemma => kernel_rfl) (by as_aux_lemma => kernel_rfl) (fun _ _ _ h => h) (Or.inl ⟨by rfl, ?ys5_28⟩) (by assumption) ?rs5_28
      case ys5_28 => (intro w hSw; (try dsimp only at hSw); go_simp; try with_reducible rfl)
      try simp only [Act.put, List.setIfInBounds_toArray, List.set_cons_zero, List.set_cons_succ]
      refine wpAnyH_take (i := 29) (oi := ({ dst := some 71, op := .load 26 (.tmp 2), type := 26, pos := "law.go:114", after := #[{ on := 28, ground := .guard }], guard := some (28, true) } : Oper)) rfl parts14_plain (by as_aux_lemma => kernel_rfl) (by as_aux_lemma => kernel_rfl) (fun _ _ _ h => h) (yields_load (by rfl) 26 _ rfl _ _ rfl _ _ RA Tryd.underlying26 rfl iA) (by assumption) ?_
      try simp only [Act.put, List.setIfInBounds_toArray, List.set_cons_zero, List.set_cons_succ]
      refine wpAnyH_ready (rs := [30]) (by as_aux_lemma => kernel_rfl) (by simp) ?_
      refine AllReadyH.cons (o := ({ dst := some 72, op := .call { callee := .value (.func 14), args := #[.tmp 71], argTypes := #[26] }, type := 4, pos := "law.go:114", after := #[{ on := 29, ground := .data }, { on := 28, ground := .chain }, { on := 28, ground := .guard }], guard := some (28, true) } : Oper)) rfl (fun KK hK => ?_) AllReadyH.nil
      rw [if_pos (by rfl)]
      go_simp
      go_at_call 14; refine (QM.out _ (PN.out _ (by assumption))).mono ?_; rintro e w11 ⟨rfl, hb11⟩
      go_wp2_with fail
      refine hK.out _ _ ?_ (fun hHeld11 => ?_)
      · exact belowT (by assumption) hb11
      clear hK KK hb11 hHeld10
      try simp only [Act.put, List.setIfInBounds_toArray, List.set_cons_zero, List.set_cons_succ]
      refine wpAnyH_take (i := 31) (oi := ({ dst := some 73, op := .unOp .not 4 (.tmp 72), type := 4, pos := "law.go:114", after := #[{ on := 30, ground := .data }, { on := 28, ground := .guard }], guard := some (28, true) } : Oper)) (v := ?vs5_31) rfl parts14_plain (by as_aux_lemma => kernel_rfl) (by as_aux_lemma => kernel_rfl) (fun _ _ _ h => h) (Or.inl ⟨by rfl, ?ys5_31⟩) (by assumption) ?rs5_31
      case ys5_31 => (intro w hSw; (try dsimp only at hSw); go_simp; try with_reducible rfl)
      try simp only [Act.put, List.setIfInBounds_toArray, List.set_cons_zero, List.set_cons_succ]
      refine wpAnyH_take (i := 32) (oi := ({ dst := some 74, op := .pick (.tmp 70) (.tmp 73) (.const (.bool false)), type := 4, pos := "law.go:114", after := #[{ on := 28, ground := .data }, { on := 31, ground := .data }, { on := 24, ground := .guard }], guard := some (24, false) } : Oper)) (v := ?vs5_32) rfl parts14_plain (by as_aux_lemma => kernel_rfl) (by as_aux_lemma => kernel_rfl) (fun _ _ _ h => h) (Or.inl ⟨by rfl, ?ys5_32⟩) (by assumption) ?rs5_32
      case ys5_32 => (intro w hSw; (try dsimp only at hSw); go_simp; try with_reducible rfl)
      try simp only [Act.put, List.setIfInBounds_toArray, List.set_cons_zero, List.set_cons_succ]
      refine wpAnyH_take (i := 33) (oi := ({ dst := some 75, op := .pick (.tmp 66) (.const (.bool true)) (.tmp 74), type := 4, pos := "law.go:114", after := #[{ on := 24, ground := .data }, { on := 32, ground := .data }], guard := none } : Oper)) (v := ?vs5_33) rfl parts14_plain (by as_aux_lemma => kernel_rfl) (by as_aux_lemma => kernel_rfl) (fun _ _ _ h => h) (Or.inl ⟨by rfl, ?ys5_33⟩) (by assumption) ?rs5_33
      case ys5_33 => (intro w hSw; (try dsimp only at hSw); go_simp; try with_reducible rfl)
      try simp only [Act.put, List.setIfInBounds_toArray, List.set_cons_zero, List.set_cons_succ]
      refine wpAnyH_done (by as_aux_lemma => kernel_rfl) ?_ _
      refine NoPanic.normal ?_
      have HBL := Lib.hid ((by assumption : Below w2.heap.size w2 w11))
      clear RA
      obtain ⟨wl, hwl⟩ : ∃ wl, wl = w11 := ⟨_, rfl⟩
      rw [← hwl] at HBL ⊢
      clear hwl
      have HBW := Lib.hid (belowT HB2.out HBL.out)
      have NL := Lib.hid (N2.out.keep HBL.out)
      have HC3 := HC2.out.keep HBL.out
      have c0 := HC3.c0
      have c1 := HC3.c1
      clear HC3
      obtain ⟨em, em', ek, ek'⟩ := EM.out
      rw [em] at em'
      rw [ek] at ek'
      clear hq0 hq1 hg1
      go_upto_region 16 with fail
      go_quiet (fail)
      generalize hW4 : World.drewN wl _ = W4
      have B4 : Below wl.heap.size wl W4 := by rw [← hW4]; exact belowN (Below.refl _ _) _
      clear hW4 c0 c1 em ek
      have HB4 := Lib.hid (belowT HBW.out B4)
      have PN4 : Hid (∀ w', Below W4.heap.size W4 w' → PairsAt w') := Lib.hid fun w' h => NL.out.keep (belowT B4 h)
      clear B4
      have hxm := HXM.out
      have hxk := HXK.out
      have hm22 : (m : Int) < 22 := by have := HMK.out.1; omega
      have hk22 : (k : Int) < 22 := by have := HMK.out.2; omega
      obtain ⟨bq, hbq⟩ : ∃ bq, bq = ((m : Int) == (k : Int)) := ⟨_, rfl⟩
      have hq1 : ((tl.length : Int) == 0) = bq := by rw [hbq]; exact TI.out
      have hq2 : ((m : Int) == (k : Int)) = bq := hbq.symm
      clear hbq
      go_upto_region 17 with fail
      change (Code.region 17 parts17 true).wp Tryd.prog _ _ _
      refine wp_region_noPanic ?_
      refine wp_region_held_drew (S := fun w' => Below W4.heap.size W4 w') (by kernel_rfl) ((Below.refl _ _).drew) (fun hHeld => ?_)
      refine wpAnyH_take (i := 1) (oi := ({ dst := some 87, op := .move (.tmp 11), type := 3, pos := "law.go:118", after := #[], guard := none } : Oper)) (v := ?vs6_1) rfl parts17_plain (by as_aux_lemma => kernel_rfl) (by as_aux_lemma => kernel_rfl) (fun _ _ _ h => h) (Or.inl ⟨by rfl, ?ys6_1⟩) (by assumption) ?rs6_1
      case ys6_1 => (intro w hSw; (try dsimp only at hSw); go_simp; try with_reducible rfl)
      try simp only [Act.put, List.setIfInBounds_toArray, List.set_cons_zero, List.set_cons_succ]
      refine wpAnyH_take (i := 4) (oi := ({ dst := some 90, op := .move (.tmp 12), type := 3, pos := "law.go:118", after := #[], guard := none } : Oper)) (v := ?vs6_4) rfl parts17_plain (by as_aux_lemma => kernel_rfl) (by as_aux_lemma => kernel_rfl) (fun _ _ _ h => h) (Or.inl ⟨by rfl, ?ys6_4⟩) (by assumption) ?rs6_4
      case ys6_4 => (intro w hSw; (try dsimp only at hSw); go_simp; try with_reducible rfl)
      try simp only [Act.put, List.setIfInBounds_toArray, List.set_cons_zero, List.set_cons_succ]
      refine wpAnyH_take (i := 9) (oi := ({ dst := some 95, op := .move (.tmp 11), type := 3, pos := "law.go:118", after := #[], guard := none } : Oper)) (v := ?vs6_9) rfl parts17_plain (by as_aux_lemma => kernel_rfl) (by as_aux_lemma => kernel_rfl) (fun _ _ _ h => h) (Or.inl ⟨by rfl, ?ys6_9⟩) (by assumption) ?rs6_9
      case ys6_9 => (intro w hSw; (try dsimp only at hSw); go_simp; try with_reducible rfl)
      try simp only [Act.put, List.setIfInBounds_toArray, List.set_cons_zero, List.set_cons_succ]
      refine wpAnyH_take (i := 10) (oi := ({ dst := some 96, op := .move (.tmp 12), type := 3, pos := "law.go:118", after := #[], guard := none } : Oper)) (v := ?vs6_10) rfl parts17_plain (by as_aux_lemma => kernel_rfl) (by as_aux_lemma => kernel_rfl) (fun _ _ _ h => h) (Or.inl ⟨by rfl, ?ys6_10⟩) (by assumption) ?rs6_10
      case ys6_10 => (intro w hSw; (try dsimp only at hSw); go_simp; try with_reducible rfl)
      try simp only [Act.put, List.setIfInBounds_toArray, List.set_cons_zero, List.set_cons_succ]
      refine wpAnyH_take (i := 11) (oi := ({ dst := some 97, op := .binOp .eql 3 (.tmp 95) (.tmp 96) 3, type := 4, pos := "law.go:118", after := #[{ on := 9, ground := .data }, { on := 10, ground := .data }], guard := none } : Oper)) (v := ?vs6_11) rfl parts17_plain (by as_aux_lemma => kernel_rfl) (by as_aux_lemma => kernel_rfl) (fun _ _ _ h => h) (Or.inl ⟨by rfl, ?ys6_11⟩) (by assumption) ?rs6_11
      case ys6_11 => (intro w hSw; (try dsimp only at hSw); go_simp; try with_reducible rfl)
      try simp only [Act.put, List.setIfInBounds_toArray, List.set_cons_zero, List.set_cons_succ]
      refine wpAnyH_ready (rs := [0]) (by as_aux_lemma => kernel_rfl) (by simp) ?_
      refine AllReadyH.cons (o := ({ dst := some 86, op := .call { callee := .value (.func 20), args := #[], argTypes := #[] }, type := 38, pos := "law.go:118", after := #[], guard := none } : Oper)) rfl (fun KK hK => ?_) AllReadyH.nil
      rw [if_pos (by rfl)]
      go_simp
      go_at_call 20; refine (HY.out _ (PN4.out _ (by assumption))).mono ?_; rintro e w30 ⟨rfl, hb30⟩
      go_wp2_with fail
      refine hK.out _ _ ?_ (fun hHeld30 => ?_)
      · exact belowT (by assumption) hb30
      clear hK KK hb30
      try simp only [Act.put, List.setIfInBounds_toArray, List.set_cons_zero, List.set_cons_succ]
      refine wpAnyH_take (i := 2) (oi := ({ dst := some 88, op := .index 38 (.tmp 86) (.tmp 87), type := 3, pos := "law.go:118", after := #[{ on := 0, ground := .data }, { on := 1, ground := .data }], guard := none } : Oper)) (v := ?vs6_2) rfl parts17_plain (by as_aux_lemma => kernel_rfl) (by as_aux_lemma => kernel_rfl) (fun _ _ _ h => h) (Or.inl ⟨by rfl, ?ys6_2⟩) (by assumption) ?rs6_2
      case ys6_2 => (intro w hSw; (try dsimp only at hSw); go_simp; try with_reducible rfl)
      try simp only [Act.put, List.setIfInBounds_toArray, List.set_cons_zero, List.set_cons_succ]
      refine wpAnyH_ready (rs := [3]) (by as_aux_lemma => kernel_rfl) (by simp) ?_
      refine AllReadyH.cons (o := ({ dst := some 89, op := .call { callee := .value (.func 20), args := #[], argTypes := #[] }, type := 38, pos := "law.go:118", after := #[{ on := 0, ground := .chain }], guard := none } : Oper)) rfl (fun KK hK => ?_) AllReadyH.nil
      rw [if_pos (by rfl)]
      go_simp
      go_at_call 20; refine (HY.out _ (PN4.out _ (by assumption))).mono ?_; rintro e w31 ⟨rfl, hb31⟩
      go_wp2_with fail
      refine hK.out _ _ ?_ (fun hHeld31 => ?_)
      · exact belowT (by assumption) hb31
      clear hK KK hb31 hHeld30
      try simp only [Act.put, List.setIfInBounds_toArray, List.set_cons_zero, List.set_cons_succ]
      refine wpAnyH_take (i := 5) (oi := ({ dst := some 91, op := .index 38 (.tmp 89) (.tmp 90), type := 3, pos := "law.go:118", after := #[{ on := 3, ground := .data }, { on := 4, ground := .data }], guard := none } : Oper)) (v := ?vs6_5) rfl parts17_plain (by as_aux_lemma => kernel_rfl) (by as_aux_lemma => kernel_rfl) (fun _ _ _ h => h) (Or.inl ⟨by rfl, ?ys6_5⟩) (by assumption) ?rs6_5
      case ys6_5 => (intro w hSw; (try dsimp only at hSw); go_simp; try with_reducible rfl)
      try simp only [Act.put, List.setIfInBounds_toArray, List.set_cons_zero, List.set_cons_succ]
      refine wpAnyH_ready (rs := [6]) (by as_aux_lemma => kernel_rfl) (by simp) ?_
      refine AllReadyH.cons (o := ({ dst := some 92, op := .call { callee := .value (.func 27), args := #[.tmp 88, .tmp 91], argTypes := #[3, 3] }, type := 34, pos := "law.go:118", after := #[{ on := 2, ground := .data }, { on := 5, ground := .data }, { on := 3, ground := .chain }], guard := none } : Oper)) rfl (fun KK hK => ?_) AllReadyH.nil
      rw [if_pos (by rfl)]
      go_simp
      go_at_call 27; refine (TL.out _ (PN4.out _ (by assumption))).mono ?_; rintro e w32 ⟨b32, k32, rfl, D32, hb32⟩
      have E32 := Lib.hid D32
      go_wp2_with fail
      refine hK.out _ _ ?_ (fun hHeld32 => ?_)
      · exact belowT (by assumption) hb32
      refine wpAnyH_rebase (S' := fun w' => Below w32.heap.size w32 w') (fun w' h => belowT hHeld32 h) _ _ _ _ ?_
      have hHeldR32 := Below.refl w32.heap.size w32
      clear hK KK
      try simp only [Act.put, List.setIfInBounds_toArray, List.set_cons_zero, List.set_cons_succ]
      refine wpAnyH_take (i := 7) (oi := ({ dst := some 93, op := .call { callee := .builtin .len, args := #[.tmp 92], argTypes := #[34] }, type := 3, pos := "law.go:118", after := #[{ on := 6, ground := .data }], guard := none } : Oper)) (v := ?vs6_7) rfl parts17_plain (by as_aux_lemma => kernel_rfl) (by as_aux_lemma => kernel_rfl) (fun _ _ _ h => h) (Or.inl ⟨by rfl, ?ys6_7⟩) (by assumption) ?rs6_7
      case ys6_7 => (intro w hSw; (try dsimp only at hSw); have hS0 := belowT hHeld32 hSw; go_simp; try with_reducible rfl)
      try simp only [Act.put, List.setIfInBounds_toArray, List.set_cons_zero, List.set_cons_succ]
      refine wpAnyH_take (i := 8) (oi := ({ dst := some 94, op := .binOp .eql 3 (.tmp 93) (.const (.int .i64 0)) 3, type := 4, pos := "law.go:118", after := #[{ on := 7, ground := .data }], guard := none } : Oper)) (v := ?vs6_8) rfl parts17_plain (by as_aux_lemma => kernel_rfl) (by as_aux_lemma => kernel_rfl) (fun _ _ _ h => h) (Or.inl ⟨by rfl, ?ys6_8⟩) (by assumption) ?rs6_8
      case ys6_8 => (intro w hSw; (try dsimp only at hSw); have hS0 := belowT hHeld32 hSw; go_simp; try with_reducible rfl)
      try simp only [Act.put, List.setIfInBounds_toArray, List.set_cons_zero, List.set_cons_succ]
      refine wpAnyH_take (i := 12) (oi := ({ dst := some 98, op := .binOp .eql 4 (.tmp 94) (.tmp 97) 4, type := 4, pos := "law.go:118", after := #[{ on := 8, ground := .data }, { on := 11, ground := .data }], guard := none } : Oper)) (v := ?vs6_12) rfl parts17_plain (by as_aux_lemma => kernel_rfl) (by as_aux_lemma => kernel_rfl) (fun _ _ _ h => h) (Or.inl ⟨by rfl, ?ys6_12⟩) (by assumption) ?rs6_12
      case ys6_12 => (intro w hSw; (try dsimp only at hSw); have hS0 := belowT hHeld32 hSw; go_simp; try with_reducible rfl)
      try simp only [Act.put, List.setIfInBounds_toArray, List.set_cons_zero, List.set_cons_succ]
      refine wpAnyH_take (i := 13) (oi := ({ dst := some 99, op := .move (.tmp 98), type := 4, pos := "law.go:118", after := #[{ on := 12, ground := .data }, { on := 6, ground := .chain }], guard := none } : Oper)) (v := ?vs6_13) rfl parts17_plain (by as_aux_lemma => kernel_rfl) (by as_aux_lemma => kernel_rfl) (fun _ _ _ h => h) (Or.inl ⟨by rfl, ?ys6_13⟩) (by assumption) ?rs6_13
      case ys6_13 => (intro w hSw; (try dsimp only at hSw); have hS0 := belowT hHeld32 hSw; go_simp; try with_reducible rfl)
      try simp only [Act.put, List.setIfInBounds_toArray, List.set_cons_zero, List.set_cons_succ]
      refine wpAnyH_ready (rs := [14]) (by as_aux_lemma => kernel_rfl) (by simp) ?_
      refine AllReadyH.cons (o := ({ dst := some 100, op := .call { callee := .value (.func 18), args := #[], argTypes := #[] }, type := 4, pos := "law.go:118", after := #[{ on := 13, ground := .chain }, { on := 13, ground := .guard }], guard := some (13, true) } : Oper)) rfl (fun KK hK => ?_) AllReadyH.nil
      rw [if_pos (by rfl)]
      go_simp
      go_at_call 18; refine (AW.out _ (PN4.out _ (belowT hHeld32 (by assumption)))).mono ?_; rintro e w33 ⟨rfl, hb33⟩
      go_wp2_with fail
      refine hK.out _ _ ?_ (fun hHeld33 => ?_)
      · exact belowT (by assumption) hb33
      clear hK KK hb33
      try simp only [Act.put, List.setIfInBounds_toArray, List.set_cons_zero, List.set_cons_succ]
      refine wpAnyH_take (i := 15) (oi := ({ dst := some 101, op := .pick (.tmp 99) (.tmp 100) (.const (.bool false)), type := 4, pos := "law.go:118", after := #[{ on := 13, ground := .data }, { on := 14, ground := .data }], guard := none } : Oper)) (v := ?vs6_15) rfl parts17_plain (by as_aux_lemma => kernel_rfl) (by as_aux_lemma => kernel_rfl) (fun _ _ _ h => h) (Or.inl ⟨by rfl, ?ys6_15⟩) (by assumption) ?rs6_15
      case ys6_15 => (intro w hSw; (try dsimp only at hSw); have hS0 := belowT hHeld32 hSw; go_simp; try with_reducible rfl)
      try simp only [Act.put, List.setIfInBounds_toArray, List.set_cons_zero, List.set_cons_succ]
      refine wpAnyH_take (i := 16) (oi := ({ dst := some 4, op := .assign (.tmp 101), type := 4, pos := "law.go:118", after := #[{ on := 15, ground := .data }, { on := 14, ground := .chain }, { on := 0, ground := .phase }, { on := 1, ground := .phase }, { on := 2, ground := .phase }, { on := 3, ground := .phase }, { on := 4, ground := .phase }, { on := 5, ground := .phase }, { on := 6, ground := .phase }, { on := 7, ground := .phase }, { on := 8, ground := .phase }, { on := 9, ground := .phase }, { on := 10, ground := .phase }, { on := 11, ground := .phase }, { on := 12, ground := .phase }, { on := 13, ground := .phase }, { on := 14, ground := .phase }, { on := 15, ground := .phase }], guard := none } : Oper)) (v := ?vs6_16) rfl parts17_plain (by as_aux_lemma => kernel_rfl) (by as_aux_lemma => kernel_rfl) (fun _ _ _ h => h) (Or.inl ⟨by rfl, ?ys6_16⟩) (by assumption) ?rs6_16
      case ys6_16 => (intro w hSw; (try dsimp only at hSw); have hS0 := belowT hHeld32 hSw; go_simp; try with_reducible rfl)
      try simp only [Act.put, List.setIfInBounds_toArray, List.set_cons_zero, List.set_cons_succ]
      refine wpAnyH_done (by as_aux_lemma => kernel_rfl) ?_ _
      refine NoPanic.normal ?_
      have hz := hHeld33
      go_wp2
      go_ret
      exact ⟨rfl, belowT HB4.out (belowT hHeld32 hz)⟩

theorem Parts_all (al : List Bool) (hl : al.length = 22) (a c : Int) (w : World) (n : PairsAt w) :
    Calls Tryd.prog 7 #[.agg (bl al), .agg #[.int .i64 a, .int .i64 c]] w fun e w' => e = .returned (.bool true) ∧ Below w.heap.size w w' := by
  obtain ⟨m, hm, em, em'⟩ := umodn a 22 (by decide) (by decide)
  obtain ⟨k, hk, ek, ek'⟩ := umodn c 22 (by decide) (by decide)
  match e : Hyp.parts al with
  | [] => exact Parts_nil al hl a c m k (by omega) (by omega) em em' ek ek' _ rfl e w n
  | [p] => exact Parts_one al hl a c m k (by omega) (by omega) em em' ek ek' _ rfl p e w n
  | p :: q :: r => exact Parts_many al hl a c m k (by omega) (by omega) em em' ek ek' _ rfl (by rw [e]; simp) w n
end Law23
end Go.Proofs.YtaooigldchojcaaDoor

