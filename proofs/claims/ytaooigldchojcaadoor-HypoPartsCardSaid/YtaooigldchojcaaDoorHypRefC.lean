/- The document's own Parts, Tell for layer 23. -/
import Derived.Test.YtaooigldchojcaaDoorHypRefA
import Derived.Deep.Cut
import Derived.Deep.CutBlock
import Derived.Deep.CutRange
import Derived.Deep.RegionHeld3
namespace Go.Proofs.YtaooigldchojcaaDoor
open Go.RowKit

namespace Hyp
/-- is one of the first k alive and within the n-th, another one -/
def lessTo (al : List Bool) (k n : Nat) : Bool := (List.range k).any fun m => al.getD m false && (decide (m ≠ n) && Sub.within (setN m) (setN n))
theorem lessTo_succ (al : List Bool) (k n : Nat) : lessTo al (k + 1) n = (lessTo al k n || (al.getD k false && (decide (k ≠ n) && Sub.within (setN k) (setN n)))) := by
  unfold lessTo
  rw [List.range_succ, List.any_append]
  simp
def least (al : List Bool) (n : Nat) : Bool := al.getD n false && !lessTo al 22 n
def partsR (al : List Bool) (k : Nat) : List Nat := ((List.range k).filter (least al)).map setN
theorem partsR_one {al : List Bool} {k : Nat} (h : least al k = true) : partsR al (k + 1) = partsR al k ++ [setN k] := by
  unfold partsR
  rw [List.range_succ, List.filter_append, List.map_append, List.filter_cons_of_pos (by exact h)]; rfl
theorem partsR_same {al : List Bool} {k : Nat} (h : least al k = false) : partsR al (k + 1) = partsR al k := by
  unfold partsR
  rw [List.range_succ, List.filter_append, List.map_append, List.filter_cons_of_neg (by exact Bool.eq_false_iff.1 h)]
  exact List.append_nil _
theorem partsR_len (al : List Bool) (k : Nat) : (partsR al k).length ≤ k := by
  unfold partsR
  rw [List.length_map]
  have := List.length_filter_le (least al) (List.range k)
  rw [List.length_range] at this
  exact this
theorem less_lessTo (al : List Bool) (n : Nat) (hn : n < 22) : less (livN al 22) (setN n) = lessTo al 22 n := by
  unfold less
  rw [Bool.eq_iff_iff]
  constructor
  · intro h
    obtain ⟨o, ho, h2⟩ := List.any_eq_true.1 h
    obtain ⟨m, hm, ha, rfl⟩ := mem_liv.1 ho
    refine List.any_eq_true.2 ⟨m, List.mem_range.2 hm, ?_⟩
    simp only [Bool.and_eq_true, decide_eq_true_eq] at h2 ⊢
    exact ⟨ha, fun e => h2.1 (by rw [e]), h2.2⟩
  · intro h
    obtain ⟨m, hm, h2⟩ := List.any_eq_true.1 h
    simp only [Bool.and_eq_true, decide_eq_true_eq] at h2
    refine List.any_eq_true.2 ⟨setN m, mem_liv.2 ⟨m, List.mem_range.1 hm, h2.1, rfl⟩, ?_⟩
    simp only [Bool.and_eq_true, decide_eq_true_eq]
    exact ⟨fun e => h2.2.1 (setN_inj (List.mem_range.1 hm) hn e), h2.2.2⟩
theorem parts_partsR (al : List Bool) : partsR al 22 = parts al := by
  unfold partsR parts partsOf
  conv => rhs; rw [show livN al 22 = ((List.range 22).filter fun n => al.getD n false).map setN from rfl]
  rw [List.filter_map, List.filter_filter]
  refine congrArg _ (List.filter_congr fun n hn => ?_)
  unfold least
  rw [← less_lessTo al n (List.mem_range.1 hn), Bool.and_comm]
  rfl
end Hyp

namespace Ref23
set_option maxHeartbeats 4000000 in
set_option maxRecDepth 100000 in
theorem Parts_any (al : List Bool) (hl : al.length = 22) (w : World) :
    Calls Tryd.prog 24 #[.agg (bl al)] w fun e w' => ∃ v, e = .returned v ∧ Ints w.heap.size w w' v (Hyp.ints (Hyp.parts al)) := by
  rw [← Hyp.parts_partsR]
  have HK : Hid (ArrB (w.alloc (.cells (bl al) 26)) w.heap.size al) := Lib.hid (ArrB.new w al 26)
  have HW := Lib.hid (below1 w (.cells (bl al) 26))
  have HI := Lib.hid hypoCell_at
  have HY : Hid (∀ w, Calls Tryd.prog 34 #[] w fun e w' => e = .returned (.agg hypoCells) ∧ Below w.heap.size w w') := Lib.hid Ref11.Hypos_any
  generalize bl al = arr at *
  generalize hypoCells = harr at *
  go_enter Tryd.func24, Tryd.ntmps24
  go_wp2_with fail
  refine (HY.out _).mono ?_
  rintro e w1 ⟨rfl, hb1⟩
  have HK1 := Lib.hid (HK.out.keep hb1)
  have HB1 := Lib.hid (belowT HW.out hb1)
  clear hb1 HK HW
  go_wp2
  go_loopw [3, 10] (fun v i wr => ∃ n : Nat, n ≤ 22 ∧ i = .int .i64 n ∧ Ints w1.heap.size w1 wr v (Hyp.ints (Hyp.partsR al n))) (fun _ i _ => 22 - (intOf i).toNat)
  case atStart => exact ⟨0, by omega, rfl, Ints.nil w1⟩
  case round =>
    obtain ⟨n, hn, rfl, hS⟩ := hrel
    rename World => wr
    have HS := Lib.hid hS
    clear hS
    by_cases h22 : (n : Int) < 22
    · have HN : Hid (n < 22) := Lib.hid (by omega)
      have hix := HI.out n HN.out
      have hc := (HK1.out.keep HS.out.below).at n (by rw [hl]; exact HN.out)
      rw [Hyp.num_set n HN.out] at hix
      obtain ⟨lv, hlv⟩ : ∃ lv : Nat → Bool, lv = fun k => al.getD n false && !Hyp.lessTo al k n := ⟨_, rfl⟩
      have HL0 : Hid (lv 0 = al.getD n false) := Lib.hid (by rw [hlv]; unfold Hyp.lessTo; simp)
      have HLS : Hid (∀ k, lv (k + 1) = (lv k && !(al.getD k false && (decide (k ≠ n) && Sub.within (Hyp.setN k) (Hyp.setN n))))) := Lib.hid fun k => by
        rw [hlv]
        simp only [Hyp.lessTo_succ, Bool.not_or, Bool.and_assoc]
      have HLE : Hid (lv 22 = Hyp.least al n) := Lib.hid (by rw [hlv]; rfl)
      rw [← HL0.out] at hc
      clear hlv
      go_wp2_with fail
      refine (HY.out _).mono ?_
      rintro e w5 ⟨rfl, hb5⟩
      have HS5 := Lib.hid (HS.out.keep hb5)
      clear hb5 HS hc hix
      go_wp2
      go_loop [6, 18] (fun v i => ∃ k : Nat, k ≤ 22 ∧ i = .int .i64 k ∧ v = .bool (lv k)) (fun _ i => 22 - (intOf i).toNat)
      case atStart => exact ⟨0, by omega, rfl, rfl⟩
      case round =>
        obtain ⟨k, hk, rfl, rfl⟩ := hrel
        by_cases hk22 : (k : Int) < 22
        · have hik := HI.out k (by omega)
          have hc := (HK1.out.keep HS5.out.below).at k (by omega)
          rw [Hyp.num_set k (by omega)] at hik
          have HSU := Lib.hid (HLS.out k)
          cases hq : al.getD k false
          · rw [hq] at hc HSU
            clear hq
            generalize lv k = b0 at *
            have HLV : Hid (lv (k + 1) = b0) := Lib.hid (by rw [HSU.out]; simp)
            go_wp2
            go_round
            case rel => exact ⟨k + 1, by omega, rfl, by rw [HLV.out]⟩
            case measure => simp [intOf]; omega
          · rw [hq] at hc HSU
            clear hq
            by_cases hkn : k = n
            · have hne : ((k : Int) != (n : Int)) = false := by rw [hkn]; simp
              have HLV : Hid (lv (k + 1) = lv k) := Lib.hid (by rw [HSU.out]; simp [hkn])
              clear hkn
              generalize lv k = b0 at *
              go_wp2
              go_round
              case rel => exact ⟨k + 1, by omega, rfl, by rw [HLV.out]⟩
              case measure => simp [intOf]; omega
            · have hne : ((k : Int) != (n : Int)) = true := by
                have : ¬ (k : Int) = (n : Int) := by omega
                simpa using this
              have hdn : decide (k ≠ n) = true := by simpa using hkn
              rw [hdn] at HSU
              have HW := Lib.hid (within_any (Hyp.setN k) (Hyp.setN_lt k) (Hyp.setN n : Int) w5)
              rw [Hyp.low_set] at HW
              clear hkn hdn
              generalize lv k = b0 at *
              generalize Sub.within (Hyp.setN k) (Hyp.setN n) = q at *
              generalize Hyp.setN k = z at *
              cases q
              · have HLV : Hid (lv (k + 1) = b0) := Lib.hid (by rw [HSU.out]; simp)
                go_wp2_with fail
                refine HW.out.mono ?_
                rintro e w6 ⟨rfl, rfl⟩
                go_wp2
                go_round
                case rel => exact ⟨k + 1, by omega, rfl, by rw [HLV.out]⟩
                case measure => simp [intOf]; omega
              · have HLV : Hid (lv (k + 1) = false) := Lib.hid (by rw [HSU.out]; simp)
                go_wp2_with fail
                refine HW.out.mono ?_
                rintro e w6 ⟨rfl, rfl⟩
                go_wp2
                go_round
                case rel => exact ⟨k + 1, by omega, rfl, by rw [HLV.out]⟩
                case measure => simp [intOf]; omega
        · obtain rfl : k = 22 := by omega
          rw [HLE.out]
          have H1 := Lib.hid (Hyp.partsR_one (al := al) (k := n))
          have H2 := Lib.hid (Hyp.partsR_same (al := al) (k := n))
          have hll : (Hyp.ints (Hyp.partsR al n)).length + 1 ≤ 10000000000000 := by rw [Hyp.ints_len]; have := Hyp.partsR_len al n; omega
          generalize Hyp.setN n = z at *
          cases hq : Hyp.least al n
          · have HF := Lib.hid (H2.out hq)
            clear hq hll H1 H2
            go_wp2
            go_roundw
            case rel => exact ⟨n + 1, by omega, rfl, by rw [HF.out]; exact HS5.out⟩
            case measure => simp [intOf]; omega
          · have HF := Lib.hid (H1.out hq)
            clear hq H1 H2
            go_wp2_with (at_builtin; refine list_append_int rfl _ _ rfl (w0 := w5) (v := u3) rfl (z : Int) HS5.out rfl hll ?_)
            intro v' w' hb'
            go_wp2
            go_roundw
            case rel => exact ⟨n + 1, by omega, rfl, by rw [HF.out, Hyp.ints_app]; exact hb'⟩
            case measure => simp [intOf]; omega
    · obtain rfl : n = 22 := by omega
      have HSE := Lib.hid (HS.out.low HB1.out.size HB1.out)
      clear HS
      go_wp2
      go_ret
      exact ⟨_, rfl, HSE.out⟩

theorem within_flat (a : Nat) (ha : a < 64) (b : Int) (w : World) :
    Calls Tryd.prog 35 #[.int .i64 (a : Int), .int .i64 b] w fun e w' => e = .returned (.bool (Sub.within a (Sub.low b))) ∧ Below w.heap.size w w' :=
  (within_any a ha b w).mono fun _ _ h => ⟨h.1, h.2 ▸ Below.refl _ _⟩
end Ref23
/-- The operations of a drawn region, as the translation has them. -/
def tell6 : Array Oper := #[
  { dst := some 12, op := .move (.tmp 0), type := 3, pos := "ref.go:105", after := #[], guard := none },
  { dst := some 13, op := .binOp .and 3 (.tmp 12) (.const (.int .i64 63)) 3, type := 3, pos := "ref.go:105", after := #[{ on := 0, ground := .data }], guard := none },
  { dst := some 14, op := .move (.tmp 7), type := 3, pos := "ref.go:105", after := #[], guard := none },
  { dst := some 15, op := .binOp .add 3 (.const (.int .i64 7)) (.tmp 14) 3, type := 3, pos := "ref.go:105", after := #[{ on := 2, ground := .data }], guard := none },
  { dst := some 16, op := .indexAddr 38 (.tmp 6) (.tmp 15), type := 0, pos := "ref.go:105", after := #[{ on := 3, ground := .data }], guard := none },
  { dst := some 17, op := .load 3 (.tmp 16), type := 3, pos := "ref.go:105", after := #[{ on := 4, ground := .data }], guard := none },
  { dst := some 18, op := .call { callee := .value (.func 35), args := #[.tmp 13, .tmp 17], argTypes := #[3, 3] }, type := 4, pos := "ref.go:105", after := #[{ on := 1, ground := .data }, { on := 5, ground := .data }], guard := none },
  { dst := some 19, op := .move (.tmp 1), type := 3, pos := "ref.go:105", after := #[], guard := none },
  { dst := some 20, op := .binOp .and 3 (.tmp 19) (.const (.int .i64 63)) 3, type := 3, pos := "ref.go:105", after := #[{ on := 7, ground := .data }], guard := none },
  { dst := some 21, op := .move (.tmp 7), type := 3, pos := "ref.go:105", after := #[], guard := none },
  { dst := some 22, op := .binOp .add 3 (.const (.int .i64 7)) (.tmp 21) 3, type := 3, pos := "ref.go:105", after := #[{ on := 9, ground := .data }], guard := none },
  { dst := some 23, op := .indexAddr 38 (.tmp 6) (.tmp 22), type := 0, pos := "ref.go:105", after := #[{ on := 10, ground := .data }], guard := none },
  { dst := some 24, op := .load 3 (.tmp 23), type := 3, pos := "ref.go:105", after := #[{ on := 11, ground := .data }], guard := none },
  { dst := some 25, op := .call { callee := .value (.func 35), args := #[.tmp 20, .tmp 24], argTypes := #[3, 3] }, type := 4, pos := "ref.go:105", after := #[{ on := 8, ground := .data }, { on := 12, ground := .data }, { on := 6, ground := .chain }], guard := none },
  { dst := some 26, op := .binOp .neq 4 (.tmp 18) (.tmp 25) 4, type := 4, pos := "ref.go:105", after := #[{ on := 6, ground := .data }, { on := 13, ground := .data }], guard := none }]
theorem tell6_plain : Region.noSelect tell6 = true := by kernel_rfl

namespace Ref23
set_option maxHeartbeats 4000000 in
set_option maxRecDepth 100000 in
theorem Tell_any (a b : Int) (w : World) :
    Calls Tryd.prog 28 #[.int .i64 a, .int .i64 b] w fun e w' => ∃ v, e = .returned v ∧ Ints w.heap.size w w' v (Hyp.ints (Hyp.tell a b 15)) := by
  have HTB : Hid (∀ p, Hyp.tellB a b p = (Sub.within (Sub.low a) (Hyp.setN (7 + p)) != Sub.within (Sub.low b) (Hyp.setN (7 + p)))) := Lib.hid fun _ => rfl
  have HY : Hid (∀ w, Calls Tryd.prog 34 #[] w fun e w' => e = .returned (.agg hypoCells) ∧ Below w.heap.size w w') := Lib.hid Ref11.Hypos_any
  have hz := hypoCells_size
  have h1 := hypoCells_one
  have hs := info_hypos
  have HC : Hid (∀ (w : World) (p : Nat), p < 15 → (w.alloc (.cells hypoCells 38)).cell? ⟨w.heap.size, 7 + p, none⟩ = some (.int .i64 (Hyp.setN (7 + p) : Int))) := Lib.hid fun w p hp => by
    have := range_new w hypoCells 38 (7 + p) (.int .i64 (Hyp.setN (7 + p) : Int)) (by
      have g : ∀ p : Fin 15, hypoNums[7 + p.val]? = some (Hyp.setN (7 + p.val) : Int) := by decide +kernel
      show (hypoNums.map fun z => Value.int .i64 z)[7 + p]? = _
      rw [List.getElem?_map, g ⟨p, hp⟩]; rfl)
    rwa [Nat.zero_add] at this
  rw [← hz] at hs
  have WA := Lib.hid (fun p w => within_flat (Sub.low a) (Sub.low_lt a) (Hyp.setN (7 + p) : Int) w)
  have WB := Lib.hid (fun p w => within_flat (Sub.low b) (Sub.low_lt b) (Hyp.setN (7 + p) : Int) w)
  have ea := Sub.and63 a
  have eb := Sub.and63 b
  generalize hypoCells = harr at *
  generalize Sub.low a = la at *
  generalize Sub.low b = lb at *
  go_enter Tryd.func28, Tryd.ntmps28
  go_wp2_with fail
  refine (HY.out _).mono ?_
  rintro e w1 ⟨rfl, hb1⟩
  have HB2 := Lib.hid (belowT hb1 (below1 w1 (.cells harr 38)))
  have HC1 := Lib.hid (HC.out w1)
  clear hb1 HY HC
  go_wp2_with (refine list_store_new rfl 38 _ _ rfl _ harr rfl rfl hs (by rw [hz]; rfl) h1 ?_)
  clear hs hz h1
  obtain ⟨w2, hw2⟩ : ∃ w2, w2 = w1.alloc (.cells harr 38) := ⟨_, rfl⟩
  rw [← hw2] at HB2 HC1 ⊢
  clear hw2
  go_loopw [5, 9] (fun v i wr => ∃ p : Nat, p ≤ 15 ∧ i = .int .i64 p ∧ Ints w2.heap.size w2 wr v (Hyp.ints (Hyp.tell a b p))) (fun _ i _ => 15 - (intOf i).toNat)
  case atStart => exact ⟨0, by omega, rfl, Ints.nil w2⟩
  case round =>
    obtain ⟨p, hp, rfl, hS⟩ := hrel
    rename World => wr
    by_cases h15 : (p : Int) < 15
    · have hcell : ∀ w', Below wr.heap.size wr w' → w'.cell? ⟨w1.heap.size, 7 + p, none⟩ = some (.int .i64 (Hyp.setN (7 + p) : Int)) := fun w' h => keepc h (keepc hS.below (HC1.out p (by omega)))
      have HTE := Lib.hid (HTB.out p)
      have H1 := Lib.hid (Hyp.tell_one (a := a) (b := b) (k := p))
      have H2 := Lib.hid (Hyp.tell_same (a := a) (b := b) (k := p))
      have hll : (Hyp.ints (Hyp.tell a b p)).length + 1 ≤ 10000000000000 := by rw [Hyp.ints_len]; have := Hyp.tell_len a b p; omega
      have HLL := Lib.hid hll
      have HS := Lib.hid hS
      have HWA := Lib.hid (WA.out p)
      have HWB := Lib.hid (WB.out p)
      rw [Hyp.low_set] at HWA HWB
      obtain ⟨m, hm⟩ : ∃ m : Nat, m = 7 + p := ⟨_, rfl⟩
      have ew : IntKind.i64.wrap (7 + (p : Int)) = (m : Int) := by rw [IntKind.wrap_i64]; omega
      have hm22 : (m : Int) < 22 := by omega
      rw [← hm] at hcell HWA HWB HTE
      clear hm hll hS
      obtain ⟨W0, hW0⟩ : ∃ W0, W0 = wr := ⟨_, rfl⟩
      go_upto_region 6 with fail
      rw [← hW0] at hcell HS ⊢
      clear hW0
      generalize Hyp.setN m = z at *
      change (Code.region 6 tell6 true).wp Tryd.prog _ _ _
      refine wp_region_noPanic ?_
      refine wp_region_held_drew (S := fun w' => Below W0.heap.size W0 w') (by kernel_rfl) ((Below.refl _ _).drew) (fun hHeld => ?_)
      refine wpAnyH_take (i := 0) (oi := ({ dst := some 12, op := .move (.tmp 0), type := 3, pos := "ref.go:105", after := #[], guard := none } : Oper)) (v := ?vs1_0) rfl tell6_plain (by as_aux_lemma => kernel_rfl) (by as_aux_lemma => kernel_rfl) (fun _ _ _ h => h) (Or.inl ⟨by rfl, ?ys1_0⟩) (by assumption) ?rs1_0
      case ys1_0 => (intro w hSw; (try dsimp only at hSw); go_simp; try with_reducible rfl)
      try simp only [Act.put, List.setIfInBounds_toArray, List.set_cons_zero, List.set_cons_succ]
      refine wpAnyH_take (i := 1) (oi := ({ dst := some 13, op := .binOp .and 3 (.tmp 12) (.const (.int .i64 63)) 3, type := 3, pos := "ref.go:105", after := #[{ on := 0, ground := .data }], guard := none } : Oper)) (v := ?vs1_1) rfl tell6_plain (by as_aux_lemma => kernel_rfl) (by as_aux_lemma => kernel_rfl) (fun _ _ _ h => h) (Or.inl ⟨by rfl, ?ys1_1⟩) (by assumption) ?rs1_1
      case ys1_1 => (intro w hSw; (try dsimp only at hSw); go_simp; try with_reducible rfl)
      try simp only [Act.put, List.setIfInBounds_toArray, List.set_cons_zero, List.set_cons_succ]
      refine wpAnyH_take (i := 2) (oi := ({ dst := some 14, op := .move (.tmp 7), type := 3, pos := "ref.go:105", after := #[], guard := none } : Oper)) (v := ?vs1_2) rfl tell6_plain (by as_aux_lemma => kernel_rfl) (by as_aux_lemma => kernel_rfl) (fun _ _ _ h => h) (Or.inl ⟨by rfl, ?ys1_2⟩) (by assumption) ?rs1_2
      case ys1_2 => (intro w hSw; (try dsimp only at hSw); go_simp; try with_reducible rfl)
      try simp only [Act.put, List.setIfInBounds_toArray, List.set_cons_zero, List.set_cons_succ]
      refine wpAnyH_take (i := 3) (oi := ({ dst := some 15, op := .binOp .add 3 (.const (.int .i64 7)) (.tmp 14) 3, type := 3, pos := "ref.go:105", after := #[{ on := 2, ground := .data }], guard := none } : Oper)) (v := ?vs1_3) rfl tell6_plain (by as_aux_lemma => kernel_rfl) (by as_aux_lemma => kernel_rfl) (fun _ _ _ h => h) (Or.inl ⟨by rfl, ?ys1_3⟩) (by assumption) ?rs1_3
      case ys1_3 => (intro w hSw; (try dsimp only at hSw); go_simp; try with_reducible rfl)
      try simp only [Act.put, List.setIfInBounds_toArray, List.set_cons_zero, List.set_cons_succ]
      refine wpAnyH_take (i := 4) (oi := ({ dst := some 16, op := .indexAddr 38 (.tmp 6) (.tmp 15), type := 0, pos := "ref.go:105", after := #[{ on := 3, ground := .data }], guard := none } : Oper)) (v := ?vs1_4) rfl tell6_plain (by as_aux_lemma => kernel_rfl) (by as_aux_lemma => kernel_rfl) (fun _ _ _ h => h) (Or.inl ⟨by rfl, ?ys1_4⟩) (by assumption) ?rs1_4
      case ys1_4 => (intro w hSw; (try dsimp only at hSw); go_simp; try with_reducible rfl)
      try simp only [Act.put, List.setIfInBounds_toArray, List.set_cons_zero, List.set_cons_succ]
      refine wpAnyH_take (i := 5) (oi := ({ dst := some 17, op := .load 3 (.tmp 16), type := 3, pos := "ref.go:105", after := #[{ on := 4, ground := .data }], guard := none } : Oper)) (v := ?vs1_5) rfl tell6_plain (by as_aux_lemma => kernel_rfl) (by as_aux_lemma => kernel_rfl) (fun _ _ _ h => h) (Or.inl ⟨by rfl, ?ys1_5⟩) (by assumption) ?rs1_5
      case ys1_5 => (intro w hSw; (try dsimp only at hSw); go_simp; try with_reducible rfl)
      try simp only [Act.put, List.setIfInBounds_toArray, List.set_cons_zero, List.set_cons_succ]
      refine wpAnyH_take (i := 7) (oi := ({ dst := some 19, op := .move (.tmp 1), type := 3, pos := "ref.go:105", after := #[], guard := none } : Oper)) (v := ?vs1_7) rfl tell6_plain (by as_aux_lemma => kernel_rfl) (by as_aux_lemma => kernel_rfl) (fun _ _ _ h => h) (Or.inl ⟨by rfl, ?ys1_7⟩) (by assumption) ?rs1_7
      case ys1_7 => (intro w hSw; (try dsimp only at hSw); go_simp; try with_reducible rfl)
      try simp only [Act.put, List.setIfInBounds_toArray, List.set_cons_zero, List.set_cons_succ]
      refine wpAnyH_take (i := 8) (oi := ({ dst := some 20, op := .binOp .and 3 (.tmp 19) (.const (.int .i64 63)) 3, type := 3, pos := "ref.go:105", after := #[{ on := 7, ground := .data }], guard := none } : Oper)) (v := ?vs1_8) rfl tell6_plain (by as_aux_lemma => kernel_rfl) (by as_aux_lemma => kernel_rfl) (fun _ _ _ h => h) (Or.inl ⟨by rfl, ?ys1_8⟩) (by assumption) ?rs1_8
      case ys1_8 => (intro w hSw; (try dsimp only at hSw); go_simp; try with_reducible rfl)
      try simp only [Act.put, List.setIfInBounds_toArray, List.set_cons_zero, List.set_cons_succ]
      refine wpAnyH_take (i := 9) (oi := ({ dst := some 21, op := .move (.tmp 7), type := 3, pos := "ref.go:105", after := #[], guard := none } : Oper)) (v := ?vs1_9) rfl tell6_plain (by as_aux_lemma => kernel_rfl) (by as_aux_lemma => kernel_rfl) (fun _ _ _ h => h) (Or.inl ⟨by rfl, ?ys1_9⟩) (by assumption) ?rs1_9
      case ys1_9 => (intro w hSw; (try dsimp only at hSw); go_simp; try with_reducible rfl)
      try simp only [Act.put, List.setIfInBounds_toArray, List.set_cons_zero, List.set_cons_succ]
      refine wpAnyH_take (i := 10) (oi := ({ dst := some 22, op := .binOp .add 3 (.const (.int .i64 7)) (.tmp 21) 3, type := 3, pos := "ref.go:105", after := #[{ on := 9, ground := .data }], guard := none } : Oper)) (v := ?vs1_10) rfl tell6_plain (by as_aux_lemma => kernel_rfl) (by as_aux_lemma => kernel_rfl) (fun _ _ _ h => h) (Or.inl ⟨by rfl, ?ys1_10⟩) (by assumption) ?rs1_10
      case ys1_10 => (intro w hSw; (try dsimp only at hSw); go_simp; try with_reducible rfl)
      try simp only [Act.put, List.setIfInBounds_toArray, List.set_cons_zero, List.set_cons_succ]
      refine wpAnyH_take (i := 11) (oi := ({ dst := some 23, op := .indexAddr 38 (.tmp 6) (.tmp 22), type := 0, pos := "ref.go:105", after := #[{ on := 10, ground := .data }], guard := none } : Oper)) (v := ?vs1_11) rfl tell6_plain (by as_aux_lemma => kernel_rfl) (by as_aux_lemma => kernel_rfl) (fun _ _ _ h => h) (Or.inl ⟨by rfl, ?ys1_11⟩) (by assumption) ?rs1_11
      case ys1_11 => (intro w hSw; (try dsimp only at hSw); go_simp; try with_reducible rfl)
      try simp only [Act.put, List.setIfInBounds_toArray, List.set_cons_zero, List.set_cons_succ]
      refine wpAnyH_take (i := 12) (oi := ({ dst := some 24, op := .load 3 (.tmp 23), type := 3, pos := "ref.go:105", after := #[{ on := 11, ground := .data }], guard := none } : Oper)) (v := ?vs1_12) rfl tell6_plain (by as_aux_lemma => kernel_rfl) (by as_aux_lemma => kernel_rfl) (fun _ _ _ h => h) (Or.inl ⟨by rfl, ?ys1_12⟩) (by assumption) ?rs1_12
      case ys1_12 => (intro w hSw; (try dsimp only at hSw); go_simp; try with_reducible rfl)
      try simp only [Act.put, List.setIfInBounds_toArray, List.set_cons_zero, List.set_cons_succ]
      refine wpAnyH_ready (rs := [6]) (by as_aux_lemma => kernel_rfl) (by simp) ?_
      refine AllReadyH.cons (o := ({ dst := some 18, op := .call { callee := .value (.func 35), args := #[.tmp 13, .tmp 17], argTypes := #[3, 3] }, type := 4, pos := "ref.go:105", after := #[{ on := 1, ground := .data }, { on := 5, ground := .data }], guard := none } : Oper)) rfl (fun KK hK => ?_) AllReadyH.nil
      rw [if_pos (by rfl)]
      go_simp
      go_at_call 35; refine (HWA.out _).mono ?_; rintro e w4 ⟨rfl, hb4⟩
      go_wp2_with fail
      refine hK.out _ _ ?_ (fun hHeld4 => ?_)
      · exact belowT (by assumption) hb4
      clear hK KK hb4
      try simp only [Act.put, List.setIfInBounds_toArray, List.set_cons_zero, List.set_cons_succ]
      refine wpAnyH_ready (rs := [13]) (by as_aux_lemma => kernel_rfl) (by simp) ?_
      refine AllReadyH.cons (o := ({ dst := some 25, op := .call { callee := .value (.func 35), args := #[.tmp 20, .tmp 24], argTypes := #[3, 3] }, type := 4, pos := "ref.go:105", after := #[{ on := 8, ground := .data }, { on := 12, ground := .data }, { on := 6, ground := .chain }], guard := none } : Oper)) rfl (fun KK hK => ?_) AllReadyH.nil
      rw [if_pos (by rfl)]
      go_simp
      go_at_call 35; refine (HWB.out _).mono ?_; rintro e w5 ⟨rfl, hb5⟩
      go_wp2_with fail
      refine hK.out _ _ ?_ (fun hHeld5 => ?_)
      · exact belowT (by assumption) hb5
      clear hK KK hb5 hHeld4
      try simp only [Act.put, List.setIfInBounds_toArray, List.set_cons_zero, List.set_cons_succ]
      refine wpAnyH_take (i := 14) (oi := ({ dst := some 26, op := .binOp .neq 4 (.tmp 18) (.tmp 25) 4, type := 4, pos := "ref.go:105", after := #[{ on := 6, ground := .data }, { on := 13, ground := .data }], guard := none } : Oper)) (v := ?vs1_14) rfl tell6_plain (by as_aux_lemma => kernel_rfl) (by as_aux_lemma => kernel_rfl) (fun _ _ _ h => h) (Or.inl ⟨by rfl, ?ys1_14⟩) (by assumption) ?rs1_14
      case ys1_14 => (intro w hSw; (try dsimp only at hSw); go_simp; try with_reducible rfl)
      try simp only [Act.put, List.setIfInBounds_toArray, List.set_cons_zero, List.set_cons_succ]
      refine wpAnyH_done (by as_aux_lemma => kernel_rfl) ?_ _
      refine NoPanic.normal ?_
      have HS5 := Lib.hid (HS.out.keep hHeld5)
      clear hHeld5
      clear hcell HS
      generalize Sub.within la z = x at *
      generalize Sub.within lb z = y at *
      cases x <;> cases y
      · have HF := Lib.hid (H2.out (by rw [HTE.out]; rfl))
        clear H1 H2
        go_wp2
        go_roundw
        case rel => exact ⟨p + 1, by omega, rfl, by rw [HF.out]; exact HS5.out⟩
        case measure => simp [intOf]; omega
      · have HF := Lib.hid (H1.out (by rw [HTE.out]; rfl))
        have hll := HLL.out
        clear H1 H2
        go_wp2_with (at_builtin; refine list_append_int rfl _ _ rfl (w0 := w5) (v := u5) rfl (p : Int) HS5.out rfl hll ?_)
        intro v' w' hb'
        go_wp2
        go_roundw
        case rel => exact ⟨p + 1, by omega, rfl, by rw [HF.out, Hyp.ints_app]; exact hb'⟩
        case measure => simp [intOf]; omega
      · have HF := Lib.hid (H1.out (by rw [HTE.out]; rfl))
        have hll := HLL.out
        clear H1 H2
        go_wp2_with (at_builtin; refine list_append_int rfl _ _ rfl (w0 := w5) (v := u5) rfl (p : Int) HS5.out rfl hll ?_)
        intro v' w' hb'
        go_wp2
        go_roundw
        case rel => exact ⟨p + 1, by omega, rfl, by rw [HF.out, Hyp.ints_app]; exact hb'⟩
        case measure => simp [intOf]; omega
      · have HF := Lib.hid (H2.out (by rw [HTE.out]; rfl))
        clear H1 H2
        go_wp2
        go_roundw
        case rel => exact ⟨p + 1, by omega, rfl, by rw [HF.out]; exact HS5.out⟩
        case measure => simp [intOf]; omega
    · obtain rfl : p = 15 := by omega
      have HS := Lib.hid (hS.low HB2.out.size HB2.out)
      clear hS
      go_wp2
      go_ret
      exact ⟨_, rfl, HS.out⟩
end Ref23
end Go.Proofs.YtaooigldchojcaaDoor
