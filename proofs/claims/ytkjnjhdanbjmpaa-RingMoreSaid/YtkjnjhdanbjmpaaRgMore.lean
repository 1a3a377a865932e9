/- RingMore. -/
import Derived.Test.YtkjnjhdanbjmpaaRgAwake
import Derived.Test.YtkjnjhdanbjmpaaRgStuck
import Derived.Test.YtkjnjhdanbjmpaaRgRMean
import Derived.Test.YtkjnjhdanbjmpaaRgRStuck
import Derived.Lib.MinMax
namespace Go.Proofs.Ytkjnjhdanbjmpaa
open Go.RowKit

theorem stuck_le (l : List Rd) (i : Int) : stuckN l i ≤ l.length := by
  unfold stuckN
  split
  · rename_i h
    exact (Classical.choose_spec h).1
  · exact Nat.zero_le _

/-- the least and the greatest so far -/
def LowHigh (vs : List Int) (lo hi : Int) : Prop := 0 < vs.length → ∀ v ∈ vs, lo ≤ v ∧ v ≤ hi
theorem LowHigh.one (v : Int) : LowHigh [v] v v := fun _ x hx => by rw [List.mem_singleton] at hx; subst hx; exact ⟨Int.le_refl _, Int.le_refl _⟩
theorem LowHigh.more {vs : List Int} {lo hi : Int} (h : LowHigh vs lo hi) (h0 : 0 < vs.length) (v : Int) : LowHigh (vs ++ [v]) (min lo v) (max hi v) := fun _ x hx => by
  rcases List.mem_append.1 hx with hx | hx
  · have := h h0 x hx
    omega
  · rw [List.mem_singleton] at hx
    subst hx
    omega

set_option maxHeartbeats 8000000 in
set_option maxRecDepth 100000 in
theorem more_core {w : World} {ba : Option Addr} {cap : Nat} {l : List Rd} (C : CameRd w ba cap l) (i : Int) (h60 : (l.length : Int) ≤ 60) :
    Calls Try.prog 4 #[.slice ba l.length cap, .int .i64 i] w fun e w' => e = .returned (.bool true) ∧ Below w.heap.size w w' := by
  have hsm : l.length ≤ 1000 := by omega
  have M1 := Lib.hid (fun (w' : World) (C : CameRd w' ba cap l) => Mean_any C i hsm)
  have M2 := Lib.hid (fun (w' : World) (C : CameRd w' ba cap l) => Ref.Mean_any C i hsm)
  have S1 := Lib.hid (fun (w' : World) (C : CameRd w' ba cap l) => Stuck_any C i)
  have S2 := Lib.hid (fun (w' : World) (C : CameRd w' ba cap l) => Ref.Stuck_any C i)
  have AW := Lib.hid awake_any
  have HC := Lib.hid C
  have hs := stuck_le l i
  have hs1 : decide (l.length < stuckN l i) = false := decide_eq_false (by omega)
  have hs2 : decide ((l.length : Int) < (stuckN l i : Int)) = false := decide_eq_false (by omega)
  generalize stuckN l i = s at *
  obtain ⟨q, hq⟩ : ∃ q, q = meanA (vals27 i l) := ⟨_, rfl⟩
  obtain ⟨t, ht⟩ : ∃ t, t = decide (0 < (vals27 i l).length) := ⟨_, rfl⟩
  rw [← hq, ← ht] at M1 M2
  have HQ := Lib.hid hq
  have HT := Lib.hid ht
  clear C hs hq ht hsm
  go_enter Try.func4, Try.ntmps4
  go_wp2_with fail
  refine (M1.out _ HC.out).mono ?_; rintro e w1 ⟨rfl, hb1⟩
  have B1 := Lib.hid hb1
  have P1 := Lib.hid (M2.out _ (HC.out.keep hb1))
  clear M1 M2 hb1
  go_wp2_with fail
  refine P1.out.mono ?_; rintro e w2 ⟨rfl, hb2⟩
  have B2 := Lib.hid (belowT B1.out hb2)
  have P2 := Lib.hid (S1.out _ (HC.out.keep B2.out))
  clear P1 B1 hb2
  go_wp2_with fail
  refine P2.out.mono ?_; rintro e w3 ⟨rfl, hb3⟩
  have B3 := Lib.hid (belowT B2.out hb3)
  have P3 := Lib.hid (S2.out _ (HC.out.keep B3.out))
  clear P2 B2 hb3 S2
  go_wp2_with fail
  refine P3.out.mono ?_; rintro e w4 ⟨rfl, hb4⟩
  have B4 := Lib.hid (belowT B3.out hb4)
  have P4 := Lib.hid (S1.out _ (HC.out.keep B4.out))
  clear P3 B3 hb4 S1
  go_wp2_with fail
  refine P4.out.mono ?_; rintro e w5 ⟨rfl, hb5⟩
  have B5 := Lib.hid (belowT B4.out hb5)
  clear P4 B4 hb5
  go_wp2_with fail
  go_loopw [9, 10, 11, 57] (fun v9 v10 v11 iv wr => ∃ j : Nat, j ≤ l.length ∧ iv = .int .i64 j ∧ v9 = .bool (decide (0 < (vals27 i (l.take j)).length)) ∧ ∃ lo hi : Int, v10 = .int .i64 lo ∧ v11 = .int .i64 hi ∧ LowHigh (vals27 i (l.take j)) lo hi ∧ Below w.heap.size w wr) (fun _ _ _ iv _ => l.length - (intOf iv).toNat)
  case atStart => exact ⟨0, Nat.zero_le _, rfl, rfl, 0, 0, rfl, rfl, fun h => absurd h (by simp [vals27]), B5.out⟩
  case round =>
    obtain ⟨j, hj, rfl, rfl, lo, hi, rfl, rfl, hlh, hB⟩ := hrel
    by_cases hc : (j : Int) < l.length
    · obtain ⟨b, o, rfl, L⟩ := (HC.out.keep hB).lies (by omega)
      have hx := L j (by omega)
      have hd : (j : Int) ≥ 0 := by omega
      have hv := vals_next i l j (by omega)
      generalize l.getD j rd0 = r at *
      have HV := Lib.hid hv
      obtain ⟨vs, hvs⟩ : ∃ vs, vs = vals27 i (l.take j) := ⟨_, rfl⟩
      rw [← hvs] at hlh HV ⊢
      have HX := Lib.hid hx
      have hN := RdAt.new wr r 27
      have B1 := below1 wr (.cells (ra r) 27)
      have HB := Lib.hid (hB.trans (B1.mono hB.size))
      have HL := Lib.hid hlh
      clear L hx hv hvs hB B1 B5 hlh
      by_cases hin : 0 ≤ i ∧ i < 12
      · obtain ⟨n, rfl⟩ : ∃ n : Nat, i = (n : Int) := ⟨i.toNat, by omega⟩
        have hn12 : n < 12 := by omega
        have hi12 : (n : Int) < 12 := hin.2
        have hi11 : (n : Int) ≤ 11 := by omega
        have c0 := hN.there n hn12
        have c1 := hN.val n hn12
        rw [← read_nat r n hn12] at c0
        clear hin hN
        by_cases hq0 : readB r n = true
        · have hu := value_nat r n hq0
          rw [← hu] at c1
          rw [hq0] at c0
          rw [hq0, if_pos rfl] at HV
          generalize readV r n = u at *
          clear hq0 hu
          by_cases h0 : 0 < vs.length
          · have HH := Lib.hid (HL.out.more h0 u)
            have hdt : decide (0 < vs.length) = true := decide_eq_true h0
            rw [hdt]
            clear h0 hdt
            go_upto_region 15 with (first | refine list_load_rd rfl _ rfl b (o + j * 24) rfl r HX.out ?_ | refine list_store_rd rfl _ _ rfl _ r rfl rfl rfl ?_)
            go_quiet (fail)
            go_wp2
            go_roundw
            case rel => exact ⟨j + 1, by omega, rfl, by rw [HV.out]; simp, min lo u, max hi u, rfl, rfl, by rw [HV.out]; exact HH.out, belowN HB.out _⟩
            case measure => simp [intOf]; omega
          · have hnil : vs = [] := List.length_eq_zero_iff.1 (by omega)
            subst hnil
            have HH := Lib.hid (LowHigh.one u)
            clear h0
            simp only [List.length_nil, Nat.lt_irrefl, decide_false]
            go_upto_region 14 with (first | refine list_load_rd rfl _ rfl b (o + j * 24) rfl r HX.out ?_ | refine list_store_rd rfl _ _ rfl _ r rfl rfl rfl ?_)
            go_quiet (fail)
            go_upto_region 15 with fail
            go_quiet (fail)
            go_wp2
            go_roundw
            case rel => exact ⟨j + 1, by omega, rfl, by rw [HV.out]; simp, u, u, rfl, rfl, by rw [HV.out]; exact HH.out, belowN HB.out _⟩
            case measure => simp [intOf]; omega
        · rw [Bool.not_eq_true] at hq0
          rw [hq0] at c0
          rw [hq0, if_neg (by decide)] at HV
          clear hq0 c1
          go_wp2_with (first | refine list_load_rd rfl _ rfl b (o + j * 24) rfl r HX.out ?_ | refine list_store_rd rfl _ _ rfl _ r rfl rfl rfl ?_)
          go_roundw
          case rel => exact ⟨j + 1, by omega, rfl, by rw [HV.out], lo, hi, rfl, rfl, by rw [HV.out]; exact HL.out, HB.out⟩
          case measure => simp [intOf]; omega
      · skip
        have hq0 := read_no r i hin
        rw [hq0, if_neg (by decide)] at HV
        clear hq0 hN
        by_cases hneg : i < 0
        · clear hin
          go_wp2_with (first | refine list_load_rd rfl _ rfl b (o + j * 24) rfl r HX.out ?_ | refine list_store_rd rfl _ _ rfl _ r rfl rfl rfl ?_)
          go_roundw
          case rel => exact ⟨j + 1, by omega, rfl, by rw [HV.out], lo, hi, rfl, rfl, by rw [HV.out]; exact HL.out, HB.out⟩
          case measure => simp [intOf]; omega
        · have h12 : (11 : Int) < i := by omega
          have h00 : 0 ≤ i := by omega
          clear hin hneg
          go_wp2_with (first | refine list_load_rd rfl _ rfl b (o + j * 24) rfl r HX.out ?_ | refine list_store_rd rfl _ _ rfl _ r rfl rfl rfl ?_)
          go_roundw
          case rel => exact ⟨j + 1, by omega, rfl, by rw [HV.out], lo, hi, rfl, rfl, by rw [HV.out]; exact HL.out, HB.out⟩
          case measure => simp [intOf]; omega
    · obtain rfl : j = l.length := by omega
      rw [List.take_length] at hlh ⊢
      have B9 := Lib.hid hB
      have hmean : 0 < (vals27 i l).length → lo ≤ meanA (vals27 i l) ∧ meanA (vals27 i l) ≤ hi := fun h => by
        have e : meanA (vals27 i l) = meanV (vals27 i l) := if_pos h
        rw [e]
        exact mean_between lo hi _ h (hlh h)
      rw [← HQ.out] at hmean
      have hT := HT.out
      by_cases h0 : 0 < (vals27 i l).length
      · obtain ⟨m1, m2⟩ := hmean h0
        rw [decide_eq_true h0] at hT ⊢
        subst hT
        clear hmean h0 hlh hB HT HQ HC
        go_wp2_with fail
        refine (AW.out _).mono ?_; rintro e w9 ⟨rfl, hb9⟩
        go_wp2_with fail
        go_ret
        exact ⟨rfl, B9.out.trans (hb9.mono B9.out.size)⟩
      · rw [decide_eq_false h0] at hT ⊢
        subst hT
        clear hmean h0 hlh hB HT HQ HC
        go_wp2_with fail
        refine (AW.out _).mono ?_; rintro e w9 ⟨rfl, hb9⟩
        go_wp2_with fail
        go_ret
        exact ⟨rfl, B9.out.trans (hb9.mono B9.out.size)⟩

theorem more_long (ba : Option Addr) (len cap : Nat) (i : Int) (w : World) (_hl : (len : Int) ≤ 9223372036854775807) (h : (60 : Int) < len) (AW : Hid (∀ w, Calls Try.prog 5 #[] w fun e w' => e = .returned (.bool true) ∧ Below w.heap.size w w')) :
    Calls Try.prog 4 #[.slice ba len cap, .int .i64 i] w fun e w' => e = .returned (.bool true) ∧ Below w.heap.size w w' := by
  go_enter Try.func4, Try.ntmps4
  go_wp2_with fail
  refine (AW.out _).mono ?_; rintro e w1 ⟨rfl, hb1⟩
  go_wp2_with fail
  go_ret
  exact ⟨rfl, hb1⟩

theorem More_all {w : World} {ba : Option Addr} {cap : Nat} {l : List Rd} (C : CameRd w ba cap l) (i : Int) :
    Calls Try.prog 4 #[.slice ba l.length cap, .int .i64 i] w fun e w' => e = .returned (.bool true) ∧ Below w.heap.size w w' := by
  have a1 := C.le
  have a2 := C.max
  unfold maxLen at a2
  by_cases h : (60 : Int) < l.length
  · exact more_long ba l.length cap i w (by omega) h (Lib.hid awake_any)
  · exact more_core C i (by omega)
end Go.Proofs.Ytkjnjhdanbjmpaa
