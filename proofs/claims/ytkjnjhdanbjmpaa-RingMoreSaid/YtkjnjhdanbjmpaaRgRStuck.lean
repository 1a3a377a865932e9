/- The document's own Stuck for layer 27. -/
import Derived.Test.YtkjnjhdanbjmpaaRgNum
import Derived.LoopTactic
import Derived.WalkMore
import Derived.BigQuiet
namespace Go.Proofs.Ytkjnjhdanbjmpaa.Ref
open Go.RowKit Go.Proofs.Ytkjnjhdanbjmpaa

theorem stk_none {l : List Rd} {i : Int} (h : ∀ r : Rd, readB r i = false) : stuckN l i = 0 :=
  stuck_is ⟨Nat.zero_le _, fun _ hj => absurd hj (Nat.not_lt_zero _), fun _ hk => by rw [h] at hk; cases hk.1⟩

theorem Stuck_out {w : World} (ba : Option Addr) (cap : Nat) (l : List Rd) (i : Int) (hl : (l.length : Int) ≤ 9223372036854775807) (hi : ¬ (0 ≤ i ∧ i < 12)) :
    Calls Try.prog 10 #[.slice ba l.length cap, .int .i64 i] w fun e w' => e = .returned (.int .i64 (stuckN l i)) ∧ Below w.heap.size w w' := by
  rw [stk_none (fun r => read_no r i hi)]
  by_cases h0 : i < 0
  · have hg : decide (0 ≤ i) = false := decide_eq_false (by omega)
    clear hi h0
    by_cases hz : (1 : Int) ≤ l.length
    · go_enter Try.func10, Try.ntmps10
      go_wp2
      refine wp_loop_rounds 1 ?_
      rw [rounds_succ]
      go_wp2
      go_ret
      exact ⟨rfl, Below.refl _ _⟩
    · have hz' : decide ((1 : Int) ≤ l.length) = false := decide_eq_false hz
      go_enter Try.func10, Try.ntmps10
      go_wp2
      refine wp_loop_rounds 1 ?_
      rw [rounds_succ]
      go_wp2
      go_ret
      exact ⟨rfl, Below.refl _ _⟩
  · have h1 : 0 ≤ i := by omega
    have hg : decide (i < 12) = false := decide_eq_false (by omega)
    clear hi h0
    by_cases hz : (1 : Int) ≤ l.length
    · go_enter Try.func10, Try.ntmps10
      go_wp2
      refine wp_loop_rounds 1 ?_
      rw [rounds_succ]
      go_wp2
      go_ret
      exact ⟨rfl, Below.refl _ _⟩
    · have hz' : decide ((1 : Int) ≤ l.length) = false := decide_eq_false hz
      go_enter Try.func10, Try.ntmps10
      go_wp2
      refine wp_loop_rounds 1 ?_
      rw [rounds_succ]
      go_wp2
      go_ret
      exact ⟨rfl, Below.refl _ _⟩

def OkTo (l : List Rd) (i v : Int) (n : Nat) : Prop := ∀ j, j < n → readB (l.getD (l.length - 1 - j) rd0) i = true ∧ readV (l.getD (l.length - 1 - j) rd0) i = v
theorem OkTo.next {l : List Rd} {i v : Int} {n : Nat} (h : OkTo l i v n) (k : readB (l.getD (l.length - 1 - n) rd0) i = true ∧ readV (l.getD (l.length - 1 - n) rd0) i = v) : OkTo l i v (n + 1) := fun j hj => by
  by_cases e : j = n
  · subst e; exact k
  · exact h j (by omega)

set_option maxHeartbeats 8000000 in
set_option maxRecDepth 100000 in
theorem Stuck_in {w : World} {ba : Option Addr} {cap : Nat} {l : List Rd} (C : CameRd w ba cap l) (m : Nat) (hm : m < 12) :
    Calls Try.prog 10 #[.slice ba l.length cap, .int .i64 (m : Int)] w fun e w' => e = .returned (.int .i64 (stuckN l m)) ∧ Below w.heap.size w w' := by
  have hl : (l.length : Int) ≤ 9223372036854775807 := by
    have := C.le
    have := C.max
    unfold maxLen at this
    omega
  have HC := Lib.hid C
  obtain ⟨z, hz⟩ : ∃ z, z = stuckN l m := ⟨_, rfl⟩
  rw [← hz]
  have HZ := Lib.hid hz
  have hmi : (m : Int) < 12 := by omega
  clear C hz
  go_enter Try.func10, Try.ntmps10
  go_wp2
  go_loopw [5, 6] (fun v5 v6 wr => ∃ n : Nat, n ≤ l.length ∧ v5 = .int .i64 n ∧ v6 = .int .i64 ((l.length : Int) - 1 - n) ∧ OkTo l m (lastV l m) n ∧ Below w.heap.size w wr) (fun _ v6 _ => (intOf v6 + 1).toNat)
  case atStart => exact ⟨0, Nat.zero_le _, rfl, by simp, fun j hj => absurd hj (Nat.not_lt_zero _), Below.refl _ _⟩
  case round =>
    obtain ⟨n, hn, rfl, rfl, hok, hB⟩ := hrel
    by_cases hlt : n < l.length
    · obtain ⟨b, o, rfl, L⟩ := (HC.out.keep hB).lies (by omega)
      obtain ⟨k, hk⟩ : ∃ k, k = l.length - 1 - n := ⟨_, rfl⟩
      have hki : (l.length : Int) - 1 - n = (k : Int) := by omega
      have hk0 : (0 : Int) ≤ (k : Int) := by omega
      have hkl : (k : Int) < l.length := by omega
      have Lk := L k (by omega)
      have ct := Lk (12 + m) _ (rc_there _ m hm)
      have cv := Lk m _ (rc_val _ m hm)
      rw [← read_nat _ m hm] at ct
      rw [← Nat.add_assoc] at ct
      rw [hki]
      have HK := Lib.hid hk
      have HOK := Lib.hid hok
      have HB := Lib.hid hB
      cases hq : readB (l.getD k rd0) m
      · have hs : stuckN l m = n := stuck_is ⟨hn, hok, fun _ h => (by rw [← hk, hq] at h; cases h.1)⟩
        have HS := Lib.hid (HZ.out.trans hs)
        rw [hq] at ct
        generalize (l.getD k rd0).val.getD m 0 = u at *
        clear hok hs hq Lk L cv hk HK HOK hB HC HZ
        go_upto_region 5 with fail
        go_quiet (fail)
        go_wp2
        go_ret
        exact ⟨by rw [HS.out]; rfl, belowN HB.out _⟩
      · have hu := value_nat _ m hq
        rw [hq] at ct
        rw [← hu] at cv
        rcases Nat.eq_zero_or_pos n with rfl | hpos
        · have H2 := Lib.hid (hok.next (by rw [← hk]; exact ⟨hq, by rw [hk]; rfl⟩))
          have KI := Lib.hid hki
          generalize readV (l.getD k rd0) m = u at *
          clear hok hq hu Lk L hk HK HOK hB HC HZ hki
          go_upto_region 5 with fail
          go_quiet (fail)
          go_wp2
          go_roundw
          case rel => exact ⟨1, by omega, rfl, by rw [show (l.length : Int) - 1 - ((1 : Nat) : Int) = (k : Int) - 1 by have := KI.out; omega], H2.out, belowN HB.out _⟩
          case measure => simp [intOf]
        · obtain ⟨q1, q2⟩ := hok (n - 1) (by omega)
          have e1 : l.length - 1 - (n - 1) = k + 1 := by omega
          rw [e1] at q1 q2
          have Lk1 := L (k + 1) (by omega)
          have cw := Lk1 m _ (rc_val _ m hm)
          rw [← value_nat _ m q1, q2] at cw
          have hk1 : (k : Int) + 1 < l.length := by omega
          have hk2 : (0 : Int) ≤ (k : Int) + 1 := by omega
          have hn0 : (0 : Int) < n := by omega
          have HN := Lib.hid hpos
          by_cases huv : readV (l.getD k rd0) m = lastV l m
          · have H2 := Lib.hid (hok.next (by rw [← hk]; exact ⟨hq, huv⟩))
            have KI := Lib.hid hki
            rw [huv] at cv
            generalize lastV l m = v0 at *
            clear hok hq hu huv Lk Lk1 L hk HK HOK hB HC HZ hki q1 q2 e1
            go_upto_region 5 with fail
            go_quiet (fail)
            go_wp2
            go_roundw
            case rel => exact ⟨n + 1, by omega, by simp, by rw [show (l.length : Int) - 1 - ((n + 1 : Nat) : Int) = (k : Int) - 1 by have := KI.out; omega], H2.out, belowN HB.out _⟩
            case measure => simp [intOf]
          · have hs : stuckN l m = n := stuck_is ⟨hn, hok, fun _ h => huv (by rw [hk]; exact h.2)⟩
            have HS := Lib.hid (HZ.out.trans hs)
            generalize lastV l m = v0 at *
            generalize readV (l.getD k rd0) m = u at *
            have hne : (u != v0) = true := by simpa using huv
            clear hok hs hq hu huv Lk Lk1 L hk HK HOK hB HC HZ q1 q2 e1
            go_upto_region 5 with fail
            go_quiet (fail)
            go_wp2
            go_ret
            exact ⟨by rw [HS.out]; rfl, belowN HB.out _⟩
    · obtain rfl : n = l.length := by omega
      have hs : stuckN l m = l.length := stuck_is ⟨Nat.le_refl _, hok, fun h => absurd h (Nat.lt_irrefl _)⟩
      have HS := Lib.hid (HZ.out.trans hs)
      have HB := Lib.hid hB
      rw [show (l.length : Int) - 1 - (l.length : Int) = -1 by omega]
      clear hok hs hB HC HZ
      go_wp2
      go_ret
      exact ⟨by rw [HS.out]; rfl, HB.out⟩

theorem Stuck_any {w : World} {ba : Option Addr} {cap : Nat} {l : List Rd} (C : CameRd w ba cap l) (i : Int) :
    Calls Try.prog 10 #[.slice ba l.length cap, .int .i64 i] w fun e w' => e = .returned (.int .i64 (stuckN l i)) ∧ Below w.heap.size w w' := by
  by_cases h : 0 ≤ i ∧ i < 12
  · obtain ⟨n, rfl⟩ : ∃ n : Nat, i = (n : Int) := ⟨i.toNat, by omega⟩
    exact Stuck_in C n (by omega)
  · have a1 := C.le
    have a2 := C.max
    unfold maxLen at a2
    exact Stuck_out ba cap l i (by omega) h
end Go.Proofs.Ytkjnjhdanbjmpaa.Ref
