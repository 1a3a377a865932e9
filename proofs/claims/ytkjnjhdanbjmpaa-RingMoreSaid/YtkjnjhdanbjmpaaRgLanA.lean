/- The landed ring's reading, from, Last. -/
import Derived.Test.YtkjnjhdanbjmpaaRgNum
import Derived.Deep.MidRow
import Derived.Laws.ResultCell
namespace Go.Proofs.Ytkjnjhdanbjmpaa
open Go.RowKit

theorem reading_no (r : Rd) (i : Int) (w : World) (h : ¬ (0 ≤ i ∧ i < 12)) :
    Calls Try.prog 15 #[rv r, .int .i64 i] w fun e w' => e = .returned (.tuple #[.int .i64 0, .bool false]) ∧ Below w.heap.size w w' := by
  unfold rv
  by_cases h0 : i < 0
  · go_enter Try.func15, Try.ntmps15
    go_wp2
    go_ret2
    exact ⟨rfl, below1 w _⟩
  · have h1 : 12 ≤ i := by omega
    have h2 : 0 ≤ i := by omega
    clear h h0
    go_enter Try.func15, Try.ntmps15
    go_wp2
    go_ret2
    exact ⟨rfl, below1 w _⟩

set_option maxHeartbeats 1000000 in
theorem reading_nat (r : Rd) (i : Nat) (w : World) (h : i < 12) (b : Bool) (v : Int) (hb : r.there.getD i false = b) (hv : r.val.getD i 0 = v) :
    Calls Try.prog 15 #[rv r, .int .i64 i] w fun e w' => e = .returned (.tuple #[.int .i64 (if b then v else 0), .bool b]) ∧ Below w.heap.size w w' := by
  have hi : (i : Int) < 12 := by omega
  have A := RdAt.new w r 27
  have c1 := A.there i h
  have c2 := A.val i h
  rw [hb] at c1
  rw [hv] at c2
  unfold rv
  clear A h hb hv
  generalize ra r = q at *
  have B1 := Lib.hid (below1 w (.cells q 27))
  cases b
  · go_enter Try.func15, Try.ntmps15
    go_wp2
    go_ret2
    exact ⟨rfl, B1.out⟩
  · go_enter Try.func15, Try.ntmps15
    go_wp2
    go_ret2
    exact ⟨rfl, B1.out⟩

theorem reading_any (r : Rd) (i : Int) (w : World) :
    Calls Try.prog 15 #[rv r, .int .i64 i] w fun e w' => e = .returned (.tuple #[.int .i64 (readV r i), .bool (readB r i)]) ∧ Below w.heap.size w w' := by
  by_cases h : 0 ≤ i ∧ i < 12
  · obtain ⟨n, rfl⟩ : ∃ n : Nat, i = (n : Int) := ⟨i.toNat, by omega⟩
    have hn : n < 12 := by omega
    have c := reading_nat r n w hn _ _ rfl rfl
    have e : readV r n = if r.there.getD n false then r.val.getD n 0 else 0 := by
      unfold readV
      rw [read_nat r n hn, Int.toNat_natCast]
    rw [e, read_nat r n hn]
    exact c
  · have e := read_no r i h
    rw [e, value_no r i e]
    exact reading_no r i w h

theorem from_came {w : World} {ba : Option Addr} {cap : Nat} {l : List Rd} (C : CameRd w ba cap l) (k : Nat) (hk : k ≤ l.length) :
    Calls Try.prog 14 #[.slice ba l.length cap, .int .i64 k] w fun e w' => ∃ ba', e = .returned (.slice ba' (l.drop k).length (l.drop k).length) ∧ CameRd w ba' (l.drop k).length (l.drop k) ∧ (∀ g, Off ba g → Off ba' g) ∧ w = w' := by
  obtain ⟨ba', hO, hs, C'⟩ := came_cut C k hk
  have hl : (l.length : Int) ≤ 9223372036854775807 := by
    have := C.le
    have := C.max
    unfold maxLen at this
    omega
  have HC := Lib.hid C'
  have HO := Lib.hid hO
  generalize (l.drop k).length = m at *
  clear C C' hk hO
  go_enter Try.func14, Try.ntmps14
  go_wp2
  go_ret
  exact ⟨_, rfl, HC.out, HO.out, rfl⟩

theorem zeros_rd : (Value.agg #[.int .i64 0, .int .i64 0, .int .i64 0, .int .i64 0, .int .i64 0, .int .i64 0, .int .i64 0, .int .i64 0, .int .i64 0, .int .i64 0, .int .i64 0, .int .i64 0, .bool false, .bool false, .bool false, .bool false, .bool false, .bool false, .bool false, .bool false, .bool false, .bool false, .bool false, .bool false]) = rv rd0 := rfl

theorem Last_none (ba : Option Addr) (len cap : Nat) (n : Int) (w : World) (_hl : (len : Int) ≤ 9223372036854775807) (h : n < 0 ∨ (len : Int) ≤ n) :
    Calls Try.prog 12 #[.slice ba len cap, .int .i64 n] w fun e w' => e = .returned (.tuple #[rv rd0, .bool false]) ∧ Below w.heap.size w w' := by
  have B1 := Lib.hid (below1 w (.cells (ra rd0) 27))
  have L1 := Lib.hid (load_rd (RdAt.new w rd0 27))
  by_cases h0 : n < 0
  · clear h
    go_enter Try.func12, Try.ntmps12
    go_upto_region 2 with fail
    go_wp2_with (refine list_store_rd rfl _ _ rfl _ rd0 rfl rfl rfl ?_)
    refine bodyPost_ret (v := .tuple #[rv rd0, .bool false]) ?_ rfl ⟨rfl, B1.out⟩
    rw [results_cell_tmp rfl]
    simp [asAddr, L1.out]
  · have h1 : (len : Int) ≤ n := by omega
    have h2 : 0 ≤ n := by omega
    clear h h0
    go_enter Try.func12, Try.ntmps12
    go_upto_region 2 with fail
    go_wp2_with (refine list_store_rd rfl _ _ rfl _ rd0 rfl rfl rfl ?_)
    refine bodyPost_ret (v := .tuple #[rv rd0, .bool false]) ?_ rfl ⟨rfl, B1.out⟩
    rw [results_cell_tmp rfl]
    simp [asAddr, L1.out]

theorem Last_some {w : World} {ba : Option Addr} {cap : Nat} {l : List Rd} (C : CameRd w ba cap l) (n : Nat) (hn : n < l.length) :
    Calls Try.prog 12 #[.slice ba l.length cap, .int .i64 n] w fun e w' => e = .returned (.tuple #[rv (l.getD (l.length - 1 - n) rd0), .bool true]) ∧ Below w.heap.size w w' := by
  obtain ⟨b, o, rfl, L⟩ := C.lies (by omega)
  have hl : (l.length : Int) ≤ 9223372036854775807 := by
    have := C.le
    have := C.max
    unfold maxLen at this
    omega
  have hk := L (l.length - 1 - n) (by omega)
  obtain ⟨k, ek⟩ : ∃ k, k = l.length - 1 - n := ⟨_, rfl⟩
  rw [← ek] at hk ⊢
  have hi : (l.length : Int) - 1 - (n : Int) = (k : Int) := by omega
  have hd : decide ((l.length : Int) ≤ (n : Int)) = false := decide_eq_false (by omega)
  have hd2 : decide (l.length ≤ n) = false := decide_eq_false (by omega)
  have hkl : (k : Int) < l.length := by omega
  have hkl2 : k < l.length := by omega
  generalize l.getD k rd0 = r at *
  generalize l.length = len at *
  have HL := Lib.hid (fun c : Array Value => (show (w.alloc (.cells c 27)).rangeAt b (o + k * 24) (rc r) from range_keep hk (below1 w _)))
  have B1 := Lib.hid (below1 w (.cells (ra r) 27))
  have L1 := Lib.hid (load_rd (RdAt.new w r 27))
  have h1 : (0 : Int) ≤ (len : Int) - 1 := by omega
  clear hk C L ek hn
  go_enter Try.func12, Try.ntmps12
  go_upto_region 3 with fail
  go_wp2_with (first | refine list_load_rd rfl _ rfl b (o + k * 24) rfl r (HL.out _) ?_ | refine list_store_rd rfl _ _ rfl _ r rfl rfl rfl ?_)
  refine bodyPost_ret (v := .tuple #[rv r, .bool true]) ?_ rfl ⟨rfl, B1.out⟩
  rw [results_cell_tmp rfl]
  simp [asAddr, L1.out]
end Go.Proofs.Ytkjnjhdanbjmpaa
