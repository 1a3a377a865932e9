/- The landed Of, As. -/
import Derived.Test.YtmacbcbomdnppaaCmdLanD
import Derived.Test.YtmacbcbomdnppaaV64
namespace Go.Proofs.Ytmacbcbomdnppaa
open Go.RowKit

namespace Lan34
set_option maxRecDepth 100000 in
theorem Of_core (V : Value) (k a : Int) (good : Bool) (r : Value) (w : World) (hr1 : good = true → r = .tuple #[.agg #[.int .i64 k, .int .i64 a], .int .i64 0]) (hr0 : good = false → r = .tuple #[cv0, .int .i64 1])
    (HA : Hid (∀ w, Calls Try.prog 22 #[V] w fun e w' => e = .returned (.agg #[.int .i64 k, .int .i64 a]) ∧ Below w.heap.size w w'))
    (HR : Hid (∀ w, Calls Try.prog 11 #[.agg #[.int .i64 k, .int .i64 a]] w fun e w' => e = .returned (.bool good) ∧ Below w.heap.size w w')) :
    Calls Try.prog 13 #[V] w fun e w' => e = .returned r ∧ Below w.heap.size w w' := by
  have R1 := Lib.hid hr1
  have R0 := Lib.hid hr0
  clear hr1 hr0
  have B1 := Lib.hid (below1 w (.cells #[.int .i64 0, .int .i64 0] 23))
  have S1 := Lib.hid ((Sp.none w).more [.int .i64 0, .int .i64 0] 23)
  go_enter Try.func13, Try.ntmps13
  go_wp2_with fail
  refine (HA.out _).mono ?_; rintro e w1 ⟨rfl, hb1⟩
  have B2 := Lib.hid (belowT B1.out hb1)
  have S2 := Lib.hid ((S1.out.keep hb1).more [.int .i64 k, .int .i64 a] 23)
  have B3 := Lib.hid (below1 w1 (.cells #[.int .i64 k, .int .i64 a] 23))
  clear B1 S1 HA hb1
  go_wp2_with fail
  refine (HR.out _).mono ?_; rintro e w2 ⟨rfl, hb2⟩
  have B4 := Lib.hid (belowT (belowT B2.out B3.out) hb2)
  have S4 := S2.out.keep hb2
  have c0 := S4.at 0 rfl 0 rfl; have f0 := S4.free 0 rfl 0 rfl
  have c1 := S4.at 0 rfl 1 rfl; have f1 := S4.free 0 rfl 1 rfl
  have m0 := S4.at 1 rfl 0 rfl
  have m1 := S4.at 1 rfl 1 rfl
  clear S2 S4 B2 B3 HR hb2
  cases good
  · have hr := Lib.hid (R0.out (by trivial))
    clear R1 R0 m0 m1
    go_wp2
    exact bodyPost_ret (v := .tuple #[cv0, .int .i64 1]) (by simp [cv0, results, Try.results13, go_sem, c0, c1]) rfl ⟨by rw [hr.out], below_set2 B4.out _ _⟩
  · have hr := Lib.hid (R1.out (by trivial))
    clear R1 R0
    go_wp2
    exact bodyPost_ret (v := .tuple #[.agg #[.int .i64 k, .int .i64 a], .int .i64 0]) (by simp [results, Try.results13, go_sem, c0, c1]) rfl ⟨by rw [hr.out], below_set2 B4.out _ _⟩

theorem Of_num (V : Value) (k a : Int) (w : World) (HA : ∀ w, Calls Try.prog 22 #[V] w fun e w' => e = .returned (cv ⟨k, a⟩) ∧ Below w.heap.size w w') :
    Calls Try.prog 13 #[V] w fun e w' => e = .returned (.tuple #[cv (ofNum k a).1, .int .i64 (ofNum k a).2]) ∧ Below w.heap.size w w' := by
  refine Of_core V k a (rightC ⟨k, a⟩) _ w (fun h => ?_) (fun h => ?_) (Lib.hid HA) (Lib.hid fun w => Right_any ⟨k, a⟩ w)
  · unfold ofNum; rw [if_pos h]; rfl
  · unfold ofNum; rw [if_neg (by rw [h]; simp)]; rfl

theorem Of_ground (b : Bool) (w : World) : Calls Try.prog 13 #[gV b] w fun e w' => e = .returned (.tuple #[cv ⟨1, b01 b⟩, .int .i64 0]) ∧ Below w.heap.size w w' := by
  have k := Of_num (gV b) 1 (b01 b) w (asked_ground b)
  have e : ofNum 1 (b01 b) = (⟨1, b01 b⟩, 0) := by cases b <;> rfl
  rw [e] at k
  exact k
theorem Of_reset (w : World) : Calls Try.prog 13 #[rV] w fun e w' => e = .returned (.tuple #[cv ⟨2, 0⟩, .int .i64 0]) ∧ Below w.heap.size w w' := Of_num rV 2 0 w asked_reset
theorem Of_inhibit (g : Int) (w : World) : Calls Try.prog 13 #[iV g] w fun e w' => e = .returned (.tuple #[cv (ofNum 3 g).1, .int .i64 (ofNum 3 g).2]) ∧ Below w.heap.size w w' := Of_num (iV g) 3 g w (asked_inhibit g)
theorem Of_admit (g : Int) (w : World) : Calls Try.prog 13 #[aV g] w fun e w' => e = .returned (.tuple #[cv (ofNum 4 g).1, .int .i64 (ofNum 4 g).2]) ∧ Below w.heap.size w w' := Of_num (aV g) 4 g w (asked_admit g)
theorem Of_other (u : TypeId) (v : Value) (w : World) (h0 : u ≠ 35) (h1 : u ≠ 37) (h2 : u ≠ 39) (h3 : u ≠ 40) :
    Calls Try.prog 13 #[.iface u v] w fun e w' => e = .returned (.tuple #[cv0, .int .i64 1]) ∧ Below w.heap.size w w' := Of_num (.iface u v) 0 0 w (fun w => asked_other u v w h0 h1 h2 h3)
theorem Of_nil (w : World) : Calls Try.prog 13 #[.nilIface] w fun e w' => e = .returned (.tuple #[cv0, .int .i64 1]) ∧ Below w.heap.size w w' := Of_num .nilIface 0 0 w asked_nil

set_option maxRecDepth 100000 in
theorem As_no (c : Cm) (w : World) (h : rightC c = false) : Calls Try.prog 15 #[cv c] w fun e w' => e = .returned (.tuple #[.nilIface, .int .i64 1]) ∧ Below w.heap.size w w' := by
  have HR := Lib.hid fun w => Right_any c w
  rw [h] at HR
  obtain ⟨k, a⟩ := c
  simp only [cv] at HR ⊢
  have B1 := Lib.hid (below1 w (.cells #[.int .i64 k, .int .i64 a] 23))
  go_enter Try.func15, Try.ntmps15
  go_wp2_with fail
  refine (HR.out _).mono ?_; rintro e w1 ⟨rfl, hb1⟩
  have HB := Lib.hid (belowT B1.out hb1)
  clear hb1 B1
  go_wp2
  go_ret2
  exact ⟨rfl, HB.out⟩

set_option maxRecDepth 100000 in
theorem as_core (k a : Int) (r : Value) (w : World) (hr : k = 1 ∧ r = gV (a == 1) ∨ k = 2 ∧ r = rV ∨ k = 3 ∧ r = iV a ∨ k = 4 ∧ r = aV a)
    (HR : Hid (∀ w, Calls Try.prog 11 #[.agg #[.int .i64 k, .int .i64 a]] w fun e w' => e = .returned (.bool true) ∧ Below w.heap.size w w')) :
    Calls Try.prog 15 #[.agg #[.int .i64 k, .int .i64 a]] w fun e w' => e = .returned (.tuple #[r, .int .i64 0]) ∧ Below w.heap.size w w' := by
  have B1 := Lib.hid (below1 w (.cells #[.int .i64 k, .int .i64 a] 23))
  have H1 := Lib.hid (hasl w [.int .i64 k, .int .i64 a] 23)
  rcases hr with ⟨rfl, rfl⟩ | ⟨rfl, rfl⟩ | ⟨rfl, rfl⟩ | ⟨rfl, rfl⟩
  all_goals
    go_enter Try.func15, Try.ntmps15
    go_wp2_with fail
    refine (HR.out _).mono ?_; rintro e w1 ⟨rfl, hb1⟩
    have HB := Lib.hid (belowT B1.out hb1)
    have H2 := H1.out.keep hb1
    have q0 := H2.at 0 rfl
    have q1 := H2.at 1 rfl
    clear hb1 B1 H1 H2 HR
    go_wp2
    go_ret2
    exact ⟨rfl, HB.out⟩

/-- the value of a right command -/
def asV (c : Cm) : Value := if c.kind = 1 then gV (c.arg == 1) else if c.kind = 2 then rV else if c.kind = 3 then iV c.arg else aV c.arg
theorem As_ok (c : Cm) (w : World) (h : rightC c = true) : Calls Try.prog 15 #[cv c] w fun e w' => e = .returned (.tuple #[asV c, .int .i64 0]) ∧ Below w.heap.size w w' := by
  have HR := Lib.hid fun w => Right_any c w
  rw [h] at HR
  have hc := (rightC_iff c).1 h
  refine as_core c.kind c.arg (asV c) w ?_ HR
  unfold asV
  rcases hc with ⟨h1, _⟩ | ⟨h1, _⟩ | ⟨h1 | h1, _⟩
  · exact .inl ⟨h1, by rw [if_pos h1]⟩
  · exact .inr (.inl ⟨h1, by rw [if_neg (by omega), if_pos h1]⟩)
  · exact .inr (.inr (.inl ⟨h1, by rw [if_neg (by omega), if_neg (by omega), if_pos h1]⟩))
  · exact .inr (.inr (.inr ⟨h1, by rw [if_neg (by omega), if_neg (by omega), if_neg (by omega)]⟩))
end Lan34
end Go.Proofs.Ytmacbcbomdnppaa
