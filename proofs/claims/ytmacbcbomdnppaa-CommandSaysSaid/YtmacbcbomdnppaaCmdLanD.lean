/- The landed asked (a type switch), Of, As. -/
import Derived.Test.YtmacbcbomdnppaaCmdLanA
import Derived.Test.YtmacbcbomdnppaaSp
import Derived.KernelRfl
namespace Go.Proofs.Ytmacbcbomdnppaa
open Go.RowKit

/-- the four kinds of values that are commands -/
def gV (b : Bool) : Value := .iface 35 (.agg #[.bool b])
def rV : Value := .iface 37 (.agg #[])
def iV (g : Int) : Value := .iface 39 (.agg #[.int .i64 g])
def aV (g : Int) : Value := .iface 40 (.agg #[.int .i64 g])
theorem zeroG (w : World) : (do pure (Value.tuple #[← zeroValue 35, .bool false]) : Sem Value).run Try.prog w = .ok (.tuple #[.agg #[.bool false], .bool false]) w := by kernel_rfl
theorem zeroR (w : World) : (do pure (Value.tuple #[← zeroValue 37, .bool false]) : Sem Value).run Try.prog w = .ok (.tuple #[.agg #[], .bool false]) w := by kernel_rfl
theorem zeroI (w : World) : (do pure (Value.tuple #[← zeroValue 39, .bool false]) : Sem Value).run Try.prog w = .ok (.tuple #[.agg #[.int .i64 0], .bool false]) w := by kernel_rfl
theorem zeroA (w : World) : (do pure (Value.tuple #[← zeroValue 40, .bool false]) : Sem Value).run Try.prog w = .ok (.tuple #[.agg #[.int .i64 0], .bool false]) w := by kernel_rfl
theorem asG_no (u : TypeId) (v : Value) (xT : TypeId) (w : World) (h : u ≠ 35) : (Instr.typeAssert (.iface u v) xT 35 true).run Try.prog w = .ok (.tuple #[.agg #[.bool false], .bool false]) w := by
  have e : (Instr.typeAssert (.iface u v) xT 35 true).run Try.prog w = (if u = 35 then (pure (Value.tuple #[v, .bool true]) : Sem Value) else (do pure (Value.tuple #[← zeroValue 35, .bool false]))).run Try.prog w := by kernel_rfl
  rw [e, if_neg h]
  exact zeroG w
theorem asR_no (u : TypeId) (v : Value) (xT : TypeId) (w : World) (h : u ≠ 37) : (Instr.typeAssert (.iface u v) xT 37 true).run Try.prog w = .ok (.tuple #[.agg #[], .bool false]) w := by
  have e : (Instr.typeAssert (.iface u v) xT 37 true).run Try.prog w = (if u = 37 then (pure (Value.tuple #[v, .bool true]) : Sem Value) else (do pure (Value.tuple #[← zeroValue 37, .bool false]))).run Try.prog w := by kernel_rfl
  rw [e, if_neg h]
  exact zeroR w
theorem asI_no (u : TypeId) (v : Value) (xT : TypeId) (w : World) (h : u ≠ 39) : (Instr.typeAssert (.iface u v) xT 39 true).run Try.prog w = .ok (.tuple #[.agg #[.int .i64 0], .bool false]) w := by
  have e : (Instr.typeAssert (.iface u v) xT 39 true).run Try.prog w = (if u = 39 then (pure (Value.tuple #[v, .bool true]) : Sem Value) else (do pure (Value.tuple #[← zeroValue 39, .bool false]))).run Try.prog w := by kernel_rfl
  rw [e, if_neg h]
  exact zeroI w
theorem asA_no (u : TypeId) (v : Value) (xT : TypeId) (w : World) (h : u ≠ 40) : (Instr.typeAssert (.iface u v) xT 40 true).run Try.prog w = .ok (.tuple #[.agg #[.int .i64 0], .bool false]) w := by
  have e : (Instr.typeAssert (.iface u v) xT 40 true).run Try.prog w = (if u = 40 then (pure (Value.tuple #[v, .bool true]) : Sem Value) else (do pure (Value.tuple #[← zeroValue 40, .bool false]))).run Try.prog w := by kernel_rfl
  rw [e, if_neg h]
  exact zeroA w
theorem asG_yes (v : Value) (xT : TypeId) (w : World) : (Instr.typeAssert (.iface 35 v) xT 35 true).run Try.prog w = .ok (.tuple #[v, .bool true]) w := by kernel_rfl
theorem asR_yes (v : Value) (xT : TypeId) (w : World) : (Instr.typeAssert (.iface 37 v) xT 37 true).run Try.prog w = .ok (.tuple #[v, .bool true]) w := by kernel_rfl
theorem asI_yes (v : Value) (xT : TypeId) (w : World) : (Instr.typeAssert (.iface 39 v) xT 39 true).run Try.prog w = .ok (.tuple #[v, .bool true]) w := by kernel_rfl
theorem asA_yes (v : Value) (xT : TypeId) (w : World) : (Instr.typeAssert (.iface 40 v) xT 40 true).run Try.prog w = .ok (.tuple #[v, .bool true]) w := by kernel_rfl
theorem asG_nil (xT : TypeId) (w : World) : (Instr.typeAssert .nilIface xT 35 true).run Try.prog w = .ok (.tuple #[.agg #[.bool false], .bool false]) w := by kernel_rfl
theorem asR_nil (xT : TypeId) (w : World) : (Instr.typeAssert .nilIface xT 37 true).run Try.prog w = .ok (.tuple #[.agg #[], .bool false]) w := by kernel_rfl
theorem asI_nil (xT : TypeId) (w : World) : (Instr.typeAssert .nilIface xT 39 true).run Try.prog w = .ok (.tuple #[.agg #[.int .i64 0], .bool false]) w := by kernel_rfl
theorem asA_nil (xT : TypeId) (w : World) : (Instr.typeAssert .nilIface xT 40 true).run Try.prog w = .ok (.tuple #[.agg #[.int .i64 0], .bool false]) w := by kernel_rfl

/-- a Bool as a number -/
def b01 (b : Bool) : Int := if b then 1 else 0

namespace Lan34
theorem ground_any (b : Bool) (w : World) : Calls Try.prog 25 #[.bool b] w fun e w' => e = .returned (.int .i64 (b01 b)) ∧ w = w' := by
  cases b
  · go_enter Try.func25, Try.ntmps25
    go_wp2
    go_ret
    exact ⟨rfl, rfl⟩
  · go_enter Try.func25, Try.ntmps25
    go_wp2
    go_ret
    exact ⟨rfl, rfl⟩

theorem asked_ground (b : Bool) (w : World) : Calls Try.prog 22 #[gV b] w fun e w' => e = .returned (cv ⟨1, b01 b⟩) ∧ Below w.heap.size w w' := by
  have HG := Lib.hid fun w => ground_any b w
  have t1 := asG_yes (.agg #[.bool b])
  generalize b01 b = n at *
  simp only [gV, cv]
  go_enter Try.func22, Try.ntmps22
  go_wp2_with fail
  refine (HG.out _).mono ?_; rintro e w1 ⟨rfl, rfl⟩
  clear HG t1
  go_wp2
  exact bodyPost_ret (v := .agg #[.int .i64 1, .int .i64 n]) (by simp [results, Try.results22, go_sem]) rfl ⟨rfl, belowT (below1 w _) (below1 _ _)⟩

theorem asked_reset (w : World) : Calls Try.prog 22 #[rV] w fun e w' => e = .returned (cv ⟨2, 0⟩) ∧ Below w.heap.size w w' := by
  have t0 := fun xT w => asG_no 37 (.agg #[]) xT w (by decide)
  have t1 := asR_yes (.agg #[])
  simp only [rV, cv]
  go_enter Try.func22, Try.ntmps22
  go_wp2
  exact bodyPost_ret (v := .agg #[.int .i64 2, .int .i64 0]) (by simp [results, Try.results22, go_sem]) rfl ⟨rfl, belowT (below1 w _) (below1 _ _)⟩

theorem asked_inhibit (g : Int) (w : World) : Calls Try.prog 22 #[iV g] w fun e w' => e = .returned (cv ⟨3, g⟩) ∧ Below w.heap.size w w' := by
  have t0 := fun xT w => asG_no 39 (.agg #[.int .i64 g]) xT w (by decide)
  have t1 := fun xT w => asR_no 39 (.agg #[.int .i64 g]) xT w (by decide)
  have t2 := asI_yes (.agg #[.int .i64 g])
  simp only [iV, cv]
  go_enter Try.func22, Try.ntmps22
  go_wp2
  exact bodyPost_ret (v := .agg #[.int .i64 3, .int .i64 g]) (by simp [results, Try.results22, go_sem]) rfl ⟨rfl, belowT (below1 w _) (below1 _ _)⟩

theorem asked_admit (g : Int) (w : World) : Calls Try.prog 22 #[aV g] w fun e w' => e = .returned (cv ⟨4, g⟩) ∧ Below w.heap.size w w' := by
  have t0 := fun xT w => asG_no 40 (.agg #[.int .i64 g]) xT w (by decide)
  have t1 := fun xT w => asR_no 40 (.agg #[.int .i64 g]) xT w (by decide)
  have t2 := fun xT w => asI_no 40 (.agg #[.int .i64 g]) xT w (by decide)
  have t3 := asA_yes (.agg #[.int .i64 g])
  simp only [aV, cv]
  go_enter Try.func22, Try.ntmps22
  go_wp2
  exact bodyPost_ret (v := .agg #[.int .i64 4, .int .i64 g]) (by simp [results, Try.results22, go_sem]) rfl ⟨rfl, belowT (below1 w _) (below1 _ _)⟩

theorem asked_other (u : TypeId) (v : Value) (w : World) (h0 : u ≠ 35) (h1 : u ≠ 37) (h2 : u ≠ 39) (h3 : u ≠ 40) : Calls Try.prog 22 #[.iface u v] w fun e w' => e = .returned cv0 ∧ Below w.heap.size w w' := by
  have t0 := fun xT w => asG_no u v xT w h0
  have t1 := fun xT w => asR_no u v xT w h1
  have t2 := fun xT w => asI_no u v xT w h2
  have t3 := fun xT w => asA_no u v xT w h3
  clear h0 h1 h2 h3
  simp only [cv0]
  go_enter Try.func22, Try.ntmps22
  go_wp2
  exact bodyPost_ret (v := .agg #[.int .i64 0, .int .i64 0]) (by simp [results, Try.results22, go_sem]) rfl ⟨rfl, below1 w _⟩

theorem asked_nil (w : World) : Calls Try.prog 22 #[.nilIface] w fun e w' => e = .returned cv0 ∧ Below w.heap.size w w' := by
  have t0 := asG_nil
  have t1 := asR_nil
  have t2 := asI_nil
  have t3 := asA_nil
  simp only [cv0]
  go_enter Try.func22, Try.ntmps22
  go_wp2
  exact bodyPost_ret (v := .agg #[.int .i64 0, .int .i64 0]) (by simp [results, Try.results22, go_sem]) rfl ⟨rfl, below1 w _⟩
end Lan34
end Go.Proofs.Ytmacbcbomdnppaa
