/- MatKernel: the law's walk. -/
import Derived.Test.YtjdpcmcekockgaaMatAwake
import Derived.Test.YtjdpcmcekockgaaMatMathB
import Derived.BigRegion
namespace Go.Proofs.Ytjdpcmcekockgaa
open Go.RowKit
/-- the matrix' block, whole, and with rows that are being written -/
def oneB (w : World) (m : M3) : List (Nat × List (Option Value)) := [(w.heap.size, (ml m).map some)]
def twoB (w : World) (m : M3) (n : Nat) : List (Nat × List (Option Value)) := [(w.heap.size, ((ml m).take n).map some ++ List.replicate (9 - n) none)]
theorem one_apart (b : Nat) (l : List (Option Value)) : Apart [(b, l)] := List.pairwise_singleton _ _
theorem rem1000 (x : BitVec 64) : ∃ y : BitVec 64, x.toInt.tmod 1000 = y.toInt := ⟨x.srem 1000, by rw [BitVec.toInt_srem]; rfl⟩
theorem rem4 (n : Int) : ∃ N : Nat, N < 4 ∧ (IntKind.u64.wrap n).tmod 4 = (N : Int) := by
  have h : 0 ≤ IntKind.u64.wrap n := by rw [IntKind.wrap_u64]; omega
  refine ⟨((IntKind.u64.wrap n) % 4).toNat, by omega, ?_⟩
  rw [Int.tmod_eq_emod_of_nonneg h]
  omega
theorem wrapV (y : BitVec 64) : IntKind.i64.wrap y.toInt = y.toInt := by
  have := v_rng y
  rw [IntKind.wrap_i64]; omega
theorem two_of (w w1 : World) (m : M3) (n : Nat) (h : St w (oneB w m) w1) (hn : n = 3 ∨ n = 6) : St w (twoB w m n) w1 := by
  refine h.le fun p hp => ?_
  unfold twoB at hp
  rw [List.mem_singleton] at hp
  subst hp
  refine ⟨(ml m).map some, List.mem_singleton.2 rfl, fun j x hj => ?_⟩
  rcases hn with rfl | rfl
  · rcases j with _ | _ | _ | _ | _ | _ | _ | _ | _ | j <;> simp [ml] at hj ⊢
    all_goals (subst hj; simp)
  · rcases j with _ | _ | _ | _ | _ | _ | _ | _ | _ | j <;> simp [ml] at hj ⊢
    all_goals (subst hj; simp)
/-- The operations of a drawn region, as the translation has them. -/
def mker12 : Array Oper := #[
  { dst := some 32, op := .indexAddr 25 (.tmp 3) (.const (.int .i64 0)), type := 0, pos := "law.go:67", after := #[], guard := none },
  { dst := some 33, op := .load 23 (.tmp 32), type := 23, pos := "law.go:67", after := #[{ on := 0, ground := .data }], guard := none },
  { dst := some 34, op := .indexAddr 25 (.tmp 3) (.const (.int .i64 1)), type := 0, pos := "law.go:67", after := #[], guard := none },
  { dst := some 35, op := .load 23 (.tmp 34), type := 23, pos := "law.go:67", after := #[{ on := 2, ground := .data }], guard := none },
  { dst := some 36, op := .move (.tmp 1), type := 2, pos := "law.go:67", after := #[], guard := none },
  { dst := some 37, op := .binOp .rem 2 (.tmp 36) (.const (.int .i64 1000)) 2, type := 2, pos := "law.go:67", after := #[{ on := 4, ground := .data }], guard := none },
  { dst := some 38, op := .call { callee := .value (.func 16), args := #[.tmp 35, .tmp 37], argTypes := #[23, 2] }, type := 23, pos := "law.go:67", after := #[{ on := 3, ground := .data }, { on := 5, ground := .data }], guard := none },
  { dst := some 39, op := .call { callee := .value (.func 20), args := #[.tmp 33, .tmp 38], argTypes := #[23, 23] }, type := 23, pos := "law.go:67", after := #[{ on := 1, ground := .data }, { on := 6, ground := .data }, { on := 6, ground := .chain }], guard := none },
  { dst := some 40, op := .indexAddr 25 (.tmp 3) (.const (.int .i64 2)), type := 0, pos := "law.go:67", after := #[{ on := 0, ground := .phase }, { on := 1, ground := .phase }, { on := 2, ground := .phase }, { on := 3, ground := .phase }, { on := 4, ground := .phase }, { on := 5, ground := .phase }, { on := 6, ground := .phase }, { on := 7, ground := .phase }], guard := none },
  { dst := none, op := .store 23 (.tmp 40) (.tmp 39), type := 0, pos := "law.go:67", after := #[{ on := 8, ground := .data }, { on := 7, ground := .data }, { on := 7, ground := .chain }, { on := 0, ground := .phase }, { on := 1, ground := .phase }, { on := 2, ground := .phase }, { on := 3, ground := .phase }, { on := 4, ground := .phase }, { on := 5, ground := .phase }, { on := 6, ground := .phase }, { on := 7, ground := .phase }], guard := none }]
theorem mker12_plain : Region.noSelect mker12 = true := by kernel_rfl

/-- The operations of a drawn region, as the translation has them. -/
def mker14 : Array Oper := #[
  { dst := some 43, op := .indexAddr 25 (.tmp 3) (.const (.int .i64 0)), type := 0, pos := "law.go:69", after := #[], guard := none },
  { dst := some 44, op := .load 23 (.tmp 43), type := 23, pos := "law.go:69", after := #[{ on := 0, ground := .data }], guard := none },
  { dst := some 45, op := .move (.tmp 1), type := 2, pos := "law.go:69", after := #[], guard := none },
  { dst := some 46, op := .binOp .rem 2 (.tmp 45) (.const (.int .i64 1000)) 2, type := 2, pos := "law.go:69", after := #[{ on := 2, ground := .data }], guard := none },
  { dst := some 47, op := .call { callee := .value (.func 16), args := #[.tmp 44, .tmp 46], argTypes := #[23, 2] }, type := 23, pos := "law.go:69", after := #[{ on := 1, ground := .data }, { on := 3, ground := .data }], guard := none },
  { dst := some 48, op := .indexAddr 25 (.tmp 3) (.const (.int .i64 0)), type := 0, pos := "law.go:69", after := #[], guard := none },
  { dst := some 49, op := .load 23 (.tmp 48), type := 23, pos := "law.go:69", after := #[{ on := 5, ground := .data }], guard := none },
  { dst := some 50, op := .call { callee := .value (.func 16), args := #[.tmp 49, .const (.int .i64 2)], argTypes := #[23, 2] }, type := 23, pos := "law.go:69", after := #[{ on := 6, ground := .data }, { on := 4, ground := .chain }], guard := none },
  { dst := some 51, op := .indexAddr 25 (.tmp 3) (.const (.int .i64 1)), type := 0, pos := "law.go:69", after := #[{ on := 0, ground := .phase }, { on := 1, ground := .phase }, { on := 2, ground := .phase }, { on := 3, ground := .phase }, { on := 4, ground := .phase }, { on := 5, ground := .phase }, { on := 6, ground := .phase }, { on := 7, ground := .textOnly Go.Departure.lateStoresUnsure }], guard := none },
  { dst := none, op := .store 23 (.tmp 51) (.tmp 47), type := 0, pos := "law.go:69", after := #[{ on := 8, ground := .data }, { on := 4, ground := .data }, { on := 7, ground := .chain }, { on := 0, ground := .phase }, { on := 1, ground := .phase }, { on := 2, ground := .phase }, { on := 3, ground := .phase }, { on := 4, ground := .phase }, { on := 5, ground := .phase }, { on := 6, ground := .phase }, { on := 7, ground := .textOnly Go.Departure.lateStoresUnsure }], guard := none },
  { dst := some 52, op := .indexAddr 25 (.tmp 3) (.const (.int .i64 2)), type := 0, pos := "law.go:69", after := #[{ on := 0, ground := .phase }, { on := 1, ground := .phase }, { on := 2, ground := .phase }, { on := 3, ground := .phase }, { on := 4, ground := .phase }, { on := 5, ground := .phase }, { on := 6, ground := .phase }, { on := 7, ground := .phase }, { on := 8, ground := .phase }, { on := 9, ground := .phase }], guard := none },
  { dst := none, op := .store 23 (.tmp 52) (.tmp 50), type := 0, pos := "law.go:69", after := #[{ on := 10, ground := .data }, { on := 7, ground := .data }, { on := 9, ground := .chain }, { on := 0, ground := .phase }, { on := 1, ground := .phase }, { on := 2, ground := .phase }, { on := 3, ground := .phase }, { on := 4, ground := .phase }, { on := 5, ground := .phase }, { on := 6, ground := .phase }, { on := 7, ground := .phase }, { on := 8, ground := .phase }, { on := 9, ground := .phase }], guard := none }]
theorem mker14_plain : Region.noSelect mker14 = true := by kernel_rfl

set_option maxHeartbeats 16000000 in
set_option maxRecDepth 100000 in
theorem Kernel8_all (a0 : M3) (k : BitVec 64) (which : Int) (w : World) :
    Calls Try.prog 5 #[mv a0, .int .i64 k.toInt, .int .i64 which] w fun e w' => e = .returned (.bool true) ∧ Below w.heap.size w w' := by
  have AW := Lib.hid Aw8.awake_any
  have ES := vec_same
  obtain ⟨N, hN, eN⟩ := rem4 which
  obtain ⟨kk, ek⟩ := rem1000 k
  have ekw := wrapV kk
  have i0 : St w (oneB w a0) (w.alloc (.cells (ml a0).toArray 25)) := (St.none w).more (ml a0) 25
  have I0 := Lib.hid i0
  clear i0
  go_enter Try.func5, Try.ntmps5
  go_wp2_with fail
  go_loopw [11] (fun iv wr => ∃ i : Nat, i ≤ 3 ∧ iv = .int .i64 i ∧ ∃ m, St w (oneB w m) wr) (fun iv _ => 3 - (intOf iv).toNat)
  case atStart => exact ⟨0, by omega, rfl, a0, I0.out⟩
  case round =>
    clear I0
    obtain ⟨i, hi, rfl, m, hS⟩ := hrel
    rcases (show i = 0 ∨ i = 1 ∨ i = 2 ∨ i = 3 by omega) with rfl | rfl | rfl | rfl
    · have HS := Lib.hid hS
      clear hS
      go_wp2_with fail
      go_loopw [14] (fun jv wr => ∃ j : Nat, j ≤ 3 ∧ jv = .int .i64 j ∧ ∃ m, St w (oneB w m) wr) (fun jv _ => 3 - (intOf jv).toNat)
      case atStart => exact ⟨0, by omega, rfl, m, HS.out⟩
      case round =>
        clear HS
        obtain ⟨j, hj, rfl, m, hS⟩ := hrel
        rcases (show j = 0 ∨ j = 1 ∨ j = 2 ∨ j = 3 by omega) with rfl | rfl | rfl | rfl
        · have l0 := hS.at 0 rfl 0 (v := .int .i64 m.a.x.toInt) rfl
          have f0 : wr.frozen? ⟨w.heap.size, 0, none⟩ = false := by obtain ⟨_, _, h⟩ := hS.there 0 rfl 0 rfl; exact h
          obtain ⟨y, ey⟩ := rem1000 m.a.x
          have eyw := wrapV y
          have nx : St w (oneB w ⟨⟨y, m.a.y, m.a.z⟩, ⟨m.b.x, m.b.y, m.b.z⟩, ⟨m.c.x, m.c.y, m.c.z⟩⟩) ((wr.drew).setCell ⟨w.heap.size, 0, none⟩ (.int .i64 y.toInt)) := hS.drew.put (one_apart _ _) 0 rfl (Nat.le_refl _) 0 _
          have NX := Lib.hid nx
          clear hS nx
          generalize m.a.x.toInt = v0 at *
          go_upto_region 7 with fail
          go_region
          go_wp2_with fail
          go_roundw
          case rel => exact ⟨1, by omega, rfl, _, NX.out⟩
          case measure => simp [intOf]
        · have l0 := hS.at 0 rfl 1 (v := .int .i64 m.a.y.toInt) rfl
          have f0 : wr.frozen? ⟨w.heap.size, 1, none⟩ = false := by obtain ⟨_, _, h⟩ := hS.there 0 rfl 1 rfl; exact h
          obtain ⟨y, ey⟩ := rem1000 m.a.y
          have eyw := wrapV y
          have nx : St w (oneB w ⟨⟨m.a.x, y, m.a.z⟩, ⟨m.b.x, m.b.y, m.b.z⟩, ⟨m.c.x, m.c.y, m.c.z⟩⟩) ((wr.drew).setCell ⟨w.heap.size, 1, none⟩ (.int .i64 y.toInt)) := hS.drew.put (one_apart _ _) 0 rfl (Nat.le_refl _) 1 _
          have NX := Lib.hid nx
          clear hS nx
          generalize m.a.y.toInt = v0 at *
          go_upto_region 7 with fail
          go_region
          go_wp2_with fail
          go_roundw
          case rel => exact ⟨2, by omega, rfl, _, NX.out⟩
          case measure => simp [intOf]
        · have l0 := hS.at 0 rfl 2 (v := .int .i64 m.a.z.toInt) rfl
          have f0 : wr.frozen? ⟨w.heap.size, 2, none⟩ = false := by obtain ⟨_, _, h⟩ := hS.there 0 rfl 2 rfl; exact h
          obtain ⟨y, ey⟩ := rem1000 m.a.z
          have eyw := wrapV y
          have nx : St w (oneB w ⟨⟨m.a.x, m.a.y, y⟩, ⟨m.b.x, m.b.y, m.b.z⟩, ⟨m.c.x, m.c.y, m.c.z⟩⟩) ((wr.drew).setCell ⟨w.heap.size, 2, none⟩ (.int .i64 y.toInt)) := hS.drew.put (one_apart _ _) 0 rfl (Nat.le_refl _) 2 _
          have NX := Lib.hid nx
          clear hS nx
          generalize m.a.z.toInt = v0 at *
          go_upto_region 7 with fail
          go_region
          go_wp2_with fail
          go_roundw
          case rel => exact ⟨3, by omega, rfl, _, NX.out⟩
          case measure => simp [intOf]
        · have HS := Lib.hid hS
          clear hS
          go_wp2_with fail
          go_roundw
          case rel => exact ⟨1, by omega, rfl, m, HS.out⟩
          case measure => simp [intOf]
    · have HS := Lib.hid hS
      clear hS
      go_wp2_with fail
      go_loopw [14] (fun jv wr => ∃ j : Nat, j ≤ 3 ∧ jv = .int .i64 j ∧ ∃ m, St w (oneB w m) wr) (fun jv _ => 3 - (intOf jv).toNat)
      case atStart => exact ⟨0, by omega, rfl, m, HS.out⟩
      case round =>
        clear HS
        obtain ⟨j, hj, rfl, m, hS⟩ := hrel
        rcases (show j = 0 ∨ j = 1 ∨ j = 2 ∨ j = 3 by omega) with rfl | rfl | rfl | rfl
        · have l0 := hS.at 0 rfl 3 (v := .int .i64 m.b.x.toInt) rfl
          have f0 : wr.frozen? ⟨w.heap.size, 3, none⟩ = false := by obtain ⟨_, _, h⟩ := hS.there 0 rfl 3 rfl; exact h
          obtain ⟨y, ey⟩ := rem1000 m.b.x
          have eyw := wrapV y
          have nx : St w (oneB w ⟨⟨m.a.x, m.a.y, m.a.z⟩, ⟨y, m.b.y, m.b.z⟩, ⟨m.c.x, m.c.y, m.c.z⟩⟩) ((wr.drew).setCell ⟨w.heap.size, 3, none⟩ (.int .i64 y.toInt)) := hS.drew.put (one_apart _ _) 0 rfl (Nat.le_refl _) 3 _
          have NX := Lib.hid nx
          clear hS nx
          generalize m.b.x.toInt = v0 at *
          go_upto_region 7 with fail
          go_region
          go_wp2_with fail
          go_roundw
          case rel => exact ⟨1, by omega, rfl, _, NX.out⟩
          case measure => simp [intOf]
        · have l0 := hS.at 0 rfl 4 (v := .int .i64 m.b.y.toInt) rfl
          have f0 : wr.frozen? ⟨w.heap.size, 4, none⟩ = false := by obtain ⟨_, _, h⟩ := hS.there 0 rfl 4 rfl; exact h
          obtain ⟨y, ey⟩ := rem1000 m.b.y
          have eyw := wrapV y
          have nx : St w (oneB w ⟨⟨m.a.x, m.a.y, m.a.z⟩, ⟨m.b.x, y, m.b.z⟩, ⟨m.c.x, m.c.y, m.c.z⟩⟩) ((wr.drew).setCell ⟨w.heap.size, 4, none⟩ (.int .i64 y.toInt)) := hS.drew.put (one_apart _ _) 0 rfl (Nat.le_refl _) 4 _
          have NX := Lib.hid nx
          clear hS nx
          generalize m.b.y.toInt = v0 at *
          go_upto_region 7 with fail
          go_region
          go_wp2_with fail
          go_roundw
          case rel => exact ⟨2, by omega, rfl, _, NX.out⟩
          case measure => simp [intOf]
        · have l0 := hS.at 0 rfl 5 (v := .int .i64 m.b.z.toInt) rfl
          have f0 : wr.frozen? ⟨w.heap.size, 5, none⟩ = false := by obtain ⟨_, _, h⟩ := hS.there 0 rfl 5 rfl; exact h
          obtain ⟨y, ey⟩ := rem1000 m.b.z
          have eyw := wrapV y
          have nx : St w (oneB w ⟨⟨m.a.x, m.a.y, m.a.z⟩, ⟨m.b.x, m.b.y, y⟩, ⟨m.c.x, m.c.y, m.c.z⟩⟩) ((wr.drew).setCell ⟨w.heap.size, 5, none⟩ (.int .i64 y.toInt)) := hS.drew.put (one_apart _ _) 0 rfl (Nat.le_refl _) 5 _
          have NX := Lib.hid nx
          clear hS nx
          generalize m.b.z.toInt = v0 at *
          go_upto_region 7 with fail
          go_region
          go_wp2_with fail
          go_roundw
          case rel => exact ⟨3, by omega, rfl, _, NX.out⟩
          case measure => simp [intOf]
        · have HS := Lib.hid hS
          clear hS
          go_wp2_with fail
          go_roundw
          case rel => exact ⟨2, by omega, rfl, m, HS.out⟩
          case measure => simp [intOf]
    · have HS := Lib.hid hS
      clear hS
      go_wp2_with fail
      go_loopw [14] (fun jv wr => ∃ j : Nat, j ≤ 3 ∧ jv = .int .i64 j ∧ ∃ m, St w (oneB w m) wr) (fun jv _ => 3 - (intOf jv).toNat)
      case atStart => exact ⟨0, by omega, rfl, m, HS.out⟩
      case round =>
        clear HS
        obtain ⟨j, hj, rfl, m, hS⟩ := hrel
        rcases (show j = 0 ∨ j = 1 ∨ j = 2 ∨ j = 3 by omega) with rfl | rfl | rfl | rfl
        · have l0 := hS.at 0 rfl 6 (v := .int .i64 m.c.x.toInt) rfl
          have f0 : wr.frozen? ⟨w.heap.size, 6, none⟩ = false := by obtain ⟨_, _, h⟩ := hS.there 0 rfl 6 rfl; exact h
          obtain ⟨y, ey⟩ := rem1000 m.c.x
          have eyw := wrapV y
          have nx : St w (oneB w ⟨⟨m.a.x, m.a.y, m.a.z⟩, ⟨m.b.x, m.b.y, m.b.z⟩, ⟨y, m.c.y, m.c.z⟩⟩) ((wr.drew).setCell ⟨w.heap.size, 6, none⟩ (.int .i64 y.toInt)) := hS.drew.put (one_apart _ _) 0 rfl (Nat.le_refl _) 6 _
          have NX := Lib.hid nx
          clear hS nx
          generalize m.c.x.toInt = v0 at *
          go_upto_region 7 with fail
          go_region
          go_wp2_with fail
          go_roundw
          case rel => exact ⟨1, by omega, rfl, _, NX.out⟩
          case measure => simp [intOf]
        · have l0 := hS.at 0 rfl 7 (v := .int .i64 m.c.y.toInt) rfl
          have f0 : wr.frozen? ⟨w.heap.size, 7, none⟩ = false := by obtain ⟨_, _, h⟩ := hS.there 0 rfl 7 rfl; exact h
          obtain ⟨y, ey⟩ := rem1000 m.c.y
          have eyw := wrapV y
          have nx : St w (oneB w ⟨⟨m.a.x, m.a.y, m.a.z⟩, ⟨m.b.x, m.b.y, m.b.z⟩, ⟨m.c.x, y, m.c.z⟩⟩) ((wr.drew).setCell ⟨w.heap.size, 7, none⟩ (.int .i64 y.toInt)) := hS.drew.put (one_apart _ _) 0 rfl (Nat.le_refl _) 7 _
          have NX := Lib.hid nx
          clear hS nx
          generalize m.c.y.toInt = v0 at *
          go_upto_region 7 with fail
          go_region
          go_wp2_with fail
          go_roundw
          case rel => exact ⟨2, by omega, rfl, _, NX.out⟩
          case measure => simp [intOf]
        · have l0 := hS.at 0 rfl 8 (v := .int .i64 m.c.z.toInt) rfl
          have f0 : wr.frozen? ⟨w.heap.size, 8, none⟩ = false := by obtain ⟨_, _, h⟩ := hS.there 0 rfl 8 rfl; exact h
          obtain ⟨y, ey⟩ := rem1000 m.c.z
          have eyw := wrapV y
          have nx : St w (oneB w ⟨⟨m.a.x, m.a.y, m.a.z⟩, ⟨m.b.x, m.b.y, m.b.z⟩, ⟨m.c.x, m.c.y, y⟩⟩) ((wr.drew).setCell ⟨w.heap.size, 8, none⟩ (.int .i64 y.toInt)) := hS.drew.put (one_apart _ _) 0 rfl (Nat.le_refl _) 8 _
          have NX := Lib.hid nx
          clear hS nx
          generalize m.c.z.toInt = v0 at *
          go_upto_region 7 with fail
          go_region
          go_wp2_with fail
          go_roundw
          case rel => exact ⟨3, by omega, rfl, _, NX.out⟩
          case measure => simp [intOf]
        · have HS := Lib.hid hS
          clear hS
          go_wp2_with fail
          go_roundw
          case rel => exact ⟨3, by omega, rfl, m, HS.out⟩
          case measure => simp [intOf]
    · have HS := Lib.hid hS
      clear hS
      go_upto_block 4 with fail
      go_cut [] from 30 to 56 (fun wx => ∃ m', St w (oneB w m') wx)
      case first =>
        rcases (show N = 0 ∨ N = 1 ∨ N = 2 ∨ N = 3 by omega) with rfl | rfl | rfl | rfl
        · clear hN
          have SC := Lib.hid fun w => Own7.Scale_any m.b kk w
          have AD := Lib.hid fun w => Own7.Add_any m.a (m.b.scale kk) w
          have hT := two_of w _ m 6 HS.out (Or.inr rfl)
          have nx : ∀ w', St w (twoB w m 6) w' → St w (oneB w ⟨m.a, m.b, m.a.add (m.b.scale kk)⟩) (((w'.setCell ⟨w.heap.size, 6, none⟩ (.int .i64 (m.a.add (m.b.scale kk)).x.toInt)).setCell ⟨w.heap.size, 7, none⟩ (.int .i64 (m.a.add (m.b.scale kk)).y.toInt)).setCell ⟨w.heap.size, 8, none⟩ (.int .i64 (m.a.add (m.b.scale kk)).z.toInt)) :=
            fun w' h => ((h.put (one_apart _ _) 0 rfl (Nat.le_refl _) 6 _).put (one_apart _ _) 0 rfl (Nat.le_refl _) 7 _).put (one_apart _ _) 0 rfl (Nat.le_refl _) 8 _
          generalize m.a.add (m.b.scale kk) = s at *
          generalize m.b.scale kk = t at *
          obtain ⟨bs, hbs⟩ : ∃ bs, bs = twoB w m 6 := ⟨_, rfl⟩
          rw [← hbs] at hT nx
          have m0 : ∀ w', St w bs w' → w'.cell? ⟨w.heap.size, 0, none⟩ = some (.int .i64 m.a.x.toInt) := by rw [hbs]; exact fun w' h => h.at 0 rfl 0 rfl
          have m1 : ∀ w', St w bs w' → w'.cell? ⟨w.heap.size, 1, none⟩ = some (.int .i64 m.a.y.toInt) := by rw [hbs]; exact fun w' h => h.at 0 rfl 1 rfl
          have m2 : ∀ w', St w bs w' → w'.cell? ⟨w.heap.size, 2, none⟩ = some (.int .i64 m.a.z.toInt) := by rw [hbs]; exact fun w' h => h.at 0 rfl 2 rfl
          have m3 : ∀ w', St w bs w' → w'.cell? ⟨w.heap.size, 3, none⟩ = some (.int .i64 m.b.x.toInt) := by rw [hbs]; exact fun w' h => h.at 0 rfl 3 rfl
          have m4 : ∀ w', St w bs w' → w'.cell? ⟨w.heap.size, 4, none⟩ = some (.int .i64 m.b.y.toInt) := by rw [hbs]; exact fun w' h => h.at 0 rfl 4 rfl
          have m5 : ∀ w', St w bs w' → w'.cell? ⟨w.heap.size, 5, none⟩ = some (.int .i64 m.b.z.toInt) := by rw [hbs]; exact fun w' h => h.at 0 rfl 5 rfl
          have o6 : ∀ w', St w bs w' → ∃ z, w'.cell? ⟨w.heap.size, 6, none⟩ = some z ∧ w'.frozen? ⟨w.heap.size, 6, none⟩ = false := by rw [hbs]; exact fun w' h => h.there 0 rfl 6 rfl
          have s6 : ∀ w' z, St w bs w' → St w bs (w'.setCell ⟨w.heap.size, 6, none⟩ z) := by rw [hbs]; exact fun w' z h => h.hit (one_apart _ _) 0 rfl (Nat.le_refl _) 6 rfl z
          have o7 : ∀ w', St w bs w' → ∃ z, w'.cell? ⟨w.heap.size, 7, none⟩ = some z ∧ w'.frozen? ⟨w.heap.size, 7, none⟩ = false := by rw [hbs]; exact fun w' h => h.there 0 rfl 7 rfl
          have s7 : ∀ w' z, St w bs w' → St w bs (w'.setCell ⟨w.heap.size, 7, none⟩ z) := by rw [hbs]; exact fun w' z h => h.hit (one_apart _ _) 0 rfl (Nat.le_refl _) 7 rfl z
          have o8 : ∀ w', St w bs w' → ∃ z, w'.cell? ⟨w.heap.size, 8, none⟩ = some z ∧ w'.frozen? ⟨w.heap.size, 8, none⟩ = false := by rw [hbs]; exact fun w' h => h.there 0 rfl 8 rfl
          have s8 : ∀ w' z, St w bs w' → St w bs (w'.setCell ⟨w.heap.size, 8, none⟩ z) := by rw [hbs]; exact fun w' z h => h.hit (one_apart _ _) 0 rfl (Nat.le_refl _) 8 rfl z
          have kS : ∀ w1 w2, St w bs w1 → Below w1.heap.size w1 w2 → St w bs w2 := fun _ _ h hb => h.keep hb
          clear hbs HS
          go_upto_region 12 with fail
          change (Code.region 12 mker12 true).wp Try.prog _ _ _
          refine wp_region_noPanic ?_
          refine wp_region_held_drew (S := (St w bs)) (by kernel_rfl) (hT.drew) (fun hHeld => ?_)
          refine wpAnyH_take (i := 0) (oi := ({ dst := some 32, op := .indexAddr 25 (.tmp 3) (.const (.int .i64 0)), type := 0, pos := "law.go:67", after := #[], guard := none } : Oper)) (v := ?vs9_0) rfl mker12_plain (by as_aux_lemma => kernel_rfl) (by as_aux_lemma => kernel_rfl) (fun _ _ _ h => h) (Or.inl ⟨by rfl, ?ys9_0⟩) (by assumption) ?rs9_0
          case ys9_0 => (intro w hSw; (try dsimp only at hSw); go_simp; try with_reducible rfl)
          try simp only [Act.put, List.setIfInBounds_toArray, List.set_cons_zero, List.set_cons_succ]
          refine wpAnyH_take (i := 1) (oi := ({ dst := some 33, op := .load 23 (.tmp 32), type := 23, pos := "law.go:67", after := #[{ on := 0, ground := .data }], guard := none } : Oper)) (v := ?vs9_1) rfl mker12_plain (by as_aux_lemma => kernel_rfl) (by as_aux_lemma => kernel_rfl) (fun _ _ _ h => h) (Or.inl ⟨by rfl, ?ys9_1⟩) (by assumption) ?rs9_1
          case ys9_1 => (intro w hSw; (try dsimp only at hSw); go_simp; try with_reducible rfl)
          try simp only [Act.put, List.setIfInBounds_toArray, List.set_cons_zero, List.set_cons_succ]
          refine wpAnyH_take (i := 2) (oi := ({ dst := some 34, op := .indexAddr 25 (.tmp 3) (.const (.int .i64 1)), type := 0, pos := "law.go:67", after := #[], guard := none } : Oper)) (v := ?vs9_2) rfl mker12_plain (by as_aux_lemma => kernel_rfl) (by as_aux_lemma => kernel_rfl) (fun _ _ _ h => h) (Or.inl ⟨by rfl, ?ys9_2⟩) (by assumption) ?rs9_2
          case ys9_2 => (intro w hSw; (try dsimp only at hSw); go_simp; try with_reducible rfl)
          try simp only [Act.put, List.setIfInBounds_toArray, List.set_cons_zero, List.set_cons_succ]
          refine wpAnyH_take (i := 3) (oi := ({ dst := some 35, op := .load 23 (.tmp 34), type := 23, pos := "law.go:67", after := #[{ on := 2, ground := .data }], guard := none } : Oper)) (v := ?vs9_3) rfl mker12_plain (by as_aux_lemma => kernel_rfl) (by as_aux_lemma => kernel_rfl) (fun _ _ _ h => h) (Or.inl ⟨by rfl, ?ys9_3⟩) (by assumption) ?rs9_3
          case ys9_3 => (intro w hSw; (try dsimp only at hSw); go_simp; try with_reducible rfl)
          try simp only [Act.put, List.setIfInBounds_toArray, List.set_cons_zero, List.set_cons_succ]
          refine wpAnyH_take (i := 4) (oi := ({ dst := some 36, op := .move (.tmp 1), type := 2, pos := "law.go:67", after := #[], guard := none } : Oper)) (v := ?vs9_4) rfl mker12_plain (by as_aux_lemma => kernel_rfl) (by as_aux_lemma => kernel_rfl) (fun _ _ _ h => h) (Or.inl ⟨by rfl, ?ys9_4⟩) (by assumption) ?rs9_4
          case ys9_4 => (intro w hSw; (try dsimp only at hSw); go_simp; try with_reducible rfl)
          try simp only [Act.put, List.setIfInBounds_toArray, List.set_cons_zero, List.set_cons_succ]
          refine wpAnyH_take (i := 5) (oi := ({ dst := some 37, op := .binOp .rem 2 (.tmp 36) (.const (.int .i64 1000)) 2, type := 2, pos := "law.go:67", after := #[{ on := 4, ground := .data }], guard := none } : Oper)) (v := ?vs9_5) rfl mker12_plain (by as_aux_lemma => kernel_rfl) (by as_aux_lemma => kernel_rfl) (fun _ _ _ h => h) (Or.inl ⟨by rfl, ?ys9_5⟩) (by assumption) ?rs9_5
          case ys9_5 => (intro w hSw; (try dsimp only at hSw); go_simp; try with_reducible rfl)
          try simp only [Act.put, List.setIfInBounds_toArray, List.set_cons_zero, List.set_cons_succ]
          refine wpAnyH_ready (rs := [6]) (by as_aux_lemma => kernel_rfl) (by simp) ?_
          refine AllReadyH.cons (o := ({ dst := some 38, op := .call { callee := .value (.func 16), args := #[.tmp 35, .tmp 37], argTypes := #[23, 2] }, type := 23, pos := "law.go:67", after := #[{ on := 3, ground := .data }, { on := 5, ground := .data }], guard := none } : Oper)) rfl (fun KK hK => ?_) AllReadyH.nil
          rw [if_pos (by rfl)]
          go_simp
          go_at_call 16; refine (SC.out _).mono ?_; rintro e w2 ⟨rfl, hb2⟩
          go_wp2_with fail
          refine hK.out _ _ ?_ (fun hHeld2 => ?_)
          · exact kS _ _ (by assumption) hb2
          clear hK KK hb2
          try simp only [Act.put, List.setIfInBounds_toArray, List.set_cons_zero, List.set_cons_succ]
          refine wpAnyH_ready (rs := [7]) (by as_aux_lemma => kernel_rfl) (by simp) ?_
          refine AllReadyH.cons (o := ({ dst := some 39, op := .call { callee := .value (.func 20), args := #[.tmp 33, .tmp 38], argTypes := #[23, 23] }, type := 23, pos := "law.go:67", after := #[{ on := 1, ground := .data }, { on := 6, ground := .data }, { on := 6, ground := .chain }], guard := none } : Oper)) rfl (fun KK hK => ?_) AllReadyH.nil
          rw [if_pos (by rfl)]
          go_simp
          go_at_call 20; refine (AD.out _).mono ?_; rintro e w3 ⟨rfl, hb3⟩
          go_wp2_with fail
          refine hK.out _ _ ?_ (fun hHeld3 => ?_)
          · exact kS _ _ (by assumption) hb3
          clear hK KK hb3 hHeld2
          try simp only [Act.put, List.setIfInBounds_toArray, List.set_cons_zero, List.set_cons_succ]
          refine wpAnyH_take (i := 8) (oi := ({ dst := some 40, op := .indexAddr 25 (.tmp 3) (.const (.int .i64 2)), type := 0, pos := "law.go:67", after := #[{ on := 0, ground := .phase }, { on := 1, ground := .phase }, { on := 2, ground := .phase }, { on := 3, ground := .phase }, { on := 4, ground := .phase }, { on := 5, ground := .phase }, { on := 6, ground := .phase }, { on := 7, ground := .phase }], guard := none } : Oper)) (v := ?vs9_8) rfl mker12_plain (by as_aux_lemma => kernel_rfl) (by as_aux_lemma => kernel_rfl) (fun _ _ _ h => h) (Or.inl ⟨by rfl, ?ys9_8⟩) (by assumption) ?rs9_8
          case ys9_8 => (intro w hSw; (try dsimp only at hSw); go_simp; try with_reducible rfl)
          try simp only [Act.put, List.setIfInBounds_toArray, List.set_cons_zero, List.set_cons_succ]
          refine wpAnyH_ready (rs := [9]) (by as_aux_lemma => kernel_rfl) (by simp) ?_
          refine AllReadyH.cons (o := ({ dst := none, op := .store 23 (.tmp 40) (.tmp 39), type := 0, pos := "law.go:67", after := #[{ on := 8, ground := .data }, { on := 7, ground := .data }, { on := 7, ground := .chain }, { on := 0, ground := .phase }, { on := 1, ground := .phase }, { on := 2, ground := .phase }, { on := 3, ground := .phase }, { on := 4, ground := .phase }, { on := 5, ground := .phase }, { on := 6, ground := .phase }, { on := 7, ground := .phase }], guard := none } : Oper)) rfl (fun KK hK => ?_) AllReadyH.nil
          rw [if_pos (by rfl)]
          obtain ⟨z0, k0, f0⟩ := o6 w3 (by assumption)
          obtain ⟨z1, k1, f1⟩ := o7 w3 (by assumption)
          obtain ⟨z2, k2, f2⟩ := o8 w3 (by assumption)
          have N1 := nx w3 (by assumption)
          go_simp
          refine hK.out _ _ ?_ (fun hHeldS => ?_)
          · exact s8 _ _ (s7 _ _ (s6 _ _ (by assumption)))
          clear hK KK
          try simp only [Act.put, List.setIfInBounds_toArray, List.set_cons_zero, List.set_cons_succ]
          refine wpAnyH_done (by as_aux_lemma => kernel_rfl) ?_ _
          refine NoPanic.normal ?_
          go_wp2_with fail
          go_meet
          exact ⟨_, N1⟩
        · clear hN
          have SC := Lib.hid fun w => Own7.Scale_any m.a kk w
          have sd : ∀ w, Calls Try.prog 16 #[vv m.a, .int .i64 2] w fun e w' => e = .returned (vv (m.a.scale 2)) ∧ Below w.heap.size w w' := fun w => Own7.Scale_any m.a 2 w
          have SD := Lib.hid sd
          clear sd
          have hT := two_of w _ m 3 HS.out (Or.inl rfl)
          have nx : ∀ w', St w (twoB w m 3) w' → St w (oneB w ⟨m.a, m.a.scale kk, m.a.scale 2⟩) ((((((w'.setCell ⟨w.heap.size, 3, none⟩ (.int .i64 (m.a.scale kk).x.toInt)).setCell ⟨w.heap.size, 4, none⟩ (.int .i64 (m.a.scale kk).y.toInt)).setCell ⟨w.heap.size, 5, none⟩ (.int .i64 (m.a.scale kk).z.toInt)).setCell ⟨w.heap.size, 6, none⟩ (.int .i64 (m.a.scale 2).x.toInt)).setCell ⟨w.heap.size, 7, none⟩ (.int .i64 (m.a.scale 2).y.toInt)).setCell ⟨w.heap.size, 8, none⟩ (.int .i64 (m.a.scale 2).z.toInt)) :=
            fun w' h => (((((h.put (one_apart _ _) 0 rfl (Nat.le_refl _) 3 _).put (one_apart _ _) 0 rfl (Nat.le_refl _) 4 _).put (one_apart _ _) 0 rfl (Nat.le_refl _) 5 _).put (one_apart _ _) 0 rfl (Nat.le_refl _) 6 _).put (one_apart _ _) 0 rfl (Nat.le_refl _) 7 _).put (one_apart _ _) 0 rfl (Nat.le_refl _) 8 _
          generalize m.a.scale kk = s at *
          generalize m.a.scale 2 = t at *
          obtain ⟨bs, hbs⟩ : ∃ bs, bs = twoB w m 3 := ⟨_, rfl⟩
          rw [← hbs] at hT nx
          have m0 : ∀ w', St w bs w' → w'.cell? ⟨w.heap.size, 0, none⟩ = some (.int .i64 m.a.x.toInt) := by rw [hbs]; exact fun w' h => h.at 0 rfl 0 rfl
          have m1 : ∀ w', St w bs w' → w'.cell? ⟨w.heap.size, 1, none⟩ = some (.int .i64 m.a.y.toInt) := by rw [hbs]; exact fun w' h => h.at 0 rfl 1 rfl
          have m2 : ∀ w', St w bs w' → w'.cell? ⟨w.heap.size, 2, none⟩ = some (.int .i64 m.a.z.toInt) := by rw [hbs]; exact fun w' h => h.at 0 rfl 2 rfl
          have o3 : ∀ w', St w bs w' → ∃ z, w'.cell? ⟨w.heap.size, 3, none⟩ = some z ∧ w'.frozen? ⟨w.heap.size, 3, none⟩ = false := by rw [hbs]; exact fun w' h => h.there 0 rfl 3 rfl
          have s3 : ∀ w' z, St w bs w' → St w bs (w'.setCell ⟨w.heap.size, 3, none⟩ z) := by rw [hbs]; exact fun w' z h => h.hit (one_apart _ _) 0 rfl (Nat.le_refl _) 3 rfl z
          have o4 : ∀ w', St w bs w' → ∃ z, w'.cell? ⟨w.heap.size, 4, none⟩ = some z ∧ w'.frozen? ⟨w.heap.size, 4, none⟩ = false := by rw [hbs]; exact fun w' h => h.there 0 rfl 4 rfl
          have s4 : ∀ w' z, St w bs w' → St w bs (w'.setCell ⟨w.heap.size, 4, none⟩ z) := by rw [hbs]; exact fun w' z h => h.hit (one_apart _ _) 0 rfl (Nat.le_refl _) 4 rfl z
          have o5 : ∀ w', St w bs w' → ∃ z, w'.cell? ⟨w.heap.size, 5, none⟩ = some z ∧ w'.frozen? ⟨w.heap.size, 5, none⟩ = false := by rw [hbs]; exact fun w' h => h.there 0 rfl 5 rfl
          have s5 : ∀ w' z, St w bs w' → St w bs (w'.setCell ⟨w.heap.size, 5, none⟩ z) := by rw [hbs]; exact fun w' z h => h.hit (one_apart _ _) 0 rfl (Nat.le_refl _) 5 rfl z
          have o6 : ∀ w', St w bs w' → ∃ z, w'.cell? ⟨w.heap.size, 6, none⟩ = some z ∧ w'.frozen? ⟨w.heap.size, 6, none⟩ = false := by rw [hbs]; exact fun w' h => h.there 0 rfl 6 rfl
          have s6 : ∀ w' z, St w bs w' → St w bs (w'.setCell ⟨w.heap.size, 6, none⟩ z) := by rw [hbs]; exact fun w' z h => h.hit (one_apart _ _) 0 rfl (Nat.le_refl _) 6 rfl z
          have o7 : ∀ w', St w bs w' → ∃ z, w'.cell? ⟨w.heap.size, 7, none⟩ = some z ∧ w'.frozen? ⟨w.heap.size, 7, none⟩ = false := by rw [hbs]; exact fun w' h => h.there 0 rfl 7 rfl
          have s7 : ∀ w' z, St w bs w' → St w bs (w'.setCell ⟨w.heap.size, 7, none⟩ z) := by rw [hbs]; exact fun w' z h => h.hit (one_apart _ _) 0 rfl (Nat.le_refl _) 7 rfl z
          have o8 : ∀ w', St w bs w' → ∃ z, w'.cell? ⟨w.heap.size, 8, none⟩ = some z ∧ w'.frozen? ⟨w.heap.size, 8, none⟩ = false := by rw [hbs]; exact fun w' h => h.there 0 rfl 8 rfl
          have s8 : ∀ w' z, St w bs w' → St w bs (w'.setCell ⟨w.heap.size, 8, none⟩ z) := by rw [hbs]; exact fun w' z h => h.hit (one_apart _ _) 0 rfl (Nat.le_refl _) 8 rfl z
          have kS : ∀ w1 w2, St w bs w1 → Below w1.heap.size w1 w2 → St w bs w2 := fun _ _ h hb => h.keep hb
          clear hbs HS
          go_upto_region 14 with fail
          change (Code.region 14 mker14 true).wp Try.prog _ _ _
          refine wp_region_noPanic ?_
          refine wp_region_held_drew (S := (St w bs)) (by kernel_rfl) (hT.drew) (fun hHeld => ?_)
          refine wpAnyH_take (i := 0) (oi := ({ dst := some 43, op := .indexAddr 25 (.tmp 3) (.const (.int .i64 0)), type := 0, pos := "law.go:69", after := #[], guard := none } : Oper)) (v := ?vs10_0) rfl mker14_plain (by as_aux_lemma => kernel_rfl) (by as_aux_lemma => kernel_rfl) (fun _ _ _ h => h) (Or.inl ⟨by rfl, ?ys10_0⟩) (by assumption) ?rs10_0
          case ys10_0 => (intro w hSw; (try dsimp only at hSw); go_simp; try with_reducible rfl)
          try simp only [Act.put, List.setIfInBounds_toArray, List.set_cons_zero, List.set_cons_succ]
          refine wpAnyH_take (i := 1) (oi := ({ dst := some 44, op := .load 23 (.tmp 43), type := 23, pos := "law.go:69", after := #[{ on := 0, ground := .data }], guard := none } : Oper)) (v := ?vs10_1) rfl mker14_plain (by as_aux_lemma => kernel_rfl) (by as_aux_lemma => kernel_rfl) (fun _ _ _ h => h) (Or.inl ⟨by rfl, ?ys10_1⟩) (by assumption) ?rs10_1
          case ys10_1 => (intro w hSw; (try dsimp only at hSw); go_simp; try with_reducible rfl)
          try simp only [Act.put, List.setIfInBounds_toArray, List.set_cons_zero, List.set_cons_succ]
          refine wpAnyH_take (i := 2) (oi := ({ dst := some 45, op := .move (.tmp 1), type := 2, pos := "law.go:69", after := #[], guard := none } : Oper)) (v := ?vs10_2) rfl mker14_plain (by as_aux_lemma => kernel_rfl) (by as_aux_lemma => kernel_rfl) (fun _ _ _ h => h) (Or.inl ⟨by rfl, ?ys10_2⟩) (by assumption) ?rs10_2
          case ys10_2 => (intro w hSw; (try dsimp only at hSw); go_simp; try with_reducible rfl)
          try simp only [Act.put, List.setIfInBounds_toArray, List.set_cons_zero, List.set_cons_succ]
          refine wpAnyH_take (i := 3) (oi := ({ dst := some 46, op := .binOp .rem 2 (.tmp 45) (.const (.int .i64 1000)) 2, type := 2, pos := "law.go:69", after := #[{ on := 2, ground := .data }], guard := none } : Oper)) (v := ?vs10_3) rfl mker14_plain (by as_aux_lemma => kernel_rfl) (by as_aux_lemma => kernel_rfl) (fun _ _ _ h => h) (Or.inl ⟨by rfl, ?ys10_3⟩) (by assumption) ?rs10_3
          case ys10_3 => (intro w hSw; (try dsimp only at hSw); go_simp; try with_reducible rfl)
          try simp only [Act.put, List.setIfInBounds_toArray, List.set_cons_zero, List.set_cons_succ]
          refine wpAnyH_take (i := 5) (oi := ({ dst := some 48, op := .indexAddr 25 (.tmp 3) (.const (.int .i64 0)), type := 0, pos := "law.go:69", after := #[], guard := none } : Oper)) (v := ?vs10_5) rfl mker14_plain (by as_aux_lemma => kernel_rfl) (by as_aux_lemma => kernel_rfl) (fun _ _ _ h => h) (Or.inl ⟨by rfl, ?ys10_5⟩) (by assumption) ?rs10_5
          case ys10_5 => (intro w hSw; (try dsimp only at hSw); go_simp; try with_reducible rfl)
          try simp only [Act.put, List.setIfInBounds_toArray, List.set_cons_zero, List.set_cons_succ]
          refine wpAnyH_take (i := 6) (oi := ({ dst := some 49, op := .load 23 (.tmp 48), type := 23, pos := "law.go:69", after := #[{ on := 5, ground := .data }], guard := none } : Oper)) (v := ?vs10_6) rfl mker14_plain (by as_aux_lemma => kernel_rfl) (by as_aux_lemma => kernel_rfl) (fun _ _ _ h => h) (Or.inl ⟨by rfl, ?ys10_6⟩) (by assumption) ?rs10_6
          case ys10_6 => (intro w hSw; (try dsimp only at hSw); go_simp; try with_reducible rfl)
          try simp only [Act.put, List.setIfInBounds_toArray, List.set_cons_zero, List.set_cons_succ]
          refine wpAnyH_ready (rs := [4]) (by as_aux_lemma => kernel_rfl) (by simp) ?_
          refine AllReadyH.cons (o := ({ dst := some 47, op := .call { callee := .value (.func 16), args := #[.tmp 44, .tmp 46], argTypes := #[23, 2] }, type := 23, pos := "law.go:69", after := #[{ on := 1, ground := .data }, { on := 3, ground := .data }], guard := none } : Oper)) rfl (fun KK hK => ?_) AllReadyH.nil
          rw [if_pos (by rfl)]
          go_simp
          go_at_call 16; refine (SC.out _).mono ?_; rintro e w2 ⟨rfl, hb2⟩
          go_wp2_with fail
          refine hK.out _ _ ?_ (fun hHeld2 => ?_)
          · exact kS _ _ (by assumption) hb2
          clear hK KK hb2
          try simp only [Act.put, List.setIfInBounds_toArray, List.set_cons_zero, List.set_cons_succ]
          refine wpAnyH_take (i := 8) (oi := ({ dst := some 51, op := .indexAddr 25 (.tmp 3) (.const (.int .i64 1)), type := 0, pos := "law.go:69", after := #[{ on := 0, ground := .phase }, { on := 1, ground := .phase }, { on := 2, ground := .phase }, { on := 3, ground := .phase }, { on := 4, ground := .phase }, { on := 5, ground := .phase }, { on := 6, ground := .phase }, { on := 7, ground := .textOnly Go.Departure.lateStoresUnsure }], guard := none } : Oper)) (v := ?vs10_8) rfl mker14_plain (by as_aux_lemma => kernel_rfl) (by as_aux_lemma => kernel_rfl) (fun _ _ _ h => h) (Or.inl ⟨by rfl, ?ys10_8⟩) (by assumption) ?rs10_8
          case ys10_8 => (intro w hSw; (try dsimp only at hSw); go_simp; try with_reducible rfl)
          try simp only [Act.put, List.setIfInBounds_toArray, List.set_cons_zero, List.set_cons_succ]
          refine wpAnyH_ready (rs := [7]) (by as_aux_lemma => kernel_rfl) (by simp) ?_
          refine AllReadyH.cons (o := ({ dst := some 50, op := .call { callee := .value (.func 16), args := #[.tmp 49, .const (.int .i64 2)], argTypes := #[23, 2] }, type := 23, pos := "law.go:69", after := #[{ on := 6, ground := .data }, { on := 4, ground := .chain }], guard := none } : Oper)) rfl (fun KK hK => ?_) AllReadyH.nil
          rw [if_pos (by rfl)]
          go_simp
          go_at_call 16; refine (SD.out _).mono ?_; rintro e w3 ⟨rfl, hb3⟩
          go_wp2_with fail
          refine hK.out _ _ ?_ (fun hHeld3 => ?_)
          · exact kS _ _ (by assumption) hb3
          clear hK KK hb3 hHeld2
          try simp only [Act.put, List.setIfInBounds_toArray, List.set_cons_zero, List.set_cons_succ]
          refine wpAnyH_ready (rs := [9]) (by as_aux_lemma => kernel_rfl) (by simp) ?_
          refine AllReadyH.cons (o := ({ dst := none, op := .store 23 (.tmp 51) (.tmp 47), type := 0, pos := "law.go:69", after := #[{ on := 8, ground := .data }, { on := 4, ground := .data }, { on := 7, ground := .chain }, { on := 0, ground := .phase }, { on := 1, ground := .phase }, { on := 2, ground := .phase }, { on := 3, ground := .phase }, { on := 4, ground := .phase }, { on := 5, ground := .phase }, { on := 6, ground := .phase }, { on := 7, ground := .textOnly Go.Departure.lateStoresUnsure }], guard := none } : Oper)) rfl (fun KK hK => ?_) AllReadyH.nil
          rw [if_pos (by rfl)]
          obtain ⟨z0, k0, f0⟩ := o3 w3 (by assumption)
          obtain ⟨z1, k1, f1⟩ := o4 w3 (by assumption)
          obtain ⟨z2, k2, f2⟩ := o5 w3 (by assumption)
          have N1 := nx w3 (by assumption)
          go_simp
          refine hK.out _ _ ?_ (fun hHeldS => ?_)
          · exact s5 _ _ (s4 _ _ (s3 _ _ (by assumption)))
          clear hK KK
          try simp only [Act.put, List.setIfInBounds_toArray, List.set_cons_zero, List.set_cons_succ]
          refine wpAnyH_take (i := 10) (oi := ({ dst := some 52, op := .indexAddr 25 (.tmp 3) (.const (.int .i64 2)), type := 0, pos := "law.go:69", after := #[{ on := 0, ground := .phase }, { on := 1, ground := .phase }, { on := 2, ground := .phase }, { on := 3, ground := .phase }, { on := 4, ground := .phase }, { on := 5, ground := .phase }, { on := 6, ground := .phase }, { on := 7, ground := .phase }, { on := 8, ground := .phase }, { on := 9, ground := .phase }], guard := none } : Oper)) (v := ?vs10_10) rfl mker14_plain (by as_aux_lemma => kernel_rfl) (by as_aux_lemma => kernel_rfl) (fun _ _ _ h => h) (Or.inl ⟨by rfl, ?ys10_10⟩) (by assumption) ?rs10_10
          case ys10_10 => (intro w hSw; (try dsimp only at hSw); go_simp; try with_reducible rfl)
          try simp only [Act.put, List.setIfInBounds_toArray, List.set_cons_zero, List.set_cons_succ]
          refine wpAnyH_ready (rs := [11]) (by as_aux_lemma => kernel_rfl) (by simp) ?_
          refine AllReadyH.cons (o := ({ dst := none, op := .store 23 (.tmp 52) (.tmp 50), type := 0, pos := "law.go:69", after := #[{ on := 10, ground := .data }, { on := 7, ground := .data }, { on := 9, ground := .chain }, { on := 0, ground := .phase }, { on := 1, ground := .phase }, { on := 2, ground := .phase }, { on := 3, ground := .phase }, { on := 4, ground := .phase }, { on := 5, ground := .phase }, { on := 6, ground := .phase }, { on := 7, ground := .phase }, { on := 8, ground := .phase }, { on := 9, ground := .phase }], guard := none } : Oper)) rfl (fun KK hK => ?_) AllReadyH.nil
          rw [if_pos (by rfl)]
          obtain ⟨y0, g0, e0⟩ := o6 _ hHeldS
          obtain ⟨y1, g1, e1⟩ := o7 _ hHeldS
          obtain ⟨y2, g2, e2⟩ := o8 _ hHeldS
          go_simp
          refine hK.out _ _ ?_ (fun hHeldT => ?_)
          · exact s8 _ _ (s7 _ _ (s6 _ _ hHeldS))
          clear hK KK
          try simp only [Act.put, List.setIfInBounds_toArray, List.set_cons_zero, List.set_cons_succ]
          refine wpAnyH_done (by as_aux_lemma => kernel_rfl) ?_ _
          refine NoPanic.normal ?_
          go_wp2_with fail
          go_meet
          exact ⟨_, N1⟩
        · clear hN
          obtain ⟨z0, k0, f0⟩ := HS.out.there 0 rfl 0 rfl
          obtain ⟨z1, k1, f1⟩ := HS.out.there 0 rfl 1 rfl
          obtain ⟨z2, k2, f2⟩ := HS.out.there 0 rfl 2 rfl
          obtain ⟨z3, k3, f3⟩ := HS.out.there 0 rfl 3 rfl
          obtain ⟨z4, k4, f4⟩ := HS.out.there 0 rfl 4 rfl
          obtain ⟨z5, k5, f5⟩ := HS.out.there 0 rfl 5 rfl
          obtain ⟨z6, k6, f6⟩ := HS.out.there 0 rfl 6 rfl
          obtain ⟨z7, k7, f7⟩ := HS.out.there 0 rfl 7 rfl
          obtain ⟨z8, k8, f8⟩ := HS.out.there 0 rfl 8 rfl
          have N1 := Lib.hid (((((((((HS.out.put (one_apart _ _) 0 rfl (Nat.le_refl _) 0 (.int .i64 0)).put (one_apart _ _) 0 rfl (Nat.le_refl _) 1 (.int .i64 0)).put (one_apart _ _) 0 rfl (Nat.le_refl _) 2 (.int .i64 0)).put (one_apart _ _) 0 rfl (Nat.le_refl _) 3 (.int .i64 0)).put (one_apart _ _) 0 rfl (Nat.le_refl _) 4 (.int .i64 0)).put (one_apart _ _) 0 rfl (Nat.le_refl _) 5 (.int .i64 0)).put (one_apart _ _) 0 rfl (Nat.le_refl _) 6 (.int .i64 0)).put (one_apart _ _) 0 rfl (Nat.le_refl _) 7 (.int .i64 0)).put (one_apart _ _) 0 rfl (Nat.le_refl _) 8 (.int .i64 0))
          clear HS
          go_wp2_with fail
          go_meet
          exact ⟨M3.zero, N1.out⟩
        · clear hN
          go_wp2_with fail
          go_meet
          exact ⟨m, HS.out⟩
      case rest =>
        clear HS
        rename World => W1
        obtain ⟨m, S1⟩ := hcut
        have ZV := fun x w => vec_zero x w
        have KD := Lib.hid fun w => Own8.Det_any m w; have KR := Lib.hid fun w => Own8.Rank_any m w
        have rl := rank_lt m; have d0 := det_zero m.det
        have a0 := S1.at 0 rfl 0 (v := .int .i64 m.a.x.toInt) rfl
        have a1 := S1.at 0 rfl 1 (v := .int .i64 m.a.y.toInt) rfl
        have a2 := S1.at 0 rfl 2 (v := .int .i64 m.a.z.toInt) rfl
        have a3 := S1.at 0 rfl 3 (v := .int .i64 m.b.x.toInt) rfl
        have a4 := S1.at 0 rfl 4 (v := .int .i64 m.b.y.toInt) rfl
        have a5 := S1.at 0 rfl 5 (v := .int .i64 m.b.z.toInt) rfl
        have a6 := S1.at 0 rfl 6 (v := .int .i64 m.c.x.toInt) rfl
        have a7 := S1.at 0 rfl 7 (v := .int .i64 m.c.y.toInt) rfl
        have a8 := S1.at 0 rfl 8 (v := .int .i64 m.c.z.toInt) rfl
        have H1 := Lib.hid S1
        clear S1
        by_cases hd : m.det = 0
        · have KE := Lib.hid fun w => Own8.Kernel_flat m w hd
          have kt := fun w => Own8.Times_any m m.kernel w
          rw [kernel_times m hd] at kt
          have kt' : ∀ w, Calls Try.prog 15 #[mv m, vv m.kernel] w fun e w' => e = .returned (.agg #[.int .i64 0, .int .i64 0, .int .i64 0]) ∧ Below w.heap.size w w' := kt
          have KT := Lib.hid kt'
          have zx := vec_zero m.kernel
          rw [decide_eq_false (kernel_ne m)] at zx
          rw [decide_eq_true hd] at rl d0
          clear kt kt' hd ZV
          generalize m.kernel = x at *
          generalize m.det.toInt = d at *; generalize m.rank = r at *
          go_wp2_with fail
          refine (KE.out _).mono ?_; rintro e w2 ⟨rfl, hb2⟩
          have S2 := (H1.out.keep hb2).more (vl x) 23
          clear H1 hb2 a0 a1 a2 a3 a4 a5 a6 a7 a8
          have b0 := S2.at 0 rfl 0 (v := .int .i64 m.a.x.toInt) rfl
          have b1 := S2.at 0 rfl 1 (v := .int .i64 m.a.y.toInt) rfl
          have b2 := S2.at 0 rfl 2 (v := .int .i64 m.a.z.toInt) rfl
          have b3 := S2.at 0 rfl 3 (v := .int .i64 m.b.x.toInt) rfl
          have b4 := S2.at 0 rfl 4 (v := .int .i64 m.b.y.toInt) rfl
          have b5 := S2.at 0 rfl 5 (v := .int .i64 m.b.z.toInt) rfl
          have b6 := S2.at 0 rfl 6 (v := .int .i64 m.c.x.toInt) rfl
          have b7 := S2.at 0 rfl 7 (v := .int .i64 m.c.y.toInt) rfl
          have b8 := S2.at 0 rfl 8 (v := .int .i64 m.c.z.toInt) rfl
          have H2 := Lib.hid S2
          clear S2
          go_wp2_with fail
          refine (KD.out _).mono ?_; rintro e w3 ⟨rfl, hb3⟩
          have S3 := H2.out.keep hb3
          clear hb3 H2 b0 b1 b2 b3 b4 b5 b6 b7 b8
          have b0 := S3.at 0 rfl 0 (v := .int .i64 m.a.x.toInt) rfl
          have b1 := S3.at 0 rfl 1 (v := .int .i64 m.a.y.toInt) rfl
          have b2 := S3.at 0 rfl 2 (v := .int .i64 m.a.z.toInt) rfl
          have b3 := S3.at 0 rfl 3 (v := .int .i64 m.b.x.toInt) rfl
          have b4 := S3.at 0 rfl 4 (v := .int .i64 m.b.y.toInt) rfl
          have b5 := S3.at 0 rfl 5 (v := .int .i64 m.b.z.toInt) rfl
          have b6 := S3.at 0 rfl 6 (v := .int .i64 m.c.x.toInt) rfl
          have b7 := S3.at 0 rfl 7 (v := .int .i64 m.c.y.toInt) rfl
          have b8 := S3.at 0 rfl 8 (v := .int .i64 m.c.z.toInt) rfl
          have H3 := Lib.hid S3
          clear S3
          go_wp2_with fail
          refine (KR.out _).mono ?_; rintro e w4 ⟨rfl, hb4⟩
          have S4 := H3.out.keep hb4
          clear hb4 H3 b0 b1 b2 b3 b4 b5 b6 b7 b8
          have b0 := S4.at 0 rfl 0 (v := .int .i64 m.a.x.toInt) rfl
          have b1 := S4.at 0 rfl 1 (v := .int .i64 m.a.y.toInt) rfl
          have b2 := S4.at 0 rfl 2 (v := .int .i64 m.a.z.toInt) rfl
          have b3 := S4.at 0 rfl 3 (v := .int .i64 m.b.x.toInt) rfl
          have b4 := S4.at 0 rfl 4 (v := .int .i64 m.b.y.toInt) rfl
          have b5 := S4.at 0 rfl 5 (v := .int .i64 m.b.z.toInt) rfl
          have b6 := S4.at 0 rfl 6 (v := .int .i64 m.c.x.toInt) rfl
          have b7 := S4.at 0 rfl 7 (v := .int .i64 m.c.y.toInt) rfl
          have b8 := S4.at 0 rfl 8 (v := .int .i64 m.c.z.toInt) rfl
          have c0 := S4.at 1 rfl 0 (v := .int .i64 x.x.toInt) rfl
          have c1 := S4.at 1 rfl 1 (v := .int .i64 x.y.toInt) rfl
          have c2 := S4.at 1 rfl 2 (v := .int .i64 x.z.toInt) rfl
          have H4 := Lib.hid S4
          clear S4
          go_wp2_with fail
          refine (KT.out _).mono ?_; rintro e w5 ⟨rfl, hb5⟩
          have H5 := Lib.hid (H4.out.keep hb5)
          clear hb5 H4
          go_wp2_with fail
          refine (AW.out _).mono ?_; rintro e w6 ⟨rfl, hb6⟩
          have H6 := Lib.hid (H5.out.keep hb6).below
          clear hb6 H5
          go_wp2_with fail
          go_ret
          exact ⟨rfl, H6.out⟩
        · have ke : ∀ w, Calls Try.prog 21 #[mv m] w fun e w' => e = .returned (.tuple #[.agg #[.int .i64 0, .int .i64 0, .int .i64 0], .bool false]) ∧ Below w.heap.size w w' := fun w => Own8.Kernel_firm m w hd
          have KE := Lib.hid ke
          rw [decide_eq_false hd] at rl d0
          clear ke hd ZV
          generalize m.det.toInt = d at *; generalize m.rank = r at *
          go_wp2_with fail
          refine (KE.out _).mono ?_; rintro e w2 ⟨rfl, hb2⟩
          have S2 := (H1.out.keep hb2).more [.int .i64 0, .int .i64 0, .int .i64 0] 23
          clear H1 hb2 a0 a1 a2 a3 a4 a5 a6 a7 a8
          have b0 := S2.at 0 rfl 0 (v := .int .i64 m.a.x.toInt) rfl
          have b1 := S2.at 0 rfl 1 (v := .int .i64 m.a.y.toInt) rfl
          have b2 := S2.at 0 rfl 2 (v := .int .i64 m.a.z.toInt) rfl
          have b3 := S2.at 0 rfl 3 (v := .int .i64 m.b.x.toInt) rfl
          have b4 := S2.at 0 rfl 4 (v := .int .i64 m.b.y.toInt) rfl
          have b5 := S2.at 0 rfl 5 (v := .int .i64 m.b.z.toInt) rfl
          have b6 := S2.at 0 rfl 6 (v := .int .i64 m.c.x.toInt) rfl
          have b7 := S2.at 0 rfl 7 (v := .int .i64 m.c.y.toInt) rfl
          have b8 := S2.at 0 rfl 8 (v := .int .i64 m.c.z.toInt) rfl
          have H2 := Lib.hid S2
          clear S2
          go_wp2_with fail
          refine (KD.out _).mono ?_; rintro e w3 ⟨rfl, hb3⟩
          have S3 := H2.out.keep hb3
          clear hb3 H2 b0 b1 b2 b3 b4 b5 b6 b7 b8
          have b0 := S3.at 0 rfl 0 (v := .int .i64 m.a.x.toInt) rfl
          have b1 := S3.at 0 rfl 1 (v := .int .i64 m.a.y.toInt) rfl
          have b2 := S3.at 0 rfl 2 (v := .int .i64 m.a.z.toInt) rfl
          have b3 := S3.at 0 rfl 3 (v := .int .i64 m.b.x.toInt) rfl
          have b4 := S3.at 0 rfl 4 (v := .int .i64 m.b.y.toInt) rfl
          have b5 := S3.at 0 rfl 5 (v := .int .i64 m.b.z.toInt) rfl
          have b6 := S3.at 0 rfl 6 (v := .int .i64 m.c.x.toInt) rfl
          have b7 := S3.at 0 rfl 7 (v := .int .i64 m.c.y.toInt) rfl
          have b8 := S3.at 0 rfl 8 (v := .int .i64 m.c.z.toInt) rfl
          have H3 := Lib.hid S3
          clear S3
          go_wp2_with fail
          refine (KR.out _).mono ?_; rintro e w4 ⟨rfl, hb4⟩
          have S4 := H3.out.keep hb4
          clear hb4 H3 b0 b1 b2 b3 b4 b5 b6 b7 b8
          have c0 := S4.at 1 rfl 0 (v := .int .i64 0) rfl
          have c1 := S4.at 1 rfl 1 (v := .int .i64 0) rfl
          have c2 := S4.at 1 rfl 2 (v := .int .i64 0) rfl
          have H4 := Lib.hid S4
          clear S4
          go_wp2_with fail
          refine (AW.out _).mono ?_; rintro e w6 ⟨rfl, hb6⟩
          have H6 := Lib.hid (H4.out.keep hb6).below
          clear hb6 H4
          go_wp2_with fail
          go_ret
          exact ⟨rfl, H6.out⟩
end Go.Proofs.Ytjdpcmcekockgaa
