/- SubsetWalks' law. -/
import Derived.Test.YtbohghmjaadloaaDoorSubInts
import Derived.Test.YtbohghmjaadloaaDoorSubAwake
import Derived.Test.YtbohghmjaadloaaDoorSubHypos
namespace Go.Proofs.YtbohghmjaadloaaDoor
open Go.RowKit

/-- what the law asks of the j-th set of n -/
def walkOk (n j : Nat) : Bool :=
  let l := ofI n
  let s := l.getD j 0
  decide (l.length ≤ j) || (Sub.cnt (Sub.low s) == n) && (numI s == (j : Int)) && (if j + 1 < l.length then Ref11.nextI s == (l.getD (j + 1) 0, true) else Ref11.nextI s == (0, false))
theorem walk_ok (n j : Nat) (hn : n < 7) (hj : j < (ofI n).length) : Sub.cnt (Sub.low ((ofI n).getD j 0)) = n ∧ numI ((ofI n).getD j 0) = j ∧ (j + 1 < (ofI n).length → Ref11.nextI ((ofI n).getD j 0) = ((ofI n).getD (j + 1) 0, true)) ∧ (¬ j + 1 < (ofI n).length → Ref11.nextI ((ofI n).getD j 0) = (0, false)) := by
  have h : ∀ n : Fin 7, ∀ j : Fin 64, walkOk n.val j.val = true := by decide +kernel
  have hlen : (ofI n).length ≤ 64 := below64_len _ 64
  have k := h ⟨n, hn⟩ ⟨j, by omega⟩
  unfold walkOk at k
  simp only [Bool.or_eq_true, decide_eq_true_eq, Bool.and_eq_true, beq_iff_eq] at k
  rcases k with k | ⟨⟨k1, k2⟩, k3⟩
  · omega
  · refine ⟨k1, k2, fun g => ?_, fun g => ?_⟩
    · rw [if_pos g] at k3; simpa using k3
    · rw [if_neg g] at k3; simpa using k3
/-- how many there are -/
def many : List Int := [1, 6, 15, 20, 15, 6, 1]
theorem many_ok (n : Nat) (hn : n < 7) : ((ofI n).length : Int) = many.getD n 0 ∧ 0 < (ofI n).length := by
  have h : ∀ n : Fin 7, ((ofI n.val).length : Int) = many.getD n.val 0 ∧ 0 < (ofI n.val).length := by decide +kernel
  exact h ⟨n, hn⟩
theorem many_cell (n : Nat) (hn : n < 7) (w : World) (t : TypeId) : (w.alloc (.cells #[.int .i64 1, .int .i64 6, .int .i64 15, .int .i64 20, .int .i64 15, .int .i64 6, .int .i64 1] t)).cell? ⟨w.heap.size, n, none⟩ = some (.int .i64 (many.getD n 0)) := by
  match n, hn with
  | 0, _ => simp [many]
  | 1, _ => simp [many]
  | 2, _ => simp [many]
  | 3, _ => simp [many]
  | 4, _ => simp [many]
  | 5, _ => simp [many]
  | 6, _ => simp [many]
  | n + 7, h => exact absurd h (by omega)
/-- what the law asks of the parts -/
theorem part_at (x : Int) (j : Nat) (hj : j < (partI x).length) : ∃ s : Nat, s < 64 ∧ (partI x).getD j 0 = (s : Int) ∧ Sub.within s (Sub.low x) = true := by
  have hm : (partI x)[j] ∈ partI x := List.getElem_mem hj
  unfold partI below64 at hm
  obtain ⟨s, hs, he⟩ := List.mem_map.1 hm
  obtain ⟨h1, h2⟩ := List.mem_filter.1 hs
  refine ⟨s, List.mem_range.1 h1, ?_, h2⟩
  rw [List.getD_eq_getElem?_getD, List.getElem?_eq_getElem hj]
  exact he.symm
theorem part_len (x : Int) : ((partI x).length : Int) = 2 ^ Sub.cnt (Sub.low x) := by
  have h : ∀ m : Fin 64, (((below64 (fun s => Sub.within s m.val) 64).length : Nat) : Int) = 2 ^ Sub.cnt m.val := by decide +kernel
  exact h ⟨Sub.low x, Sub.low_lt x⟩

set_option maxHeartbeats 8000000 in
set_option maxRecDepth 100000 in
theorem walks_core (O : Own11) (a x : Int) (n : Nat) (hn : n < 7) (w : World) (hp : PairsAt w) (en : wrap64 ((IntKind.u64.wrap a).tmod 7) = n) :
    Calls Tryd.prog 6 #[.int .i64 a, .int .i64 x] w fun e w' => e = .returned (.bool true) ∧ Below w.heap.size w w' := by
  have HP := Lib.hid hp
  obtain ⟨hm, hpos⟩ := many_ok n hn
  have HW := Lib.hid (fun j => walk_ok n j hn)
  have hlen : (ofI n).length ≤ 64 := below64_len _ 64
  have HO := Lib.hid (fun w => O.of n w)
  have hc := many_cell n hn
  obtain ⟨l, hl⟩ : ∃ l, l = ofI n := ⟨_, rfl⟩
  obtain ⟨q, hq⟩ : ∃ q, q = many.getD n 0 := ⟨_, rfl⟩
  simp only [← hl, ← hq] at hm hpos HW hlen HO hc
  have hmq : ((l.length : Int) != q) = false := by simpa using hm
  clear hp hl hq hm
  go_enter Tryd.func6, Tryd.ntmps6
  go_wp2_with fail
  refine (HO.out w).mono ?_
  rintro e w1 ⟨v1, rfl, hi1⟩
  have HB1 := Lib.hid hi1.below
  obtain ⟨ba1, cap1, rfl, L1, _, _⟩ := hi1.lies
  obtain ⟨g, rfl, hcell⟩ := L1 hpos
  have HL := Lib.hid hcell
  clear hi1 L1 HO hcell
  have c0 := fun o => keepc (below1 w1 o) (HL.out 0 hpos)
  obtain ⟨z0, hz0⟩ : ∃ z0, z0 = l.getD 0 0 := ⟨_, rfl⟩
  rw [← hz0] at c0
  have HZ0 := Lib.hid hz0
  clear hz0
  have B1 := Lib.hid (below1 w1)
  go_wp2_with fail
  clear c0 hc hmq
  go_loopw [6, 7, 31] (fun at_ more i wr => ∃ (j : Nat) (z : Int), j ≤ l.length ∧ i = .int .i64 j ∧ at_ = .int .i64 z ∧ (j < l.length → z = l.getD j 0) ∧ more = .bool (decide (j < l.length)) ∧ Below w1.heap.size w1 wr) (fun _ _ i _ => l.length - (intOf i).toNat)
  case atStart => exact ⟨0, _, by omega, rfl, rfl, fun _ => HZ0.out, by rw [decide_eq_true hpos], B1.out _⟩
  case round =>
    obtain ⟨j, z, hj, rfl, rfl, hz, rfl, hb⟩ := hrel
    clear B1 en HZ0
    by_cases hlt : (j : Int) < l.length
    · have hjl : j < l.length := by omega
      obtain ⟨k1, k2, k3, k4⟩ := HW.out j hjl
      have c := keepc hb (HL.out j hjl)
      replace hz := hz hjl
      rw [← hz] at c k1 k2 k3 k4
      clear hz
      rw [decide_eq_true hjl]
      have HB := Lib.hid hb
      have K3 := Lib.hid k3
      have K4 := Lib.hid k4
      clear hb k3 k4
      go_wp2_with fail
      refine (O.count z wr).mono ?_
      rintro e w2 ⟨rfl, hb2⟩
      have HB2 := Lib.hid (belowT HB.out hb2)
      clear hb2 HB
      rw [k1]
      clear k1
      go_wp2_with fail
      refine (O.number z w2).mono ?_
      rintro e w3 ⟨rfl, hb3⟩
      have HB3 := Lib.hid (belowT HB2.out hb3)
      clear hb3 HB2
      rw [k2]
      clear k2
      go_wp2_with fail
      refine (O.next z w3).mono ?_
      rintro e w4 ⟨rfl, hb4⟩
      have HB4 := Lib.hid (belowT HB3.out hb4)
      clear hb4 HB3
      by_cases hn1 : j + 1 < l.length
      · rw [K3.out hn1]
        have hd := decide_eq_true hn1
        clear K3 K4 c
        go_wp2
        go_roundw
        case rel => exact ⟨j + 1, _, by omega, rfl, rfl, fun h => by rw [List.getD_eq_getElem?_getD, List.getElem?_eq_getElem h]; rfl, by rw [hd], HB4.out⟩
        case measure => simp [intOf]; omega
      · rw [K4.out hn1]
        have hd := decide_eq_false hn1
        clear K3 K4 c
        go_wp2
        go_roundw
        case rel => exact ⟨j + 1, _, by omega, rfl, rfl, fun h => absurd h hn1, by rw [hd], HB4.out⟩
        case measure => simp [intOf]; omega
    · obtain rfl : j = l.length := by omega
      rw [decide_eq_false (by omega)]
      have HB := Lib.hid (belowT HB1.out hb)
      clear hb hz HB1 HL HW
      go_wp2_with fail
      refine (O.part x wr).mono ?_
      rintro e w2 ⟨v2, rfl, hi2⟩
      have HB2 := Lib.hid (belowT HB.out hi2.below)
      obtain ⟨ba2, cap2, rfl, L2, _, _⟩ := hi2.lies
      have HL := Lib.hid L2
      clear hi2 L2 HB
      have HPA := Lib.hid (part_at x)
      have hpl := part_len x
      have hp64 : (partI x).length ≤ 64 := below64_len _ 64
      generalize partI x = p at *
      go_wp2_with fail
      go_loopw [65] (fun i wr => ∃ (j : Nat), j ≤ p.length ∧ i = .int .i64 j ∧ Below w2.heap.size w2 wr) (fun i _ => p.length - (intOf i).toNat)
      case atStart => exact ⟨0, by omega, rfl, Below.refl _ _⟩
      case round =>
        obtain ⟨j, hj2, rfl, hb⟩ := hrel
        by_cases hlt2 : (j : Int) < p.length
        · have hjp : j < p.length := by omega
          obtain ⟨s, hs, hg, hw⟩ := HPA.out j hjp
          obtain ⟨g2, rfl, hc⟩ := HL.out (by omega)
          have c := keepc hb (hc j hjp)
          rw [hg] at c
          clear hc hg
          have e63 := Sub.and63 x
          have e1 := Sub.andNot_bits s hs (Sub.low x)
          rw [Sub.low_low, hw] at e1
          have e2 := Sub.low_of s hs
          have HBB := Lib.hid hb
          clear hb
          go_wp2_with fail
          refine (O.within s x _).mono ?_
          rintro e w3 ⟨rfl, hb3⟩
          have HB3 := Lib.hid (belowT HBB.out hb3)
          clear hb3 HBB
          rw [e2, hw]
          clear e2 hw
          go_wp2
          go_roundw
          case rel => exact ⟨j + 1, by omega, rfl, HB3.out⟩
          case measure => simp [intOf]; omega
        · obtain rfl : j = p.length := by omega
          have HB3 := Lib.hid (belowT HB2.out hb)
          clear hb HB2 HPA HL
          go_wp2_with fail
          refine (O.count x wr).mono ?_
          rintro e w3 ⟨rfl, hb3⟩
          have HB4 := Lib.hid (belowT HB3.out hb3)
          clear hb3 HB3
          have hc6 := Sub.cnt_le (Sub.low x)
          generalize Sub.cnt (Sub.low x) = c at *
          have eu : IntKind.u64.wrap (c : Int) = c := by rw [IntKind.wrap_u64]; omega
          have em : min c 64 = c := by omega
          have hpow : (2 : Int) ^ c ≤ 64 := by
            have : 2 ^ c ≤ 2 ^ 6 := Nat.pow_le_pow_right (by decide) hc6
            exact_mod_cast this
          have hpos2 : (0 : Int) < 2 ^ c := Int.pow_pos (by decide)
          have es : IntKind.i64.wrap ((2 : Int) ^ c) = 2 ^ c := by rw [IntKind.wrap_i64]; omega
          have eq : ((p.length : Int) == 2 ^ c) = true := by simpa using hpl
          clear hpow hpos2 hpl
          go_wp2_with fail
          refine (awake_any O w3 (HP.out.keep HB4.out)).mono ?_
          rintro e w4 ⟨rfl, hb4⟩
          have HB5 := Lib.hid (belowT HB4.out hb4)
          clear hb4 HB4
          go_wp2
          go_ret
          exact ⟨rfl, HB5.out⟩

theorem Walks11_all (O : Own11) (a x : Int) (w : World) (hp : PairsAt w) :
    Calls Tryd.prog 6 #[.int .i64 a, .int .i64 x] w fun e w' => e = .returned (.bool true) ∧ Below w.heap.size w w' := by
  obtain ⟨n, hn, en⟩ := umod a 7 (by decide) (by decide)
  exact walks_core O a x n (by omega) w hp en
end Go.Proofs.YtbohghmjaadloaaDoor
