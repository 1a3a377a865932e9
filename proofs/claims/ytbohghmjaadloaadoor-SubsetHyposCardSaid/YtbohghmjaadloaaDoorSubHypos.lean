/- SubsetHypos' law. -/
import Derived.Test.YtbohghmjaadloaaDoorSubInts
import Derived.Test.YtbohghmjaadloaaDoorSubAwake
namespace Go.Proofs.YtbohghmjaadloaaDoor
open Go.RowKit

/-- a number from 0 to ahead of k, as the laws make it -/
theorem umod (a k : Int) (h0 : 0 < k) (h1 : k ≤ 1000) : ∃ n : Nat, (n : Int) < k ∧ wrap64 ((IntKind.u64.wrap a).tmod k) = n := by
  have hw : 0 ≤ IntKind.u64.wrap a := by rw [IntKind.wrap_u64]; omega
  have hm := Int.tmod_lt_of_pos (IntKind.u64.wrap a) h0
  have hz := Int.tmod_nonneg k hw
  refine ⟨((IntKind.u64.wrap a).tmod k).toNat, by omega, ?_⟩
  generalize (IntKind.u64.wrap a).tmod k = z at *
  unfold wrap64
  omega
theorem hypo_at (n : Nat) (hn : n < 22) : (Instr.index 29 (.agg hypoCells) (.int .i64 (n : Int))).run Tryd.prog = fun w => .ok (.int .i64 (hypoNums.getD n 0)) w :=
  match n, hn with
  | 0, _ => by kernel_rfl
  | 1, _ => by kernel_rfl
  | 2, _ => by kernel_rfl
  | 3, _ => by kernel_rfl
  | 4, _ => by kernel_rfl
  | 5, _ => by kernel_rfl
  | 6, _ => by kernel_rfl
  | 7, _ => by kernel_rfl
  | 8, _ => by kernel_rfl
  | 9, _ => by kernel_rfl
  | 10, _ => by kernel_rfl
  | 11, _ => by kernel_rfl
  | 12, _ => by kernel_rfl
  | 13, _ => by kernel_rfl
  | 14, _ => by kernel_rfl
  | 15, _ => by kernel_rfl
  | 16, _ => by kernel_rfl
  | 17, _ => by kernel_rfl
  | 18, _ => by kernel_rfl
  | 19, _ => by kernel_rfl
  | 20, _ => by kernel_rfl
  | 21, _ => by kernel_rfl
  | n + 22, h => absurd h (by omega)
/-- all that the law asks of one of them -/
def hypoOk (n i : Nat) : Bool :=
  let h := hypoNums.getD n 0
  let x := withI h i
  let y := withoutI h i
  (placeI h hypoNums 0 == (n : Int)) && decide (Sub.cnt (Sub.low h) ≤ 2) && hasI x i && !hasI y i && (withoutI x i == y) && (withI y i == x) && (h == x || h == y)
theorem hypo_ok (n i : Nat) (hn : n < 22) (hi : i < 6) : hypoOk n i = true := by
  have h : ∀ n : Fin 22, ∀ i : Fin 6, hypoOk n.val i.val = true := by decide +kernel
  exact h ⟨n, hn⟩ ⟨i, hi⟩

set_option maxHeartbeats 8000000 in
set_option maxRecDepth 100000 in
theorem hypos_core (O : Own11) (a b : Int) (n i : Nat) (h x y : Int) (w : World) (hp : PairsAt w)
    (en : wrap64 ((IntKind.u64.wrap a).tmod 22) = n) (ei : wrap64 ((IntKind.u64.wrap b).tmod 6) = i)
    (hx : ∀ w, (Instr.index 29 (.agg hypoCells) (.int .i64 (n : Int))).run Tryd.prog w = .ok (.int .i64 h) w)
    (p0 : placeI h hypoNums 0 = n) (p1 : Sub.cnt (Sub.low h) ≤ 2) (p2 : withI h i = x) (p3 : withoutI h i = y)
    (p4 : hasI x i = true) (p5 : hasI y i = false) (p6 : withoutI x i = y) (p7 : withI y i = x) (p8 : (h == x) = true ∨ (h == x) = false ∧ (h == y) = true) :
    Calls Tryd.prog 4 #[.int .i64 a, .int .i64 b] w fun e w' => e = .returned (.bool true) ∧ Below w.heap.size w w' := by
  have HP := Lib.hid hp
  have p1' : decide ((2 : Int) < (Sub.cnt (Sub.low h) : Int)) = false := decide_eq_false (by omega)
  have HE := Lib.hid p8
  clear hp p1 p8
  go_enter Tryd.func4, Tryd.ntmps4
  go_wp2_with fail
  refine (O.hypos w HP.out).mono ?_
  rintro e w1 ⟨rfl, hb1⟩
  have HB1 := Lib.hid hb1
  clear hb1
  go_wp2_with fail
  refine (O.place h w1 (HP.out.keep HB1.out)).mono ?_
  rintro e w2 ⟨rfl, hb2⟩
  have HB2 := Lib.hid (belowT HB1.out hb2)
  clear hb2 HB1
  rw [p0]
  go_wp2_with fail
  refine (O.count h w2).mono ?_
  rintro e w3 ⟨rfl, hb3⟩
  have HB3 := Lib.hid (belowT HB2.out hb3)
  clear hb3 HB2
  go_wp2_with fail
  refine (O.with_ h i w3).mono ?_
  rintro e w4 ⟨rfl, hb4⟩
  have HB4 := Lib.hid (belowT HB3.out hb4)
  clear hb4 HB3
  rw [p2]
  go_wp2_with fail
  refine (O.without h i w4).mono ?_
  rintro e w5 ⟨rfl, hb5⟩
  have HB5 := Lib.hid (belowT HB4.out hb5)
  clear hb5 HB4
  rw [p3]
  go_wp2_with fail
  refine (O.has x i w5).mono ?_
  rintro e w6 ⟨rfl, hb6⟩
  have HB6 := Lib.hid (belowT HB5.out hb6)
  clear hb6 HB5
  rw [p4]
  go_wp2_with fail
  refine (O.has y i w6).mono ?_
  rintro e w7 ⟨rfl, hb7⟩
  have HB7 := Lib.hid (belowT HB6.out hb7)
  clear hb7 HB6
  rw [p5]
  go_wp2_with fail
  refine (O.without x i w7).mono ?_
  rintro e w8 ⟨rfl, hb8⟩
  have HB8 := Lib.hid (belowT HB7.out hb8)
  clear hb8 HB7
  rw [p6]
  go_wp2_with fail
  refine (O.with_ y i w8).mono ?_
  rintro e w9 ⟨rfl, hb9⟩
  have HB9 := Lib.hid (belowT HB8.out hb9)
  clear hb9 HB8
  rw [p7]
  rcases HE.out with q | ⟨q, q'⟩
  all_goals
    clear HE
    go_wp2_with fail
    refine (awake_any O w9 (HP.out.keep HB9.out)).mono ?_
    rintro e w10 ⟨rfl, hb10⟩
    have HB10 := Lib.hid (belowT HB9.out hb10)
    clear hb10 HB9
    go_wp2
    go_ret
    exact ⟨rfl, HB10.out⟩

theorem Hypos11_all (O : Own11) (a b : Int) (w : World) (hp : PairsAt w) :
    Calls Tryd.prog 4 #[.int .i64 a, .int .i64 b] w fun e w' => e = .returned (.bool true) ∧ Below w.heap.size w w' := by
  obtain ⟨n, hn, en⟩ := umod a 22 (by decide) (by decide)
  obtain ⟨i, hi, ei⟩ := umod b 6 (by decide) (by decide)
  have k := hypo_ok n i (by omega) (by omega)
  unfold hypoOk at k
  simp only [Bool.and_eq_true, beq_iff_eq, decide_eq_true_eq, Bool.not_eq_true', Bool.or_eq_true] at k
  obtain ⟨⟨⟨⟨⟨⟨k0, k1⟩, k4⟩, k5⟩, k6⟩, k7⟩, k8⟩ := k
  refine hypos_core O a b n i _ _ _ w hp en ei (fun w => congrFun (hypo_at n (by omega)) w) k0 k1 rfl rfl k4 k5 k6 k7 ?_
  by_cases g : hypoNums.getD n 0 = withI (hypoNums.getD n 0) i
  · exact Or.inl (by simpa using g)
  · exact Or.inr ⟨by simpa using g, by simpa using k8.resolve_left g⟩
end Go.Proofs.YtbohghmjaadloaaDoor
