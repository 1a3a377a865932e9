/- SubsetMore's law. -/
import Derived.Test.YtbohghmjaadloaaDoorSubInts
import Derived.Test.YtbohghmjaadloaaDoorSubAwake
namespace Go.Proofs.YtbohghmjaadloaaDoor
open Go.RowKit

set_option maxHeartbeats 8000000 in
set_option maxRecDepth 100000 in
theorem More11_all (O : Own11) (a b : Int) (w : World) (hp : PairsAt w) :
    Calls Tryd.prog 5 #[.int .i64 a, .int .i64 b] w fun e w' => e = .returned (.bool true) ∧ Below w.heap.size w w' := by
  have HP := Lib.hid hp
  clear hp
  go_enter Tryd.func5, Tryd.ntmps5
  go_wp2_with fail
  refine (O.next a w).mono ?_
  rintro e w1 ⟨rfl, hb1⟩
  have HB1 := Lib.hid hb1
  clear hb1
  go_wp2_with fail
  refine (Ref11.Next_any a w1).mono ?_
  rintro e w2 ⟨rfl, hb2⟩
  have HB2 := Lib.hid (belowT HB1.out hb2)
  clear hb2 HB1
  go_wp2_with fail
  refine (O.of _ w2).mono ?_
  rintro e w3 ⟨v3, rfl, hi3⟩
  have HB3 := Lib.hid (belowT HB2.out hi3.below)
  obtain ⟨ba3, cap3, rfl, L3, _, _⟩ := hi3.lies
  have HL3 := Lib.hid L3
  clear hi3 L3 HB2
  go_wp2_with fail
  refine (Ref11.Of_any _ w3).mono ?_
  rintro e w4 ⟨v4, rfl, hi4⟩
  have HB4 := Lib.hid (belowT HB3.out hi4.below)
  have HL3k := Lib.hid (HL3.out.keep hi4.below)
  obtain ⟨ba4, cap4, rfl, L4, _, _⟩ := hi4.lies
  have HL4 := Lib.hid L4
  clear hi4 L4 HB3 HL3
  go_wp2_with fail
  refine (ints_same _ _ _ _ _ w4 HL3k.out HL4.out (Nat.le_trans (below64_len _ 64) (by decide))).mono ?_
  rintro e w5 ⟨rfl, hb5⟩
  have HB5 := Lib.hid (belowT HB4.out hb5)
  clear hb5 HB4
  clear HL3k HL4
  go_wp2_with fail
  refine (O.number a w5).mono ?_
  rintro e w6 ⟨rfl, hb6⟩
  have HB6 := Lib.hid (belowT HB5.out hb6)
  clear hb6 HB5
  go_wp2_with fail
  refine (Ref11.Number_any a w6).mono ?_
  rintro e w7 ⟨rfl, hb7⟩
  have HB7 := Lib.hid (belowT HB6.out hb7)
  clear hb7 HB6
  go_wp2_with fail
  refine (O.within a b w7).mono ?_
  rintro e w8 ⟨rfl, hb8⟩
  have HB8 := Lib.hid (belowT HB7.out hb8)
  clear hb8 HB7
  go_wp2_with fail
  refine (Ref11.Within_any a b w8).mono ?_
  rintro e w9 ⟨rfl, rfl⟩
  have HB9 := HB8
  clear HB8
  go_wp2_with fail
  refine (O.part a w9).mono ?_
  rintro e w10 ⟨v10, rfl, hi10⟩
  have HB10 := Lib.hid (belowT HB9.out hi10.below)
  obtain ⟨ba10, cap10, rfl, L10, _, _⟩ := hi10.lies
  have HL10 := Lib.hid L10
  clear hi10 L10 HB9
  go_wp2_with fail
  refine (Ref11.Part_any a w10).mono ?_
  rintro e w11 ⟨v11, rfl, hi11⟩
  have HB11 := Lib.hid (belowT HB10.out hi11.below)
  have HL10k := Lib.hid (HL10.out.keep hi11.below)
  obtain ⟨ba11, cap11, rfl, L11, _, _⟩ := hi11.lies
  have HL11 := Lib.hid L11
  clear hi11 L11 HB10 HL10
  go_wp2_with fail
  refine (ints_same _ _ _ _ _ w11 HL10k.out HL11.out (Nat.le_trans (below64_len _ 64) (by decide))).mono ?_
  rintro e w12 ⟨rfl, hb12⟩
  have HB12 := Lib.hid (belowT HB11.out hb12)
  clear hb12 HB11
  clear HL10k HL11
  go_wp2_with fail
  refine (awake_any O w12 (HP.out.keep HB12.out)).mono ?_
  rintro e w13 ⟨rfl, hb13⟩
  have HB13 := Lib.hid (belowT HB12.out hb13)
  clear hb13 HB12
  go_wp2
  go_ret
  exact ⟨rfl, HB13.out⟩
end Go.Proofs.YtbohghmjaadloaaDoor
