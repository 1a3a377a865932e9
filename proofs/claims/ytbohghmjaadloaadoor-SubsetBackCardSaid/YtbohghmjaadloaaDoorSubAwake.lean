/- The laws' own example, layer 11. -/
import Derived.Test.YtbohghmjaadloaaDoorSubOwn
namespace Go.Proofs.YtbohghmjaadloaaDoor
open Go.RowKit

set_option maxHeartbeats 4000000 in
set_option maxRecDepth 100000 in
theorem awake_any (O : Own11) (w : World) (hp : PairsAt w) :
    Calls Tryd.prog 7 #[] w fun e w' => e = .returned (.bool true) ∧ Below w.heap.size w w' := by
  have HP := Lib.hid hp
  clear hp
  have f0 : parseI ⟨#[49, 43, 51]⟩ = (10, 0) := by decide +kernel
  have f1 : parseI ⟨#[51, 43, 49]⟩ = (0, 3) := by decide +kernel
  have f2 : parseI ⟨#[]⟩ = (0, 3) := by decide +kernel
  have f3 : parseI ⟨#[45]⟩ = (0, 0) := by decide +kernel
  have f4 : textI 10 = ⟨#[49, 43, 51]⟩ := by decide +kernel
  have f5 : textI 64 = ⟨#[45]⟩ := by decide +kernel
  have f6 : placeI 3 hypoNums 0 = 7 := by decide +kernel
  have f7 : (Sub.cnt (Sub.low 63) : Int) = 6 := by decide +kernel
  have f8 : withI 0 5 = 32 := by decide +kernel
  have f9 : withoutI 63 0 = 62 := by decide +kernel
  have f10 : hasI 63 6 = false := by decide +kernel
  have hl : (memI 5).length = 2 := by decide +kernel
  go_enter Tryd.func7, Tryd.ntmps7
  go_wp2_with fail
  refine (O.parse ⟨#[49, 43, 51]⟩ w (by decide)).mono ?_
  rintro e w1 ⟨rfl, hb1⟩
  have HB1 := Lib.hid hb1
  clear hb1
  rw [f0]
  go_wp2_with fail
  refine (O.parse ⟨#[51, 43, 49]⟩ w1 (by decide)).mono ?_
  rintro e w2 ⟨rfl, hb2⟩
  have HB2 := Lib.hid (belowT HB1.out hb2)
  clear hb2 HB1
  rw [f1]
  go_wp2_with fail
  refine (O.parse ⟨#[]⟩ w2 (by decide)).mono ?_
  rintro e w3 ⟨rfl, hb3⟩
  have HB3 := Lib.hid (belowT HB2.out hb3)
  clear hb3 HB2
  rw [f2]
  go_wp2_with fail
  refine (O.parse ⟨#[45]⟩ w3 (by decide)).mono ?_
  rintro e w4 ⟨rfl, hb4⟩
  have HB4 := Lib.hid (belowT HB3.out hb4)
  clear hb4 HB3
  rw [f3]
  go_wp2_with fail
  refine (O.text 10 w4).mono ?_
  rintro e w5 ⟨rfl, hb5⟩
  have HB5 := Lib.hid (belowT HB4.out hb5)
  clear hb5 HB4
  rw [f4]
  go_wp2_with fail
  refine (O.text 64 w5).mono ?_
  rintro e w6 ⟨rfl, hb6⟩
  have HB6 := Lib.hid (belowT HB5.out hb6)
  clear hb6 HB5
  rw [f5]
  go_wp2_with fail
  refine (O.place 3 w6 (HP.out.keep HB6.out)).mono ?_
  rintro e w7 ⟨rfl, hb7⟩
  have HB7 := Lib.hid (belowT HB6.out hb7)
  clear hb7 HB6
  rw [f6]
  go_wp2_with fail
  refine (O.count 63 w7).mono ?_
  rintro e w8 ⟨rfl, hb8⟩
  have HB8 := Lib.hid (belowT HB7.out hb8)
  clear hb8 HB7
  rw [f7]
  go_wp2_with fail
  refine (O.with_ 0 5 w8).mono ?_
  rintro e w9 ⟨rfl, hb9⟩
  have HB9 := Lib.hid (belowT HB8.out hb9)
  clear hb9 HB8
  rw [f8]
  go_wp2_with fail
  refine (O.without 63 0 w9).mono ?_
  rintro e w10 ⟨rfl, hb10⟩
  have HB10 := Lib.hid (belowT HB9.out hb10)
  clear hb10 HB9
  rw [f9]
  go_wp2_with fail
  refine (O.has 63 6 w10).mono ?_
  rintro e w11 ⟨rfl, hb11⟩
  have HB11 := Lib.hid (belowT HB10.out hb11)
  clear hb11 HB10
  rw [f10]
  go_wp2_with fail
  refine (O.members 5 w11).mono ?_
  rintro e w12 ⟨v12, rfl, hi12⟩
  have HB12 := Lib.hid (belowT HB11.out hi12.below)
  obtain ⟨ba12, cap12, rfl, L12, _, _⟩ := hi12.lies
  have HL12 := Lib.hid L12
  clear hi12 L12 HB11
  rw [hl]
  go_wp2
  go_ret
  exact ⟨rfl, HB12.out⟩
end Go.Proofs.YtbohghmjaadloaaDoor
