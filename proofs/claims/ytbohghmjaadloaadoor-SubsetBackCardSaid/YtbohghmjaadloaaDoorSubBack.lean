/- SubsetBack's law. -/
import Derived.Test.YtbohghmjaadloaaDoorSubInts
import Derived.Test.YtbohghmjaadloaaDoorSubAwake
namespace Go.Proofs.YtbohghmjaadloaaDoor
open Go.RowKit

set_option maxHeartbeats 8000000 in
set_option maxRecDepth 100000 in
theorem Back11_all (O : Own11) (a : Int) (s : ByteArray) (w : World) (hp : PairsAt w) :
    Calls Tryd.prog 3 #[.int .i64 a, .string s] w fun e w' => e = .returned (.bool true) ∧ Below w.heap.size w w' := by
  have HP := Lib.hid hp
  clear hp
  by_cases hs : 300 < (s.size : Int)
  · go_enter Tryd.func3, Tryd.ntmps3
    go_wp2_with fail
    refine (awake_any O w HP.out).mono ?_
    rintro e w1 ⟨rfl, hb1⟩
    have HB := Lib.hid hb1
    clear hb1
    go_wp2
    go_ret
    exact ⟨rfl, HB.out⟩
  · have e63 := Sub.and63 a
    have p0 := parse_text a
    have HT := text_size a
    have hsz : s.size ≤ 300 := by omega
    go_enter Tryd.func3, Tryd.ntmps3
    go_wp2_with fail
    refine (O.text a w).mono ?_
    rintro e w1 ⟨rfl, hb1⟩
    have HB1 := Lib.hid hb1
    clear hb1
    go_wp2_with fail
    refine (O.parse (textI a) w1 HT).mono ?_
    rintro e w2 ⟨rfl, hb2⟩
    have HB2 := Lib.hid (belowT HB1.out hb2)
    clear hb2 HB1 HT
    rw [p0]
    clear p0
    generalize (Sub.low a : Int) = m at *
    go_wp2_with fail
    refine (O.parse s w2 hsz).mono ?_
    rintro e w3 ⟨rfl, hb3⟩
    have HB3 := Lib.hid (belowT HB2.out hb3)
    clear hb3 HB2
    unfold parseI
    cases hset : setOf s with
    | none =>
      clear hset
      go_wp2_with fail
      refine (awake_any O w3 (HP.out.keep HB3.out)).mono ?_
      rintro e w4 ⟨rfl, hb4⟩
      have HB4 := Lib.hid (belowT HB3.out hb4)
      clear hb4 HB3
      go_wp2
      go_ret
      exact ⟨rfl, HB4.out⟩
    | some k =>
      obtain ⟨hk, ht⟩ := text_of_set hset
      clear hset
      go_wp2_with fail
      refine (O.text k w3).mono ?_
      rintro e w4 ⟨rfl, hb4⟩
      have HB4 := Lib.hid (belowT HB3.out hb4)
      clear hb4 HB3
      rw [ht]
      clear ht
      go_wp2_with fail
      refine (awake_any O w4 (HP.out.keep HB4.out)).mono ?_
      rintro e w5 ⟨rfl, hb5⟩
      have HB5 := Lib.hid (belowT HB4.out hb5)
      clear hb5 HB4
      go_wp2
      go_ret
      exact ⟨rfl, HB5.out⟩

end Go.Proofs.YtbohghmjaadloaaDoor
