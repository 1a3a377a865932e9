/- FrameTurned's law. -/
import Derived.Test.YtmbmpgedoopjlaaFrmAwake
import Derived.Test.YtmbmpgedoopjlaaSp
namespace Go.Proofs.Ytmbmpgedoopjlaa
open Go.RowKit

/-- a number from 0 to ahead of k, as the laws make it -/
theorem umod (a k : Int) (h0 : 0 < k) (h1 : k ≤ 1000) : ∃ n : Nat, (n : Int) < k ∧ wrap64 ((IntKind.u64.wrap a).tmod k) = n := by
  have hw : 0 ≤ IntKind.u64.wrap a := by rw [IntKind.wrap_u64]; omega
  have hm := Int.tmod_lt_of_pos (IntKind.u64.wrap a) h0
  have hz := Int.tmod_nonneg k hw
  refine ⟨((IntKind.u64.wrap a).tmod k).toNat, by omega, ?_⟩
  generalize (IntKind.u64.wrap a).tmod k = z at *
  unfold wrap64
  omega

theorem bit_of (i : Nat) (hi : i < 8) : ∃ m : UInt8, m ≠ 0 ∧ (2 : Int) ^ i % 256 = (m.toNat : Int) := by
  rcases (show i = 0 ∨ i = 1 ∨ i = 2 ∨ i = 3 ∨ i = 4 ∨ i = 5 ∨ i = 6 ∨ i = 7 by omega) with rfl | rfl | rfl | rfl | rfl | rfl | rfl | rfl
  · exact ⟨1, by decide, by decide⟩
  · exact ⟨2, by decide, by decide⟩
  · exact ⟨4, by decide, by decide⟩
  · exact ⟨8, by decide, by decide⟩
  · exact ⟨16, by decide, by decide⟩
  · exact ⟨32, by decide, by decide⟩
  · exact ⟨64, by decide, by decide⟩
  · exact ⟨128, by decide, by decide⟩

set_option maxHeartbeats 4000000 in
set_option maxRecDepth 100000 in
theorem turned_no (O : Own14) (f : Fr) (a : Int) (w : World) (h : rightF f = false) :
    Calls Try.prog 5 #[fv f, .int .i64 a] w fun e w' => e = .returned (.bool true) ∧ Below w.heap.size w w' := by
  have ON := Lib.hid fun w => O.no f w h
  have OR := Lib.hid fun w => O.right f w
  rw [h] at OR
  have AW := Lib.hid fun w => awake_any O w
  obtain ⟨s, c, b, v⟩ := f
  simp only [fv] at ON OR ⊢
  have B1 := Lib.hid (below1 w (.cells #[.int .i64 s, .int .i64 c, .bool b, .int .i64 v] 23))
  have H1 := Lib.hid (hasl w [.int .i64 s, .int .i64 c, .bool b, .int .i64 v] 23)
  go_enter Try.func5, Try.ntmps5
  go_wp2_with fail
  refine (ON.out _).mono ?_; rintro e w1 ⟨rfl, hb1⟩
  have HB1 := Lib.hid (belowT B1.out hb1)
  have H2 := H1.out.keep hb1
  have q0 := H2.at 0 rfl
  have q1 := H2.at 1 rfl
  have q2 := H2.at 2 rfl
  have q3 := H2.at 3 rfl
  clear H1 H2 B1 hb1 ON
  go_wp2_with fail
  refine (OR.out _).mono ?_; rintro e w2 ⟨rfl, hb2⟩
  have HB2 := Lib.hid (belowT HB1.out hb2)
  clear HB1 hb2 q0 q1 q2 q3
  go_wp2_with fail
  refine (AW.out _).mono ?_; rintro e w3 ⟨rfl, hb3⟩
  have HB3 := Lib.hid (belowT HB2.out hb3)
  clear HB2 hb3
  go_wp2
  go_ret
  exact ⟨rfl, HB3.out⟩

set_option maxHeartbeats 4000000 in
set_option maxRecDepth 100000 in
theorem turned_yes (O : Own14) (f : Fr) (a : Int) (k : Nat) (w : World) (h : rightF f = true) (hk : (k : Int) < 88) (ek : wrap64 ((IntKind.u64.wrap a).tmod 88) = k) :
    Calls Try.prog 5 #[fv f, .int .i64 a] w fun e w' => e = .returned (.bool true) ∧ Below w.heap.size w w' := by
  have OB := Lib.hid fun w => O.bytes f w h
  have AW := Lib.hid fun w => awake_any O w
  have RT := Lib.hid fun q m hq hm => read_turned f q m hq hm
  have hl := frame_length f
  generalize frameF f = L at *
  obtain ⟨s, c, b, v⟩ := f
  simp only [fv] at OB ⊢
  have B1 := Lib.hid (below1 w (.cells #[.int .i64 s, .int .i64 c, .bool b, .int .i64 v] 23))
  go_enter Try.func5, Try.ntmps5
  go_wp2_with fail
  refine (OB.out _).mono ?_; rintro e w1 ⟨u, rfl, hu⟩
  have HB1 := Lib.hid (belowT B1.out hu.below)
  obtain ⟨g, cp, rfl, M⟩ := hu.mine (by omega)
  have q := M.lies (k / 8) (by omega)
  have fq := M.free (k / 8) (by omega)
  rw [Nat.zero_add] at q
  obtain ⟨y, hy⟩ : ∃ y, y = L.getD (k / 8) 0 := ⟨_, rfl⟩
  rw [← hy] at q
  have HY := Lib.hid hy
  have HM := Lib.hid M
  clear M hu OB hy
  obtain ⟨m, hm0, hm⟩ := bit_of (k % 8) (by omega)
  obtain ⟨z, hz⟩ : ∃ z, z = y ^^^ m := ⟨_, rfl⟩
  have ex : bits .xor .u8 (y.toNat : Int) (2 ^ (k % 8) % 256) = (z.toNat : Int) := by rw [hm, hz]; exact xor_u8 y m
  have HM0 := Lib.hid hm0
  have HZ := Lib.hid hz
  clear hm hm0 hz
  rw [hl]
  go_wp2_with fail
  clear q fq ex
  have M2 := HM.out.set (k / 8) z
  have C2 := M2.came
  have hl2 : (L.set (k / 8) z).length = 11 := by rw [List.length_set, hl]
  have R := O.read _ _ _ _ C2 (by omega)
  have hne := RT.out (k / 8) m (by omega) HM0.out
  rw [← HY.out, ← HZ.out] at hne
  rw [hl2] at R
  have HBM := Lib.hid (belowT B1.out M2.below)
  generalize readF (L.set (k / 8) z) = rr at *
  obtain ⟨⟨s', c', b', v'⟩, er⟩ := rr
  simp only [fv] at R hne
  have hne' : (er != 0) = true := by simpa using hne
  clear M2 C2 HM HZ HY HM0 hl2 RT hne HB1 B1
  refine R.mono ?_; rintro e w3 ⟨rfl, hb3⟩
  have HB3 := Lib.hid (belowT HBM.out hb3)
  clear HBM hb3 R
  go_wp2_with fail
  refine (AW.out _).mono ?_; rintro e w4 ⟨rfl, hb4⟩
  have HB4 := Lib.hid (belowT (belowT HB3.out (below1 _ _)) hb4)
  clear HB3 hb4
  go_wp2
  go_ret
  exact ⟨rfl, HB4.out⟩

theorem Turned_all (O : Own14) (f : Fr) (a : Int) (w : World) :
    Calls Try.prog 5 #[fv f, .int .i64 a] w fun e w' => e = .returned (.bool true) ∧ Below w.heap.size w w' := by
  cases h : rightF f
  · exact turned_no O f a w h
  · obtain ⟨k, hk, ek⟩ := umod a 88 (by decide) (by decide)
    exact turned_yes O f a k w h hk ek
end Go.Proofs.Ytmbmpgedoopjlaa
