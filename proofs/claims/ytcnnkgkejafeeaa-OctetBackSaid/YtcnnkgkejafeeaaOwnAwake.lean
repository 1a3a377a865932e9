/- The law's own examples: awake. -/
import Derived.Test.YtcnnkgkejafeeaaOwnText
import Derived.Test.YtcnnkgkejafeeaaBytesStr
namespace Go.Proofs.Ytcnnkgkejafeeaa
open Go.RowKit

theorem lies_alloc (w : World) (l : List UInt8) (t : TypeId) : Lies (w.alloc (.cells (vals l).toArray t)) w.heap.size 0 l := by
  intro j hj
  simp [vals, List.getD, hj]

theorem bytes_alloc (w : World) (l : List UInt8) (t : TypeId) (ht : t = 5) (hl : l.length ≤ 1024) :
    Bytes w.heap.size w (w.alloc (.cells (vals l).toArray t)) (.slice (some ⟨w.heap.size, 0, none⟩) l.length l.length) l := by
  subst ht
  refine ⟨⟨by simp [vals], Or.inr ⟨w.heap.size, l.length, (vals l).toArray, (0, 0), rfl, Nat.le_refl _, by show (w.heap.push _)[w.heap.size]? = _; simp, Nat.zero_le _, Nat.le_refl _, by unfold maxLen; omega, by simp [vals], ?_⟩⟩, below1 w _, by simp⟩
  rw [List.take_of_length_le (by simp [vals])]

namespace Own

theorem Put_bytes (n k : Nat) (width : Int) (w : World) (h1 : (n : Int) ≤ 18446744073709551615) (hk : min (max width 0) 8 = (k : Int)) :
    Calls Try.prog 18 #[.int .u64 n, .int .i64 width] w fun e w' => ∃ v, e = .returned v ∧ Bytes w.heap.size w w' v (Oct.be k n) :=
  (Put_any n k width w h1 hk).mono fun e w' h => ⟨_, h.1, by
    rw [h.2]
    have b := bytes_alloc w (Oct.be k n) _ rfl (by rw [Oct.be_length]; omega)
    rw [Oct.be_length] at b
    exact b⟩

theorem PutSigned_bytes (n : Int) (k u : Nat) (w : World) (h1 : (1 : Int) ≤ k) (h2 : (k : Int) ≤ 8) (hu : IntKind.u64.wrap n = (u : Int))
    (c : (n / 2 ^ (8 * k - 1) != 0) = false ∨ (n / 2 ^ (8 * k - 1) != 0) = true ∧ (n / 2 ^ (8 * k - 1) != -1) = false) :
    Calls Try.prog 8 #[.int .i64 n, .int .i64 k] w fun e w' => ∃ v, e = .returned (.tuple #[v, .int .i64 0]) ∧ Bytes w.heap.size w w' v (Oct.be k u) :=
  have hu2 : (u : Int) ≤ 18446744073709551615 := by rw [← hu, IntKind.wrap_u64]; omega
  (PutSigned_ok n k u w h1 h2 hu c (Lib.hid fun w => Put_any u k k w hu2 (by omega))).mono fun e w' h => ⟨_, h.1, by
    rw [h.2]
    have b := bytes_alloc w (Oct.be k u) _ rfl (by rw [Oct.be_length]; omega)
    rw [Oct.be_length] at b
    exact b⟩

theorem aw1 (w : World) : Calls Try.prog 8 #[.int .i64 (-2), .int .i64 2] w fun e w' => ∃ v, e = .returned (.tuple #[v, .int .i64 0]) ∧ Bytes w.heap.size w w' v [255, 254] :=
  PutSigned_bytes (-2) 2 18446744073709551614 w (by decide) (by decide) (by decide) (Or.inr ⟨by decide, by decide⟩)
theorem Signed_at (g k n m : Nat) (l : List UInt8) (W : World) (hl : l.length ≤ 1024) (h1 : (1 : Int) ≤ n) (h2 : (n : Int) ≤ 8) (h : k + n ≤ l.length) (L : Lies W g 0 l) (c : Nat) (hm : sofar l k n = m) :
    Calls Try.prog 12 #[.slice (some ⟨g, 0, none⟩) l.length c, .int .i64 k, .int .i64 n] W fun e w' => e = .returned (.tuple #[.int .i64 (Oct.sgn n m), .int .i64 0]) ∧ W = w' := by
  have hlt : m < 256 ^ n := by
    rw [← hm]
    have := Oct.num_lt0 ((l.drop k).take n)
    have e : ((l.drop k).take n).length = n := by rw [List.length_take, List.length_drop]; omega
    rw [e] at this
    exact this
  have G := Get_ok g 0 c k n l W (by omega) h1 h2 h L
  rw [hm] at G
  exact Signed_ok (some ⟨g, 0, none⟩) l.length c n m k W h1 h2 hlt (Lib.hid G)

theorem aw2 (g : Nat) (W : World) (L : Lies W g 0 [9, 255, 254]) : Calls Try.prog 12 #[.slice (some ⟨g, 0, none⟩) 3 3, .int .i64 1, .int .i64 2] W fun e w' => e = .returned (.tuple #[.int .i64 (-2), .int .i64 0]) ∧ W = w' :=
  Signed_at g 1 2 65534 [9, 255, 254] W (by decide) (by decide) (by decide) (by decide) L 3 (by decide)
theorem aw3 (g : Nat) (W : World) (L : Lies W g 0 [1, 2]) : Calls Try.prog 10 #[.slice (some ⟨g, 0, none⟩) 2 2, .int .i64 0, .int .i64 2] W fun e w' => e = .returned (.tuple #[.int .u64 258, .int .i64 0]) ∧ W = w' :=
  Get_ok g 0 2 0 2 [1, 2] W (by decide) (by decide) (by decide) (by decide) L
theorem aw4 (W : World) : Calls Try.prog 8 #[.int .i64 128, .int .i64 1] W fun e w' => e = .returned (.tuple #[.slice none 0 0, .int .i64 8]) ∧ W = w' :=
  PutSigned_over 128 1 W (by decide) (by decide) (by decide) (by decide)
theorem aw5 (W : World) : Calls Try.prog 14 #[.string ⟨#[97, 98]⟩] W fun e w' => ∃ v, e = .returned (.tuple #[v, .int .i64 0]) ∧ Bytes W.heap.size W w' v [2, 97, 98] :=
  Text_ok ⟨#[97, 98]⟩ W (by decide)
theorem aw6 (g c : Nat) (W : World) (hc : 3 ≤ c) (hc2 : (c : Int) ≤ 9223372036854775807) (L : Lies W g 0 [2, 97, 98]) : Calls Try.prog 16 #[.slice (some ⟨g, 0, none⟩) 3 c, .int .i64 0] W fun e w' => e = .returned (.tuple #[.string ⟨#[97, 98]⟩, .int .i64 3, .int .i64 0]) ∧ W = w' :=
  ReadText_ok g 0 c 0 2 [2, 97, 98] W hc hc2 (by decide) (by decide) L (Lib.hid (Get_ok g 0 c 0 1 [2, 97, 98] W (by decide) (by decide) (by decide) (by decide) L))
theorem aw7 (a : Addr) (W : World) : Calls Try.prog 10 #[.slice (some a) 1 1, .int .i64 0, .int .i64 2] W fun e w' => e = .returned (.tuple #[.int .u64 0, .int .i64 2]) ∧ W = w' :=
  Get_short (some a) 1 1 0 2 W (by decide) (by decide) (by decide) (by decide) (by decide)
theorem aw8 (W : World) : Calls Try.prog 18 #[.int .u64 258, .int .i64 3] W fun e w' => ∃ v, e = .returned v ∧ Bytes W.heap.size W w' v [0, 1, 2] :=
  Put_bytes 258 3 3 W (by decide) (by decide)

set_option maxHeartbeats 4000000 in
set_option maxRecDepth 100000 in
theorem awake_any (w : World) : Calls Try.prog 7 #[] w fun e w' => e = .returned (.bool true) ∧ Below w.heap.size w w' := by
  have S1 := Lib.hid aw1; have S2 := Lib.hid aw2; have S3 := Lib.hid aw3; have S4 := Lib.hid aw4; have S5 := Lib.hid aw5; have S6 := Lib.hid aw6; have S7 := Lib.hid aw7; have S8 := Lib.hid aw8
  go_enter Try.func7, Try.ntmps7
  go_wp2_with fail
  refine (S1.out _).mono ?_; rintro e w1 ⟨v1, rfl, hv1⟩
  have hb1 := hv1.below
  go_wp2_with fail
  have L2 : Lies (w1.alloc (.cells #[.int .u8 9, .int .u8 255, .int .u8 254] 5)) w1.heap.size 0 [9, 255, 254] := lies_alloc w1 [9, 255, 254] _
  refine (S2.out w1.heap.size _ L2).mono ?_; rintro e w2 ⟨rfl, rfl⟩
  have hb2 := belowT hb1 (below1 w1 (.cells #[.int .u8 9, .int .u8 255, .int .u8 254] 5))
  obtain ⟨W2, hW2⟩ : ∃ W2, W2 = w1.alloc (.cells #[.int .u8 9, .int .u8 255, .int .u8 254] 5) := ⟨_, rfl⟩
  have k2 : Below w1.heap.size w1 W2 := hW2 ▸ below1 w1 _
  rw [← hW2] at hb2 ⊢
  clear hW2 L2
  go_wp2_with fail
  have L3 : Lies (W2.alloc (.cells #[.int .u8 1, .int .u8 2] 5)) W2.heap.size 0 [1, 2] := lies_alloc W2 [1, 2] _
  refine (S3.out W2.heap.size _ L3).mono ?_; rintro e w3 ⟨rfl, rfl⟩
  have hb3 := belowT hb2 (below1 W2 (.cells #[.int .u8 1, .int .u8 2] 5))
  obtain ⟨W3, hW3⟩ : ∃ W3, W3 = W2.alloc (.cells #[.int .u8 1, .int .u8 2] 5) := ⟨_, rfl⟩
  have k3 : Below W2.heap.size W2 W3 := hW3 ▸ below1 W2 _
  rw [← hW3] at hb3 ⊢
  clear hW3 L3
  go_wp2_with fail
  refine (S4.out _).mono ?_; rintro e w4 ⟨rfl, rfl⟩
  go_wp2_with fail
  refine (S5.out _).mono ?_; rintro e w5 ⟨v5, rfl, hv5⟩
  have hb5 := belowT hb3 hv5.below
  obtain ⟨rfl, h0⟩ | ⟨g5, c5, rfl, L5⟩ := hv5.lies
  · cases h0
  obtain ⟨_, hc5, hc6⟩ := hv5.cap_le (by simp)
  go_wp2_with fail
  refine (S6.out g5 c5 _ hc5 (by unfold maxLen at hc6; omega) L5).mono ?_; rintro e w6 ⟨rfl, rfl⟩
  go_wp2_with fail
  refine (S7.out _ _).mono ?_; rintro e w7 ⟨rfl, rfl⟩
  have k7 : Below w1.heap.size w1 (w5.alloc (.cells #[.int .u8 1] 5)) := belowT (belowT (belowT k2 k3) hv5.below) (below1 w5 _)
  have hb7 := belowT hb5 (below1 w5 (.cells #[.int .u8 1] 5))
  have cv1 := hv1.string _ k7
  obtain ⟨W7, hW7⟩ : ∃ W7, W7 = w5.alloc (.cells #[.int .u8 1] 5) := ⟨_, rfl⟩
  rw [← hW7] at hb7 cv1 ⊢
  clear hW7 k7
  go_wp2_with fail
  refine (S8.out _).mono ?_; rintro e w8 ⟨v8, rfl, hv8⟩
  have cv8 := hv8.string _ (Below.refl _ _)
  have hb8 := belowT hb7 hv8.below
  go_wp2_with fail
  go_ret
  exact ⟨rfl, hb8⟩

end Own
end Go.Proofs.Ytcnnkgkejafeeaa
