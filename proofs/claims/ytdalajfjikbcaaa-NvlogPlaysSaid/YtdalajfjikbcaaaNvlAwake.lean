/- The laws' own example, layer 19. -/
import Derived.Test.YtdalajfjikbcaaaNvlOwn
import Derived.Test.YtdalajfjikbcaaaV64
namespace Go.Proofs.Ytdalajfjikbcaaa
open Go.RowKit

set_option maxHeartbeats 8000000 in
set_option maxRecDepth 100000 in
theorem awake_any (O : Own19) (w : World) :
    Calls Try.prog 6 #[] w fun e w' => e = .returned (.bool true) ∧ Below w.heap.size w w' := by
  obtain ⟨M, K, L, s1, l1, d1, s2, l2, d2, s3, l3, d3, d0, s0, z0⟩ := awake_facts
  have ON := Lib.hid O.new
  have S1 : Hid (∀ (w : World) (ba : Option Addr) (cap : Nat), Came w ba cap zeroM → Calls Try.prog 11 #[.slice ba 24 cap, .agg #[.int .i64 1, .int .i64 0, .int .i64 0], .int .i64 99] w fun e w' => ∃ b2 c2, e = .returned (.tuple #[.slice b2 24 c2, .int .i64 0]) ∧ Came w' b2 c2 M ∧ Below w.heap.size w w') := Lib.hid fun w ba cap C => by
    have := O.save w ba cap zeroM ⟨1, 0, 0⟩ 99 C (by decide)
    rw [s1] at this
    simp only [l1] at this
    exact this
  have S2 : Hid (∀ (w : World) (ba : Option Addr) (cap : Nat), Came w ba cap M → Calls Try.prog 11 #[.slice ba 24 cap, .agg #[.int .i64 3, .int .i64 0, .int .i64 0], .int .i64 5] w fun e w' => ∃ b2 c2, e = .returned (.tuple #[.slice b2 24 c2, .int .i64 0]) ∧ Came w' b2 c2 K ∧ Below w.heap.size w w') := Lib.hid fun w ba cap C => by
    have := O.save w ba cap M ⟨3, 0, 0⟩ 5 C (by omega)
    rw [s2] at this
    simp only [l1, l2] at this
    exact this
  have S3 : Hid (∀ (w : World) (ba : Option Addr) (cap : Nat), Came w ba cap M → Calls Try.prog 11 #[.slice ba 24 cap, .agg #[.int .i64 3, .int .i64 0, .int .i64 0], .int .i64 12] w fun e w' => ∃ b2 c2, e = .returned (.tuple #[.slice b2 24 c2, .int .i64 0]) ∧ Came w' b2 c2 L ∧ Below w.heap.size w w') := Lib.hid fun w ba cap C => by
    have := O.save w ba cap M ⟨3, 0, 0⟩ 12 C (by omega)
    rw [s3] at this
    simp only [l1, l3] at this
    exact this
  have S0 : Hid (∀ (w : World), Calls Try.prog 11 #[.slice none 0 0, .agg #[.int .i64 0, .int .i64 0, .int .i64 0], .int .i64 5] w fun e w' => ∃ b2 c2, e = .returned (.tuple #[.slice b2 0 c2, .int .i64 1]) ∧ Below w.heap.size w w') := Lib.hid fun w => by
    have := O.save w none 0 [] nt0 5 (none_come w) (by decide)
    rw [s0] at this
    exact this.mono fun e w' ⟨b2, c2, h1, _, h3⟩ => ⟨b2, c2, h1, h3⟩
  have LD : ∀ (P : List UInt8) (x y : Int), P.length = 24 → loadF P = (⟨x, 0, 0⟩, y) → Hid (∀ (w : World) (ba : Option Addr) (cap : Nat), Came w ba cap P → Calls Try.prog 13 #[.slice ba 24 cap] w fun e w' => e = .returned (.tuple #[.agg #[.int .i64 x, .int .i64 0, .int .i64 0], .int .i64 y]) ∧ Below w.heap.size w w') := fun P x y hl hd => Lib.hid fun w ba cap C => by
    have := O.load w ba cap P C (by omega)
    rw [hd, hl] at this
    exact this
  have D1 := LD M 1 0 l1 d1
  have D2 := LD K 1 0 l2 d2
  have D3 := LD L 3 0 l3 d3
  have D0 := LD zeroM 0 9 (by decide) d0
  have SP : Hid (∀ (w : World) (ba : Option Addr) (cap : Nat), Came w ba cap M → Calls Try.prog 7 #[.slice ba 24 cap, .int .i64 3] w fun e w' => ∃ b2 c2, e = .returned (.slice b2 24 c2) ∧ Below w.heap.size w w') := Lib.hid fun w ba cap C => by
    have := O.spoil w ba cap M 3 C (by omega)
    rw [z0, l1] at this
    exact this.mono fun e w' ⟨b2, c2, h1, _, h3⟩ => ⟨b2, c2, h1, h3⟩
  clear s1 l1 d1 s2 l2 d2 s3 l3 d3 d0 s0 z0 LD
  go_enter Try.func6, Try.ntmps6
  go_wp2_with fail
  refine (ON.out w).mono ?_; rintro e w1 ⟨b1, c1, rfl, C1, hb1⟩
  have HB1 := Lib.hid hb1
  have X := Lib.hid (S1.out w1 b1 c1 C1)
  clear hb1 C1 S1
  go_wp2_with fail
  refine X.out.mono ?_; rintro e w2 ⟨b2, c2, rfl, C2, hb2⟩
  have HB2 := Lib.hid (belowT HB1.out hb2)
  have M2 := Lib.hid C2
  have X := Lib.hid (D1.out w2 b2 c2 C2)
  clear hb2 C2 HB1 D1
  go_wp2_with fail
  refine X.out.mono ?_; rintro e w3 ⟨rfl, hb3⟩
  have hb3a := belowT hb3 (below1 w3 (.cells #[.int .i64 1, .int .i64 0, .int .i64 0] 26))
  have HB3 := Lib.hid (belowT HB2.out hb3a)
  have M3 := Lib.hid (M2.out.keep hb3a)
  have K3 := Lib.hid (hasl w3 [.int .i64 1, .int .i64 0, .int .i64 0] 26)
  have X := Lib.hid (S2.out _ b2 c2 M3.out)
  clear hb3 hb3a HB2 M2 S2
  go_wp2_with fail
  refine X.out.mono ?_; rintro e w4 ⟨b4, c4, rfl, C4, hb4⟩
  have HB4 := Lib.hid (belowT HB3.out hb4)
  have M4 := Lib.hid (M3.out.keep hb4)
  have K4 := Lib.hid (K3.out.keep hb4)
  have X := Lib.hid (D2.out w4 b4 c4 C4)
  clear hb4 C4 HB3 D2 M3 K3
  go_wp2_with fail
  refine X.out.mono ?_; rintro e w5 ⟨rfl, hb5⟩
  have hb5a := belowT hb5 (below1 w5 (.cells #[.int .i64 1, .int .i64 0, .int .i64 0] 26))
  have HB5 := Lib.hid (belowT HB4.out hb5a)
  have M5 := Lib.hid (M4.out.keep hb5a)
  have K5 := Lib.hid (K4.out.keep hb5a)
  have N5 := Lib.hid (hasl w5 [.int .i64 1, .int .i64 0, .int .i64 0] 26)
  have X := Lib.hid (S3.out _ b2 c2 M5.out)
  clear hb5 hb5a HB4 M4 S3 K4
  go_wp2_with fail
  refine X.out.mono ?_; rintro e w6 ⟨b6, c6, rfl, C6, hb6⟩
  have HB6 := Lib.hid (belowT HB5.out hb6)
  have M6 := Lib.hid (M5.out.keep hb6)
  have K6 := Lib.hid (K5.out.keep hb6)
  have N6 := Lib.hid (N5.out.keep hb6)
  have X := Lib.hid (D3.out w6 b6 c6 C6)
  clear hb6 C6 HB5 D3 M5 K5 N5
  go_wp2_with fail
  refine X.out.mono ?_; rintro e w7 ⟨rfl, hb7⟩
  have hb7a := belowT hb7 (below1 w7 (.cells #[.int .i64 3, .int .i64 0, .int .i64 0] 26))
  have HB7 := Lib.hid (belowT HB6.out hb7a)
  have M7 := Lib.hid (M6.out.keep hb7a)
  have K7 := Lib.hid (K6.out.keep hb7a)
  have N7 := Lib.hid (N6.out.keep hb7a)
  have P7 := Lib.hid (hasl w7 [.int .i64 3, .int .i64 0, .int .i64 0] 26)
  clear hb7 hb7a HB6 M6 K6 N6
  go_wp2_with fail
  refine (ON.out _).mono ?_; rintro e w8 ⟨b8, c8, rfl, C8, hb8⟩
  have X := Lib.hid (D0.out w8 b8 c8 C8)
  have HB8 := Lib.hid (belowT HB7.out hb8)
  have M8 := Lib.hid (M7.out.keep hb8)
  have K8 := Lib.hid (K7.out.keep hb8)
  have N8 := Lib.hid (N7.out.keep hb8)
  have P8 := Lib.hid (P7.out.keep hb8)
  clear hb8 C8 D0 HB7 M7 K7 N7 P7 ON
  go_wp2_with fail
  refine X.out.mono ?_; rintro e w9 ⟨rfl, hb9⟩
  have hb9a := belowT hb9 (below1 w9 (.cells #[.int .i64 0, .int .i64 0, .int .i64 0] 26))
  have HB9 := Lib.hid (belowT HB8.out hb9a)
  have M9 := Lib.hid (M8.out.keep hb9a)
  have K9 := Lib.hid (K8.out.keep hb9a)
  have N9 := Lib.hid (N8.out.keep hb9a)
  have P9 := Lib.hid (P8.out.keep hb9a)
  clear hb9 hb9a HB8 M8 K8 N8 P8
  go_wp2_with fail
  refine (S0.out _).mono ?_; rintro e wa ⟨b10, c10, rfl, hb10⟩
  have HB10 := Lib.hid (belowT HB9.out hb10)
  have k0 := (K9.out.keep hb10).at 0 rfl
  have n0 := (N9.out.keep hb10).at 0 rfl
  have p0 := (P9.out.keep hb10).at 0 rfl
  have X := Lib.hid (SP.out wa b2 c2 (M9.out.keep hb10))
  clear hb10 HB9 M9 K9 N9 P9 S0 SP
  go_wp2_with fail
  refine X.out.mono ?_; rintro e wb ⟨b11, c11, rfl, hb11⟩
  have HB11 := Lib.hid (belowT HB10.out hb11)
  clear hb11 X HB10 k0 n0 p0
  go_wp2
  go_ret
  exact ⟨rfl, HB11.out⟩
end Go.Proofs.Ytdalajfjikbcaaa
