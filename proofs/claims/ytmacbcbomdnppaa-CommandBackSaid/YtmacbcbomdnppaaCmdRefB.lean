/- The document's own Bytes for layer 34. -/
import Derived.Test.YtmacbcbomdnppaaCmdRefA
import Derived.Test.YtmacbcbomdnppaaV64
namespace Go.Proofs.Ytmacbcbomdnppaa
open Go.RowKit

namespace Ref34
set_option maxRecDepth 100000 in
theorem Bytes_no (c : Cm) (w : World) (h : rightC c = false) :
    Calls Try.prog 8 #[cv c] w fun e w' => e = .returned (.tuple #[.slice none 0 0, .int .i64 1]) ∧ Below w.heap.size w w' := by
  have HR := Lib.hid fun w => Right_any c w
  rw [h] at HR
  obtain ⟨k, a⟩ := c
  simp only [cv] at HR ⊢
  have B1 := Lib.hid (below1 w (.cells #[.int .i64 k, .int .i64 a] 23))
  go_enter Try.func8, Try.ntmps8
  go_wp2_with fail
  refine (HR.out _).mono ?_; rintro e w1 ⟨rfl, hb1⟩
  have HB := Lib.hid (belowT B1.out hb1)
  clear hb1 B1
  go_wp2
  go_ret2
  exact ⟨rfl, HB.out⟩

set_option maxHeartbeats 4000000 in
set_option maxRecDepth 100000 in
theorem bytes_core (k a : Int) (c1 c2 : UInt8) (body : List UInt8) (x : BitVec 16) (w : World) (e1 : IntKind.u8.wrap k = (c1.toNat : Int)) (e2 : IntKind.u8.wrap a = (c2.toNat : Int))
    (hbody : [195, c1, c2] = body) (hx : sumOf body = x)
    (HR : Hid (∀ w, Calls Try.prog 12 #[.agg #[.int .i64 k, .int .i64 a]] w fun e w' => e = .returned (.bool true) ∧ Below w.heap.size w w')) :
    Calls Try.prog 8 #[.agg #[.int .i64 k, .int .i64 a]] w fun e w' => ∃ u, e = .returned (.tuple #[u, .int .i64 0]) ∧ Bytes w.heap.size w w' u (body ++ [hiB x, loB x]) := by
  have B1 := Lib.hid (below1 w (.cells #[.int .i64 k, .int .i64 a] 23))
  have H1 := Lib.hid (hasl w [.int .i64 k, .int .i64 a] 23)
  have HL := Lib.hid (And.intro hbody hx)
  clear hbody hx
  go_enter Try.func8, Try.ntmps8
  go_wp2_with fail
  refine (HR.out _).mono ?_; rintro e w1 ⟨rfl, hb1⟩
  have HB1 := Lib.hid (belowT B1.out hb1)
  have H2 := H1.out.keep hb1
  have q0 := H2.at 0 rfl
  have q1 := H2.at 1 rfl
  clear hb1 B1 H1 H2 HR
  have hvA : Bytes w1.heap.size w1 (w1.alloc (.cells #[.int .u8 195, .int .u8 (c1.toNat : Int), .int .u8 (c2.toNat : Int)] 5)) (.slice (some ⟨w1.heap.size, 0, none⟩) 3 3) [195, c1, c2] := bytes_alloc w1 [195, c1, c2] _ rfl (by simp)
  have C5 : Came (w1.alloc (.cells #[.int .u8 195, .int .u8 (c1.toNat : Int), .int .u8 (c2.toNat : Int)] 5)) (some ⟨w1.heap.size, 0, none⟩) 3 [195, c1, c2] := ⟨by simp, by decide, fun h => (by cases h), fun _ => ⟨_, _, rfl, lies_alloc w1 [195, c1, c2] _⟩⟩
  have OF := Ref6.Of_came C5
  rw [show Crc.sum (bv [195, c1, c2]) = x from by rw [HL.out.1]; exact HL.out.2] at OF
  have OF : Hid (Calls Try.prog 19 #[.slice (some ⟨w1.heap.size, 0, none⟩) 3 3] (w1.alloc (.cells #[.int .u8 195, .int .u8 (c1.toNat : Int), .int .u8 (c2.toNat : Int)] 5)) fun e w' => e = .returned (.int .u16 (x.toNat : Int)) ∧ (w1.alloc (.cells #[.int .u8 195, .int .u8 (c1.toNat : Int), .int .u8 (c2.toNat : Int)] 5)) = w') := Lib.hid OF
  have HV := Lib.hid hvA
  have BA := Lib.hid (below1 w1 (.cells #[.int .u8 195, .int .u8 (c1.toNat : Int), .int .u8 (c2.toNat : Int)] 5))
  clear C5 hvA
  go_wp2_with fail
  refine OF.out.mono ?_; rintro e wx ⟨rfl, rfl⟩
  have hx1 : (x.toNat : Int) ≤ 18446744073709551615 := by have := x.isLt; omega
  have ew : IntKind.u64.wrap (x.toNat : Int) = (x.toNat : Int) := by rw [IntKind.wrap_u64]; omega
  obtain ⟨g, hg⟩ : ∃ g, g = w1.heap.size := ⟨_, rfl⟩
  have HV := HV.out.low HB1.out
  have BB := belowT HB1.out BA.out
  obtain ⟨W2, hW2⟩ : ∃ W2, W2 = w1.alloc (.cells #[.int .u8 195, .int .u8 (c1.toNat : Int), .int .u8 (c2.toNat : Int)] 5) := ⟨_, rfl⟩
  rw [← hW2] at HV BB ⊢
  rw [← hg] at HV ⊢
  have HV := Lib.hid HV
  have BB := Lib.hid BB
  clear OF BA hW2 hg q0 q1 e1 e2
  go_wp2_with fail
  refine (Ref.Put_any x.toNat 2 2 W2 hx1 (by decide)).mono ?_; rintro e w8 ⟨rfl, hw⟩
  have hp : Lies w8 W2.heap.size 0 (Oct.be 2 x.toNat) := hw ▸ lies_alloc _ _ _
  have hv8 := HV.out.keep (hw ▸ below1 _ _ : Below W2.heap.size W2 w8)
  rw [be2_sum] at hp
  clear hw HV
  go_wp2_with (at_builtin; refine list_append_bytes (v := .slice (some ⟨g, 0, none⟩) 3 3) (m := [hiB x, loB x]) (c := 2) rfl rfl rfl hv8 rfl hp ?c2 ?_)
  case c2 => simp
  intro v9 w9 hv9
  replace hv9 : Bytes w.heap.size w w9 v9 (body ++ [hiB x, loB x]) := by rw [← HL.out.1]; exact hv9
  have hv10 := Lib.hid hv9
  clear hv9 hv8 hp
  go_wp2
  go_ret2
  exact ⟨v9, rfl, hv10.out⟩

theorem Bytes_ok (c : Cm) (w : World) (h : rightC c = true) :
    Calls Try.prog 8 #[cv c] w fun e w' => ∃ u, e = .returned (.tuple #[u, .int .i64 0]) ∧ Bytes w.heap.size w w' u (cmdC c) := by
  obtain ⟨h1, h2, h3, h4⟩ := right_rng h
  have HR := Lib.hid fun w => Right_any c w
  rw [h] at HR
  exact bytes_core c.kind c.arg (UInt8.ofNat c.kind.toNat) (UInt8.ofNat c.arg.toNat) (bodyC c) (sumOf (bodyC c)) w (u8_nat _ h1 h2) (u8_nat _ h3 h4) rfl rfl HR

/-- Bytes, right or not -/
theorem Bytes_any (c : Cm) (w : World) :
    Calls Try.prog 8 #[cv c] w fun e w' => ∃ ba cap, e = .returned (.tuple #[.slice ba (bytesC c).1.length cap, .int .i64 (bytesC c).2]) ∧ Came w' ba cap (bytesC c).1 ∧ Below w.heap.size w w' := by
  unfold bytesC
  cases h : rightC c
  · refine (Bytes_no c w h).mono fun e w' hk => ?_
    obtain ⟨he, hb⟩ := hk
    exact ⟨none, 0, he, none_come _, hb⟩
  · refine (Bytes_ok c w h).mono fun e w' hk => ?_
    obtain ⟨u, he, hu⟩ := hk
    obtain ⟨ba, cap, rfl, C⟩ := hu.came
    exact ⟨ba, cap, he, C, hu.below⟩
end Ref34
end Go.Proofs.Ytmacbcbomdnppaa
