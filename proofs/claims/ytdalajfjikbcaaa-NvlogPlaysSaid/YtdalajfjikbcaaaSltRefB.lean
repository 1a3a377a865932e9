/- Bytes of the document's own answers for layer 18. -/
import Derived.Test.YtdalajfjikbcaaaSltRefA
import Derived.Test.YtdalajfjikbcaaaV64
namespace Go.Proofs.Ytdalajfjikbcaaa
open Go.RowKit

theorem u8_nat (z : Int) (h0 : 0 ≤ z) (h1 : z < 256) : IntKind.u8.wrap z = ((UInt8.ofNat z.toNat).toNat : Int) := by
  rw [IntKind.wrap_u8, byte_of' _ (by omega)]
  omega
theorem be2_sum (x : BitVec 16) : Oct.be 2 x.toNat = [hiB x, loB x] := by
  have h1 := hi_u16 x
  have h2 := lo_u16 x
  have a : UInt8.ofNat (x.toNat / 256 % 256) = hiB x := by
    apply UInt8.toNat_inj.1
    rw [byte_of' _ (by omega)]
    show _ = (Crc.hiOf x).toNat
    have := x.isLt
    omega
  have b : UInt8.ofNat (x.toNat % 256) = loB x := by
    apply UInt8.toNat_inj.1
    rw [byte_of' _ (by omega)]
    show _ = (Crc.loOf x).toNat
    omega
  show [] ++ [UInt8.ofNat (x.toNat / 256 % 256)] ++ [UInt8.ofNat (x.toNat % 256)] = _
  rw [a, b]; rfl
theorem Bytes.low {w u x : World} {v : Value} {l : List UInt8} (h : Bytes u.heap.size u x v l) (hb : Below w.heap.size w u) : Bytes w.heap.size w x v l := by
  refine ⟨⟨h.1.1, ?_⟩, belowT hb h.2.1, Nat.le_trans hb.size h.2.2⟩
  rcases h.1.2 with hn | ⟨g, cap, cur, fz, rfl, h1, hg, rest⟩
  · exact .inl hn
  · exact .inr ⟨g, cap, cur, fz, rfl, Nat.le_trans hb.size h1, hg, rest⟩

namespace Ref18
set_option maxRecDepth 100000 in
theorem Bytes_no (n : Nt) (s : Nat) (w : World) (h : rightN n = false) :
    Calls Try.prog 23 #[nv n, .int .u32 s] w fun e w' => e = .returned (.tuple #[.slice none 0 0, .int .i64 1]) ∧ Below w.heap.size w w' := by
  have HR := Lib.hid fun w => Right_any n w
  rw [h] at HR
  obtain ⟨x, y, z⟩ := n
  simp only [nv] at HR ⊢
  have B1 := Lib.hid (below1 w (.cells #[.int .i64 x, .int .i64 y, .int .i64 z] 26))
  go_enter Try.func23, Try.ntmps23
  go_wp2_with fail
  refine (HR.out _).mono ?_; rintro e w1 ⟨rfl, hb1⟩
  have HB := Lib.hid (belowT B1.out hb1)
  clear hb1 B1
  go_wp2
  go_ret2
  exact ⟨rfl, HB.out⟩

set_option maxHeartbeats 4000000 in
set_option maxRecDepth 100000 in
theorem bytes_core (x y z : Int) (s : Nat) (g c5 c6 c7 : UInt8) (body : List UInt8) (X : BitVec 16) (w : World) (e5 : IntKind.u8.wrap x = (c5.toNat : Int)) (e6 : IntKind.u8.wrap y = (c6.toNat : Int)) (e7 : IntKind.u8.wrap z = (c7.toNat : Int))
    (hs : (s : Int) ≤ 4294967295) (hbody : [g] ++ Oct.be 4 s ++ [c5, c6, c7, 1] = body) (hlen : body.length = 9) (hx : sumOf body = X)
    (HR : Hid (∀ w, Calls Try.prog 30 #[.agg #[.int .i64 x, .int .i64 y, .int .i64 z]] w fun e w' => e = .returned (.bool true) ∧ Below w.heap.size w w'))
    (HG : Hid (∀ w, Calls Try.prog 31 #[.int .u32 s] w fun e w' => e = .returned (.int .u8 (g.toNat : Int)) ∧ w = w')) :
    Calls Try.prog 23 #[.agg #[.int .i64 x, .int .i64 y, .int .i64 z], .int .u32 s] w fun e w' => ∃ u, e = .returned (.tuple #[u, .int .i64 0]) ∧ Bytes w.heap.size w w' u (body ++ [hiB X, loB X] ++ [g]) := by
  have B1 := Lib.hid (below1 w (.cells #[.int .i64 x, .int .i64 y, .int .i64 z] 26))
  have H1 := Lib.hid (hasl w [.int .i64 x, .int .i64 y, .int .i64 z] 26)
  have HL := Lib.hid (And.intro hbody (And.intro hlen hx))
  have hbe : (Oct.be 4 s).length = 4 := Oct.be_length 4 s
  have hs64 : (s : Int) ≤ 18446744073709551615 := by omega
  have ews : IntKind.u64.wrap (s : Int) = (s : Int) := by rw [IntKind.wrap_u64]; omega
  clear hbody hlen hx
  go_enter Try.func23, Try.ntmps23
  go_wp2_with fail
  refine (HR.out _).mono ?_; rintro e w1 ⟨rfl, hb1⟩
  have HB1 := Lib.hid (belowT B1.out hb1)
  have H2 := Lib.hid (H1.out.keep hb1)
  clear H1 hb1 B1 HR
  go_wp2_with fail
  refine (HG.out _).mono ?_; rintro e w1' ⟨rfl, rfl⟩
  have hv1 : Bytes w1.heap.size w1 (w1.alloc (.cells #[.int .u8 (g.toNat : Int)] 5)) (.slice (some ⟨w1.heap.size, 0, none⟩) 1 1) [g] := bytes_alloc w1 [g] _ rfl (by simp)
  go_wp2_with fail
  refine (Ref.Put_any s 4 4 _ hs64 (by decide)).mono ?_; rintro e w2 ⟨rfl, hw⟩
  obtain ⟨wa, hwa⟩ : ∃ wa, wa = w1.alloc (.cells #[.int .u8 (g.toNat : Int)] 5) := ⟨_, rfl⟩
  rw [← hwa] at hv1 hw ⊢
  have hp : Lies w2 wa.heap.size 0 (Oct.be 4 s) := hw ▸ lies_alloc _ _ _
  have hv2 := hv1.keep (hw ▸ below1 _ _ : Below wa.heap.size wa w2)
  clear hw hv1 hwa
  go_wp2_with (at_builtin; refine list_append_bytes (v := .slice (some ⟨w1.heap.size, 0, none⟩) 1 1) (m := Oct.be 4 s) (c := 4) rfl rfl rfl hv2 (by rw [hbe]; rfl) hp ?c1 ?_)
  case c1 => rw [hbe]; simp
  intro v3 w3 hv3
  have H3 := H2.out.keep hv3.below
  have q0 := H3.at 0 rfl
  have q1 := H3.at 1 rfl
  have q2 := H3.at 2 rfl
  have hv3a := hv3.alloc (.cells #[.int .u8 (c5.toNat : Int), .int .u8 (c6.toNat : Int), .int .u8 (c7.toNat : Int), .int .u8 1] 5)
  have hp4 : Lies (w3.alloc (.cells #[.int .u8 (c5.toNat : Int), .int .u8 (c6.toNat : Int), .int .u8 (c7.toNat : Int), .int .u8 1] 5)) w3.heap.size 0 [c5, c6, c7, 1] := lies_alloc w3 [c5, c6, c7, 1] 5
  clear hv2 hp H3 H2 hv3
  go_wp2_with (at_builtin; refine list_append_bytes (v := v3) (m := [c5, c6, c7, 1]) (c := 4) rfl rfl rfl hv3a rfl hp4 ?c2 ?_)
  case c2 => simp [hbe]
  intro v4 w4 hv4
  replace hv4 : Bytes w1.heap.size w1 w4 v4 ([g] ++ Oct.be 4 s ++ [c5, c6, c7, 1]) := hv4
  rw [HL.out.1] at hv4
  obtain ⟨b4, k4, rfl, C4⟩ := hv4.came
  have hv4 := Lib.hid hv4
  clear hv3a hp4 q0 q1 q2 e5 e6 e7
  go_wp2_with fail
  refine (Ref6.Of_came C4).mono ?_; rintro e w5 ⟨rfl, rfl⟩
  have ex : Crc.sum (bv body) = X := HL.out.2.2
  rw [ex]
  have hx1 : (X.toNat : Int) ≤ 18446744073709551615 := by have := X.isLt; omega
  have ew : IntKind.u64.wrap (X.toNat : Int) = (X.toNat : Int) := by rw [IntKind.wrap_u64]; omega
  have hbl : Hid (body.length = 9) := Lib.hid HL.out.2.1
  clear C4 ex HL
  go_wp2_with fail
  refine (Ref.Put_any X.toNat 2 2 w4 hx1 (by decide)).mono ?_; rintro e w6 ⟨rfl, hw⟩
  have hp6 : Lies w6 w4.heap.size 0 (Oct.be 2 X.toNat) := hw ▸ lies_alloc _ _ _
  have hv6 := hv4.out.keep (hw ▸ below1 _ _ : Below w4.heap.size w4 w6)
  rw [be2_sum] at hp6
  clear hw hv4
  go_wp2_with (at_builtin; refine list_append_bytes (v := .slice b4 body.length k4) (m := [hiB X, loB X]) (c := 2) rfl rfl rfl hv6 rfl hp6 ?c3 ?_)
  case c3 => have := hbl.out; simp; omega
  intro v7 w7 hv7
  replace hv7 : Bytes w1.heap.size w1 w7 v7 (body ++ [hiB X, loB X]) := hv7
  have hv7a := hv7.alloc (.cells #[.int .u8 (g.toNat : Int)] 5)
  have hp8 : Lies (w7.alloc (.cells #[.int .u8 (g.toNat : Int)] 5)) w7.heap.size 0 [g] := lies_alloc w7 [g] 5
  clear hv6 hp6 hv7
  obtain ⟨Q, hQ⟩ : ∃ Q, Q = body ++ [hiB X, loB X] := ⟨_, rfl⟩
  have hql : Q.length = 11 := by have := hbl.out; rw [hQ]; simp; omega
  rw [← hQ] at hv7a
  have HQ := Lib.hid hQ
  clear hQ
  go_wp2_with fail
  refine (HG.out _).mono ?_; rintro e w8 ⟨rfl, rfl⟩
  go_wp2_with (at_builtin; refine list_append_bytes (v := v7) (m := [g]) (c := 1) rfl rfl rfl hv7a rfl hp8 ?c4 ?_)
  case c4 => simp; omega
  intro v9 w9 hv9
  have hv10 := Lib.hid (hv9.low HB1.out)
  clear hv9 hv7a hp8
  go_wp2
  go_ret2
  exact ⟨v9, rfl, by rw [← HQ.out]; exact hv10.out⟩

theorem Bytes_ok (n : Nt) (s : Nat) (w : World) (h : rightN n = true) (hs : s < 4294967296) :
    Calls Try.prog 23 #[nv n, .int .u32 s] w fun e w' => ∃ u, e = .returned (.tuple #[u, .int .i64 0]) ∧ Bytes w.heap.size w w' u (slotN n s) := by
  obtain ⟨h1, h2, h3, h4, h5, h6⟩ := (rightN_iff n).1 h
  obtain ⟨a, b', c', d, e, eb⟩ := body_nine n s
  have HR := Lib.hid fun w => Right_any n w
  rw [h] at HR
  exact bytes_core n.ex n.inh n.mode s (guardN s) (UInt8.ofNat n.ex.toNat) (UInt8.ofNat n.inh.toNat) (UInt8.ofNat n.mode.toNat) (bodyN n s) (sumOf (bodyN n s)) w (u8_nat _ h1 (by omega)) (u8_nat _ h3 (by omega)) (u8_nat _ h5 (by omega))
    (by omega) rfl (by rw [eb]; rfl) rfl HR (Lib.hid (guard_any s hs))
end Ref18
end Go.Proofs.Ytdalajfjikbcaaa
