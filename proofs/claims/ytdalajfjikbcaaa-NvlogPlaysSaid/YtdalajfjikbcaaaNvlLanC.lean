/- The landed nvlog's Write, Spoil. -/
import Derived.Test.YtdalajfjikbcaaaNvlLanB
import Derived.Test.YtdalajfjikbcaaaNvlRefC
namespace Go.Proofs.Ytdalajfjikbcaaa
open Go.RowKit

namespace Lan19
/-- what Write answers, by what Bytes and older do -/
def WrAns (S er t : Int) (n : Nat) (L : List UInt8) (e : Ending) (w' : World) : Prop := ∃ b2 c2, (S ≥ 2147483648 → e = .returned (.tuple #[.int .i64 0, .slice none 0 0, .int .i64 8])) ∧
  (S < 2147483648 → er ≠ 0 → e = .returned (.tuple #[.int .i64 0, .slice none 0 0, .int .i64 er])) ∧ (S < 2147483648 → er = 0 → e = .returned (.tuple #[.int .i64 t, .slice b2 n c2, .int .i64 0]) ∧ Came w' b2 c2 L)
set_option maxHeartbeats 4000000 in
set_option maxRecDepth 100000 in
theorem write_core {w : World} {ba : Option Addr} {cap : Nat} {l L : List UInt8} (a x y z p q r S er t : Int) (b : Bool) (n : Nat) (C : Came w ba cap l)
    (k0 : S ≥ 0) (k1 : S ≤ 4294967295)
    (NW : Hid (∀ w, Came w ba cap l → Calls Try.prog 19 #[.slice ba 24 cap] w fun e w' => e = .returned (.tuple #[.int .i64 a, .agg #[.int .i64 x, .int .i64 y, .int .i64 z, .int .u32 S, .bool b]]) ∧ Below w.heap.size w w'))
    (OB : Hid (S < 2147483648 → ∀ w, Calls Try.prog 20 #[.agg #[.int .i64 p, .int .i64 q, .int .i64 r], .int .u32 (S + 1)] w fun e w' => ∃ ba cap, e = .returned (.tuple #[.slice ba n cap, .int .i64 er]) ∧ Came w' ba cap L ∧ Below w.heap.size w w'))
    (OL : Hid (∀ w, Calls Try.prog 21 #[.int .i64 a] w fun e w' => e = .returned (.int .i64 t) ∧ w = w')) :
    Calls Try.prog 9 #[.slice ba 24 cap, .agg #[.int .i64 p, .int .i64 q, .int .i64 r]] w fun e w' => WrAns S er t n L e w' ∧ Below w.heap.size w w' := by
  have B1 := Lib.hid (below1 w (.cells #[.int .i64 p, .int .i64 q, .int .i64 r] 26))
  have H1 := Lib.hid (hasl w [.int .i64 p, .int .i64 q, .int .i64 r] 26)
  have N := Lib.hid (NW.out _ (C.keep B1.out))
  clear C NW
  go_enter Try.func9, Try.ntmps9
  go_wp2_with fail
  refine N.out.mono ?_; rintro e w1 ⟨rfl, hb1⟩
  have hb1a := belowT hb1 (below1 w1 (.cells #[.int .i64 x, .int .i64 y, .int .i64 z, .int .u32 S, .bool b] 47))
  have HB := Lib.hid (belowT B1.out hb1a)
  have H2 := H1.out.keep hb1a
  have q0 := H2.at 0 rfl
  have q1 := H2.at 1 rfl
  have q2 := H2.at 2 rfl
  clear N B1 H1 hb1 hb1a H2
  by_cases hs : S ≥ 2147483648
  · clear OB OL
    go_wp2
    refine bodyPost_ret (v := .tuple #[.int .i64 0, .slice none 0 0, .int .i64 8]) (by simp [results, Try.results9, go_sem]) rfl ⟨⟨none, 0, fun _ => rfl, fun h => by omega, fun h => by omega⟩, HB.out⟩
  · have k2 : S + 1 ≤ 4294967295 := by omega
    have k3 : S + 1 ≥ 0 := by omega
    have hsd : decide (S ≥ 2147483648) = false := decide_eq_false hs
    have HS := Lib.hid (show S < 2147483648 by omega)
    have O := Lib.hid (OB.out (by omega))
    clear OB hs
    go_wp2_with fail
    refine (O.out _).mono ?_; rintro e w3 ⟨b3, c3, rfl, C3, hb3⟩
    have HB3 := Lib.hid (belowT HB.out hb3)
    have HC3 := Lib.hid C3
    clear O hb3 HB C3 q0 q1 q2
    by_cases he : er = 0
    · subst he
      go_wp2_with fail
      refine (OL.out _).mono ?_; rintro e w4 ⟨rfl, rfl⟩
      clear OL
      go_wp2
      refine bodyPost_ret (v := .tuple #[.int .i64 t, .slice b3 n c3, .int .i64 0]) (by simp [results, Try.results9, go_sem]) rfl ⟨⟨b3, c3, fun h => absurd HS.out (by omega), fun _ h => absurd rfl h, fun _ _ => ⟨rfl, HC3.out⟩⟩, HB3.out⟩
    · have hd : (er != 0) = true := by simpa using he
      have HE := Lib.hid he
      clear he OL
      go_wp2
      refine bodyPost_ret (v := .tuple #[.int .i64 0, .slice none 0 0, .int .i64 er]) (by simp [results, Try.results9, go_sem]) rfl ⟨⟨none, 0, fun h => absurd HS.out (by omega), fun _ _ => rfl, fun _ h => absurd h HE.out⟩, HB3.out⟩

theorem Write_came {w : World} {ba : Option Addr} {cap : Nat} {l : List UInt8} (C : Came w ba cap l) (n : Nt) :
    Calls Try.prog 9 #[.slice ba l.length cap, nv n] w fun e w' => ∃ b2 c2, e = .returned (.tuple #[.int .i64 (writeF l n).1, .slice b2 (writeF l n).2.1.length c2, .int .i64 (writeF l n).2.2]) ∧ Came w' b2 c2 (writeF l n).2.1 ∧ Below w.heap.size w w' := by
  by_cases h24 : l.length = 24
  · obtain ⟨p, q, r⟩ := n
    have WR : writeF l ⟨p, q, r⟩ = if 2147483648 ≤ (newF l).2.2 then (0, [], 8) else if rightN ⟨p, q, r⟩ = false then (0, [], 1) else ((if (newF l).1 = 0 then 1 else 0), slotN ⟨p, q, r⟩ ((newF l).2.2 + 1), 0) := by
      unfold writeF
      rw [if_neg (show ¬ l.length ≠ 24 by omega)]
      rfl
    have hs : (newF l).2.2 < 4294967296 := new_lt l
    have NW := fun (w : World) (C : Came w ba cap l) => newest_came C
    rw [h24] at NW
    have OB := fun (w : World) (h : (newF l).2.2 + 1 < 4294967296) => Lan18.Bytes_any ⟨p, q, r⟩ ((newF l).2.2 + 1) w h
    have k := write_core (L := (bytesN ⟨p, q, r⟩ ((newF l).2.2 + 1)).1) (newF l).1 (newF l).2.1.ex (newF l).2.1.inh (newF l).2.1.mode p q r (newF l).2.2 (bytesN ⟨p, q, r⟩ ((newF l).2.2 + 1)).2 (if (newF l).1 = 0 then 1 else 0) (!((newF l).1 == -1)) _ C (by omega) (by omega) (Lib.hid NW)
      (Lib.hid fun h w => by
        have k := OB w (by omega)
        exact k) (Lib.hid fun w => older_any (newF l).1 w)
    rw [h24]
    refine k.mono fun e w' hk => ?_
    obtain ⟨⟨b2, c2, h1, h2, h3⟩, hb⟩ := hk
    by_cases g : 2147483648 ≤ (newF l).2.2
    · rw [if_pos g] at WR
      rw [WR]
      exact ⟨none, 0, h1 (by omega), none_come w', hb⟩
    · rw [if_neg g] at WR
      cases hr : rightN ⟨p, q, r⟩
      · rw [if_pos hr] at WR
        rw [WR]
        rw [bytesN_no _ hr] at h2
        exact ⟨none, 0, h2 (by omega) (by decide), none_come w', hb⟩
      · rw [if_neg (by rw [hr]; simp)] at WR
        rw [WR]
        rw [bytesN_ok _ hr] at h3
        obtain ⟨he, hc⟩ := h3 (by omega) rfl
        refine ⟨b2, c2, ?_, hc, hb⟩
        rw [he]
        by_cases ha : (newF l).1 = 0
        · rw [if_pos ha, if_pos ha]; rfl
        · rw [if_neg ha, if_neg ha]; rfl
  · have WR : writeF l n = (0, [], 1) := by
      unfold writeF
      exact if_pos h24
    rw [WR]
    have c1 := C.le
    have c2 := C.max
    unfold maxLen at c2
    have hl : (l.length : Int) ≤ 9223372036854775807 := by omega
    have hq : ((l.length : Int) != 24) = true := by simp; omega
    obtain ⟨p, q, r⟩ := n
    have B1 := Lib.hid (below1 w (.cells #[.int .i64 p, .int .i64 q, .int .i64 r] 26))
    simp only [nv]
    clear C c1 c2 WR h24
    generalize l.length = m at *
    go_enter Try.func9, Try.ntmps9
    go_wp2
    refine bodyPost_ret (v := .tuple #[.int .i64 0, .slice none 0 0, .int .i64 1]) (by simp [results, Try.results9, go_sem]) rfl ⟨none, 0, rfl, none_come _, B1.out⟩

set_option maxHeartbeats 4000000 in
set_option maxRecDepth 100000 in
theorem Spoil_came {w : World} {ba : Option Addr} {cap : Nat} {l : List UInt8} (C : Came w ba cap l) (k : Int) (hsmall : l.length ≤ 4000) :
    Calls Try.prog 7 #[.slice ba l.length cap, .int .i64 k] w fun e w' => ∃ b2 c2, e = .returned (.slice b2 (spoilF l k).length c2) ∧ Came w' b2 c2 (spoilF l k) ∧ Below w.heap.size w w' := by
  have CL := Lib.hid (Clone_own C (by omega))
  have hlen : (l.length : Int) ≤ 9223372036854775807 := by omega
  clear C
  go_enter Try.func7, Try.ntmps7
  go_wp2_with fail
  refine CL.out.mono ?_; rintro e w1 ⟨v1, rfl, hv1⟩
  clear CL
  by_cases h : 0 ≤ k ∧ k < l.length
  · obtain ⟨j, rfl⟩ := Int.eq_ofNat_of_zero_le h.1
    have hj : (j : Int) < l.length := h.2
    have e : spoilF l (j : Int) = l.set j (l.getD j 0 ^^^ 85) := by
      unfold spoilF
      rw [if_pos h, Int.toNat_natCast]
    have HE := Lib.hid e
    obtain ⟨g, cp, rfl, M⟩ := hv1.mine (by omega)
    have q0 := M.lies j (by omega)
    have f0 := M.free j (by omega)
    rw [Nat.zero_add] at q0
    have M2 := M.set j (l.getD j 0 ^^^ 85)
    have ex : bits .xor .u8 ((l.getD j 0).toNat : Int) 85 = ((l.getD j 0 ^^^ 85).toNat : Int) := xor_u8 (l.getD j 0) 85
    have hj0 : (j : Int) ≥ 0 := by omega
    generalize l.getD j 0 ^^^ 85 = z at *
    generalize l.getD j 0 = y at *
    have HM := Lib.hid M2
    have hsl : (l.set j z).length = l.length := List.length_set
    have HSL := Lib.hid hsl
    clear M M2 hv1 e h hsl
    go_wp2
    go_ret
    exact ⟨some ⟨g, 0, none⟩, cp, by rw [HE.out, HSL.out]; rfl, by rw [HE.out]; exact HM.out.came, HM.out.below⟩
  · have e : spoilF l k = l := by
      unfold spoilF
      rw [if_neg h]
    have HE := Lib.hid e
    obtain ⟨bo, co, rfl, CO⟩ := hv1.bytes.came
    have HC := Lib.hid CO
    have HB := Lib.hid hv1.below
    clear e hv1 CO
    by_cases hk : k ≥ 0
    · have hd : decide (k < (l.length : Int)) = false := decide_eq_false (by omega)
      clear h
      go_wp2
      go_ret
      exact ⟨bo, co, by rw [HE.out]; rfl, by rw [HE.out]; exact HC.out, HB.out⟩
    · have hd : decide (k ≥ 0) = false := decide_eq_false hk
      clear h hk
      go_wp2
      go_ret
      exact ⟨bo, co, by rw [HE.out]; rfl, by rw [HE.out]; exact HC.out, HB.out⟩
end Lan19
end Go.Proofs.Ytdalajfjikbcaaa
