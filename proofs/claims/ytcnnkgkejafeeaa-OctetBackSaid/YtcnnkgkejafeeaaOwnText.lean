/- octet's own Zig, Zag, Text, ReadText, Var. -/
import Derived.Test.YtcnnkgkejafeeaaOwnGet
import Derived.Test.YtcnnkgkejafeeaaOctZig
import Derived.Test.YtcnnkgkejafeeaaOctVar
namespace Go.Proofs.Ytcnnkgkejafeeaa
open Go.RowKit

theorem wrap_small (x : Int) (h0 : 0 ≤ x) (h1 : x ≤ 9223372036854775807) : IntKind.u64.wrap x = x := by rw [IntKind.wrap_u64]; omega

namespace Own

theorem Zig_any (n : Int) (w : World) (r0 : -9223372036854775808 ≤ n) (r1 : n ≤ 9223372036854775807) :
    Calls Try.prog 22 #[.int .i64 n] w fun e w' => e = .returned (.int .u64 (Oct.zig n)) ∧ w = w' := by
  go_enter Try.func22, Try.ntmps22
  go_wp2
  go_ret
  exact ⟨one_i (zig_walk n r0 r1), rfl⟩
theorem Zag_any (n : Nat) (w : World) (r1 : (n : Int) ≤ 18446744073709551615) :
    Calls Try.prog 24 #[.int .u64 n] w fun e w' => e = .returned (.int .i64 (Oct.zag n)) ∧ w = w' := by
  go_enter Try.func24, Try.ntmps24
  go_wp2
  go_ret
  exact ⟨one_i (zag_walk n r1), rfl⟩

theorem Text_long (s : ByteArray) (w : World) (h : (255 : Int) < s.size) :
    Calls Try.prog 14 #[.string s] w fun e w' => e = .returned (.tuple #[.slice none 0 0, .int .i64 4]) ∧ w = w' := by
  go_enter Try.func14, Try.ntmps14
  go_wp2
  go_ret2
  exact ⟨rfl, rfl⟩

theorem Text_ok (s : ByteArray) (w : World) (h : (s.size : Int) ≤ 255) :
    Calls Try.prog 14 #[.string s] w fun e w' => ∃ v, e = .returned (.tuple #[v, .int .i64 0]) ∧ Bytes w.heap.size w w' v (UInt8.ofNat s.size :: s.data.toList) := by
  obtain ⟨i0, hi, hz0, hz1, hz2⟩ := info_parts info8
  have hown := one_own w (UInt8.ofNat s.size) _ rfl
  rw [Oct.byte_of _ (by omega)] at hown
  have hd : decide ((255 : Int) < s.size) = false := decide_eq_false (by omega)
  go_enter Try.func14, Try.ntmps14
  go_wp2_with (at_builtin; refine Lib.wpList_append_own_string _ rfl _ _ 22 9 rfl w.heap.size 5 i0 Try.underlying22 Try.underlying9 hi hz0 hz1 hz2 _ _ _ rfl hown s rfl ?c3 ?c4 ?c5 ?_)
  case c3 => unfold maxLen; omega
  case c4 => omega
  case c5 => simp
  intro v w' ho hg _
  go_wp2
  have hb : Below w.heap.size w w' := (below1 w _).grown hg (by simp) (fun k hk => by simp [Value.ownBlock] at hk; omega)
  have hn : (UInt8.ofNat s.size :: s.data.toList).length = 1 + s.size := by rw [List.length_cons, Nat.add_comm]; rfl
  go_ret2
  exact ⟨v, rfl, by unfold Bytes; rw [hn]; exact ⟨World.ownsRowF_of ho, hb, hb.size⟩⟩

theorem ReadText_err (v : Option Addr) (len cap : Nat) (at_ err : Int) (w : World) (he : (err != 0) = true)
    (G : Hid (Calls Try.prog 10 #[.slice v len cap, .int .i64 at_, .int .i64 1] w fun e w' => e = .returned (.tuple #[.int .u64 0, .int .i64 err]) ∧ w = w')) :
    Calls Try.prog 16 #[.slice v len cap, .int .i64 at_] w fun e w' => e = .returned (.tuple #[.string ⟨#[]⟩, .int .i64 0, .int .i64 err]) ∧ w = w' := by
  go_enter Try.func16, Try.ntmps16
  go_wp2_with fail
  refine G.out.mono ?_; rintro e w1 ⟨rfl, rfl⟩
  go_wp2
  go_ret3
  exact ⟨rfl, rfl⟩

theorem ReadText_short (v : Option Addr) (len cap k n : Nat) (w : World) (_hl : (len : Int) ≤ 9223372036854775807) (hk : (k : Int) < len) (hn : (n : Int) ≤ 255) (h : (len : Int) - (k + 1) < n)
    (G : Hid (Calls Try.prog 10 #[.slice v len cap, .int .i64 k, .int .i64 1] w fun e w' => e = .returned (.tuple #[.int .u64 n, .int .i64 0]) ∧ w = w')) :
    Calls Try.prog 16 #[.slice v len cap, .int .i64 k] w fun e w' => e = .returned (.tuple #[.string ⟨#[]⟩, .int .i64 0, .int .i64 2]) ∧ w = w' := by
  have hw := wrap_small ((len : Int) - (k + 1)) (by omega) (by omega)
  go_enter Try.func16, Try.ntmps16
  go_wp2_with fail
  refine G.out.mono ?_; rintro e w1 ⟨rfl, rfl⟩
  go_wp2
  go_ret3
  exact ⟨rfl, rfl⟩

set_option maxHeartbeats 2000000 in
theorem ReadText_ok (b o cap k n : Nat) (l : List UInt8) (w : World) (hc : l.length ≤ cap) (hl : (cap : Int) ≤ 9223372036854775807) (h : (k : Int) + 1 + n ≤ l.length) (hn : (n : Int) ≤ 255) (L : Lies w b o l)
    (G : Hid (Calls Try.prog 10 #[.slice (some ⟨b, o, none⟩) l.length cap, .int .i64 k, .int .i64 1] w fun e w' => e = .returned (.tuple #[.int .u64 n, .int .i64 0]) ∧ w = w')) :
    Calls Try.prog 16 #[.slice (some ⟨b, o, none⟩) l.length cap, .int .i64 k] w fun e w' => e = .returned (.tuple #[.string ⟨((l.drop (k + 1)).take n).toArray⟩, .int .i64 ((k : Int) + 1 + n), .int .i64 0]) ∧ w = w' := by
  have hw := wrap_small ((l.length : Int) - (k + 1)) (by omega) (by omega)
  have d : decide ((l.length : Int) - (k + 1) < n) = false := decide_eq_false (by omega)
  by_cases hcap : cap = k + 1
  · have hn0 : n = 0 := by omega
    have cv : ∀ c, (convert 22 9 (.slice (some ⟨b, o, none⟩) n c)).run Try.prog w = .ok (.string ⟨((l.drop (k + 1)).take n).toArray⟩) w := by
      intro c
      rw [hn0, List.take_zero]
      exact part_string w b o c [] (fun j hj => by simp at hj)
    have hc1 : (cap : Int) ≤ k + 1 := by omega
    have hc2 : (k : Int) + 1 ≤ cap := by omega
    clear L hn0 hcap
    go_enter Try.func16, Try.ntmps16
    go_wp2_with fail
    refine G.out.mono ?_; rintro e w1 ⟨rfl, rfl⟩
    go_wp2
    go_ret3
    exact ⟨ret_t (by omega), rfl⟩
  · have cv := part_string w b (o + (k + 1)) (cap - (k + 1)) ((l.drop (k + 1)).take n) (L.part (k + 1) n (by omega))
    rw [part_len l (k + 1) n (by omega)] at cv
    have hc1 : (k : Int) + 1 < cap := by omega
    clear L
    go_enter Try.func16, Try.ntmps16
    go_wp2_with fail
    refine G.out.mono ?_; rintro e w1 ⟨rfl, rfl⟩
    go_wp2
    go_ret3
    exact ⟨ret_t (by omega), rfl⟩

set_option maxHeartbeats 2000000 in
set_option maxRecDepth 100000 in
theorem Var_any (n : Nat) (w : World) (hn : (n : Int) ≤ 18446744073709551615) :
    Calls Try.prog 26 #[.int .u64 n] w fun e w' => ∃ v, e = .returned v ∧ Bytes w.heap.size w w' v (Oct.var n) := by
  obtain ⟨i0, hi, hz0, hz1, hz2⟩ := info_parts info8
  have k0 : ((n * 128 ^ 0 : Nat) : Int) ≤ 18446744073709551615 := by simpa using hn
  go_enter Try.func26, Try.ntmps26
  go_wp2
  go_loopw [0, 3] (fun nv v wr => ∃ (j r : Nat) (d : List UInt8), j ≤ 9 ∧ nv = .int .u64 r ∧ (r : Int) ≤ 18446744073709551615 ∧ d.length = j ∧ d ++ Oct.var r = Oct.var n ∧ ((r * 128 ^ j : Nat) : Int) ≤ 18446744073709551615 ∧ Bytes w.heap.size w wr v d) (fun nv _ _ => (intOf nv).toNat)
  case atStart => exact ⟨0, n, [], by omega, rfl, hn, rfl, rfl, k0, World.ownsRowF_nil _ _ _ _, Below.refl _ _, Nat.le_refl _⟩
  case round =>
    obtain ⟨j, r, d, hj, rfl, hrn, hd, hv, hr, hb⟩ := hrel
    by_cases hx : (128 : Int) ≤ r
    · obtain ⟨j8, hr2⟩ := few_rounds j r hj (by omega) hr
      rw [Oct.var_high (by omega)] at hv
      have e := or128 r
      have hl : d.length + 1 ≤ 140737488355328 := by omega
      have HV := Lib.hid hv; have HD := Lib.hid hd; have HR := Lib.hid hr2; have HL := Lib.hid hl
      clear hr hr2 hv hd hl k0
      go_wp2_with (at_builtin; refine Lib.wpList_append_byte rfl _ _ 22 rfl w.heap.size 5 i0 Try.underlying22 hi hz0 hz1 hz2 u3 d.length (vals d) rfl w wr _ hb rfl ?c3 ?_)
      case c3 => first | exact HL.out | (have := HL.out; omega)
      intro v' w' hb'
      go_wp2
      go_roundw
      case rel => exact ⟨j + 1, r / 128, d ++ [UInt8.ofNat (r % 128 + 128)], by omega, rfl, by omega, by rw [List.length_append, HD.out]; rfl, by rw [List.append_assoc]; exact HV.out, HR.out, Bytes.more (byte_hi r) hb'⟩
      case measure => simp [intOf]; omega
    · rw [Oct.var_low (by omega)] at hv
      have hx1 : decide ((128 : Int) ≤ r) = false := decide_eq_false hx
      have hl : d.length + 1 ≤ 140737488355328 := by omega
      have HV := Lib.hid hv; have HD := Lib.hid hd; have HL := Lib.hid hl
      clear hr hv hd hl k0
      go_wp2_with (at_builtin; refine Lib.wpList_append_byte rfl _ _ 22 rfl w.heap.size 5 i0 Try.underlying22 hi hz0 hz1 hz2 u3 d.length (vals d) rfl w wr _ hb rfl ?c3 ?_)
      case c3 => first | exact HL.out | (have := HL.out; omega)
      intro v' w' hb'
      go_wp2
      go_ret
      exact ⟨v', rfl, HV.out ▸ Bytes.more (byte_lo r (by omega)) hb'⟩

end Own
end Go.Proofs.Ytcnnkgkejafeeaa
