/- Text and ReadText of the document's own answers for layer 5. -/
import Derived.Test.YtcnnkgkejafeeaaOctGet
namespace Go.Proofs.Ytcnnkgkejafeeaa
open Go.RowKit

/-- bytes of a part, as a string -/
theorem part_string (w : World) (b o cap : Nat) (l : List UInt8) (L : Lies w b o l) :
    (convert 22 9 (.slice (some ⟨b, o, none⟩) l.length cap)).run Try.prog w = .ok (.string ⟨l.toArray⟩) w :=
  run_convert_bytes_back w 22 9 5 ⟨b, o, none⟩ cap l Try.underlying22 Try.underlying5 Try.underlying9 fun j hj => by
    have h := L j hj
    have e : (⟨b, o, none⟩ : Addr).add j = ⟨b, o + j, none⟩ := by unfold Addr.add; split <;> simp_all
    rw [e, h]
    simp [List.getD, List.getElem?_eq_getElem hj]

theorem Lies.part {w : World} {b o : Nat} {l : List UInt8} (L : Lies w b o l) (k n : Nat) (h : k + n ≤ l.length) : Lies w b (o + k) ((l.drop k).take n) := by
  intro j hj
  rw [List.length_take, List.length_drop] at hj
  have e : ((l.drop k).take n).getD j 0 = l.getD (k + j) 0 := by
    simp [List.getD, List.getElem?_drop, show j < n by omega]
  rw [e, Nat.add_assoc]
  exact L (k + j) (by omega)
theorem part_len (l : List UInt8) (k n : Nat) (h : k + n ≤ l.length) : ((l.drop k).take n).length = n := by
  rw [List.length_take, List.length_drop]; omega

theorem ret_t {s : ByteArray} {a b : Int} (h : a = b) : Ending.returned (.tuple #[.string s, .int .i64 a, .int .i64 0]) = .returned (.tuple #[.string s, .int .i64 b, .int .i64 0]) := by rw [h]

namespace Ref
theorem Text_long (s : ByteArray) (w : World) (h : (255 : Int) < s.size) :
    Calls Try.prog 15 #[.string s] w fun e w' => e = .returned (.tuple #[.slice none 0 0, .int .i64 4]) ∧ w = w' := by
  go_enter Try.func15, Try.ntmps15
  go_wp2
  go_ret2
  exact ⟨rfl, rfl⟩

theorem ReadText_err (v : Option Addr) (len cap : Nat) (at_ err : Int) (w : World) (he : (err != 0) = true)
    (G : Hid (Calls Try.prog 11 #[.slice v len cap, .int .i64 at_, .int .i64 1] w fun e w' => e = .returned (.tuple #[.int .u64 0, .int .i64 err]) ∧ w = w')) :
    Calls Try.prog 17 #[.slice v len cap, .int .i64 at_] w fun e w' => e = .returned (.tuple #[.string ⟨#[]⟩, .int .i64 0, .int .i64 err]) ∧ w = w' := by
  go_enter Try.func17, Try.ntmps17
  go_wp2_with fail
  refine G.out.mono ?_; rintro e w1 ⟨rfl, rfl⟩
  go_wp2
  go_ret3
  exact ⟨rfl, rfl⟩

theorem ReadText_short (v : Option Addr) (len cap k n : Nat) (w : World) (_hl : (len : Int) ≤ 9223372036854775807) (hk : (k : Int) < len) (hn : (n : Int) ≤ 255) (h : (len : Int) - k - 1 < n)
    (G : Hid (Calls Try.prog 11 #[.slice v len cap, .int .i64 k, .int .i64 1] w fun e w' => e = .returned (.tuple #[.int .u64 n, .int .i64 0]) ∧ w = w')) :
    Calls Try.prog 17 #[.slice v len cap, .int .i64 k] w fun e w' => e = .returned (.tuple #[.string ⟨#[]⟩, .int .i64 0, .int .i64 2]) ∧ w = w' := by
  go_enter Try.func17, Try.ntmps17
  go_wp2_with fail
  refine G.out.mono ?_; rintro e w1 ⟨rfl, rfl⟩
  go_wp2
  go_ret3
  exact ⟨rfl, rfl⟩

set_option maxHeartbeats 2000000 in
theorem ReadText_ok (b o cap k n : Nat) (l : List UInt8) (w : World) (hc : l.length ≤ cap) (hl : (cap : Int) ≤ 9223372036854775807) (h : (k : Int) + 1 + n ≤ l.length) (hn : (n : Int) ≤ 255) (L : Lies w b o l)
    (G : Hid (Calls Try.prog 11 #[.slice (some ⟨b, o, none⟩) l.length cap, .int .i64 k, .int .i64 1] w fun e w' => e = .returned (.tuple #[.int .u64 n, .int .i64 0]) ∧ w = w')) :
    Calls Try.prog 17 #[.slice (some ⟨b, o, none⟩) l.length cap, .int .i64 k] w fun e w' => e = .returned (.tuple #[.string ⟨((l.drop (k + 1)).take n).toArray⟩, .int .i64 ((k : Int) + 1 + n), .int .i64 0]) ∧ w = w' := by
  have d : decide ((l.length : Int) - k - 1 < n) = false := decide_eq_false (by omega)
  by_cases hcap : cap = k + 1
  · have hn0 : n = 0 := by omega
    have cv : ∀ c, (convert 22 9 (.slice (some ⟨b, o, none⟩) n c)).run Try.prog w = .ok (.string ⟨((l.drop (k + 1)).take n).toArray⟩) w := by
      intro c
      rw [hn0, List.take_zero]
      exact part_string w b o c [] (fun j hj => by simp at hj)
    have hc1 : (cap : Int) ≤ k + 1 := by omega
    have hc2 : (k : Int) + 1 ≤ cap := by omega
    clear L hn0 hcap
    go_enter Try.func17, Try.ntmps17
    go_wp2_with fail
    refine G.out.mono ?_; rintro e w1 ⟨rfl, rfl⟩
    go_wp2
    go_ret3
    exact ⟨ret_t (by omega), rfl⟩
  · have cv := part_string w b (o + (k + 1)) (cap - (k + 1)) ((l.drop (k + 1)).take n) (L.part (k + 1) n (by omega))
    rw [part_len l (k + 1) n (by omega)] at cv
    have hc1 : (k : Int) + 1 < cap := by omega
    clear L
    go_enter Try.func17, Try.ntmps17
    go_wp2_with fail
    refine G.out.mono ?_; rintro e w1 ⟨rfl, rfl⟩
    go_wp2
    go_ret3
    exact ⟨ret_t (by omega), rfl⟩

end Ref
end Go.Proofs.Ytcnnkgkejafeeaa
