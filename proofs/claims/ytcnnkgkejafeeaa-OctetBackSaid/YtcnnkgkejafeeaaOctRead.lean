/- ReadVar of the document's own answers for layer 5. -/
import Derived.Test.YtcnnkgkejafeeaaOctGet
import Derived.LoopN
namespace Go.Proofs.Ytcnnkgkejafeeaa
open Go.RowKit

/-- what a reader of numbers in few bytes answers, from place k on -/
def answer (k : Nat) : Oct.Read → Value
  | .short => .tuple #[.int .u64 0, .int .i64 0, .int .i64 2]
  | .form => .tuple #[.int .u64 0, .int .i64 0, .int .i64 3]
  | .ok n len => .tuple #[.int .u64 (n : Int), .int .i64 ((k : Int) + len), .int .i64 0]

theorem ret3 {a b d : Int} (h : b = d) : Ending.returned (.tuple #[.int .u64 a, .int .i64 b, .int .i64 0]) = .returned (.tuple #[.int .u64 a, .int .i64 d, .int .i64 0]) := by rw [h]

theorem mask7 (c : Nat) (h : c < 256) : bits .and .u8 (c : Int) 127 = ((c % 128 : Nat) : Int) := by
  have e : (BitVec.ofInt 8 (c : Int)).toNat = c := by rw [BitVec.toNat_ofInt]; omega
  show IntKind.u8.wrap ((BitVec.ofInt 8 (c : Int) &&& BitVec.ofInt 8 127).toNat : Int) = _
  rw [BitVec.toNat_and, e, show (BitVec.ofInt 8 127).toNat = 2 ^ 7 - 1 by decide, Nat.and_two_pow_sub_one_eq_mod, IntKind.wrap_u8]
  omega

theorem or_seven (j s m : Nat) (hs : s < 128 ^ j) (hm : ((s + m * 128 ^ j : Nat) : Int) < 18446744073709551616) : bits .or .u64 (s : Int) ((m : Int) * ((128 ^ j : Nat) : Int)) = ((s + m * 128 ^ j : Nat) : Int) := by
  have e : s ||| m * 128 ^ j = s + m * 128 ^ j := by
    have h := Nat.two_pow_add_eq_or_of_lt (i := 7 * j) (b := s) (by rw [Nat.pow_mul]; exact hs) m
    rw [Nat.pow_mul, show (2 ^ 7 : Nat) = 128 by decide, Nat.mul_comm (128 ^ j)] at h
    rw [Nat.or_comm, ← h, Nat.add_comm]
  rw [show (m : Int) * ((128 ^ j : Nat) : Int) = ((m * 128 ^ j : Nat) : Int) by rw [Int.natCast_mul], bits_or_u64_nat _ _ (by have := hm; generalize m * 128 ^ j = P at *; omega) (by have := hm; generalize m * 128 ^ j = P at *; omega), e]

/-- at most ten -/
theorem ten {j : Nat} (h : j < 10) : j = 0 ∨ j = 1 ∨ j = 2 ∨ j = 3 ∨ j = 4 ∨ j = 5 ∨ j = 6 ∨ j = 7 ∨ j = 8 ∨ j = 9 := by omega

theorem drop_at (l : List UInt8) (n : Nat) (h : n < l.length) : l.drop n = l.getD n 0 :: l.drop (n + 1) := by
  rw [List.drop_eq_getElem_cons h]
  simp [List.getD, List.getElem?_eq_getElem h]

theorem read_ten (s : Nat) (l : List UInt8) : Oct.read 10 s l = .form := by
  cases l <;> rfl

theorem or_some (a b : Int) : ∃ s : Nat, bits .or .u64 a b = (s : Int) := by
  have h : bits .or .u64 a b = IntKind.u64.wrap ((BitVec.ofInt 64 a ||| BitVec.ofInt 64 b).toNat : Int) := rfl
  rw [h, IntKind.wrap_u64]
  exact ⟨((((BitVec.ofInt 64 a ||| BitVec.ofInt 64 b).toNat : Int)) % 18446744073709551616).toNat, by omega⟩

/-- the walk's own spelling of what a byte adds -/
def adds (j m : Nat) : Int := if j = 9 then IntKind.u64.wrap ((m : Int) * 9223372036854775808) else (m : Int) * ((128 ^ j : Nat) : Int)

theorem adds0 (m : Nat) : adds 0 m = (m : Int) := by simp [adds]
theorem adds1 (m : Nat) : adds 1 m = (m : Int) * 128 := by simp [adds]
theorem adds2 (m : Nat) : adds 2 m = (m : Int) * 16384 := by simp [adds]
theorem adds3 (m : Nat) : adds 3 m = (m : Int) * 2097152 := by simp [adds]
theorem adds4 (m : Nat) : adds 4 m = (m : Int) * 268435456 := by simp [adds]
theorem adds5 (m : Nat) : adds 5 m = (m : Int) * 34359738368 := by simp [adds]
theorem adds6 (m : Nat) : adds 6 m = (m : Int) * 4398046511104 := by simp [adds]
theorem adds7 (m : Nat) : adds 7 m = (m : Int) * 562949953421312 := by simp [adds]
theorem adds8 (m : Nat) : adds 8 m = (m : Int) * 72057594037927936 := by simp [adds]
theorem adds9 (m : Nat) : adds 9 m = IntKind.u64.wrap ((m : Int) * 9223372036854775808) := if_pos rfl

theorem go_on (j s m c : Nat) (x : UInt8) (r : List UInt8) (hj : j < 10) (hc : c = x.toNat) (hm : m = c % 128) (hx : 128 ≤ c) (hs : s < 128 ^ j) :
    ∃ s2 : Nat, bits .or .u64 (s : Int) (adds j m) = (s2 : Int) ∧ (j + 1 < 10 → s2 < 128 ^ (j + 1)) ∧ Oct.read j s (x :: r) = Oct.read (j + 1) s2 r := by
  have e : Oct.read j s (x :: r) = Oct.read (j + 1) (s + (x.toNat - 128) * 128 ^ j) r := by
    rw [Oct.read, if_neg (by omega), if_pos (by omega)]
  have xl := x.toNat_lt
  have xm : x.toNat - 128 = m := by omega
  rw [e, xm]
  by_cases h9 : j = 9
  · subst h9
    obtain ⟨s2, h2⟩ := or_some (s : Int) (adds 9 m)
    exact ⟨s2, h2, fun h => by omega, by rw [read_ten, read_ten]⟩
  · have lt : s + m * 128 ^ j < 128 ^ (j + 1) := by
      have : m * 128 ^ j ≤ 127 * 128 ^ j := Nat.mul_le_mul_right _ (by omega)
      rw [Nat.pow_succ]; omega
    have top : 128 ^ (j + 1) ≤ 128 ^ 9 := Nat.pow_le_pow_right (by decide) (by omega)
    have lt9 := Int.ofNat_lt.2 (Nat.lt_of_lt_of_le lt top)
    have n9 : ((128 ^ 9 : Nat) : Int) = 9223372036854775808 := by decide
    rw [n9] at lt9
    unfold adds
    rw [if_neg h9]
    exact ⟨_, or_seven j s m hs (Int.lt_trans lt9 (by decide)), fun _ => lt, rfl⟩

/-- the last byte -/
theorem stop_ok (j s m c : Nat) (x : UInt8) (r : List UInt8) (hj : j < 10) (hc : c = x.toNat) (hm : m = c % 128) (hx : c < 128) (hs : s < 128 ^ j) (hz : 0 < j → c ≠ 0) (h9 : j = 9 → c ≤ 1) :
    ∃ s2 : Nat, bits .or .u64 (s : Int) (adds j m) = (s2 : Int) ∧ Oct.read j s (x :: r) = .ok s2 (j + 1) := by
  have e : Oct.read j s (x :: r) = .ok (s + x.toNat * 128 ^ j) (j + 1) := by
    rw [Oct.read, if_neg (by omega), if_neg (by omega), if_neg (by
      intro h
      rcases h with ⟨a, b⟩ | ⟨a, b⟩
      · exact hz a (by omega)
      · have := h9 a; omega)]
  have xm : x.toNat = m := by omega
  rw [e, xm]
  have n9 : ((128 ^ 9 : Nat) : Int) = 9223372036854775808 := by decide
  by_cases k9 : j = 9
  · subst k9
    have m1 : m ≤ 1 := by have := h9 rfl; omega
    have lt : s + m * 128 ^ 9 < 2 * 128 ^ 9 := by
      have : m * 128 ^ 9 ≤ 1 * 128 ^ 9 := Nat.mul_le_mul_right _ m1
      omega
    have lt9 := Int.ofNat_lt.2 lt
    rw [Int.natCast_mul 2, n9] at lt9
    refine ⟨_, ?_, rfl⟩
    rw [adds9, show IntKind.u64.wrap ((m : Int) * 9223372036854775808) = (m : Int) * ((128 ^ 9 : Nat) : Int) by rw [IntKind.wrap_u64, n9]; omega]
    exact or_seven 9 s m hs lt9
  · have lt : s + m * 128 ^ j < 128 ^ (j + 1) := by
      have : m * 128 ^ j ≤ 127 * 128 ^ j := Nat.mul_le_mul_right _ (by omega)
      rw [Nat.pow_succ]; omega
    have top : 128 ^ (j + 1) ≤ 128 ^ 9 := Nat.pow_le_pow_right (by decide) (by omega)
    have lt9 := Int.ofNat_lt.2 (Nat.lt_of_lt_of_le lt top)
    rw [n9] at lt9
    unfold adds
    rw [if_neg k9]
    exact ⟨_, or_seven j s m hs (Int.lt_trans lt9 (by decide)), rfl⟩

theorem stop_bad (j s c : Nat) (x : UInt8) (r : List UInt8) (hj : j < 10) (hc : c = x.toNat) (hx : c < 128) (h : 0 < j ∧ c = 0 ∨ j = 9 ∧ 1 < c) : Oct.read j s (x :: r) = .form := by
  rw [Oct.read, if_neg (by omega), if_neg (by omega), if_pos (by
    rcases h with ⟨a, b⟩ | ⟨a, b⟩
    · exact Or.inl ⟨a, by omega⟩
    · exact Or.inr ⟨a, by omega⟩)]

theorem read_end (j s : Nat) (hj : j < 10) : Oct.read j s [] = .short := by rw [Oct.read, if_pos hj]

namespace Ref

set_option maxHeartbeats 8000000 in
theorem ReadVar_any (b o cap k : Nat) (l : List UInt8) (w : World) (hl : (l.length : Int) ≤ 9223372036854775797) (h : (k : Int) ≤ l.length) (L : Lies w b o l) :
    Calls Try.prog 21 #[.slice (some ⟨b, o, none⟩) l.length cap, .int .i64 k] w fun e w' => e = .returned (answer k (Oct.read 0 0 (l.drop k))) ∧ w = w' := by
  have d1 : decide ((l.length : Int) < (k : Int)) = false := decide_eq_false (by omega)
  obtain ⟨R, hR⟩ : ∃ R, R = answer k (Oct.read 0 0 (l.drop k)) := ⟨_, rfl⟩
  rw [← hR]
  go_enter Try.func21, Try.ntmps21
  go_wp2
  go_loop [7, 18] (fun a i => ∃ j s : Nat, j ≤ 10 ∧ k + j ≤ l.length ∧ (j < 10 → s < 128 ^ j) ∧ R = answer k (Oct.read j s (l.drop (k + j))) ∧ a = .int .u64 s ∧ i = .int .i64 j) (fun _ i => 10 - (intOf i).toNat)
  case atStart => exact ⟨0, 0, by omega, by omega, fun _ => by decide, hR, rfl, rfl⟩
  case round =>
    obtain ⟨j, s, hj, hkj, hs, hr, rfl, rfl⟩ := hrel
    clear hR
    by_cases hc : j < 10
    · by_cases he : (k : Int) + j < l.length
      · have hcell := L (k + j) (by omega)
        have hdrop := drop_at l (k + j) (by omega)
        clear L
        obtain ⟨x, hx⟩ : ∃ x, x = l.getD (k + j) 0 := ⟨_, rfl⟩
        rw [← hx] at hcell hdrop
        rw [hdrop] at hr
        obtain ⟨c, hcv⟩ : ∃ c : Nat, c = x.toNat := ⟨_, rfl⟩
        have c1 : (c : Int) ≤ 255 := by have := x.toNat_lt; omega
        have em := mask7 c (by omega)
        obtain ⟨m, hm⟩ : ∃ m, m = c % 128 := ⟨_, rfl⟩
        have m1 : (m : Int) ≤ 127 := by omega
        rw [← hcv] at hcell
        rw [← hm] at em
        by_cases hx : (128 : Int) ≤ c
        · obtain ⟨s2, e2, hs2, hr2⟩ := go_on j s m c x (l.drop (k + j + 1)) hc hcv hm (by omega) (hs hc)
          rw [hr2] at hr
          have hend : ∃ j' s' : Nat, j' ≤ 10 ∧ k + j' ≤ l.length ∧ (j' < 10 → s' < 128 ^ j') ∧ R = answer k (Oct.read j' s' (l.drop (k + j'))) ∧ Value.int .u64 (s2 : Int) = .int .u64 s' ∧ Value.int .i64 ((j : Int) + 1) = .int .i64 (j' : Int) :=
            ⟨j + 1, s2, by omega, by omega, hs2, hr, rfl, rfl⟩
          clear hr hr2 hs hs2 hdrop hm hcv
          rcases ten hc with rfl | rfl | rfl | rfl | rfl | rfl | rfl | rfl | rfl | rfl
          all_goals
            first | rw [adds0] at e2 | rw [adds1] at e2 | rw [adds2] at e2 | rw [adds3] at e2 | rw [adds4] at e2 | rw [adds5] at e2 | rw [adds6] at e2 | rw [adds7] at e2 | rw [adds8] at e2 | rw [adds9] at e2
            try simp only [Nat.add_zero] at hcell
            go_wp2
            exact ⟨hend, by simp [intOf]⟩
        · have hx1 : decide ((128 : Int) ≤ c) = false := decide_eq_false hx
          by_cases hz : 0 < j ∧ c = 0
          · obtain ⟨z1, rfl⟩ := hz
            rw [stop_bad j s 0 x _ hc hcv (by omega) (Or.inl ⟨z1, rfl⟩)] at hr
            clear hs hdrop hm hcv
            rcases ten hc with rfl | rfl | rfl | rfl | rfl | rfl | rfl | rfl | rfl | rfl
            · exact absurd z1 (by decide)
            all_goals
              go_wp2
              go_ret3
              exact ⟨rfl, rfl⟩
          by_cases h9 : j = 9 ∧ 1 < c
          · obtain ⟨rfl, z1⟩ := h9
            have z2 : (1 : Int) < c := by omega
            have z3 : ((c : Int) == 0) = false := by rw [beq_eq_false_iff_ne]; omega
            rw [stop_bad 9 s c x _ hc hcv (by omega) (Or.inr ⟨rfl, z1⟩)] at hr
            clear hs hdrop hm hcv
            go_wp2
            go_ret3
            exact ⟨rfl, rfl⟩
          obtain ⟨s2, e2, hr2⟩ := stop_ok j s m c x (l.drop (k + j + 1)) hc hcv hm (by omega) (hs hc) (fun a b => hz ⟨a, b⟩) (fun a => by omega)
          rw [hr2] at hr
          have hz1 : 0 < j → ((c : Int) == 0) = false := fun a => by rw [beq_eq_false_iff_ne]; omega
          have h91 : j = 9 → decide ((1 : Int) < c) = false := fun a => decide_eq_false (by omega)
          clear hr2 hs hdrop hm hcv hz h9
          rcases ten hc with rfl | rfl | rfl | rfl | rfl | rfl | rfl | rfl | rfl | rfl
          all_goals
            first | rw [adds0] at e2 | rw [adds1] at e2 | rw [adds2] at e2 | rw [adds3] at e2 | rw [adds4] at e2 | rw [adds5] at e2 | rw [adds6] at e2 | rw [adds7] at e2 | rw [adds8] at e2 | rw [adds9] at e2
            try simp only [Nat.add_zero] at hcell
            try have hz2 := hz1 (by decide)
            try have h92 := h91 rfl
            clear hz1 h91
            go_wp2
            go_ret3
            exact ⟨ret3 (by omega), rfl⟩
      · have hn : l.drop (k + j) = [] := List.drop_eq_nil_of_le (by omega)
        rw [hn, read_end j s hc] at hr
        have he2 : (l.length : Int) ≤ (k : Int) + j := by omega
        clear hs L hn
        go_wp2
        go_ret3
        exact ⟨rfl, rfl⟩
    · obtain rfl : j = 10 := by omega
      rw [read_ten] at hr
      clear hs L
      go_wp2
      go_ret3
      exact ⟨rfl, rfl⟩

theorem ReadVar_arg (v : Option Addr) (len cap : Nat) (at_ : Int) (w : World) (h : at_ < 0 ∨ 0 ≤ at_ ∧ (len : Int) < at_) :
    Calls Try.prog 21 #[.slice v len cap, .int .i64 at_] w fun e w' => e = .returned (.tuple #[.int .u64 0, .int .i64 0, .int .i64 1]) ∧ w = w' := by
  rcases h with h | ⟨h0, h⟩
  · go_enter Try.func21, Try.ntmps21
    go_wp2
    go_ret3
    exact ⟨rfl, rfl⟩
  · have d0 : decide (at_ < 0) = false := decide_eq_false (by omega)
    go_enter Try.func21, Try.ntmps21
    go_wp2
    go_ret3
    exact ⟨rfl, rfl⟩

theorem ReadVar_none (v : Option Addr) (cap : Nat) (w : World) :
    Calls Try.prog 21 #[.slice v 0 cap, .int .i64 0] w fun e w' => e = .returned (.tuple #[.int .u64 0, .int .i64 0, .int .i64 2]) ∧ w = w' := by
  go_enter Try.func21, Try.ntmps21
  go_wp2
  refine wp_loop_rounds 1 ?_
  rw [rounds_succ]
  go_wp2
  go_ret3
  exact ⟨rfl, rfl⟩

end Ref
end Go.Proofs.Ytcnnkgkejafeeaa
