/- octet's own ReadVar. -/
import Derived.Test.YtcnnkgkejafeeaaOctRead
import Derived.Test.YtcnnkgkejafeeaaOwnPut
namespace Go.Proofs.Ytcnnkgkejafeeaa
open Go.RowKit

theorem unmore (c : Nat) (h : c < 256) : bits .andNot .u8 (c : Int) 128 = ((c % 128 : Nat) : Int) := by
  have k : ∀ x : Fin 256, bits .andNot .u8 (x.val : Int) 128 = ((x.val % 128 : Nat) : Int) := by decide +kernel
  exact k ⟨c, h⟩

namespace Own

theorem ReadVar_arg (v : Option Addr) (len cap : Nat) (at_ : Int) (w : World) (h : at_ < 0 ∨ 0 ≤ at_ ∧ (len : Int) < at_) :
    Calls Try.prog 20 #[.slice v len cap, .int .i64 at_] w fun e w' => e = .returned (.tuple #[.int .u64 0, .int .i64 0, .int .i64 1]) ∧ w = w' := by
  rcases h with h | ⟨h0, h⟩
  · go_enter Try.func20, Try.ntmps20
    go_wp2_with fail
    refine (outside_lo v len cap at_ _ h).mono ?_; rintro e w1 ⟨rfl, rfl⟩
    go_wp2
    go_ret3
    exact ⟨rfl, rfl⟩
  · go_enter Try.func20, Try.ntmps20
    go_wp2_with fail
    refine (outside_hi v len cap at_ _ h0 h).mono ?_; rintro e w1 ⟨rfl, rfl⟩
    go_wp2
    go_ret3
    exact ⟨rfl, rfl⟩

theorem ReadVar_none (w : World) :
    Calls Try.prog 20 #[.slice none 0 0, .int .i64 0] w fun e w' => e = .returned (.tuple #[.int .u64 0, .int .i64 0, .int .i64 2]) ∧ w = w' := by
  go_enter Try.func20, Try.ntmps20
  go_wp2_with fail
  refine (outside_no _ 0 0 0 _ (by omega) (by omega)).mono ?_; rintro e w1 ⟨rfl, rfl⟩
  go_wp2
  refine wp_loop_rounds 1 ?_
  rw [rounds_succ]
  go_wp2
  go_ret3
  exact ⟨rfl, rfl⟩

/-- at the end of the bytes: none follows -/
theorem ReadVar_end (a : Addr) (len cap : Nat) (w : World) (hl : (cap : Int) ≤ 9223372036854775807) (hc : len ≤ cap) :
    Calls Try.prog 20 #[.slice (some a) len cap, .int .i64 (len : Int)] w fun e w' => e = .returned (.tuple #[.int .u64 0, .int .i64 0, .int .i64 2]) ∧ w = w' := by
  have hlc : (len : Int) ≤ cap := by omega
  by_cases hcap : len = cap
  · subst hcap
    go_enter Try.func20, Try.ntmps20
    go_wp2_with fail
    refine (outside_no _ len _ len _ (by omega) (by omega)).mono ?_; rintro e w1 ⟨rfl, rfl⟩
    go_wp2
    refine wp_loop_rounds 1 ?_
    rw [rounds_succ]
    go_wp2
    go_ret3
    exact ⟨rfl, rfl⟩
  · have hlt : (len : Int) < cap := by omega
    go_enter Try.func20, Try.ntmps20
    go_wp2_with fail
    refine (outside_no _ len _ len _ (by omega) (by omega)).mono ?_; rintro e w1 ⟨rfl, rfl⟩
    go_wp2
    refine wp_loop_rounds 1 ?_
    rw [rounds_succ]
    go_wp2
    go_ret3
    exact ⟨rfl, rfl⟩

set_option maxHeartbeats 8000000 in
theorem ReadVar_any (b o cap k : Nat) (l : List UInt8) (w : World) (hcap : l.length ≤ cap) (hl : (cap : Int) ≤ 9223372036854775807) (hll : (l.length : Int) ≤ 9223372036854775797) (h : (k : Int) < l.length) (L : Lies w b o l) :
    Calls Try.prog 20 #[.slice (some ⟨b, o, none⟩) l.length cap, .int .i64 k] w fun e w' => e = .returned (answer k (Oct.read 0 0 (l.drop k))) ∧ w = w' := by
  have hlc : (l.length : Int) ≤ cap := by omega
  have hkc : (k : Int) < cap := by omega
  obtain ⟨R, hR⟩ : ∃ R, R = answer k (Oct.read 0 0 (l.drop k)) := ⟨_, rfl⟩
  rw [← hR]
  go_enter Try.func20, Try.ntmps20
  go_wp2_with fail
  refine (outside_no _ l.length cap k _ (by omega) (by omega)).mono ?_; rintro e w1 ⟨rfl, rfl⟩
  go_wp2
  go_loop [8, 17] (fun a i => ∃ j s : Nat, j ≤ 10 ∧ k + j ≤ l.length ∧ (j < 10 → s < 128 ^ j) ∧ R = answer k (Oct.read j s (l.drop (k + j))) ∧ a = .int .u64 s ∧ i = .int .i64 j) (fun _ i => 10 - (intOf i).toNat)
  case atStart => exact ⟨0, 0, by omega, by omega, fun _ => by decide, hR, rfl, rfl⟩
  case round =>
    obtain ⟨j, s, hj, hkj, hs, hr, rfl, rfl⟩ := hrel
    clear hR
    obtain ⟨rl, hrl⟩ : ∃ rl, rl = l.length - k := ⟨_, rfl⟩
    by_cases hc : j < 10
    · by_cases he : (k : Int) + j < l.length
      · have hcell := L (k + j) (by omega)
        rw [← Nat.add_assoc] at hcell
        have hdrop := drop_at l (k + j) (by omega)
        have hne : ((j : Int) == ((l.length - k : Nat) : Int)) = false := by rw [beq_eq_false_iff_ne]; omega
        have hlt : (j : Int) < ((l.length - k : Nat) : Int) := by omega
        clear L
        obtain ⟨x, hx⟩ : ∃ x, x = l.getD (k + j) 0 := ⟨_, rfl⟩
        rw [← hx] at hcell hdrop
        rw [hdrop] at hr
        obtain ⟨c, hcv⟩ : ∃ c : Nat, c = x.toNat := ⟨_, rfl⟩
        have c1 : (c : Int) ≤ 255 := by have := x.toNat_lt; omega
        have em := unmore c (by omega)
        obtain ⟨m, hm⟩ : ∃ m, m = c % 128 := ⟨_, rfl⟩
        have m1 : (m : Int) ≤ 127 := by omega
        rw [← hcv] at hcell
        rw [← hm] at em
        rw [← hrl] at hne hlt ⊢
        obtain ⟨s2, e2⟩ := or_some (s : Int) (adds j m)
        by_cases hx : (128 : Int) ≤ c
        · obtain ⟨s3, e3, hs2, hr2⟩ := go_on j s m c x (l.drop (k + j + 1)) hc hcv hm (by omega) (hs hc)
          obtain rfl : s2 = s3 := by omega
          rw [hr2] at hr
          have hend : ∃ j' s' : Nat, j' ≤ 10 ∧ k + j' ≤ l.length ∧ (j' < 10 → s' < 128 ^ j') ∧ R = answer k (Oct.read j' s' (l.drop (k + j'))) ∧ Value.int .u64 (s2 : Int) = .int .u64 s' ∧ Value.int .i64 ((j : Int) + 1) = .int .i64 (j' : Int) :=
            ⟨j + 1, s2, by omega, by omega, hs2, hr, rfl, rfl⟩
          clear hr hr2 hs hs2 hdrop hm hcv e3 hrl
          rcases ten hc with rfl | rfl | rfl | rfl | rfl | rfl | rfl | rfl | rfl | rfl
          all_goals
            first | rw [adds0] at e2 | rw [adds1] at e2 | rw [adds2] at e2 | rw [adds3] at e2 | rw [adds4] at e2 | rw [adds5] at e2 | rw [adds6] at e2 | rw [adds7] at e2 | rw [adds8] at e2 | rw [adds9] at e2
            try simp only [Nat.add_zero] at hcell
            go_wp2
            exact ⟨hend, by simp [intOf]⟩
        · have hx1 : decide ((128 : Int) ≤ c) = false := decide_eq_false hx
          by_cases hz : 0 < j ∧ c = 0
          · obtain ⟨z1, rfl⟩ := hz
            rw [stop_bad j s 0 x _ hc hcv (by omega) (Or.inl ⟨z1, rfl⟩)] at hr
            clear hs hdrop hm hcv hrl
            rcases ten hc with rfl | rfl | rfl | rfl | rfl | rfl | rfl | rfl | rfl | rfl
            · exact absurd z1 (by decide)
            all_goals
              first | rw [adds0] at e2 | rw [adds1] at e2 | rw [adds2] at e2 | rw [adds3] at e2 | rw [adds4] at e2 | rw [adds5] at e2 | rw [adds6] at e2 | rw [adds7] at e2 | rw [adds8] at e2 | rw [adds9] at e2
              go_wp2
              go_ret3
              exact ⟨rfl, rfl⟩
          by_cases h9 : j = 9 ∧ 1 < c
          · obtain ⟨rfl, z1⟩ := h9
            have z2 : (1 : Int) < c := by omega
            have z3 : ((c : Int) == 0) = false := by rw [beq_eq_false_iff_ne]; omega
            rw [stop_bad 9 s c x _ hc hcv (by omega) (Or.inr ⟨rfl, z1⟩)] at hr
            clear hs hdrop hm hcv hrl
            rw [adds9] at e2
            go_wp2
            go_ret3
            exact ⟨rfl, rfl⟩
          obtain ⟨s3, e3, hr2⟩ := stop_ok j s m c x (l.drop (k + j + 1)) hc hcv hm (by omega) (hs hc) (fun a b => hz ⟨a, b⟩) (fun a => by omega)
          obtain rfl : s2 = s3 := by omega
          rw [hr2] at hr
          have hz1 : 0 < j → ((c : Int) == 0) = false := fun a => by rw [beq_eq_false_iff_ne]; omega
          have h91 : j = 9 → decide ((1 : Int) < c) = false := fun a => decide_eq_false (by omega)
          clear hr2 hs hdrop hm hcv hz h9 e3 hrl
          rcases ten hc with rfl | rfl | rfl | rfl | rfl | rfl | rfl | rfl | rfl | rfl
          all_goals
            first | rw [adds0] at e2 | rw [adds1] at e2 | rw [adds2] at e2 | rw [adds3] at e2 | rw [adds4] at e2 | rw [adds5] at e2 | rw [adds6] at e2 | rw [adds7] at e2 | rw [adds8] at e2 | rw [adds9] at e2
            try simp only [Nat.add_zero] at hcell
          · by_cases z0 : c = 0
            · have z3 : ((c : Int) == 0) = true := by rw [beq_iff_eq]; omega
              have z4 : decide ((1 : Int) < c) = false := decide_eq_false (by omega)
              clear hz1 h91 z0
              go_wp2
              go_ret3
              exact ⟨ret3 (by omega), rfl⟩
            · have z3 : ((c : Int) == 0) = false := by rw [beq_eq_false_iff_ne]; omega
              clear hz1 h91
              by_cases z1 : (1 : Int) < c
              · go_wp2
                go_ret3
                exact ⟨ret3 (by omega), rfl⟩
              · have z4 : decide ((1 : Int) < c) = false := decide_eq_false z1
                go_wp2
                go_ret3
                exact ⟨ret3 (by omega), rfl⟩
          all_goals
            have hz2 := hz1 (by decide)
            try have h92 := h91 rfl
            clear hz1 h91
            by_cases z1 : (1 : Int) < c
            · first
              | (rw [decide_eq_true z1] at h92; cases h92)
              | (go_wp2
                 go_ret3
                 exact ⟨ret3 (by omega), rfl⟩)
            · have z4 : decide ((1 : Int) < c) = false := decide_eq_false z1
              go_wp2
              go_ret3
              exact ⟨ret3 (by omega), rfl⟩
      · have hn : l.drop (k + j) = [] := List.drop_eq_nil_of_le (by omega)
        rw [hn, read_end j s hc] at hr
        have hej : j = rl := by omega
        subst hej
        rw [← hrl] 
        clear hs L hn
        go_wp2
        go_ret3
        exact ⟨rfl, rfl⟩
    · obtain rfl : j = 10 := by omega
      rw [read_ten] at hr
      clear hs L
      go_wp2
      go_ret3
      exact ⟨rfl, rfl⟩

end Own
end Go.Proofs.Ytcnnkgkejafeeaa
