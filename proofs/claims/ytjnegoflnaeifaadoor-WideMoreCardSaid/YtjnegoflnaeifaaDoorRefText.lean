/- The document's own text of a number: digit by digit. -/
import Derived.Test.YtjnegoflnaeifaaDoorMoreA
import Derived.Test.YtjnegoflnaeifaaDoorRefC
import Derived.Test.YtjnegoflnaeifaaDoorTextB
import Derived.LoopTactic
import Derived.Deep.CutBlock
import Derived.Deep.CutRange
namespace Go.Proofs.YtjnegoflnaeifaaDoor.Ref
open Go.RowKit Go.Proofs.YtjnegoflnaeifaaDoor

/-- a digit's sign -/
def dch (r : Nat) : UInt8 := UInt8.ofNat (48 + r)
theorem dch_int (r : Nat) (hr : (r : Int) ≤ 9) : ((dch r).toNat : Int) = 48 + (r : Int) := by
  unfold dch
  rw [Dec.digit_toNat r (by omega)]
  omega

/-- the digits of what is left; none of 0 -/
def dg (n : Nat) : List UInt8 := if n = 0 then [] else Lib.decDigits n
theorem dg_zero : dg 0 = [] := rfl
theorem dg_pos {n : Nat} (h : n ≠ 0) : dg n = Lib.decDigits n := if_neg h
theorem dg_next {n : Nat} (h : n ≠ 0) : dg n = dg (n / 10) ++ [UInt8.ofNat (48 + n % 10)] := by
  rw [dg_pos h]
  by_cases g : n < 10
  · rw [show n / 10 = 0 by omega, dg_zero, Dec.dec_one g, Nat.mod_eq_of_lt g]; rfl
  · rw [dg_pos (show n / 10 ≠ 0 by omega), Dec.dec_more g]

/-- as far as it went: o is behind the digits of n -/
def Far (N n : Nat) (o : List UInt8) : Prop := Lib.decDigits N = dg n ++ o
theorem Far.next {N n : Nat} {o : List UInt8} (h : Far N n o) (hn : n ≠ 0) : Far N (n / 10) (dch (n % 10) :: o) := by
  unfold Far at *
  rw [h, dg_next hn, List.append_assoc]; rfl
theorem Far.done {N n : Nat} {o : List UInt8} (h : Far N n o) (hn : n = 0) : o = Lib.decDigits N := by
  unfold Far at h
  rw [h, hn, dg_zero]; rfl
theorem far_start {N : Nat} (h : N ≠ 0) : Far N N [] := by
  unfold Far
  rw [dg_pos h, List.append_nil]

/-- the document's split by ten -/
theorem split_ten (H L : Nat) (hH : H < 18446744073709551616) (hL : L < 18446744073709551616) :
    ∃ qh ql r : Nat, qh * 18446744073709551616 + ql = (H * 18446744073709551616 + L) / 10 ∧ r = (H * 18446744073709551616 + L) % 10 ∧ qh < 18446744073709551616 ∧ ql < 18446744073709551616 ∧
      ∀ w, Calls Tryd.prog 41 #[.int .u64 H, .int .u64 L, .int .u64 10] w fun e w' => e = .returned (.tuple #[.int .u64 qh, .int .u64 ql, .int .u64 r]) ∧ w = w' := by
  refine ⟨(H * 18446744073709551616 + L) / 10 / 18446744073709551616, (H * 18446744073709551616 + L) / 10 % 18446744073709551616, (H * 18446744073709551616 + L) % 10, by omega, rfl, by omega, by omega, fun w => ?_⟩
  have h := split_any H L 10 ((H * 18446744073709551616 + L : Nat) : Int) w hH hL (by omega) (by omega) rfl
  rw [show (((10 : Nat)) : Int) = 10 from rfl] at h
  have a : ((H * 18446744073709551616 + L : Nat) : Int) / 10 / 18446744073709551616 = (((H * 18446744073709551616 + L) / 10 / 18446744073709551616 : Nat) : Int) := by omega
  have b : ((H * 18446744073709551616 + L : Nat) : Int) / 10 % 18446744073709551616 = (((H * 18446744073709551616 + L) / 10 % 18446744073709551616 : Nat) : Int) := by omega
  have c : ((H * 18446744073709551616 + L : Nat) : Int) % 10 = (((H * 18446744073709551616 + L) % 10 : Nat) : Int) := by omega
  rw [a, b, c] at h
  exact h

/-- what holds at a round's head -/
structure Tx (N k a b : Nat) (o : List UInt8) : Prop where
  le : k ≤ 40
  ha : a < 18446744073709551616
  hb : b < 18446744073709551616
  small : a * 18446744073709551616 + b < 10 ^ (40 - k)
  far : Far N (a * 18446744073709551616 + b) o
  len : o.length ≤ k
theorem Tx.stop {N k a b : Nat} {o : List UInt8} (h : Tx N k a b o) (hn : a * 18446744073709551616 + b = 0) : o = Lib.decDigits N := h.far.done hn
theorem Tx.last {N k a b : Nat} {o : List UInt8} (h : Tx N k a b o) (hk : k = 40) : o = Lib.decDigits N :=
  h.far.done (by have := h.small; rw [hk] at this; simp only [Nat.sub_self, Nat.pow_zero] at this; omega)
theorem Tx.next {N k a b c d r : Nat} {o : List UInt8} (h : Tx N k a b o) (hn : a * 18446744073709551616 + b ≠ 0) (hk : k < 40) (e : c * 18446744073709551616 + d = (a * 18446744073709551616 + b) / 10) (er : r = (a * 18446744073709551616 + b) % 10) (hc : c < 18446744073709551616) (hd : d < 18446744073709551616) :
    Tx N (k + 1) c d (dch r :: o) where
  le := hk
  ha := hc
  hb := hd
  small := by
    have := h.small
    rw [show 40 - k = 40 - (k + 1) + 1 by omega, Nat.pow_succ] at this
    rw [e]; omega
  far := by rw [e, er]; exact h.far.next hn
  len := by have := h.len; simp; omega

theorem conv_one (r : Nat) (hr : (r : Int) ≤ 9) (wr : World) :
    (convert 59 9 (.slice (some ⟨wr.heap.size, 0, none⟩) 1 1)).run Tryd.prog (wr.alloc (.cells #[.int .u8 (48 + (r : Int))] 5)) = .ok (.string ⟨#[dch r]⟩) (wr.alloc (.cells #[.int .u8 (48 + (r : Int))] 5)) := by
  have h := run_convert_bytes_back (P := Tryd.prog) (wr.alloc (.cells #[.int .u8 (48 + (r : Int))] 5)) 59 9 5 ⟨wr.heap.size, 0, none⟩ 1 [dch r] Tryd.underlying59 Tryd.underlying5 Tryd.underlying9 (fun j hj => by
    obtain rfl : j = 0 := by simpa using hj
    rw [show (([dch r][0]'hj).toNat : Int) = 48 + (r : Int) from dch_int r hr, Lib.add_plain]
    simp)
  exact h

theorem cat_one (c : UInt8) (o : List UInt8) : ((⟨#[c]⟩ : ByteArray) ++ (⟨o.toArray⟩ : ByteArray)) = ⟨(c :: o).toArray⟩ := cat [c] o

theorem Text_nought (w : World) :
    Calls Tryd.prog 17 #[.agg #[.int .i64 0, .int .u64 0]] w fun e w' => e = .returned (.string ⟨#[48]⟩) ∧ Below w.heap.size w w' := by
  go_enter Tryd.func17, Tryd.ntmps17
  go_wp2_with fail
  go_ret
  exact ⟨rfl, below1 w _⟩

set_option maxHeartbeats 4000000 in
set_option maxRecDepth 100000 in
theorem Text_core (h l hm : Int) (N H L : Nat) (g : Int) (w : World) (hne : (h == 0) = false ∨ ((l == 0) = false)) (hH : H < 18446744073709551616) (hL : L < 18446744073709551616) (hN : N = H * 18446744073709551616 + L) (hN0 : N ≠ 0) (ew : IntKind.u64.wrap hm = (H : Int)) (T : List UInt8) (hg : (decide (g < 0) = true ∧ T = 45 :: Lib.decDigits N) ∨ (decide (g < 0) = false ∧ T = Lib.decDigits N))
    (A : Hid (∀ w, Calls Tryd.prog 15 #[.agg #[.int .i64 h, .int .u64 l]] w fun e w' => e = .returned (.agg #[.int .i64 hm, .int .u64 L]) ∧ Below w.heap.size w w'))
    (G : Hid (∀ w, Calls Tryd.prog 30 #[.agg #[.int .i64 h, .int .u64 l]] w fun e w' => e = .returned (.int .i64 g) ∧ Below w.heap.size w w')) :
    Calls Tryd.prog 17 #[.agg #[.int .i64 h, .int .u64 l]] w fun e w' => e = .returned (.string ⟨T.toArray⟩) ∧ Below w.heap.size w w' := by
  have X0 := own2 w (.int .i64 h) (.int .u64 l) 24
  have F0 : ∀ a b w, (Instr.field 24 (.agg #[.int .i64 a, .int .u64 b]) 0).run Tryd.prog w = .ok (.int .i64 a) w := fun _ _ _ => by kernel_rfl
  have F1 : ∀ a b w, (Instr.field 24 (.agg #[.int .i64 a, .int .u64 b]) 1).run Tryd.prog w = .ok (.int .u64 b) w := fun _ _ _ => by kernel_rfl
  have hlen : (Lib.decDigits N).length ≤ 40 := by
    refine Dec.dec_len 40 N (by omega) ?_
    have : (10 : Nat) ^ 40 = 10000000000000000000000000000000000000000 := by decide
    omega
  have HN := Lib.hid hN
  have HS := Lib.hid (show N < 10 ^ 40 by have : (10 : Nat) ^ 40 = 10000000000000000000000000000000000000000 := by decide
                                          omega)
  clear hN
  go_enter Tryd.func17, Tryd.ntmps17
  rcases hne with hne | hne
  all_goals
    go_wp2_with fail
    go_region_held3 (fun w' => w'.cell? ⟨w.heap.size, 0, none⟩ = some (.int .i64 h) ∧ w'.cell? ⟨w.heap.size, 1, none⟩ = some (.int .u64 l))
      (first
        | (go_split_ands; refine ⟨?_, ?_⟩ <;> first | exact keepc hb2 (by assumption) | exact keepc hb1 (by assumption))
        | go_keep)
      (first
        | (go_at_call 15; have _t := B1; clear _t; (with_reducible refine (A.out _).mono ?_); rintro e w2 ⟨rfl, hb2⟩; have B2 := belowT B1 hb2)
        | (go_at_call 15; (with_reducible refine (A.out _).mono ?_); rintro e w1 ⟨rfl, hb1⟩; have B1 := belowT (below1 w _).drew hb1))
  all_goals
    have X2 := (X0.drew.keep hb1).keep hb2
    clear X0
    go_upto_block 0 with fail
    go_cut [3] from 4 to 43 (fun sv wx => sv = .string ⟨(Lib.decDigits N).toArray⟩ ∧ Own2 wx w.heap.size (.int .i64 h) (.int .u64 l) ∧ Below w.heap.size w wx)
    case' first =>
      go_wp2_with fail
      go_loopw [3, 4, 5, 19] (fun so sh sl si wr => ∃ (k a b : Nat) (o : List UInt8), Tx N k a b o ∧ so = .string ⟨o.toArray⟩ ∧ sh = .int .u64 a ∧ sl = .int .u64 b ∧ si = .int .i64 k ∧ Own2 wr w.heap.size (.int .i64 h) (.int .u64 l) ∧ Below w.heap.size w wr) (fun _ _ _ si _ => (40 - intOf si).toNat)
      case' atStart => exact ⟨0, H, L, [], ⟨by omega, hH, hL, by rw [← HN.out]; exact HS.out, by rw [← HN.out]; exact far_start hN0, by simp⟩, rfl, rfl, rfl, rfl, X2, B2⟩
      case' round =>
        obtain ⟨k, a, b, o, hS, rfl, rfl, rfl, rfl, X, B⟩ := hrel
        have a1 := hS.ha
        have b1 := hS.hb
        have ol := hS.len
        have k40 := hS.le
        have S := Lib.hid hS
        clear hS HN HS
        by_cases hk : k < 40
        · have hki : (k : Int) < 40 := by omega
          by_cases ha : a = 0
          · subst ha
            by_cases hb : b = 0
            · subst hb
              have Z := S.out.stop rfl
              subst Z
              go_wp2_with fail
              go_meet
              exact ⟨rfl, X, B⟩
            · have bz : ((b : Int) == 0) = false := by rw [beq_eq_false_iff_ne]; omega
              have hn : 0 * 18446744073709551616 + b ≠ 0 := by omega
              obtain ⟨c, d, r, e1, er, c1, d1, SP⟩ := split_ten 0 b a1 b1
              have r0 : (0 : Int) ≤ (r : Int) := by omega
              have r9 : (r : Int) ≤ 9 := by omega
              have P : Hid (∀ w, Calls Tryd.prog 41 #[.int .u64 0, .int .u64 b, .int .u64 10] w fun e w' => e = .returned (.tuple #[.int .u64 c, .int .u64 d, .int .u64 r]) ∧ w = w') := Lib.hid SP
              have NX := Lib.hid (S.out.next hn hk e1 er c1 d1)
              clear hb
              clear hn e1 er SP c1 d1 S hk
              have CV := conv_one r r9
              go_wp2_with fail
              refine (P.out _).mono ?_; rintro e w3 ⟨rfl, rfl⟩
              go_wp2_with fail
              go_roundw
              case rel => exact ⟨k + 1, c, d, dch r :: o, NX.out, by rw [cat_one], rfl, rfl, by go_num, X.more _, belowT B (below1 _ _)⟩
              case measure => simp [intOf]; omega
          · have az : ((a : Int) == 0) = false := by rw [beq_eq_false_iff_ne]; omega
            have hn : a * 18446744073709551616 + b ≠ 0 := by omega
            obtain ⟨c, d, r, e1, er, c1, d1, SP⟩ := split_ten a b a1 b1
            have r0 : (0 : Int) ≤ (r : Int) := by omega
            have r9 : (r : Int) ≤ 9 := by omega
            have P : Hid (∀ w, Calls Tryd.prog 41 #[.int .u64 a, .int .u64 b, .int .u64 10] w fun e w' => e = .returned (.tuple #[.int .u64 c, .int .u64 d, .int .u64 r]) ∧ w = w') := Lib.hid SP
            have NX := Lib.hid (S.out.next hn hk e1 er c1 d1)
            clear ha
            clear hn e1 er SP c1 d1 S hk
            have CV := conv_one r r9
            go_wp2_with fail
            refine (P.out _).mono ?_; rintro e w3 ⟨rfl, rfl⟩
            go_wp2_with fail
            go_roundw
            case rel => exact ⟨k + 1, c, d, dch r :: o, NX.out, by rw [cat_one], rfl, rfl, by go_num, X.more _, belowT B (below1 _ _)⟩
            case measure => simp [intOf]; omega
        · have hk' : k = 40 := by omega
          subst hk'
          have Z := S.out.last rfl
          subst Z
          clear hk
          go_wp2_with fail
          go_meet
          exact ⟨rfl, X, B⟩
    case' rest =>
      obtain ⟨rfl, X3, B3⟩ := hcut
      have X3a := X3.c0; have X3b := X3.c1
      clear HN HS
      rcases hg with ⟨hg, rfl⟩ | ⟨hg, rfl⟩
      · skip
        go_wp2_with fail
        refine (G.out _).mono ?_; rintro e w4 ⟨rfl, hb4⟩
        have B4 := belowT (B3) hb4
        have X4 := (X3).keep hb4; have X4a := X4.c0; have X4b := X4.c1; have X4c := X4.f0; have X4d := X4.f1; have X4l := X4.lt
        go_wp2_with fail
        all_goals try (exfalso; omega)
        rw [cat_dash]
        go_ret
        exact ⟨rfl, B4⟩
      · skip
        go_wp2_with fail
        refine (G.out _).mono ?_; rintro e w4 ⟨rfl, hb4⟩
        have B4 := belowT (B3) hb4
        have X4 := (X3).keep hb4; have X4a := X4.c0; have X4b := X4.c1; have X4c := X4.f0; have X4d := X4.f1; have X4l := X4.lt
        go_wp2_with fail
        go_ret
        exact ⟨rfl, B4⟩

theorem Text_any (x : Int) (w : World) (rx : Wd.Rm x) :
    Calls Tryd.prog 17 #[.agg #[.int .i64 (Wd.hi x), .int .u64 (Wd.lo x)]] w fun e w' => e = .returned (.string ⟨(text x).toArray⟩) ∧ Below w.heap.size w w' := by
  by_cases hx : x = 0
  · subst hx
    rw [Wd.hi_zero, Wd.lo_zero]
    have e : text 0 = [48] := by
      unfold text
      rw [if_neg (by omega), show (0 : Int).natAbs = 0 from rfl, Dec.dec_one (by omega)]; rfl
    rw [e]
    exact Text_nought w
  · have A := fun w => Abs_any x w rx
    have hN : x.natAbs ≤ 170141183460469231731687303715884105728 := by unfold Wd.Rm at rx; omega
    obtain ⟨N, eN⟩ : ∃ N : Nat, N = x.natAbs := ⟨_, rfl⟩
    rw [← eN] at hN A
    have el : Wd.lo (N : Int) = ((N % 18446744073709551616 : Nat) : Int) := by unfold Wd.lo; omega
    have eh : IntKind.u64.wrap (Wd.hi (N : Int)) = ((N / 18446744073709551616 : Nat) : Int) := by rw [wrap_u]; unfold Wd.hi; omega
    rw [el] at A
    have G := fun w => Sign_any x w rx
    have hne : ((Wd.hi x == 0) = false) ∨ ((Wd.lo x == 0) = false) := by
      by_cases h : Wd.hi x = 0
      · refine Or.inr (beq_eq_false_iff_ne.2 fun l => hx ?_)
        rw [Wd.halves x rx, h, l]; rfl
      · exact Or.inl (beq_eq_false_iff_ne.2 h)
    have sg : (Wd.sg x < 0) = (x < 0) := by
      apply propext
      unfold Wd.sg
      split
      · omega
      · split <;> omega
    have h := Text_core (Wd.hi x) (Wd.lo x) (Wd.hi (N : Int)) N (N / 18446744073709551616) (N % 18446744073709551616) (Wd.sg x) w hne (by omega) (by omega) (by omega) (by omega) eh (text x) (by
      unfold text
      rw [← eN]
      by_cases h : x < 0
      · exact Or.inl ⟨decide_eq_true (by rw [sg]; exact h), if_pos h⟩
      · exact Or.inr ⟨decide_eq_false (by rw [sg]; exact h), if_neg h⟩) (Lib.hid A) (Lib.hid G)
    exact h

end Go.Proofs.YtjnegoflnaeifaaDoor.Ref
