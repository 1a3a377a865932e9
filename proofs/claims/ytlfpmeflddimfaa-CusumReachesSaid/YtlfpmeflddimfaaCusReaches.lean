/- CusumReaches. -/
import Derived.Test.YtlfpmeflddimfaaCusAwake
import Derived.Lib.MinMax
import Derived.Deep.Cut
import Derived.BigQuiet
namespace Go.Proofs.Ytlfpmeflddimfaa
open Go.RowKit

/-- numbers of at least b, each with as much more as x says -/
def runs (b : Int) (x : Nat → Int) : Nat → List Int
  | 0 => []
  | j + 1 => runs b x j ++ [b + x j]
theorem runs_length (b : Int) (x : Nat → Int) : ∀ j, (runs b x j).length = j
  | 0 => rfl
  | j + 1 => by rw [runs, List.length_append, runs_length b x j]; rfl
theorem runs_all (b : Int) (x : Nat → Int) (P : Int → Prop) (h : ∀ j, P (b + x j)) : ∀ j, ∀ y ∈ runs b x j, P y
  | 0, _, hy => absurd hy List.not_mem_nil
  | j + 1, y, hy => by
    rcases List.mem_append.1 hy with hy | hy
    · exact runs_all b x P h j y hy
    · rw [List.mem_singleton.1 hy]; exact h j

/-- how often b goes into a limit, rounded up -/
theorem tick_facts (lim b : Int) (h0 : 0 ≤ lim) (h1 : lim ≤ 1999) (h2 : 1 ≤ b) :
    ∃ n : Nat, Lan21.tickV lim b = (n : Int) ∧ Lan21.tickE lim b = 0 ∧ n ≤ 2000 ∧ lim ≤ n * b ∧ (n ≠ 0 → 0 < lim) := by
  have e : Fix.flr (-lim) b = (-lim) / b := Fix.flr_pos (by omega)
  have g := Fix.flr_le (-lim) b (by omega)
  obtain ⟨g1, g2⟩ := g.1 (by omega)
  obtain ⟨q, hq⟩ : ∃ q, q = Fix.flr (-lim) b := ⟨_, rfl⟩
  rw [← hq] at g1 g2
  have hq0 : q ≤ 0 := by
    rcases Int.lt_or_le 0 q with h | h
    · have := Int.mul_le_mul_of_nonneg_right (show 1 ≤ q by omega) (show 0 ≤ b by omega)
      rw [Int.one_mul] at this
      omega
    · exact h
  have hqn : -2000 ≤ q := by
    rcases Int.lt_or_le q (-2000) with h | h
    · have := Int.mul_le_mul_of_nonneg_right (show q + 1 ≤ -2000 by omega) (show 0 ≤ b by omega)
      omega
    · exact h
  refine ⟨(-q).toNat, ?_, ?_, by omega, ?_, fun hn => ?_⟩
  · unfold Lan21.tickV Fix.ceilV
    rw [if_neg (by omega), if_neg (by omega), ← hq, Fix.okV_in (by omega)]
    omega
  · unfold Lan21.tickE Fix.ceilE
    rw [if_neg (by omega), if_neg (by omega), ← hq, Fix.okE_in (by omega)]
  · rw [Int.toNat_of_nonneg (by omega), Int.neg_mul]
    omega
  · rcases Int.lt_or_le 0 lim with h | h
    · exact h
    · exfalso
      have h : lim = 0 := by omega
      subst h
      have : q = 0 := by rw [hq, e]; simp
      omega

theorem Came6.keepB {w w' : World} {B : Nat} {ba : Option Addr} {cap : Nat} {l : List Int} (C : Came6 w ba cap l) (hb : Below B w w') (h : w.heap.size = B) : Came6 w' ba cap l := by
  subst h
  exact C.keep hb

set_option maxHeartbeats 16000000 in
set_option maxRecDepth 100000 in
theorem reaches_core {w : World} {ba : Option Addr} {cap : Nat} {l : List Int} (C : Came6 w ba cap l) (n0 n1 n2 u0 u1 u2 r0 r1 r2 r5 b K c1 : Int) (n : Nat)
    (hu0 : IntKind.u64.wrap n0 = u0) (hu1 : IntKind.u64.wrap n1 = u1) (hu2 : IntKind.u64.wrap n2 = u2)
    (hr0 : u0.tmod 2000 = r0) (hr1 : u1.tmod 300 = r1) (hr2 : u2.tmod 1000 = r2) (hr5 : u2.tmod 50 = r5)
    (q0 : 0 ≤ r0) (q0' : r0 ≤ 1999) (q1 : 0 ≤ r1) (q1' : r1 ≤ 299) (q2 : 0 ≤ r2) (q2' : r2 ≤ 999) (q5 : 0 ≤ r5) (q5' : r5 ≤ 49)
    (hb : 1 + r1 = b) (hK : r0 + r2 = K) (hc1 : min K r5 = c1)
    (hT : Lan21.tickV r0 b = (n : Int) ∧ Lan21.tickE r0 b = 0) (hn : n ≤ 2000) (hnb : r0 ≤ n * b) (hn0 : n ≠ 0 → 0 < r0) :
    Calls Try.prog 5 #[.slice ba l.length cap, .agg #[.int .i64 n0, .int .i64 n1, .int .i64 n2]] w fun e w' => e = .returned (.bool true) ∧ Below w.heap.size w w' := by
  have AW := Lib.hid awake_any
  have CH := Lib.hid C
  have hm0 := C.max
  have hm1 := C.le
  unfold maxLen at hm0
  have hm : (l.length : Int) ≤ 9223372036854775807 := by omega
  have p1 : 1 ≤ b := by omega
  have p1' : b ≤ 300 := by omega
  have pK : 0 ≤ K := by omega
  have pK' : K ≤ 2998 := by omega
  have pn : (n : Int) ≤ 2000 := by omega
  have TI := Lib.hid fun w => Lan21.Ticks_any r0 b w ⟨by omega, by omega⟩ ⟨by omega, by omega⟩
  rw [hT.1, hT.2] at TI
  obtain ⟨x, hx0, hx1, hx2⟩ : ∃ x : Nat → Int, (∀ j, 0 ≤ x j ∧ x j < 1000) ∧ (∀ j, j < l.length → x j = md 1000 (l.getD j 0)) ∧ (∀ j, ¬ j < l.length → x j = 0) :=
    ⟨fun j => if j < l.length then md 1000 (l.getD j 0) else 0, fun j => by
      show 0 ≤ (if j < l.length then md 1000 (l.getD j 0) else 0) ∧ (if j < l.length then md 1000 (l.getD j 0) else 0) < 1000
      split
      · exact md_rng _ _ (by decide)
      · omega, fun j h => if_pos h, fun j h => if_neg h⟩
  obtain ⟨g, hg0, hg1, hg2, hg3, hg4⟩ : ∃ g : Nat → List Int, g 0 = [] ∧ (∀ j, g (j + 1) = g j ++ [b + x j]) ∧ (∀ j, (g j).length = j) ∧ (∀ j, Rooms (g j)) ∧ (∀ j, ∀ y ∈ g j, b ≤ y) :=
    ⟨runs b x, rfl, fun _ => rfl, runs_length b x, fun j => runs_all b x Fix.Room (fun j => by have := hx0 j; exact ⟨by omega, by omega⟩) j, fun j => runs_all b x (b ≤ ·) (fun j => by have := hx0 j; omega) j⟩
  obtain ⟨A0, hA0, hA0'⟩ : ∃ A, A = Cus.steps 0 K (g n) ∧ r0 ≤ A := ⟨_, rfl, by
    have := Cus.steps_far K b (by omega) (by omega) (by omega) (g n) 0 0 (by omega) (hg4 n) (Or.inl (by omega))
    rw [hg2 n] at this
    omega⟩
  obtain ⟨A1, hA1, hA1'⟩ : ∃ A, A = Cus.steps c1 K (g n) ∧ r0 ≤ A := ⟨_, rfl, by
    have := Cus.steps_far K b (by omega) (by omega) (by omega) (g n) c1 0 (by omega) (hg4 n) (Or.inl (by omega))
    rw [hg2 n] at this
    omega⟩
  obtain ⟨R, hR, hR'⟩ : ∃ R, R = Cus.reach r0 K 0 0 (g n) ∧ (n ≠ 0 → 0 ≤ R ∧ R < n) := ⟨_, rfl, fun h => by
    have := Cus.reach_in r0 K (g n) 0 0 (hn0 h) (by rw [← hA0]; exact hA0')
    rw [hg2 n] at this
    omega⟩
  have LR := Lib.hid fun (w' : World) (bl : Option Addr) (cl : Nat) (CL : Came6 w' bl cl (g n)) => (by
    have h := Lan21.Reach_came CL r0 K
    rw [← hR] at h
    exact h : Calls Try.prog 14 #[.int .i64 r0, .int .i64 K, .slice bl (g n).length cl] w' fun e w'' => e = .returned (.int .i64 R) ∧ w' = w'')
  have L0 := Lib.hid fun (w' : World) (bl : Option Addr) (cl : Nat) (CL : Came6 w' bl cl (g n)) => (by
    have h := Lan21.Steps_came CL 0 K ⟨by decide, by decide⟩
    rw [← hA0] at h
    exact h : Calls Try.prog 12 #[.int .i64 0, .int .i64 K, .slice bl (g n).length cl] w' fun e w'' => e = .returned (.int .i64 A0) ∧ w' = w'')
  have L1 := Lib.hid fun (w' : World) (bl : Option Addr) (cl : Nat) (CL : Came6 w' bl cl (g n)) => (by
    have h := Lan21.Steps_came CL c1 K ⟨by omega, by omega⟩
    rw [← hA1] at h
    exact h : Calls Try.prog 12 #[.int .i64 c1, .int .i64 K, .slice bl (g n).length cl] w' fun e w'' => e = .returned (.int .i64 A1) ∧ w' = w'')
  have X0 := Lib.hid hx0
  have X1 := Lib.hid hx1
  have X2 := Lib.hid hx2
  have G0 := Lib.hid hg0
  have HG := Lib.hid hg1
  have GL := Lib.hid hg2
  have GR := Lib.hid hg3
  have RR := Lib.hid hR'
  clear hx0 hx1 hx2 hg0 hg1 hg2 hg3 hg4 C hm0 hm1 hT hn hnb hn0 hA0 hA1 hR hR'
  go_enter Try.func5, Try.ntmps5
  go_upto_region 1 with fail
  obtain ⟨W1, hW1⟩ : ∃ W1, W1 = w.alloc (.cells #[.int .i64 n0, .int .i64 n1, .int .i64 n2] 33) := ⟨_, rfl⟩
  have k0 : W1.cell? ⟨w.heap.size, 0, none⟩ = some (.int .i64 n0) := by rw [hW1]; simp
  have k1 : W1.cell? ⟨w.heap.size, 1, none⟩ = some (.int .i64 n1) := by rw [hW1]; simp
  have k2 : W1.cell? ⟨w.heap.size, 2, none⟩ = some (.int .i64 n2) := by rw [hW1]; simp
  have B1 : Below w.heap.size w W1 := by rw [hW1]; exact below1 _ _
  rw [← hW1]
  clear hW1
  have BB1 := Lib.hid B1
  clear B1
  generalize hG : w.heap.size = G at *
  go_quiet (fail)
  go_wp2_with fail
  refine (TI.out _).mono ?_; rintro e w2 ⟨rfl, m, hw2⟩
  have B2 : Below W1.heap.size W1 w2 := by rw [hw2]; exact belowN (belowN (Below.refl _ _) _) _
  replace k2 := keepc B2 k2
  have hsz : G ≤ W1.heap.size := by rw [← hG]; exact BB1.out.size
  have hs2 : G ≤ w2.heap.size := Nat.le_trans hsz B2.size
  have BB2 := Lib.hid (BB1.out.trans (B2.mono hsz))
  have HS2 := Lib.hid hs2
  clear hsz hs2
  have d2 : decide ((2000 : Int) < n) = false := decide_eq_false (by omega)
  clear hw2 B2 k0 k1 BB1 TI
  go_wp2
  go_loopw [10, 49] (fun s i wr => ∃ (j : Nat), j ≤ n ∧ Own6s w2.heap.size w2 wr s (g j) ∧ i = .int .i64 j) (fun _ i _ => n - (intOf i).toNat)
  case atStart => exact ⟨0, Nat.zero_le _, by rw [G0.out]; exact Own6s.nil w2, rfl⟩
  case round =>
    obtain ⟨j, hj, hown, rfl⟩ := hrel
    by_cases hc : (j : Int) < n
    · have CW := (CH.out.keepB BB2.out hG).keep hown.below
      have hg := HG.out j
      have hgl := GL.out j
      obtain ⟨hx0, hx1⟩ := X0.out j
      obtain ⟨z, hz⟩ : ∃ z, z = b + x j := ⟨_, rfl⟩
      rw [← hz] at hg
      have hroom : (g j).length + 1 ≤ 10000000000000 := by omega
      have HE := Lib.hid (fun (v : Value) (wr : World) (ho : Own6s w2.heap.size w2 wr v (g (j + 1))) => (⟨j + 1, by omega, ho, rfl⟩ : ∃ (j' : Nat), j' ≤ n ∧ Own6s w2.heap.size w2 wr v (g j') ∧ Value.int .i64 ((j : Int) + 1) = .int .i64 j'))
      rw [hg] at HE
      have HO := Lib.hid hown
      have HM := Lib.hid hroom
      by_cases hjm : (j : Int) < l.length
      · obtain ⟨b2, o2, rfl, L2⟩ := CW.lies (by omega)
        have hcell2 := L2 j (by omega)
        have hxx := X1.out j (by omega)
        obtain ⟨y, hy⟩ : ∃ y, y = l.getD j 0 := ⟨_, rfl⟩
        rw [← hy] at hcell2 hxx
        unfold md at hxx
        obtain ⟨u, hu⟩ : ∃ u, u = IntKind.u64.wrap y := ⟨_, rfl⟩
        rw [← hu] at hxx
        replace hu := hu.symm
        replace hxx := hxx.symm
        replace hz := hz.symm
        have z0 : 1 ≤ z := by omega
        have z1 : z ≤ 1300 := by omega
        clear hown CW L2 hg hgl hy hroom LR L0 L1 k2 AW CH BB2
        generalize x j = xj at *
        generalize g j = gj at *
        clear HG G0 GL GR X0 X1 X2
        go_wp2_with (at_builtin; refine list_append_64 rfl _ _ rfl (w0 := wr) (v := u10) rfl _ HO.out rfl HM.out ?_)
        intro v' w' ho
        go_wp2
        go_roundw
        case rel => exact HE.out _ _ ho
        case measure => simp [intOf]; omega
      · have hxx := X2.out j (by omega)
        have dj : decide ((j : Int) < l.length) = false := decide_eq_false hjm
        rw [hxx, Int.add_zero] at hz
        subst hz
        clear hown CW hg hgl hroom hxx hx0 hx1 LR L0 L1 k2 AW CH BB2
        generalize g j = gj at *
        clear HG G0 GL GR X0 X1 X2
        go_wp2_with (at_builtin; refine list_append_64 rfl _ _ rfl (w0 := wr) (v := u10) rfl _ HO.out rfl HM.out ?_)
        intro v' w' ho
        go_wp2
        go_roundw
        case rel => exact HE.out _ _ ho
        case measure => simp [intOf]; omega
    · obtain rfl : j = n := by omega
      obtain ⟨bl, cl, rfl, CL⟩ := hown.came (GR.out _)
      replace k2 := keepc hown.below k2
      have S1 := Lib.hid (LR.out _ _ _ CL)
      have S2 := Lib.hid (L0.out _ _ _ CL)
      have S3 := Lib.hid (L1.out _ _ _ CL)
      have HB := Lib.hid (BB2.out.trans (hown.below.mono HS2.out))
      have HS := Lib.hid (Nat.le_trans HS2.out hown.below.size)
      clear hown CL LR L0 L1 BB2 CH HG G0 GL GR X0 X1 X2
      by_cases hj0 : j = 0
      · have e0 : ((j : Int) == 0) = true := by rw [beq_iff_eq]; omega
        clear RR hj0 hc hj
        go_wp2_with fail
        refine S1.out.mono ?_; rintro e w1 ⟨rfl, rfl⟩
        go_wp2_with fail
        refine S2.out.mono ?_; rintro e w1 ⟨rfl, rfl⟩
        go_wp2_with fail
        refine S3.out.mono ?_; rintro e w1 ⟨rfl, rfl⟩
        go_wp2_with fail
        refine (AW.out _).mono ?_; rintro e w1 ⟨rfl, hb1⟩
        go_wp2_with fail
        go_ret
        exact ⟨rfl, by rw [hG]; exact HB.out.trans (hb1.mono HS.out)⟩
      · have e0 : ((j : Int) == 0) = false := by rw [beq_eq_false_iff_ne]; omega
        obtain ⟨R0, R1⟩ := RR.out hj0
        clear RR hj0 hc hj
        go_wp2_with fail
        refine S1.out.mono ?_; rintro e w1 ⟨rfl, rfl⟩
        go_wp2_with fail
        refine S2.out.mono ?_; rintro e w1 ⟨rfl, rfl⟩
        go_wp2_with fail
        refine S3.out.mono ?_; rintro e w1 ⟨rfl, rfl⟩
        go_wp2_with fail
        refine (AW.out _).mono ?_; rintro e w1 ⟨rfl, hb1⟩
        go_wp2_with fail
        go_ret
        exact ⟨rfl, by rw [hG]; exact HB.out.trans (hb1.mono HS.out)⟩

theorem Reaches_all {w : World} {ba : Option Addr} {cap : Nat} {l : List Int} (n0 n1 n2 : Int) (C : Came6 w ba cap l) :
    Calls Try.prog 5 #[.slice ba l.length cap, .agg #[.int .i64 n0, .int .i64 n1, .int .i64 n2]] w fun e w' => e = .returned (.bool true) ∧ Below w.heap.size w w' := by
  obtain ⟨a1, a2⟩ := md_rng 2000 n0 (by decide)
  obtain ⟨b1, b2⟩ := md_rng 300 n1 (by decide)
  obtain ⟨c1, c2⟩ := md_rng 1000 n2 (by decide)
  obtain ⟨d1, d2⟩ := md_rng 50 n2 (by decide)
  obtain ⟨n, h1, h2, h3, h4, h5⟩ := tick_facts (md 2000 n0) (1 + md 300 n1) a1 (by omega) (by omega)
  exact reaches_core C n0 n1 n2 _ _ _ (md 2000 n0) (md 300 n1) (md 1000 n2) (md 50 n2) (1 + md 300 n1) _ _ n rfl rfl rfl rfl rfl rfl rfl a1 (by omega) b1 (by omega) c1 (by omega) d1 (by omega) rfl rfl rfl ⟨h1, h2⟩ h3 h4 h5
end Go.Proofs.Ytlfpmeflddimfaa
