/- The landed crc's own call Burst: a closure over b, from and to, handed to each. -/
import Derived.Test.YtaipjhfgkidbfaaCrcOwnJ
import Derived.Test.YtaipjhfgkidbfaaCrcOwnU
import Derived.Test.YtaipjhfgkidbfaaShelf
import Derived.Deep.RegionWith
namespace Go.Proofs.Ytaipjhfgkidbfaa
open Go.RowKit

/-- a block of one cell that may be written -/
def One (w : World) (b : Nat) (v : Value) : Prop := w.cell? ⟨b, 0, none⟩ = some v ∧ w.frozen? ⟨b, 0, none⟩ = false
theorem One.keep {w w' : World} {b : Nat} {v : Value} (h : One w b v) (hb : Below w.heap.size w w') : One w' b v := ⟨keepc hb h.1, keepf hb h.1 h.2⟩
theorem One.other {w : World} {b c : Nat} {v : Value} (h : One w b v) (hn : c ≠ b) (z : Value) : One (w.setCell ⟨c, 0, none⟩ z) b v := ⟨keeps hn h.1, by rw [World.frozen?_setCell]; exact h.2⟩
theorem One.set {w : World} {b : Nat} {v : Value} (h : One w b v) (z : Value) : One (w.setCell ⟨b, 0, none⟩ z) b z := ⟨by rw [World.cell?_setCell_same _ _ _ h.1], by rw [World.frozen?_setCell]; exact h.2⟩
theorem one_alloc (w : World) (v : Value) (t : TypeId) : One (w.alloc (.cells #[v] t)) w.heap.size v := ⟨by simp, by simp⟩
theorem One.drew {w : World} {b : Nat} {v : Value} (h : One w b v) : One w.drew b v := h

namespace Own6
theorem lead8 (u : Nat) (hu : u < 256) (w : World) : Calls Try.prog 28 #[.int .u8 (u : Int)] w fun e w' => e = .returned (.int .i64 (8 - (Lib.bitLen u : Int))) ∧ w' = w := by
  have h := Try.bits_LeadingZeros8 (u : Int) w (by omega) (by omega)
  rw [Int.toNat_natCast] at h; exact h
theorem tail8 (u : Nat) (hu : u < 256) (w : World) : Calls Try.prog 29 #[.int .u8 (u : Int)] w fun e w' => e = .returned (.int .i64 (Lib.trailingZeros8 u : Int)) ∧ w' = w := by
  have h := Try.bits_TrailingZeros8 (u : Int) w (by omega) (by omega)
  rw [Int.toNat_natCast] at h; exact h

set_option maxHeartbeats 1000000 in
theorem burst1_like {w : World} (k : Nat) (x y : UInt8) (g o lb cb B0 B1 B2 : Nat) (S0 : w.cell? ⟨B0, 0, none⟩ = some (.slice (some ⟨g, o, none⟩) lb cb)) (hk : (k : Int) < lb) (hy : w.cell? ⟨g, o + k, none⟩ = some (.int .u8 (y.toNat : Int))) (hu : (x ^^^ y).toNat = 0) :
    Calls Try.prog 27 #[.int .i64 k, .int .u8 (x.toNat : Int), .pointer (some ⟨B0, 0, none⟩), .pointer (some ⟨B1, 0, none⟩), .pointer (some ⟨B2, 0, none⟩)] w fun e w' => e = .returned (.tuple #[]) ∧ w' = w := by
  have hx := xor_u8 x y
  rw [hu] at hx
  generalize x.toNat = xn at *
  generalize y.toNat = yn at *
  go_enter Try.func27, Try.ntmps27
  go_wp2
  first | go_end0 | refine bodyPost_ret (results_none rfl _ _ _) rfl ?_
  exact ⟨rfl, rfl⟩

set_option maxHeartbeats 2000000 in
theorem burst1_unlike {w : World} (k : Nat) (x y : UInt8) (g o lb cb B0 B1 B2 : Nat) (f t : Int) (S0 : w.cell? ⟨B0, 0, none⟩ = some (.slice (some ⟨g, o, none⟩) lb cb)) (hk : (k : Int) < lb) (hk4 : (k : Int) < 4000)
    (hy : w.cell? ⟨g, o + k, none⟩ = some (.int .u8 (y.toNat : Int))) (hu : (x ^^^ y).toNat ≠ 0)
    (O1 : One w B1 (.int .i64 f)) (O2 : One w B2 (.int .i64 t)) (h12 : B1 ≠ B2) :
    Calls Try.prog 27 #[.int .i64 k, .int .u8 (x.toNat : Int), .pointer (some ⟨B0, 0, none⟩), .pointer (some ⟨B1, 0, none⟩), .pointer (some ⟨B2, 0, none⟩)] w fun e w' => e = .returned (.tuple #[]) ∧
      (w' = ((w.drew).setCell ⟨B1, 0, none⟩ (.int .i64 (min f (8 * (k : Int) + (8 - (Lib.bitLen (x ^^^ y).toNat : Int)))))).setCell ⟨B2, 0, none⟩ (.int .i64 (8 * ((k : Int) + 1) - (Lib.trailingZeros8 (x ^^^ y).toNat : Int)))) := by
  have hx := xor_u8 x y
  have hlt : (x ^^^ y).toNat < 256 := (x ^^^ y).toNat_lt
  have L := Lib.hid fun w => lead8 _ hlt w
  have T := Lib.hid fun w => tail8 _ hlt w
  obtain ⟨l1, l2, l3⟩ := len8_rng _ hlt hu
  generalize Lib.bitLen (x ^^^ y).toNat = bl at *
  generalize Lib.trailingZeros8 (x ^^^ y).toNat = tz at *
  generalize (x ^^^ y).toNat = u at *
  generalize x.toNat = xn at *
  generalize y.toNat = yn at *
  have hub : ((u : Int) == 0) = false := by rw [beq_eq_false_iff_ne]; omega
  have hux : (u : Int) ≤ 255 := by omega
  obtain ⟨z, hz⟩ : ∃ z : Int, z = 8 - (bl : Int) := ⟨_, rfl⟩
  have hz0 : 0 ≤ z := by omega
  have hz8 : z ≤ 7 := by omega
  rw [← hz] at L ⊢
  obtain ⟨c1, f1⟩ := O1
  have O2' := O2
  obtain ⟨c2, f2⟩ := O2
  have d2 := (O2'.drew.other h12 (.int .i64 (min f (8 * (k : Int) + z)))).1
  have g2 := (O2'.drew.other h12 (.int .i64 (min f (8 * (k : Int) + z)))).2
  have e1 : IntKind.i64.wrap (8 * (k : Int)) = 8 * (k : Int) := by rw [IntKind.wrap_i64]; omega
  have e2 : IntKind.i64.wrap (8 * (k : Int) + z) = 8 * (k : Int) + z := by rw [IntKind.wrap_i64]; omega
  have e3 : IntKind.i64.wrap ((k : Int) + 1) = (k : Int) + 1 := by rw [IntKind.wrap_i64]; omega
  have e4 : IntKind.i64.wrap (8 * ((k : Int) + 1)) = 8 * ((k : Int) + 1) := by rw [IntKind.wrap_i64]; omega
  have e5 : IntKind.i64.wrap (8 * ((k : Int) + 1) - (tz : Int)) = 8 * ((k : Int) + 1) - (tz : Int) := by rw [IntKind.wrap_i64]; omega
  clear hz l1 l2 hu hlt O2'
  go_enter Try.func27, Try.ntmps27
  go_upto_region 2 with fail
  go_region_with (refine (L.out _).mono ?_; rintro e w1 ⟨rfl, rfl⟩)
  all_goals
    go_wp2_with fail
    refine (T.out _).mono ?_; rintro e w2 ⟨rfl, rfl⟩
    go_wp2_with fail
    first | go_end0 | refine bodyPost_ret (results_none rfl _ _ _) rfl ?_
    exact ⟨rfl, rfl⟩

set_option maxHeartbeats 1000000 in
theorem each_burst {w W : World} {ba bb : Option Addr} {ca cb : Nat} {a b : List UInt8} (n : Nat) (hn : n = min a.length b.length) (hn4 : n ≤ 4000) (CA : Came w ba ca a) (CB : Came w bb cb b)
    (B0 B1 B2 : Nat) (h1 : w.heap.size ≤ B1) (h2 : w.heap.size ≤ B2) (h10 : B1 ≠ B0) (h20 : B2 ≠ B0) (h12 : B1 ≠ B2)
    (BW : Below w.heap.size w W) (O0 : One W B0 (.slice bb b.length cb)) (O1 : One W B1 (.int .i64 (8 * (n : Int)))) (O2 : One W B2 (.int .i64 (8 * (n : Int)))) :
    Calls Try.prog 25 #[.slice ba n ca, .func (.func 27) #[] #[.pointer (some ⟨B0, 0, none⟩), .pointer (some ⟨B1, 0, none⟩), .pointer (some ⟨B2, 0, none⟩)]] W fun e w' =>
      e = .returned (.tuple #[]) ∧ One w' B1 (.int .i64 (bc a b n n).1) ∧ One w' B2 (.int .i64 (bc a b n n).2) ∧ Below w.heap.size w w' := by
  obtain ⟨la, hla⟩ : ∃ la, la = a.length := ⟨_, rfl⟩
  obtain ⟨lb, hlb⟩ : ∃ lb, lb = b.length := ⟨_, rfl⟩
  have na : n ≤ la := by omega
  have nb : n ≤ lb := by omega
  rw [← hlb] at O0
  have HA : ∀ k, k < n → ∀ w', Below w.heap.size w w' → ∃ g o, ba = some ⟨g, o, none⟩ ∧ w'.cell? ⟨g, o + k, none⟩ = some (.int .u8 ((a.getD k 0).toNat : Int)) := fun k hk w' hb => by
    obtain ⟨g, o, e, L⟩ := (CA.keep hb).lies (by omega)
    exact ⟨g, o, e, L k (by omega)⟩
  have HB : ∀ k, k < n → ∀ w', Below w.heap.size w w' → ∃ g o, bb = some ⟨g, o, none⟩ ∧ w'.cell? ⟨g, o + k, none⟩ = some (.int .u8 ((b.getD k 0).toNat : Int)) := fun k hk w' hb => by
    obtain ⟨g, o, e, L⟩ := (CB.keep hb).lies (by omega)
    exact ⟨g, o, e, L k (by omega)⟩
  have PA := Lib.hid HA; have PB := Lib.hid HB
  have BW' := Lib.hid BW; have O0' := Lib.hid O0; have O1' := Lib.hid O1; have O2' := Lib.hid O2
  have N10 := Lib.hid h10; have N20 := Lib.hid h20; have N12 := Lib.hid h12; have H1 := Lib.hid h1; have H2 := Lib.hid h2
  clear HA HB BW O0 O1 O2 CA CB hn hla hlb na h10 h20 h12 h1 h2
  go_enter Try.func25, Try.ntmps25
  go_wp2
  go_loopw [8] (fun i wr => ∃ k : Nat, k ≤ n ∧ i = .int .i64 k ∧ One wr B0 (.slice bb lb cb) ∧ One wr B1 (.int .i64 (bc a b n k).1) ∧ One wr B2 (.int .i64 (bc a b n k).2) ∧ Below w.heap.size w wr) (fun i _ => n - (intOf i).toNat)
  case atStart => exact ⟨0, Nat.zero_le _, rfl, O0'.out, O1'.out, O2'.out, BW'.out⟩
  case round =>
    obtain ⟨k, hk, rfl, O0, O1, O2, B⟩ := hrel
    clear O0' O1' O2' BW'
    by_cases hc : (k : Int) < n
    · obtain ⟨g, o, rfl, hcell⟩ := PA.out k (by omega) wr B
      obtain ⟨g', o', rfl, hy⟩ := PB.out k (by omega) wr B
      have hxr : ((a.getD k 0).toNat : Int) ≤ 255 := by have := (a.getD k 0).toNat_lt; omega
      by_cases hu : (un a b k).toNat = 0
      · have E1 := Lib.hid (burst1_like k (a.getD k 0) (b.getD k 0) g' o' lb cb B0 B1 B2 O0.1 (by omega) hy hu)
        have e : bc a b n (k + 1) = bc a b n k := by rw [bc, if_pos hu]
        have hend : ∃ k' : Nat, k' ≤ n ∧ Value.int .i64 ((k : Int) + 1) = .int .i64 k' ∧ One wr B0 (.slice (some ⟨g', o', none⟩) lb cb) ∧ One wr B1 (.int .i64 (bc a b n k').1) ∧ One wr B2 (.int .i64 (bc a b n k').2) ∧ Below w.heap.size w wr :=
          ⟨k + 1, by omega, rfl, O0, by rw [e]; exact O1, by rw [e]; exact O2, B⟩
        have HE := Lib.hid hend
        clear O0 O1 O2 B hend e hy hu
        generalize (a.getD k 0).toNat = xn at *
        go_wp2_with fail
        refine E1.out.mono ?_; rintro e w1 ⟨rfl, rfl⟩
        go_wp2_with fail
        go_roundw
        case rel => exact HE.out
        case measure => simp [intOf]; omega
      · have E1 := Lib.hid (burst1_unlike k (a.getD k 0) (b.getD k 0) g' o' lb cb B0 B1 B2 _ _ O0.1 (by omega) (by omega) hy hu O1 O2 N12.out)
        have e : bc a b n (k + 1) = (min (bc a b n k).1 (8 * (k : Int) + (8 - (Lib.bitLen (un a b k).toNat : Int))), 8 * ((k : Int) + 1) - (Lib.trailingZeros8 (un a b k).toNat : Int)) := by rw [bc, if_neg hu]
        have hend : ∃ k' : Nat, k' ≤ n ∧ Value.int .i64 ((k : Int) + 1) = .int .i64 k' ∧ One (((wr.drew).setCell ⟨B1, 0, none⟩ (.int .i64 (min (bc a b n k).1 (8 * (k : Int) + (8 - (Lib.bitLen (un a b k).toNat : Int)))))).setCell ⟨B2, 0, none⟩ (.int .i64 (8 * ((k : Int) + 1) - (Lib.trailingZeros8 (un a b k).toNat : Int)))) B0 (.slice (some ⟨g', o', none⟩) lb cb) ∧
            One (((wr.drew).setCell ⟨B1, 0, none⟩ (.int .i64 (min (bc a b n k).1 (8 * (k : Int) + (8 - (Lib.bitLen (un a b k).toNat : Int)))))).setCell ⟨B2, 0, none⟩ (.int .i64 (8 * ((k : Int) + 1) - (Lib.trailingZeros8 (un a b k).toNat : Int)))) B1 (.int .i64 (bc a b n k').1) ∧
            One (((wr.drew).setCell ⟨B1, 0, none⟩ (.int .i64 (min (bc a b n k).1 (8 * (k : Int) + (8 - (Lib.bitLen (un a b k).toNat : Int)))))).setCell ⟨B2, 0, none⟩ (.int .i64 (8 * ((k : Int) + 1) - (Lib.trailingZeros8 (un a b k).toNat : Int)))) B2 (.int .i64 (bc a b n k').2) ∧
            Below w.heap.size w (((wr.drew).setCell ⟨B1, 0, none⟩ (.int .i64 (min (bc a b n k).1 (8 * (k : Int) + (8 - (Lib.bitLen (un a b k).toNat : Int)))))).setCell ⟨B2, 0, none⟩ (.int .i64 (8 * ((k : Int) + 1) - (Lib.trailingZeros8 (un a b k).toNat : Int)))) :=
          ⟨k + 1, by omega, rfl, (O0.drew.other N10.out _).other N20.out _, by rw [e]; exact (O1.drew.set _).other (Ne.symm N12.out) _, by rw [e]; exact (O2.drew.other N12.out _).set _, (B.drew.setCell (p := ⟨B1, 0, none⟩) H1.out _).setCell (p := ⟨B2, 0, none⟩) H2.out _⟩
        have HE := Lib.hid hend
        clear O0 O1 O2 B hend e hy hu
        generalize (a.getD k 0).toNat = xn at *
        go_wp2_with fail
        refine E1.out.mono ?_; rintro e w1 ⟨rfl, rfl⟩
        go_wp2_with fail
        go_roundw
        case rel => exact HE.out
        case measure => simp [intOf]; omega
    · obtain rfl : k = n := by omega
      have O1' := Lib.hid O1; have O2' := Lib.hid O2; have B' := Lib.hid B
      clear O0 O1 O2 B
      go_wp2
      go_end0
      exact ⟨rfl, O1'.out, O2'.out, B'.out⟩
end Own6
end Go.Proofs.Ytaipjhfgkidbfaa
