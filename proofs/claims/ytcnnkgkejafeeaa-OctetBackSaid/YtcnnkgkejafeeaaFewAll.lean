/- OctetFew: every input. -/
import Derived.Test.YtcnnkgkejafeeaaVarsAll
import Derived.Test.YtcnnkgkejafeeaaLawFew
namespace Go.Proofs.Ytcnnkgkejafeeaa
open Go.RowKit

set_option maxHeartbeats 2000000 in
set_option maxRecDepth 100000 in
theorem few_long (ba : Option Addr) (len cap : Nat) (n at_ : Int) (w : World) (hl : (600 : Int) < len)
    (AW : Hid (∀ w, Calls Try.prog 7 #[] w fun e w' => e = .returned (.bool true) ∧ Below w.heap.size w w')) :
    Calls Try.prog 6 #[.int .i64 n, .slice ba len cap, .int .i64 at_] w fun e w' => e = .returned (.bool true) ∧ Below w.heap.size w w' := by
  go_enter Try.func6, Try.ntmps6
  go_wp2_with fail
  refine (AW.out _).mono ?_; rintro e w1 ⟨rfl, hb1⟩
  go_wp2_with fail
  go_ret
  exact ⟨rfl, hb1⟩

theorem size8 : Try.prog.elem 22 = 5 := by kernel_rfl
theorem slice_at (b o len cap k up : Nat) (w : World) (h1 : k < up) (h2 : up ≤ cap) :
    (Instr.sliceAt 22 (.slice (some ⟨b, o, none⟩) len cap) (some (.int .i64 k)) (some (.int .i64 up)) none).run Try.prog w = .ok (.slice (some ⟨b, o + k, none⟩) (up - k) (cap - k)) w := by
  have hu : Try.prog.underlying 22 = some (.slice (Try.prog.elem 22)) := Try.underlying22
  have hs : (sizeOf (Try.prog.elem 22)).run Try.prog w = .ok 1 w := by kernel_rfl
  have e : (⟨b, o, none⟩ : Addr).add (k * 1) = ⟨b, o + k, none⟩ := by unfold Addr.add; split <;> simp_all
  rw [run_sliceAt_slice (h := hu), run_slice_lh (ht := hu) (h0 := by omega) (h1 := by omega) (h2 := by omega), hs]
  show Result.ok (sliced (some ⟨b, o, none⟩) (k : Int).toNat (up : Int).toNat cap 1) w = _
  unfold sliced
  rw [Int.toNat_natCast, Int.toNat_natCast, if_neg (by omega), Option.map_some, e]

theorem zig_lt (n : Int) (r0 : -9223372036854775808 ≤ n) (r1 : n ≤ 9223372036854775807) : Oct.zig n < 18446744073709551616 := by
  unfold Oct.zig
  split <;> omega
theorem zag_rng (u : Nat) (h : u < 18446744073709551616) : -9223372036854775808 ≤ Oct.zag u ∧ Oct.zag u ≤ 9223372036854775807 := by
  unfold Oct.zag
  split <;> omega
theorem lt_128 {n : Nat} (h : n < 18446744073709551616) : n < 128 ^ 10 ∧ n * 128 ^ 0 < 2 * 128 ^ 9 := by
  have e1 : (128 : Nat) ^ 10 = 1180591620717411303424 := by decide
  have e2 : (128 : Nat) ^ 9 = 9223372036854775808 := by decide
  rw [e1, e2]
  omega
theorem lt_256 {n : Nat} (h : n * 128 ^ 0 < 2 * 128 ^ 9) : (n : Int) ≤ 18446744073709551615 := by
  have e2 : (128 : Nat) ^ 9 = 9223372036854775808 := by decide
  rw [e2] at h
  omega

/-- what was written, among other bytes, is read -/
theorem read_back (l : List UInt8) (z g c : Nat) (w : World) (hz : z < 18446744073709551616) (hl : l.length ≤ 600) (hc : (l ++ Oct.var z ++ [7]).length ≤ c) (hm : c ≤ maxLen) (L : Lies w g 0 (l ++ Oct.var z ++ [7])) :
    Calls Try.prog 20 #[.slice (some ⟨g, 0, none⟩) (l ++ Oct.var z ++ [7]).length c, .int .i64 (l.length : Int)] w fun e w' => e = .returned (.tuple #[.int .u64 z, .int .i64 ((l.length : Int) + (Oct.var z).length), .int .i64 0]) ∧ w = w' := by
  obtain ⟨h10, h2⟩ := lt_128 hz
  have hv := Oct.var_len 10 z (by decide) h10
  have hlen : (l ++ Oct.var z ++ [(7 : UInt8)]).length = l.length + (Oct.var z).length + 1 := by rw [List.length_append, List.length_append]; rfl
  unfold maxLen at hm
  have r := Own.ReadVar_any g 0 c l.length (l ++ Oct.var z ++ [7]) w hc (by omega) (by rw [hlen]; omega) (by rw [hlen]; omega) L
  have e : (l ++ Oct.var z ++ [(7 : UInt8)]).drop l.length = Oct.var z ++ [7] := by rw [List.append_assoc, List.drop_left]
  rw [e, Oct.read_var 0 0 z [7] (fun h => absurd h (by decide)) (by decide) h2] at r
  refine r.mono fun x w' k => ⟨?_, k.2⟩
  rw [k.1]
  show Ending.returned (.tuple #[.int .u64 ((0 + z * 128 ^ 0 : Nat) : Int), .int .i64 ((l.length : Int) + ((0 + (Oct.var z).length : Nat) : Int)), .int .i64 0]) = _
  rw [Nat.zero_add, Nat.zero_add, Nat.pow_zero, Nat.mul_one]

theorem Few_all (ba : Option Addr) (cap : Nat) (l : List UInt8) (n at_ : Int) (w : World) (C : Came w ba cap l) (r0 : -9223372036854775808 ≤ n) (r1 : n ≤ 9223372036854775807) :
    Calls Try.prog 6 #[.int .i64 n, .slice ba l.length cap, .int .i64 at_] w fun e w' => e = .returned (.bool true) ∧ Below w.heap.size w w' := by
  by_cases h : (600 : Int) < l.length
  · exact few_long ba l.length cap n at_ w h (Lib.hid Own.awake_any)
  have hl : l.length ≤ 600 := by omega
  have hcl := C.le
  have hcm := C.max
  unfold maxLen at hcm
  have hw : IntKind.u64.wrap n = ((IntKind.u64.wrap n).toNat : Int) := by rw [IntKind.wrap_u64]; omega
  have hwl : ((IntKind.u64.wrap n).toNat : Int) ≤ 18446744073709551615 := by rw [IntKind.wrap_u64]; omega
  have hz := zig_lt n r0 r1
  obtain ⟨h10, h2⟩ := lt_128 hz
  have hv := Oct.var_len 10 _ (by decide) h10
  have hzg := zag_rng (IntKind.u64.wrap n).toNat (by omega)
  have ZI := Lib.hid fun w => (Own.Zig_any n w r0 r1).mono fun x w2 k => (⟨k.1, below_of k.2⟩ : _ ∧ Below w.heap.size w w2)
  have VR := Lib.hid fun w => Own.Var_any (Oct.zig n) w (by omega)
  have ZA := Lib.hid fun w => (Own.Zag_any (Oct.zig n) w (by omega)).mono fun x w2 k => (⟨by rw [k.1, Oct.zag_zig], below_of k.2⟩ : x = .returned (.int .i64 n) ∧ Below w.heap.size w w2)
  have Z2 := Lib.hid fun w => (Own.Zag_any _ w hwl).mono fun x w2 k => (⟨k.1, below_of k.2⟩ : _ ∧ Below w.heap.size w w2)
  have Z3 := Lib.hid fun w => (Own.Zig_any _ w hzg.1 hzg.2).mono fun x w2 k => (⟨by rw [k.1, Oct.zig_zag], below_of k.2⟩ : x = .returned (.int .u64 ((IntKind.u64.wrap n).toNat : Int)) ∧ Below w.heap.size w w2)
  match ba, C with
  | none, C =>
    obtain ⟨rfl, rfl⟩ := C.nil rfl
    have nf : ∃ er : Int, rvAns [] at_ = .tuple #[.int .u64 0, .int .i64 0, .int .i64 er] ∧ (er == 0) = false := by
      unfold rvAns
      split
      · exact ⟨1, rfl, rfl⟩
      · exact ⟨2, by rw [List.drop_nil]; rfl, rfl⟩
    obtain ⟨er, e, hf⟩ := nf
    refine few_nil (Oct.var (Oct.zig n)) _ n at_ 0 0 er _ _ _ w (by omega) (by omega) hw ZI VR rfl
      (Lib.hid fun g c w' hc hm L => ?_) ZA
      (Lib.hid fun w' hb => (Own.ReadVar_came (C.keep hb) hl at_).mono fun x w2 k => ⟨by rw [k.1, e], below_of k.2⟩) Z2 Z3 (Lib.hid Own.awake_any) hf
    have r := read_back [] (Oct.zig n) g c w' hz (by decide) hc hm L
    refine r.mono fun x w2 k => ⟨?_, below_of k.2⟩
    rw [k.1]
    show Ending.returned (.tuple #[_, .int .i64 (((0 : Nat) : Int) + _), _]) = _
    rw [show ((0 : Nat) : Int) + ((Oct.var (Oct.zig n)).length : Int) = ((Oct.var (Oct.zig n)).length : Int) by omega]
  | some a, C =>
    have RV := Lib.hid fun g c w' (hc : (l ++ Oct.var (Oct.zig n) ++ [7]).length ≤ c) (hm : c ≤ maxLen) (L : Lies w' g 0 (l ++ Oct.var (Oct.zig n) ++ [7])) => (read_back l (Oct.zig n) g c w' hz hl hc hm L).mono fun x w2 k => (⟨k.1, below_of k.2⟩ : _ ∧ Below w'.heap.size w' w2)
    have hb : Hid (∀ w', Below w.heap.size w w' → ∀ j x, (vals l)[j]? = some x → w'.cell? (a.add j) = some x) := Lib.hid fun w' hb j x hj => by
      by_cases h0 : 0 < l.length
      · obtain ⟨b, o, e, L⟩ := (C.keep hb).lies h0
        injection e with e
        subst e
        exact L.cells j x hj
      · obtain rfl : l = [] := List.length_eq_zero_iff.1 (by omega)
        simp [vals] at hj
    by_cases ho : ∃ (k m len : Nat), at_ = k ∧ k ≤ l.length ∧ Oct.read 0 0 (l.drop k) = .ok m len
    · obtain ⟨k, m, len, rfl, hk, er⟩ := ho
      obtain ⟨m', e1, e2, _, _, e5, e6⟩ := Oct.var_read _ _ _ _ _ er
      rw [Nat.pow_zero, Nat.mul_one, Nat.zero_add] at e1
      rw [Nat.zero_add] at e2
      rw [Nat.sub_zero] at e6
      subst e1 e2
      have hm := lt_256 e5
      have h10' := (lt_128 (n := m) (by omega)).1
      have hvm := Oct.var_len 10 m (by decide) h10'
      have hle : (Oct.var m).length ≤ l.length - k := by
        have := congrArg List.length e6
        rw [List.length_take, List.length_drop] at this
        omega
      have ea : rvAns l k = .tuple #[.int .u64 m, .int .i64 ((k + (Oct.var m).length : Nat) : Int), .int .i64 0] := by
        unfold rvAns
        rw [if_neg (by omega), Int.toNat_natCast, er]
        show Value.tuple #[_, .int .i64 ((k : Int) + ((Oct.var m).length : Int)), _] = _
        rw [Int.natCast_add]
      obtain ⟨b, o, e, L⟩ := C.lies (by omega)
      injection e with e
      subst e
      refine few_core _ cap l _ _ _ n k m ((k + (Oct.var m).length : Nat) : Int) 0 _ _ _ (.slice (some ⟨b, o + k, none⟩) (k + (Oct.var m).length - k) (cap - k)) w (by omega) (by omega) (by omega) hw hb ZI VR rfl RV ZA
        (Lib.hid fun w' hb => (Own.ReadVar_came (C.keep hb) hl k).mono fun x w2 k => ⟨by rw [k.1, ea], below_of k.2⟩)
        (Lib.hid fun w => Own.Var_any m w hm) Z2 Z3 (Lib.hid Own.awake_any)
        (Or.inr ⟨rfl, by omega, by omega, by omega, fun w' => slice_at b o l.length cap k _ w' (by omega) (by omega), fun w' hb => ?_⟩)
      have L' := (L.keep hb).part k (Oct.var m).length (by omega)
      rw [e6] at L'
      rw [show k + (Oct.var m).length - k = (Oct.var m).length by omega]
      exact part_string w' b (o + k) (cap - k) (Oct.var m) L'
    · have nf : ∃ er : Int, rvAns l at_ = .tuple #[.int .u64 0, .int .i64 0, .int .i64 er] ∧ (er == 0) = false := by
        unfold rvAns
        split
        · exact ⟨1, rfl, rfl⟩
        · rename_i hn
          match hr : Oct.read 0 0 (l.drop at_.toNat) with
          | .short => exact ⟨2, rfl, rfl⟩
          | .form => exact ⟨3, rfl, rfl⟩
          | .ok m len => exact absurd ⟨at_.toNat, m, len, by omega, by omega, hr⟩ ho
      obtain ⟨er, e, hf⟩ := nf
      exact few_core a cap l _ _ _ n at_ ((0 : Nat) : Int) 0 er _ _ _ (.int .i64 0) w (by omega) (by omega) (by omega) hw hb ZI VR rfl RV ZA
        (Lib.hid fun w' hb => (Own.ReadVar_came (C.keep hb) hl at_).mono fun x w2 k => ⟨by rw [k.1, e]; rfl, below_of k.2⟩)
        (Lib.hid fun w => Own.Var_any 0 w (by decide)) Z2 Z3 (Lib.hid Own.awake_any) (Or.inl hf)

end Go.Proofs.Ytcnnkgkejafeeaa
