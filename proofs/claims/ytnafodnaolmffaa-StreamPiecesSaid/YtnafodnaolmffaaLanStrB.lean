/- The landed stream's Split, Lost, Feed; slices.Concat of two (by slices.Grow), bytes.Clone. -/
import Derived.Test.YtnafodnaolmffaaLanStrA
import Derived.Test.YtnafodnaolmffaaStrRefC
import Derived.Lib.AppendZerosOnto
namespace Go.Proofs.Ytnafodnaolmffaa
open Go.RowKit

namespace Lan15
theorem Split_came {w : World} {ba : Option Addr} {cap : Nat} {l : List UInt8} (C : Came w ba cap l) (hsmall : l.length ≤ 1000000000) :
    Calls Try.prog 8 #[.slice ba l.length cap] w fun e w' => ∃ v, e = .returned (.tuple #[v, .int .i64 (splitF l).2.1, .int .i64 (splitF l).2.2]) ∧ Frs w.heap.size w w' v (splitF l).1 := by
  have F := Lib.hid (find_came C hsmall)
  have hs := (gaps_sum l.length [] 0 l (Nat.le_refl _)).2
  have hz := (starts_length l.length 0 l (Nat.le_refl _)).1
  have he := (split_end l.length l (Nat.le_refl _)).1
  generalize splitF l = s at *
  generalize startsF 0 l = ss at *
  obtain ⟨fs, n, k⟩ := s
  simp only at hs hz he F ⊢
  rw [← hz] at hs
  have hk : (n : Int) - (ss.length : Int) * 11 = k := by omega
  have hb : (ss.length : Int) * 11 ≤ 1000000000 := by omega
  have hn : (n : Int) ≤ 1000000000 := by omega
  clear hz he C hsmall hs
  go_enter Try.func8, Try.ntmps8
  go_wp2_with fail
  refine F.out.mono ?_; rintro e w1 ⟨v, u, rfl, hf, hi⟩
  obtain ⟨bu, cu, rfl, _⟩ := hi.came
  have HF := Lib.hid hf
  clear F hf hi
  go_wp2
  refine bodyPost_ret (v := .tuple #[v, .int .i64 n, .int .i64 k]) (by simp [results, Try.results8, go_sem, *]) rfl ?_
  exact ⟨_, rfl, HF.out⟩

theorem Lost_came {w : World} {ba : Option Addr} {cap : Nat} {l : List UInt8} (C : Came w ba cap l) (hsmall : l.length ≤ 1000000000) :
    Calls Try.prog 13 #[.slice ba l.length cap] w fun e w' => e = .returned (.int .i64 (splitF l).2.2) ∧ Below w.heap.size w w' := by
  have S := Lib.hid (Split_came C hsmall)
  go_enter Try.func13, Try.ntmps13
  go_wp2_with fail
  refine S.out.mono ?_; rintro e w1 ⟨v, rfl, hf⟩
  have HB := Lib.hid hf.below
  clear S hf
  go_wp2
  go_ret
  exact ⟨rfl, HB.out⟩

theorem zeros_size (z : Array Value) (n : Nat) : (Builtin.zeroCells z n).size = n * z.size := by simp [Builtin.zeroCells]
/-- a new row of zeros, none of them held -/
theorem zeros_own (w : World) (n G : Nat) (h : n ≤ G) (hm : G ≤ maxLen) : Bytes w.heap.size w (w.drew.alloc (.cells (Builtin.zeroCells #[.int .u8 0] n ++ Builtin.zeroCells #[.int .u8 0] (G - n)) 5)) (.slice (some ⟨w.heap.size, 0, none⟩) 0 G) [] := by
  have hz : (Builtin.zeroCells #[.int .u8 0] n ++ Builtin.zeroCells #[.int .u8 0] (G - n)).size = G * 1 := by
    rw [Array.size_append, zeros_size, zeros_size]
    show n * 1 + (G - n) * 1 = G * 1
    omega
  generalize (Builtin.zeroCells #[.int .u8 0] n ++ Builtin.zeroCells #[.int .u8 0] (G - n)) = cur at *
  exact ⟨⟨rfl, .inr ⟨w.heap.size, G, cur, (0, 0), rfl, Nat.le_refl _, by show (w.heap.push _)[w.heap.size]? = _; simp, Nat.le_refl _, Nat.zero_le _, hm, hz, rfl⟩⟩, (Below.refl _ _).drew.alloc (Nat.le_refl _) _, by show _ ≤ (w.heap.push _).size; simp⟩

set_option maxHeartbeats 4000000 in
set_option maxRecDepth 100000 in
theorem Grow_any (n : Nat) (w : World) (hn : (n : Int) ≤ 1000000000) :
    Calls Try.prog 37 #[.slice none 0 0, .int .i64 n] w fun e w' => ∃ v, e = .returned v ∧ Bytes w.heap.size w w' v [] := by
  by_cases h0 : n = 0
  · subst h0
    go_enter Try.func37, Try.ntmps37
    go_wp2
    go_ret
    exact ⟨_, rfl, bytes_nil w⟩
  · obtain ⟨i0, hi, hz0, hz1, hz2⟩ := info_parts info8
    have hrz : ∀ ty, (Builtin.append_ #[22, 3] ty #[.slice none 0 0, .int .i64 (n : Int)]).run Try.prog w =
        .ok (.slice (some ⟨w.heap.size, 0, none⟩) n (grownCap w n 0 5)) (w.drew.alloc (.cells (Builtin.zeroCells #[.int .u8 0] n ++ Builtin.zeroCells #[.int .u8 0] (grownCap w n 0 5 - n)) 5)) := fun ty => by
      have h := Lib.run_append_grow_zeros (P := Try.prog) w 22 3 ty 5 i0 (.int .u8 0) .i64 .i64 Try.underlying22 Try.underlying3 hi hz0 none 0 0 [] (by rw [hz1]; exact run_firstCells_none w.drew 1 0 0 0) n (by omega) (by rw [hz1]; decide) (by omega) (by omega)
        (by rw [hz2]; omega) (by rw [Nat.zero_add]; exact growslice_fits (by omega) (by rw [hz2]; omega))
      have hzc : (Value.int .u8 0).cells = #[.int .u8 0] := by simp [Value.cells]
      rw [Nat.zero_add, hzc] at h
      simpa using h
    have hGn : n ≤ grownCap w n 0 5 := grownCap_ge w _ _ _
    have hGm := grownCap_le_maxLen w n 0 5 (by unfold maxLen; omega)
    have hown := zeros_own w n _ hGn hGm
    obtain ⟨G, hG⟩ : ∃ G, G = grownCap w n 0 5 := ⟨_, rfl⟩
    rw [← hG] at hrz hGn hGm hown
    obtain ⟨X, hX⟩ : ∃ X, X = w.drew.alloc (.cells (Builtin.zeroCells #[.int .u8 0] n ++ Builtin.zeroCells #[.int .u8 0] (G - n)) 5) := ⟨_, rfl⟩
    rw [← hX] at hrz hown
    have HX := Lib.hid hown
    have hG63 : (G : Int) ≤ 9223372036854775807 := by unfold maxLen at hGm; omega
    have hn0 : ¬ ((n : Int) < 0) := by omega
    have hn1 : (n : Int) > 0 := by omega
    clear hX hown hG hGm hi hz0 hz1 hz2 h0
    go_enter Try.func37, Try.ntmps37
    go_wp2_with (at_builtin; refine Lib.wpList_append_run _ rfl _ _ _ _ rfl _ _ rfl rfl _ _ (hrz _) ?_)
    all_goals
      go_ret
      exact ⟨_, rfl, HX.out⟩

set_option maxHeartbeats 4000000 in
set_option maxRecDepth 100000 in
theorem Concat_came {w : World} {ba bb : Option Addr} {ca cb g : Nat} {p l : List UInt8} (P : Came w ba ca p) (C : Came w bb cb l) (hsmall : p.length + l.length ≤ 1000000000)
    (k0 : w.cell? ⟨g, 0, none⟩ = some (.slice ba p.length ca)) (k1 : w.cell? ⟨g, 1, none⟩ = some (.slice bb l.length cb)) :
    Calls Try.prog 24 #[.slice (some ⟨g, 0, none⟩) 2 2] w fun e w' => ∃ v, e = .returned v ∧ Bytes w.heap.size w w' v (p ++ l) := by
  have HP := Lib.hid P
  have HC := Lib.hid C
  have GR := Lib.hid (Grow_any (p.length + l.length) w (by omega))
  have hs : (p.length : Int) + (l.length : Int) ≤ 1000000000 := by omega
  obtain ⟨np, hnp⟩ : ∃ n, n = p.length := ⟨_, rfl⟩
  obtain ⟨nl, hnl⟩ : ∃ n, n = l.length := ⟨_, rfl⟩
  have HN := Lib.hid hnp
  have HL := Lib.hid hnl
  rw [← hnp, ← hnl] at hs GR hsmall
  rw [← hnp] at k0
  rw [← hnl] at k1
  rw [Int.natCast_add] at GR
  clear P C hnp hnl
  go_enter Try.func24, Try.ntmps24
  go_wp2
  go_loopw [3, 11] (fun sz i wr => wr = w ∧ ((i = .int .i64 0 ∧ sz = .int .i64 0) ∨ (i = .int .i64 1 ∧ sz = .int .i64 np) ∨ (i = .int .i64 2 ∧ sz = .int .i64 ((np : Int) + nl)))) (fun _ i _ => 2 - (intOf i).toNat)
  case atStart => exact ⟨rfl, .inl ⟨rfl, rfl⟩⟩
  case round =>
    obtain ⟨rfl, hrel⟩ := hrel
    rcases hrel with ⟨rfl, rfl⟩ | ⟨rfl, rfl⟩ | ⟨rfl, rfl⟩
    · go_wp2
      go_roundw
      case rel => exact ⟨trivial, .inr (.inl ⟨rfl, by simp⟩)⟩
      case measure => simp [intOf]
    · go_wp2
      go_roundw
      case rel => exact ⟨trivial, .inr (.inr ⟨rfl, rfl⟩)⟩
      case measure => simp [intOf]
    · go_wp2_with fail
      refine GR.out.mono ?_; rintro e w1 ⟨v, rfl, hv⟩
      have HV := Lib.hid hv
      have j0 := keepc hv.below k0
      have j1 := keepc hv.below k1
      have K0 := Lib.hid fun w' (h : Below wr.heap.size wr w') => keepc h k0
      have K1 := Lib.hid fun w' (h : Below wr.heap.size wr w') => keepc h k1
      clear GR hv k0 k1 j0 j1
      go_wp2
      go_loopw [6, 27] (fun v i wx => (i = .int .i64 0 ∧ Bytes wr.heap.size wr wx v []) ∨ (i = .int .i64 1 ∧ Bytes wr.heap.size wr wx v p) ∨ (i = .int .i64 2 ∧ Bytes wr.heap.size wr wx v (p ++ l))) (fun _ i _ => 2 - (intOf i).toNat)
      case atStart => exact .inl ⟨rfl, HV.out⟩
      case round =>
        rcases hrel with ⟨rfl, hb⟩ | ⟨rfl, hb⟩ | ⟨rfl, hb⟩
        · have k0 := K0.out _ hb.below
          have HB := Lib.hid hb
          clear hb
          go_wp2_with (at_builtin; refine list_append_came (v := u6) (m := p) (ba := ba) (c := ca) rfl rfl rfl HB.out (by rw [HN.out]; rfl) (HP.out.keep HB.out.below) ?c1 ?_)
          case c1 => have := HN.out; simp only [List.length_nil]; omega
          intro v2 w2 hv2
          go_wp2
          go_roundw
          case rel => exact .inr (.inl ⟨rfl, hv2⟩)
          case measure => simp [intOf]
        · have k1 := K1.out _ hb.below
          have HB := Lib.hid hb
          clear hb
          go_wp2_with (at_builtin; refine list_append_came (v := u6) (m := l) (ba := bb) (c := cb) rfl rfl rfl HB.out (by rw [HL.out]; rfl) (HC.out.keep HB.out.below) ?c1 ?_)
          case c1 => have := HN.out; have := HL.out; omega
          intro v2 w2 hv2
          go_wp2
          go_roundw
          case rel => exact .inr (.inr ⟨rfl, hv2⟩)
          case measure => simp [intOf]
        · have HB := Lib.hid hb
          clear hb
          go_wp2
          go_ret
          exact ⟨_, rfl, HB.out⟩

theorem Clone_came {w : World} {ba : Option Addr} {cap : Nat} {l : List UInt8} (C : Came w ba cap l) (hsmall : l.length ≤ 1000000000) :
    Calls Try.prog 25 #[.slice ba l.length cap] w fun e w' => ∃ v, e = .returned v ∧ Bytes w.heap.size w w' v l := by
  have qT : ∀ (w : World) (a : Option Addr) (n c n' c' : Nat), (binOp .eql 22 (.slice a n c) (.slice none n' c')).run Try.prog w = .ok (.bool a.isNone) w := fun w a n c n' c' => Lib.run_eql_slice_nil w _ _ a n c n' c' Try.underlying22
  cases ba with
  | none =>
    obtain ⟨rfl, rfl⟩ := C.nil rfl
    clear C
    go_enter Try.func25, Try.ntmps25
    go_wp2
    go_ret
    exact ⟨_, rfl, bytes_nil w⟩
  | some a =>
    have b0 := empty_bytes w _ rfl
    have HC := Lib.hid (C.keep b0.below)
    have hroom : ([] : List UInt8).length + l.length ≤ 140737488355328 := by simp only [List.length_nil]; omega
    clear C
    go_enter Try.func25, Try.ntmps25
    go_wp2_with (at_builtin; refine list_append_came (v := .slice (some ⟨w.heap.size, 0, none⟩) 0 0) (m := l) (ba := some a) (c := cap) rfl rfl rfl b0 rfl HC.out hroom ?_)
    intro v w1 hv
    go_wp2
    go_ret
    exact ⟨_, rfl, hv⟩

theorem _root_.Go.Proofs.Ytnafodnaolmffaa.Bytes.base {B : Nat} {W0 w : World} {l : List UInt8} {a : Addr} {n c : Nat} (h : Bytes B W0 w (.slice (some a) n c) l) : B ≤ a.block := by
  rcases h.1.2 with ⟨e, _⟩ | ⟨g, cap, cur, fz, e, hB, _⟩
  · cases e
  · injection e with e
    injection e with e
    subst e
    exact hB

set_option maxHeartbeats 2000000 in
set_option maxRecDepth 100000 in
theorem Feed_came {w : World} {ba bb : Option Addr} {ca cb : Nat} {p l : List UInt8} (P : Came w ba ca p) (C : Came w bb cb l) (hsmall : p.length + l.length ≤ 1000000000) :
    Calls Try.prog 10 #[.slice ba p.length ca, .slice bb l.length cb] w fun e w' => ∃ v u, e = .returned (.tuple #[v, u, .int .i64 (splitF (p ++ l)).2.2]) ∧
      Frs w.heap.size w w' v (splitF (p ++ l)).1 ∧ Bytes w.heap.size w w' u ((p ++ l).drop (splitF (p ++ l)).2.1) := by
  have B1 := below1 w (.cells #[.slice ba p.length ca, .slice bb l.length cb] 22)
  have CC := Lib.hid (Concat_came (g := w.heap.size) (P.keep B1) (C.keep B1) hsmall (by simp) (by simp))
  have HB1 := Lib.hid B1
  have hall : (p ++ l).length ≤ 1000000000 := by rw [List.length_append]; exact hsmall
  have hend := (split_end _ (p ++ l) (Nat.le_refl _)).1
  have SP := Lib.hid (fun (w : World) (ba : Option Addr) (cap : Nat) (C : Came w ba cap (p ++ l)) => Split_came C hall)
  generalize p ++ l = r at *
  have HE := Lib.hid hend
  clear P C hend B1 hsmall
  generalize p.length = np at *
  generalize l.length = nl at *
  generalize splitF r = s at *
  obtain ⟨fs, n, k⟩ := s
  simp only at HE SP ⊢
  go_enter Try.func10, Try.ntmps10
  go_wp2_with fail
  refine CC.out.mono ?_; rintro e w1 ⟨v0, rfl, hv0⟩
  obtain ⟨bl, cl, rfl, CA⟩ := hv0.came
  have H2 := Lib.hid (belowT HB1.out hv0.below)
  have S := Lib.hid (SP.out w1 bl cl CA)
  have HA := Lib.hid CA
  clear CC hv0 CA SP HB1
  go_wp2_with fail
  refine S.out.mono ?_; rintro e w3 ⟨v, rfl, hf⟩
  obtain ⟨b', c', hsl, C3⟩ := came_tail (HA.out.keep hf.below) n HE.out
  have HF := Lib.hid hf
  have H3 := Lib.hid (belowT H2.out hf.below)
  have hroom : (r.drop n).length ≤ 1000000000 := by rw [List.length_drop]; omega
  obtain ⟨q, hq⟩ : ∃ q, q = r.drop n := ⟨_, rfl⟩
  rw [← hq] at hsl C3 hroom
  have HQ := Lib.hid hq
  have CL := Lib.hid (Clone_came C3 hroom)
  clear S HA hf C3 HE hroom hq
  go_wp2_with fail
  refine CL.out.mono ?_; rintro e w4 ⟨u, rfl, hu⟩
  have HU := Lib.hid hu
  clear CL hu
  go_wp2
  refine bodyPost_ret (v := .tuple #[v, u, .int .i64 k]) (by simp [results, Try.results10, go_sem]) rfl ?_
  exact ⟨_, _, rfl, (HF.out.keep HU.out.below).low H2.out, HQ.out ▸ HU.out.low H3.out⟩
end Lan15
end Go.Proofs.Ytnafodnaolmffaa
