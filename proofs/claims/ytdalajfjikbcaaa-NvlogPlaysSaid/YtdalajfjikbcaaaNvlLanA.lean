/- The landed nvlog's New, older, cut, read. -/
import Derived.Test.YtdalajfjikbcaaaNvlRefA
import Derived.Test.YtdalajfjikbcaaaSltLanS
import Derived.Test.YtdalajfjikbcaaaClone
namespace Go.Proofs.Ytdalajfjikbcaaa
open Go.RowKit

namespace Lan19
set_option maxRecDepth 100000 in
theorem New_any (w : World) : Calls Try.prog 15 #[] w fun e w' => ∃ u, e = .returned u ∧ Bytes0 w.heap.size w w' u zeroM := by
  have hmk : ∀ w : World, (Instr.makeSlice 22 (.int .i64 24) (.int .i64 24)).run Try.prog w = .ok (.slice (some ⟨w.heap.size, 0, none⟩) 24 24) (w.alloc (.cells (vals zeroM).toArray 5)) := fun _ => by kernel_rfl
  have B := Lib.hid (Ref19.bytes0_alloc w zeroM 5 rfl (by decide))
  generalize (vals zeroM).toArray = z at *
  go_enter Try.func15, Try.ntmps15
  go_wp2
  go_ret
  exact ⟨_, rfl, B.out⟩

theorem older_any (a : Int) (w : World) :
    Calls Try.prog 21 #[.int .i64 a] w fun e w' => e = .returned (.int .i64 (if a = 0 then 1 else 0 : Int)) ∧ w = w' := by
  by_cases h : a = 0
  · subst h
    go_enter Try.func21, Try.ntmps21
    go_wp2
    go_ret
    exact ⟨rfl, rfl⟩
  · rw [if_neg h]
    have hq : (a == 0) = false := by simpa using h
    clear h
    go_enter Try.func21, Try.ntmps21
    go_wp2
    go_ret
    exact ⟨rfl, rfl⟩

theorem cut_short (ba : Option Addr) (n cap i : Nat) (hn : (n : Int) < 24) (w : World) :
    Calls Try.prog 24 #[.slice ba n cap, .int .i64 i] w fun e w' => e = .returned (.slice none 0 0) ∧ w = w' := by
  have hl : (n : Int) ≤ 9223372036854775807 := by omega
  go_enter Try.func24, Try.ntmps24
  go_wp2
  go_ret
  exact ⟨rfl, rfl⟩
theorem cut_at (b o n cap i : Nat) (hi : i < 2) (hn : 24 ≤ n) (hc : n ≤ cap) (hm : cap ≤ maxLen) (w : World) :
    Calls Try.prog 24 #[.slice (some ⟨b, o, none⟩) n cap, .int .i64 i] w fun e w' => e = .returned (.slice (some ⟨b, o + 12 * i, none⟩) 12 12) ∧ w = w' := by
  unfold maxLen at hm
  have hl : (n : Int) ≤ 9223372036854775807 := by omega
  have hq : decide ((n : Int) < 24) = false := decide_eq_false (by omega)
  have d2 : (cap : Int) ≤ 9223372036854775807 := by omega
  have d0 : (12 : Int) ≤ cap := by omega
  have d1 : (24 : Int) ≤ cap := by omega
  rcases (show i = 0 ∨ i = 1 by omega) with rfl | rfl
  · clear hi hn hc hm d1
    go_enter Try.func24, Try.ntmps24
    go_wp2
    go_ret
    exact ⟨rfl, rfl⟩
  · clear hi hn hc hm
    go_enter Try.func24, Try.ntmps24
    go_wp2
    go_ret
    exact ⟨rfl, rfl⟩
theorem cut_came {w : World} {ba : Option Addr} {cap : Nat} {l : List UInt8} (C : Came w ba cap l) (i : Nat) (hi : i < 2) :
    Calls Try.prog 24 #[.slice ba l.length cap, .int .i64 i] w fun e w' => ∃ b2 c2, e = .returned (.slice b2 (partF l i).length c2) ∧ Came w b2 c2 (partF l i) ∧ w = w' := by
  by_cases h : (l.length : Int) < 24
  · have e : partF l i = [] := by unfold partF; rw [if_pos (by omega)]
    rw [e]
    exact (cut_short ba l.length cap i h w).mono fun e w' hk => ⟨none, 0, hk.1, none_come w, hk.2⟩
  · have e : partF l i = (l.drop (12 * i)).take 12 := by unfold partF; rw [if_neg (by omega)]
    have el : ((l.drop (12 * i)).take 12).length = 12 := part_len l (12 * i) 12 (by omega)
    rw [e, el]
    obtain ⟨b, o, rfl, L⟩ := C.lies (by omega)
    exact (cut_at b o l.length cap i hi (by omega) C.le C.max w).mono fun e w' hk => ⟨_, _, hk.1, ⟨by rw [el]; exact Nat.le_refl _, by decide, fun h => (by cases h), fun _ => ⟨b, o + 12 * i, rfl, L.part (12 * i) 12 (by omega)⟩⟩, hk.2⟩

/-- what is held of a slot: its cells, and as a value -/
def cl (x y z : Int) (s : Nat) (b : Bool) : List (Option Value) := [some (.int .i64 x), some (.int .i64 y), some (.int .i64 z), some (.int .u32 s), some (.bool b)]
def cv (x y z : Int) (s : Nat) (b : Bool) : Value := .agg #[.int .i64 x, .int .i64 y, .int .i64 z, .int .u32 s, .bool b]
def cv2 (x0 y0 z0 : Int) (s0 : Nat) (b0 : Bool) (x1 y1 z1 : Int) (s1 : Nat) (b1 : Bool) : Value := .agg #[.int .i64 x0, .int .i64 y0, .int .i64 z0, .int .u32 s0, .bool b0, .int .i64 x1, .int .i64 y1, .int .i64 z1, .int .u32 s1, .bool b1]

set_option maxHeartbeats 8000000 in
set_option maxRecDepth 100000 in
theorem read_core {w : World} {ba : Option Addr} {cap n n0 n1 : Nat} {l p0 p1 : List UInt8} (x0 y0 z0 x1 y1 z1 e0 e1 : Int) (s0 s1 : Nat) (b0 b1 : Bool) (C : Came w ba cap l) (h0 : (e0 == 0) = b0) (h1 : (e1 == 0) = b1)
    (P0 : Hid (∀ w, Came w ba cap l → Calls Try.prog 24 #[.slice ba n cap, .int .i64 0] w fun e w' => ∃ b2 c2, e = .returned (.slice b2 n0 c2) ∧ Came w b2 c2 p0 ∧ w = w'))
    (P1 : Hid (∀ w, Came w ba cap l → Calls Try.prog 24 #[.slice ba n cap, .int .i64 1] w fun e w' => ∃ b2 c2, e = .returned (.slice b2 n1 c2) ∧ Came w b2 c2 p1 ∧ w = w'))
    (R0 : Hid (∀ w b2 c2, Came w b2 c2 p0 → Calls Try.prog 34 #[.slice b2 n0 c2] w fun e w' => e = .returned (.tuple #[.agg #[.int .i64 x0, .int .i64 y0, .int .i64 z0], .int .u32 s0, .int .i64 e0]) ∧ Below w.heap.size w w'))
    (R1 : Hid (∀ w b2 c2, Came w b2 c2 p1 → Calls Try.prog 34 #[.slice b2 n1 c2] w fun e w' => e = .returned (.tuple #[.agg #[.int .i64 x1, .int .i64 y1, .int .i64 z1], .int .u32 s1, .int .i64 e1]) ∧ Below w.heap.size w w')) :
    Calls Try.prog 26 #[.slice ba n cap] w fun e w' => e = .returned (cv2 x0 y0 z0 s0 b0 x1 y1 z1 s1 b1) ∧ Below w.heap.size w w' := by
  have HC := Lib.hid C
  have SN := (((Sp.none w).more [.int .i64 0, .int .i64 0, .int .i64 0, .int .u32 0, .bool false, .int .i64 0, .int .i64 0, .int .i64 0, .int .u32 0, .bool false] 55).more [.int .i64 0, .int .i64 0, .int .i64 0, .int .u32 0, .bool false, .int .i64 0, .int .i64 0, .int .i64 0, .int .u32 0, .bool false] 55)
  rw [heap1] at SN
  have SM := Lib.hid SN
  clear C SN
  go_enter Try.func26, Try.ntmps26
  go_wp2
  go_loopw [8] (fun i wr => i = .int .i64 0 ∧ Sp w [(w.heap.size, cl 0 0 0 0 false ++ cl 0 0 0 0 false), (w.heap.size + 1, cl 0 0 0 0 false ++ cl 0 0 0 0 false)] wr ∨
    i = .int .i64 1 ∧ Sp w [(w.heap.size, cl 0 0 0 0 false ++ cl 0 0 0 0 false), (w.heap.size + 1, cl x0 y0 z0 s0 b0 ++ cl 0 0 0 0 false)] wr ∨
    i = .int .i64 2 ∧ Sp w [(w.heap.size, cl 0 0 0 0 false ++ cl 0 0 0 0 false), (w.heap.size + 1, cl x0 y0 z0 s0 b0 ++ cl x1 y1 z1 s1 b1)] wr) (fun i _ => 2 - (intOf i).toNat)
  case atStart => exact Or.inl ⟨rfl, SM.out⟩
  case round =>
    rcases hrel with ⟨rfl, hS⟩ | ⟨rfl, hS⟩ | ⟨rfl, hS⟩
    · have HS := Lib.hid hS
      have P := Lib.hid (P0.out _ (HC.out.keep hS.below))
      clear P0 P1 R1 SM HC hS
      go_wp2_with fail
      refine P.out.mono ?_; rintro e w1 ⟨b2, c2, rfl, CP, rfl⟩
      have RD := Lib.hid (R0.out _ _ _ CP)
      clear P CP R0
      go_wp2_with fail
      refine RD.out.mono ?_; rintro e w2 ⟨rfl, hb2⟩
      have S2 := Lib.hid ((HS.out.keep hb2).more [.int .i64 x0, .int .i64 y0, .int .i64 z0] 26)
      have p0 := S2.out.at 2 rfl 0 rfl
      have p1 := S2.out.at 2 rfl 1 rfl
      have p2 := S2.out.at 2 rfl 2 rfl
      have c0 := S2.out.at 1 rfl 0 rfl; have f0 := S2.out.free 1 rfl 0 rfl
      have c1 := S2.out.at 1 rfl 1 rfl; have f1 := S2.out.free 1 rfl 1 rfl
      have c2 := S2.out.at 1 rfl 2 rfl; have f2 := S2.out.free 1 rfl 2 rfl
      have c3 := S2.out.at 1 rfl 3 rfl; have f3 := S2.out.free 1 rfl 3 rfl
      have c4 := S2.out.at 1 rfl 4 rfl; have f4 := S2.out.free 1 rfl 4 rfl
      have S3 := Lib.hid ((((((S2.out.put 1 rfl 0 (.int .i64 x0)).put 1 rfl 1 (.int .i64 y0)).put 1 rfl 2 (.int .i64 z0)).put 1 rfl 3 (.int .u32 s0)).put 1 rfl 4 (.bool b0)).take 2)
      clear S2 HS RD hb2
      go_wp2
      go_roundw
      case rel => exact Or.inr (Or.inl ⟨rfl, S3.out⟩)
      case measure => simp [intOf]
    · have HS := Lib.hid hS
      have P := Lib.hid (P1.out _ (HC.out.keep hS.below))
      clear P0 P1 R0 SM HC hS
      go_wp2_with fail
      refine P.out.mono ?_; rintro e w1 ⟨b2, c2, rfl, CP, rfl⟩
      have RD := Lib.hid (R1.out _ _ _ CP)
      clear P CP R1
      go_wp2_with fail
      refine RD.out.mono ?_; rintro e w2 ⟨rfl, hb2⟩
      have S2 := Lib.hid ((HS.out.keep hb2).more [.int .i64 x1, .int .i64 y1, .int .i64 z1] 26)
      have p0 := S2.out.at 2 rfl 0 rfl
      have p1 := S2.out.at 2 rfl 1 rfl
      have p2 := S2.out.at 2 rfl 2 rfl
      have c0 := S2.out.at 1 rfl 5 rfl; have f0 := S2.out.free 1 rfl 5 rfl
      have c1 := S2.out.at 1 rfl 6 rfl; have f1 := S2.out.free 1 rfl 6 rfl
      have c2 := S2.out.at 1 rfl 7 rfl; have f2 := S2.out.free 1 rfl 7 rfl
      have c3 := S2.out.at 1 rfl 8 rfl; have f3 := S2.out.free 1 rfl 8 rfl
      have c4 := S2.out.at 1 rfl 9 rfl; have f4 := S2.out.free 1 rfl 9 rfl
      have S3 := Lib.hid ((((((S2.out.put 1 rfl 5 (.int .i64 x1)).put 1 rfl 6 (.int .i64 y1)).put 1 rfl 7 (.int .i64 z1)).put 1 rfl 8 (.int .u32 s1)).put 1 rfl 9 (.bool b1)).take 2)
      clear S2 HS RD hb2
      go_wp2
      go_roundw
      case rel => exact Or.inr (Or.inr ⟨rfl, S3.out⟩)
      case measure => simp [intOf]
    · have c0 := hS.at 1 rfl 0 rfl
      have c1 := hS.at 1 rfl 1 rfl
      have c2 := hS.at 1 rfl 2 rfl
      have c3 := hS.at 1 rfl 3 rfl
      have c4 := hS.at 1 rfl 4 rfl
      have c5 := hS.at 1 rfl 5 rfl
      have c6 := hS.at 1 rfl 6 rfl
      have c7 := hS.at 1 rfl 7 rfl
      have c8 := hS.at 1 rfl 8 rfl
      have c9 := hS.at 1 rfl 9 rfl
      have d0 := hS.at 0 rfl 0 rfl; have f0 := hS.free 0 rfl 0 rfl
      have d1 := hS.at 0 rfl 1 rfl; have f1 := hS.free 0 rfl 1 rfl
      have d2 := hS.at 0 rfl 2 rfl; have f2 := hS.free 0 rfl 2 rfl
      have d3 := hS.at 0 rfl 3 rfl; have f3 := hS.free 0 rfl 3 rfl
      have d4 := hS.at 0 rfl 4 rfl; have f4 := hS.free 0 rfl 4 rfl
      have d5 := hS.at 0 rfl 5 rfl; have f5 := hS.free 0 rfl 5 rfl
      have d6 := hS.at 0 rfl 6 rfl; have f6 := hS.free 0 rfl 6 rfl
      have d7 := hS.at 0 rfl 7 rfl; have f7 := hS.free 0 rfl 7 rfl
      have d8 := hS.at 0 rfl 8 rfl; have f8 := hS.free 0 rfl 8 rfl
      have d9 := hS.at 0 rfl 9 rfl; have f9 := hS.free 0 rfl 9 rfl
      have HB := Lib.hid ((((((((((hS.put 0 rfl 0 (.int .i64 x0)).put 0 rfl 1 (.int .i64 y0)).put 0 rfl 2 (.int .i64 z0)).put 0 rfl 3 (.int .u32 s0)).put 0 rfl 4 (.bool b0)).put 0 rfl 5 (.int .i64 x1)).put 0 rfl 6 (.int .i64 y1)).put 0 rfl 7 (.int .i64 z1)).put 0 rfl 8 (.int .u32 s1)).put 0 rfl 9 (.bool b1)).below
      clear hS HC SM P0 P1 R0 R1 h0 h1
      go_wp2
      exact bodyPost_ret (v := cv2 x0 y0 z0 s0 b0 x1 y1 z1 s1 b1) (by simp [cv2, results, Try.results26, go_sem, *]) rfl ⟨rfl, HB.out⟩

theorem read_came {w : World} {ba : Option Addr} {cap : Nat} {l : List UInt8} (C : Came w ba cap l) : ∀ (x0 y0 z0 x1 y1 z1 e0 e1 : Int) (s0 s1 : Nat), readN (partF l 0) = (⟨x0, y0, z0⟩, s0, e0) → readN (partF l 1) = (⟨x1, y1, z1⟩, s1, e1) →
    Calls Try.prog 26 #[.slice ba l.length cap] w fun e w' => e = .returned (cv2 x0 y0 z0 s0 (e0 == 0) x1 y1 z1 s1 (e1 == 0)) ∧ Below w.heap.size w w' := by
  intro x0 y0 z0 x1 y1 z1 e0 e1 s0 s1 h0 h1
  refine read_core x0 y0 z0 x1 y1 z1 e0 e1 s0 s1 _ _ C rfl rfl (Lib.hid fun w C => cut_came C 0 (by decide)) (Lib.hid fun w C => cut_came C 1 (by decide)) (Lib.hid fun w b2 c2 C => ?_) (Lib.hid fun w b2 c2 C => ?_)
  · have k := Lan18.Read_came C
    rw [h0] at k
    exact k
  · have k := Lan18.Read_came C
    rw [h1] at k
    exact k
end Lan19
end Go.Proofs.Ytdalajfjikbcaaa
