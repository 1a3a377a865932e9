/- The landed crc's own calls: Step, Byte, More (a closure over the captured sum, handed to each), Of, Fits. -/
import Derived.Test.YtmacbcbomdnppaaArr
import Derived.Test.YtmacbcbomdnppaaRebase
import Derived.Test.YtmacbcbomdnppaaBufOwn
import Derived.Lib.MinMax
import Derived.WalkKit
namespace Go.Proofs.Ytmacbcbomdnppaa
open Go.RowKit
namespace Own6

theorem Step_eq (x : BitVec 16) (w : World) :
    Calls Try.prog 30 #[.int .u16 (x.toNat : Int)] w fun e w' => e = .returned (.int .u16 ((Crc.step x).toNat : Int)) ∧ w = w' := by
  have ha := and_top x
  have hs := shl_u16 x
  have hx := xor_u16 (x <<< 1) 0x1021#16
  rw [show ((0x1021#16).toNat : Int) = 4129 by decide] at hx
  unfold Crc.step
  cases hm : x.msb with
  | true =>
    rw [hm, if_pos rfl] at ha
    rw [if_pos rfl]
    clear hm
    generalize ((x <<< 1 ^^^ 0x1021#16).toNat : Int) = r at *
    generalize ((x <<< 1).toNat : Int) = s at *
    generalize (x.toNat : Int) = n at *
    go_enter Try.func30, Try.ntmps30
    go_wp2
    go_ret
    exact ⟨rfl, rfl⟩
  | false =>
    rw [hm, if_neg (by decide)] at ha
    rw [if_neg (by decide)]
    clear hm hx
    generalize ((x <<< 1).toNat : Int) = s at *
    generalize (x.toNat : Int) = n at *
    go_enter Try.func30, Try.ntmps30
    go_wp2
    go_ret
    exact ⟨rfl, rfl⟩

set_option maxHeartbeats 1000000 in
theorem Byte_eq (x : BitVec 16) (c : UInt8) (w : World) :
    Calls Try.prog 28 #[.int .u16 (x.toNat : Int), .int .u8 (c.toNat : Int)] w fun e w' => e = .returned (.int .u16 ((Crc.byte x c.toBitVec).toNat : Int)) ∧ w = w' := by
  have hu := up_u16 x c
  have hc : (c.toNat : Int) ≤ 255 := by have := c.toNat_lt; omega
  have ST := Lib.hid Step_eq
  unfold Crc.byte
  obtain ⟨y, hy⟩ : ∃ y, y = x ^^^ Crc.up c.toBitVec := ⟨_, rfl⟩
  rw [← hy] at hu ⊢
  clear hy
  obtain ⟨n, hn⟩ : ∃ n : Int, n = (x.toNat : Int) := ⟨_, rfl⟩
  obtain ⟨m, hm⟩ : ∃ m : Nat, m = c.toNat := ⟨_, rfl⟩
  rw [← hn, ← hm] at hu ⊢
  rw [← hm] at hc
  clear hn hm
  go_enter Try.func28, Try.ntmps28
  go_wp2
  refine wp_loop_rounds 9 ?_
  iterate 8
    (rw [rounds_succ]
     go_wp2_with fail
     refine (ST.out _ _).mono ?_
     rintro e w1 ⟨rfl, rfl⟩
     go_wp2_with fail)
  rw [rounds_succ]
  go_wp2_with fail
  go_ret
  exact ⟨rfl, rfl⟩


theorem Step_any (x : BitVec 16) (w : World) :
    Calls Try.prog 30 #[.int .u16 (x.toNat : Int)] w fun e w' => e = .returned (.int .u16 ((Crc.step x).toNat : Int)) ∧ Below w.heap.size w w' := by
  refine (Step_eq x w).mono ?_; rintro e w1 ⟨rfl, h⟩; exact ⟨rfl, below_of h⟩
theorem Byte_any (x : BitVec 16) (c : UInt8) (w : World) :
    Calls Try.prog 28 #[.int .u16 (x.toNat : Int), .int .u8 (c.toNat : Int)] w fun e w' => e = .returned (.int .u16 ((Crc.byte x c.toBitVec).toNat : Int)) ∧ Below w.heap.size w w' := by
  refine (Byte_eq x c w).mono ?_; rintro e w1 ⟨rfl, h⟩; exact ⟨rfl, below_of h⟩

/-- the closure of More: one byte, put into the captured sum -/
theorem each1_any (k : Int) (c : UInt8) (x : BitVec 16) (b : Nat) (w : World) (A : Arr w b [x]) :
    Calls Try.prog 27 #[.int .i64 k, .int .u8 (c.toNat : Int), .pointer (some ⟨b, 0, none⟩)] w fun e w' => e = .returned (.tuple #[]) ∧ w' = w.setCell ⟨b, 0, none⟩ (.int .u16 ((Crc.byte x c.toBitVec).toNat : Int)) := by
  have BY := Lib.hid (Byte_eq x c w)
  obtain ⟨c0, f0⟩ := A 0 (by simp)
  rw [show [x].getD 0 0#16 = x from rfl] at c0
  generalize (Crc.byte x c.toBitVec).toNat = y at *
  generalize x.toNat = n at *
  generalize c.toNat = m at *
  clear A
  go_enter Try.func27, Try.ntmps27
  go_wp2_with fail
  refine BY.out.mono ?_; rintro e w1 ⟨rfl, rfl⟩
  go_wp2_with fail
  go_end0
  exact ⟨rfl, rfl⟩

set_option maxHeartbeats 1000000 in
theorem each_more {w : World} {ba : Option Addr} {cap : Nat} {l : List UInt8} (C : Came w ba cap l) (x : BitVec 16) (t : TypeId) :
    Calls Try.prog 26 #[.slice ba l.length cap, .func (.func 27) #[] #[.pointer (some ⟨w.heap.size, 0, none⟩)]] (w.alloc (.cells #[.int .u16 (x.toNat : Int)] t)) fun e w' =>
      e = .returned (.tuple #[]) ∧ Arr w' w.heap.size [Crc.more x (bv l)] ∧ Below w.heap.size w w' := by
  have hm := C.max
  have hle := C.le
  unfold maxLen at hm
  have hl : (l.length : Int) ≤ 9223372036854775807 := by omega
  have CH := Lib.hid C
  have A0 : Arr (w.alloc (.cells #[.int .u16 (x.toNat : Int)] t)) w.heap.size [x] := arr_alloc w [x] t
  have B0 := below1 w (.cells #[.int .u16 (x.toNat : Int)] t)
  clear C hm hle
  obtain ⟨f, hf0, hf1, hf2⟩ : ∃ f : Nat → BitVec 16, f 0 = x ∧ (∀ j, j < l.length → f (j + 1) = Crc.byte (f j) (l.getD j 0).toBitVec) ∧ f l.length = Crc.more x (bv l) :=
    ⟨fun j => Crc.more x (bv (l.take j)), rfl, fun j h => more_take x l j h, by show Crc.more x (bv (l.take l.length)) = _; rw [List.take_length]⟩
  rw [← hf2]
  subst hf0
  have HF := Lib.hid hf1
  have A0' := Lib.hid A0; have B0' := Lib.hid B0
  clear hf1 hf2 A0 B0
  obtain ⟨b, hb⟩ : ∃ b, b = w.heap.size := ⟨_, rfl⟩
  obtain ⟨W, hW⟩ : ∃ W, W = w.alloc (.cells #[.int .u16 ((f 0).toNat : Int)] t) := ⟨_, rfl⟩
  rw [← hW] at A0' B0' ⊢
  rw [← hb] at A0' ⊢
  have HB := Lib.hid hb
  clear hW hb
  go_enter Try.func26, Try.ntmps26
  go_wp2
  go_loopw [8] (fun i wr => ∃ j : Nat, j ≤ l.length ∧ i = .int .i64 j ∧ Arr wr b [f j] ∧ Below w.heap.size w wr) (fun i _ => l.length - (intOf i).toNat)
  case atStart => exact ⟨0, Nat.zero_le _, rfl, A0'.out, B0'.out⟩
  case round =>
    obtain ⟨j, hj, rfl, A, B⟩ := hrel
    clear A0' B0'
    by_cases hc : (j : Int) < l.length
    · obtain ⟨g, o, rfl, L⟩ := (CH.out.keep B).lies (by omega)
      have hcell := L j (by omega)
      have hp := HF.out j (by omega)
      obtain ⟨c, hcv⟩ : ∃ c, c = l.getD j 0 := ⟨_, rfl⟩
      rw [← hcv] at hcell hp
      have E1 := each1_any j c (f j) b wr A
      rw [← hp] at E1
      have EH := Lib.hid E1
      have A' := Lib.hid (A.set 0 (f (j + 1)))
      have B' := Lib.hid (B.setCell (p := ⟨b, 0, none⟩) (show w.heap.size ≤ b by have := HB.out; omega) (.int .u16 ((f (j + 1)).toNat : Int)))
      have hc1 : (c.toNat : Int) ≤ 255 := by have := c.toNat_lt; omega
      generalize c.toNat = cn at *
      clear hcv L hp A B E1
      go_wp2_with fail
      refine EH.out.mono ?_; rintro e w1 ⟨rfl, rfl⟩
      go_wp2_with fail
      go_roundw
      case rel => exact ⟨j + 1, by omega, rfl, A'.out, B'.out⟩
      case measure => simp [intOf]; omega
    · obtain rfl : j = l.length := by omega
      have A' := Lib.hid A; have B' := Lib.hid B
      clear A B
      go_wp2
      go_end0
      exact ⟨rfl, A'.out, by rw [HB.out]; exact B'.out⟩

theorem More_any {w : World} {ba : Option Addr} {cap : Nat} {l : List UInt8} (C : Came w ba cap l) (x : BitVec 16) :
    Calls Try.prog 23 #[.int .u16 (x.toNat : Int), .slice ba l.length cap] w fun e w' => e = .returned (.int .u16 ((Crc.more x (bv l)).toNat : Int)) ∧ Below w.heap.size w w' := by
  have hmf : ∀ (fn : Fn) (first cap : Array Value) (w : World), (Instr.makeFunc fn first cap).run Try.prog w = .ok (.func fn first cap) w := fun _ _ _ _ => rfl
  have E := Lib.hid fun t => each_more C x t
  clear C
  go_enter Try.func23, Try.ntmps23
  go_wp2_with fail
  refine (E.out _).mono ?_; rintro e w1 ⟨rfl, A, B⟩
  have c0 := (A 0 (by simp)).1
  rw [show [Crc.more x (bv l)].getD 0 0#16 = Crc.more x (bv l) from rfl] at c0
  have B' := Lib.hid B
  clear A B E
  go_wp2_with fail
  go_ret
  exact ⟨rfl, B'.out⟩
theorem More_came {w : World} {ba : Option Addr} {cap : Nat} {l : List UInt8} (C : Came w ba cap l) (_hl : l.length ≤ 4000) (x : BitVec 16) :
    Calls Try.prog 23 #[.int .u16 (x.toNat : Int), .slice ba l.length cap] w fun e w' => e = .returned (.int .u16 ((Crc.more x (bv l)).toNat : Int)) ∧ Below w.heap.size w w' := More_any C x

theorem Of_any {w : World} {ba : Option Addr} {cap : Nat} {l : List UInt8} (C : Came w ba cap l) :
    Calls Try.prog 17 #[.slice ba l.length cap] w fun e w' => e = .returned (.int .u16 ((Crc.sum (bv l)).toNat : Int)) ∧ Below w.heap.size w w' := by
  have M := Lib.hid (More_any C 0xffff#16)
  clear C
  go_enter Try.func17, Try.ntmps17
  go_wp2_with fail
  refine M.out.mono ?_; rintro e w1 ⟨rfl, h⟩
  have B' := Lib.hid h
  clear h
  go_wp2_with fail
  go_ret
  exact ⟨rfl, B'.out⟩
theorem Of_came {w : World} {ba : Option Addr} {cap : Nat} {l : List UInt8} (C : Came w ba cap l) (_hl : l.length ≤ 4000) :
    Calls Try.prog 17 #[.slice ba l.length cap] w fun e w' => e = .returned (.int .u16 ((Crc.sum (bv l)).toNat : Int)) ∧ Below w.heap.size w w' := Of_any C

end Own6
end Go.Proofs.Ytmacbcbomdnppaa
