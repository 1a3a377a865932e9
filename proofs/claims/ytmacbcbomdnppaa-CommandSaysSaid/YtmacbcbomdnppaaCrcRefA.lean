/- Sums of 16 bits as the model has them; Step, Byte, More, Of, Fits of the document's own answers for layer 6. -/
import Derived.Test.YtmacbcbomdnppaaBuf
import Derived.Test.YtmacbcbomdnppaaCrcBit
import Derived.LoopTactic
import Derived.Laws.Bits64b
namespace Go.Proofs.Ytmacbcbomdnppaa
open Go.RowKit

theorem ofInt16 (x : BitVec 16) : BitVec.ofInt 16 (x.toNat : Int) = x := by
  apply BitVec.eq_of_toNat_eq
  rw [BitVec.toNat_ofInt]
  have := x.isLt
  omega
theorem u16_rng (x : BitVec 16) : (x.toNat : Int) ≤ 65535 := by have := x.isLt; omega
theorem wrap16 (n : Nat) (h : n < 65536) : IntKind.u16.wrap (n : Int) = (n : Int) := by rw [IntKind.wrap_u16]; omega
theorem xor_u16 (x y : BitVec 16) : bits .xor .u16 (x.toNat : Int) (y.toNat : Int) = ((x ^^^ y).toNat : Int) := by
  show IntKind.u16.wrap ((BitVec.ofInt 16 (x.toNat : Int) ^^^ BitVec.ofInt 16 (y.toNat : Int)).toNat : Int) = _
  rw [ofInt16, ofInt16, wrap16 _ (x ^^^ y).isLt]
theorem and_top (x : BitVec 16) : bits .and .u16 (x.toNat : Int) 32768 = if x.msb then 32768 else 0 := by
  show IntKind.u16.wrap ((BitVec.ofInt 16 (x.toNat : Int) &&& BitVec.ofInt 16 32768).toNat : Int) = _
  rw [ofInt16, show BitVec.ofInt 16 32768 = BitVec.twoPow 16 15 by decide, BitVec.and_twoPow, BitVec.msb_eq_getLsbD_last]
  show IntKind.u16.wrap (((if x.getLsbD 15 then BitVec.twoPow 16 15 else 0#16).toNat : Nat) : Int) = if x.getLsbD 15 then 32768 else 0
  cases x.getLsbD 15 <;> decide
theorem shl_u16 (x : BitVec 16) : IntKind.u16.wrap ((x.toNat : Int) * 2) = ((x <<< 1).toNat : Int) := by
  rw [IntKind.wrap_u16, BitVec.toNat_shiftLeft, Nat.shiftLeft_eq]
  omega
theorem up_u16 (x : BitVec 16) (c : UInt8) : bits .xor .u16 (x.toNat : Int) ((c.toNat : Int) * 256) = ((x ^^^ Crc.up c.toBitVec).toNat : Int) := by
  have e : (c.toNat : Int) * 256 = ((Crc.up c.toBitVec).toNat : Int) := by
    unfold Crc.up
    have hc := c.toNat_lt
    have hc2 : c.toBitVec.toNat = c.toNat := rfl
    rw [BitVec.toNat_shiftLeft, BitVec.toNat_setWidth, hc2, Nat.shiftLeft_eq]
    omega
  rw [e, xor_u16]

def bv (l : List UInt8) : List (BitVec 8) := l.map UInt8.toBitVec
theorem bv_length (l : List UInt8) : (bv l).length = l.length := by simp [bv]
theorem bv_append (l m : List UInt8) : bv (l ++ m) = bv l ++ bv m := by simp [bv]

theorem more_take (x : BitVec 16) (l : List UInt8) (i : Nat) (h : i < l.length) : Crc.more x (bv (l.take (i + 1))) = Crc.byte (Crc.more x (bv (l.take i))) (l.getD i 0).toBitVec := by
  have e : l.getD i 0 = l[i] := by simp [List.getD, List.getElem?_eq_getElem h]
  rw [List.take_succ_eq_append_getElem h, bv_append, Crc.more_append, e]
  rfl

/-- whether the last two bytes are the sum of those ahead -/
def fitsB (l : List UInt8) : Bool := decide (2 ≤ l.length) && ((l.getD (l.length - 2) 0).toBitVec == Crc.hiOf (Crc.sum (bv (l.take (l.length - 2)))) && (l.getD (l.length - 1) 0).toBitVec == Crc.loOf (Crc.sum (bv (l.take (l.length - 2)))))

theorem hi_u16 (x : BitVec 16) : (x.toNat : Int) / 256 = ((Crc.hiOf x).toNat : Int) := by
  unfold Crc.hiOf
  have := x.isLt
  rw [BitVec.toNat_setWidth, BitVec.toNat_ushiftRight, Nat.shiftRight_eq_div_pow]
  omega
theorem lo_u16 (x : BitVec 16) : (x.toNat : Int) % 256 = ((Crc.loOf x).toNat : Int) := by
  unfold Crc.loOf
  rw [BitVec.toNat_setWidth]
  omega

/-- the last bytes of a slice that came in -/
theorem Came.take {w : World} {ba : Option Addr} {cap : Nat} {l : List UInt8} (C : Came w ba cap l) (n : Nat) (h : n ≤ l.length) : Came w ba cap (l.take n) :=
  ⟨by rw [List.length_take]; have := C.le; omega, C.max, fun e => by obtain ⟨rfl, e2⟩ := C.nil e; exact ⟨by simp, e2⟩, fun h0 => by
    rw [List.length_take] at h0
    obtain ⟨b, o, e, L⟩ := C.lies (by omega)
    refine ⟨b, o, e, fun j hj => ?_⟩
    rw [List.length_take] at hj
    rw [L j (by omega)]
    simp [List.getD, show j < n by omega]⟩

namespace Ref6

theorem Step_any (x : BitVec 16) (w : World) :
    Calls Try.prog 31 #[.int .u16 (x.toNat : Int)] w fun e w' => e = .returned (.int .u16 ((Crc.step x).toNat : Int)) ∧ w = w' := by
  have ha := and_top x
  have hs := shl_u16 x
  have hx := xor_u16 (x <<< 1) 0x1021#16
  rw [show ((0x1021#16).toNat : Int) = 4129 by decide] at hx
  unfold Crc.step
  cases hm : x.msb with
  | true =>
    rw [hm, if_pos rfl] at ha
    rw [if_pos rfl]
    clear hm
    generalize ((x <<< 1 ^^^ 0x1021#16).toNat : Int) = r at *
    generalize ((x <<< 1).toNat : Int) = s at *
    generalize (x.toNat : Int) = n at *
    go_enter Try.func31, Try.ntmps31
    go_wp2
    go_ret
    exact ⟨rfl, rfl⟩
  | false =>
    rw [hm, if_neg (by decide)] at ha
    rw [if_neg (by decide)]
    clear hm hx
    generalize ((x <<< 1).toNat : Int) = s at *
    generalize (x.toNat : Int) = n at *
    go_enter Try.func31, Try.ntmps31
    go_wp2
    go_ret
    exact ⟨rfl, rfl⟩

set_option maxHeartbeats 1000000 in
theorem Byte_any (x : BitVec 16) (c : UInt8) (w : World) :
    Calls Try.prog 29 #[.int .u16 (x.toNat : Int), .int .u8 (c.toNat : Int)] w fun e w' => e = .returned (.int .u16 ((Crc.byte x c.toBitVec).toNat : Int)) ∧ w = w' := by
  have hu := up_u16 x c
  have hc : (c.toNat : Int) ≤ 255 := by have := c.toNat_lt; omega
  have ST := Lib.hid Step_any
  unfold Crc.byte
  obtain ⟨y, hy⟩ : ∃ y, y = x ^^^ Crc.up c.toBitVec := ⟨_, rfl⟩
  rw [← hy] at hu ⊢
  clear hy
  obtain ⟨n, hn⟩ : ∃ n : Int, n = (x.toNat : Int) := ⟨_, rfl⟩
  obtain ⟨m, hm⟩ : ∃ m : Nat, m = c.toNat := ⟨_, rfl⟩
  rw [← hn, ← hm] at hu ⊢
  rw [← hm] at hc
  clear hn hm
  go_enter Try.func29, Try.ntmps29
  go_wp2
  refine wp_loop_rounds 9 ?_
  iterate 8
    (rw [rounds_succ]
     go_wp2_with fail
     refine (ST.out _ _).mono ?_
     rintro e w1 ⟨rfl, rfl⟩
     go_wp2_with fail)
  rw [rounds_succ]
  go_wp2_with fail
  go_ret
  exact ⟨rfl, rfl⟩

set_option maxHeartbeats 1000000 in
theorem More_came {w : World} {ba : Option Addr} {cap : Nat} {l : List UInt8} (C : Came w ba cap l) (x : BitVec 16) :
    Calls Try.prog 24 #[.int .u16 (x.toNat : Int), .slice ba l.length cap] w fun e w' => e = .returned (.int .u16 ((Crc.more x (bv l)).toNat : Int)) ∧ w = w' := by
  have BY := Lib.hid Byte_any
  have hm := C.max
  have hle := C.le
  unfold maxLen at hm
  have hl : (l.length : Int) ≤ 9223372036854775807 := by omega
  have CH := Lib.hid C
  clear C hm hle
  obtain ⟨f, hf0, hf1, hf2⟩ : ∃ f : Nat → BitVec 16, f 0 = x ∧ (∀ j, j < l.length → f (j + 1) = Crc.byte (f j) (l.getD j 0).toBitVec) ∧ f l.length = Crc.more x (bv l) :=
    ⟨fun j => Crc.more x (bv (l.take j)), rfl, fun j h => more_take x l j h, by show Crc.more x (bv (l.take l.length)) = _; rw [List.take_length]⟩
  rw [← hf2, ← hf0]
  have HF := Lib.hid hf1
  clear hf0 hf1 hf2
  go_enter Try.func24, Try.ntmps24
  go_wp2
  go_loop [0, 9] (fun s i => ∃ j : Nat, j ≤ l.length ∧ s = .int .u16 ((f j).toNat : Int) ∧ i = .int .i64 j) (fun _ i => l.length - (intOf i).toNat)
  case atStart => exact ⟨0, Nat.zero_le _, rfl, rfl⟩
  case round =>
    obtain ⟨j, hj, rfl, rfl⟩ := hrel
    by_cases hc : (j : Int) < l.length
    · obtain ⟨b, o, rfl, L⟩ := CH.out.lies (by omega)
      have hcell := L j (by omega)
      have hp := HF.out j (by omega)
      obtain ⟨c, hcv⟩ : ∃ c, c = l.getD j 0 := ⟨_, rfl⟩
      rw [← hcv] at hcell hp
      have BYc := Lib.hid (BY.out (f j) c)
      rw [← hp] at BYc
      have hend : ∃ j' : Nat, j' ≤ l.length ∧ Value.int .u16 ((f (j + 1)).toNat : Int) = .int .u16 ((f j').toNat : Int) ∧ Value.int .i64 ((j : Int) + 1) = .int .i64 j' := ⟨j + 1, by omega, rfl, rfl⟩
      have hc1 : (c.toNat : Int) ≤ 255 := by have := c.toNat_lt; omega
      generalize (f (j + 1)).toNat = y1 at *
      generalize (f j).toNat = y0 at *
      generalize c.toNat = cn at *
      clear hcv L hp
      go_wp2_with fail
      refine (BYc.out _).mono ?_; rintro e w1 ⟨rfl, rfl⟩
      go_wp2_with fail
      exact ⟨hend, by simp [intOf]; omega⟩
    · obtain rfl : j = l.length := by omega
      go_wp2
      go_ret
      exact ⟨rfl, rfl⟩

theorem Of_came {w : World} {ba : Option Addr} {cap : Nat} {l : List UInt8} (C : Came w ba cap l) :
    Calls Try.prog 19 #[.slice ba l.length cap] w fun e w' => e = .returned (.int .u16 ((Crc.sum (bv l)).toNat : Int)) ∧ w = w' := by
  have M := Lib.hid (More_came C 0xffff#16)
  clear C
  go_enter Try.func19, Try.ntmps19
  go_wp2_with fail
  refine M.out.mono ?_; rintro e w1 ⟨rfl, rfl⟩
  go_wp2_with fail
  go_ret
  exact ⟨rfl, rfl⟩

/-- a byte that lies in memory, by its bits -/
theorem byte_eq (c : UInt8) (x : BitVec 8) : ((c.toNat : Int) == (x.toNat : Int)) = (c.toBitVec == x) := by
  have h : c.toNat = c.toBitVec.toNat := rfl
  rw [h]
  by_cases e : c.toBitVec = x
  · subst e; simp
  · rw [beq_eq_false_iff_ne.2 e, beq_eq_false_iff_ne]
    intro g
    exact e (BitVec.eq_of_toNat_eq (by omega))

set_option maxHeartbeats 2000000 in
theorem Fits_came {w : World} {ba : Option Addr} {cap : Nat} {l : List UInt8} (C : Came w ba cap l) :
    Calls Try.prog 21 #[.slice ba l.length cap] w fun e w' => e = .returned (.bool (fitsB l)) ∧ w = w' := by
  have hm := C.max
  have hle := C.le
  unfold maxLen at hm
  by_cases h2 : (l.length : Int) < 2
  · have e : fitsB l = false := by unfold fitsB; rw [decide_eq_false (by omega)]; rfl
    rw [e]
    clear C hm hle
    go_enter Try.func21, Try.ntmps21
    go_wp2
    go_ret
    exact ⟨rfl, rfl⟩
  · obtain ⟨n, hn⟩ : ∃ n : Nat, l.length = n + 2 := ⟨l.length - 2, by omega⟩
    have O := Of_came (C.take n (by omega))
    have hlen : (l.take n).length = n := by rw [List.length_take]; omega
    rw [hlen] at O
    have e : fitsB l = ((l.getD n 0).toBitVec == Crc.hiOf (Crc.sum (bv (l.take n))) && (l.getD (n + 1) 0).toBitVec == Crc.loOf (Crc.sum (bv (l.take n)))) := by
      unfold fitsB
      rw [hn, decide_eq_true (by omega), Bool.true_and]
      rfl
    obtain ⟨b, o, rfl, L⟩ := C.lies (by omega)
    have c0 := L n (by omega)
    have c1 := L (n + 1) (by omega)
    have e0 := hi_u16 (Crc.sum (bv (l.take n)))
    have e1 := lo_u16 (Crc.sum (bv (l.take n)))
    have b0 := byte_eq (l.getD n 0) (Crc.hiOf (Crc.sum (bv (l.take n))))
    have b1 := byte_eq (l.getD (n + 1) 0) (Crc.loOf (Crc.sum (bv (l.take n))))
    have r0 : ((Crc.hiOf (Crc.sum (bv (l.take n)))).toNat : Int) ≤ 255 := by have := (Crc.hiOf (Crc.sum (bv (l.take n)))).isLt; omega
    rw [e, ← b0, ← b1, hn]
    have OH := Lib.hid O
    have hs := u16_rng (Crc.sum (bv (l.take n)))
    generalize (Crc.sum (bv (l.take n))).toNat = s at *
    generalize (Crc.hiOf (Crc.sum (bv (l.take n)))).toNat = sh at *
    generalize (Crc.loOf (Crc.sum (bv (l.take n)))).toNat = sl at *
    generalize (l.getD n 0).toNat = x0 at *
    generalize (l.getD (n + 1) 0).toNat = x1 at *
    have hn2 : (n : Int) + 2 ≤ cap := by omega
    have hn3 : (cap : Int) ≤ 9223372036854775807 := by omega
    clear C O L e b0 b1 hlen hn h2 hle hm
    cases hb : ((x0 : Int) == (sh : Int))
    all_goals
      go_enter Try.func21, Try.ntmps21
      go_wp2_with fail
      refine OH.out.mono ?_; rintro e w1 ⟨rfl, rfl⟩
      go_wp2_with fail
      go_ret
      exact ⟨rfl, rfl⟩

end Ref6
end Go.Proofs.Ytmacbcbomdnppaa
