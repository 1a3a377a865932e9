/- Bytes that came in, and what octet's functions and the document's own answers make of them: the same. -/
import Derived.Test.YtcnnkgkejafeeaaOwnAwake
import Derived.Test.YtcnnkgkejafeeaaOwnBits
import Derived.Test.YtcnnkgkejafeeaaOwnRead
import Derived.Test.YtcnnkgkejafeeaaOctSig
import Derived.Test.YtcnnkgkejafeeaaOctZig
import Derived.Test.YtcnnkgkejafeeaaOctOpen
namespace Go.Proofs.Ytcnnkgkejafeeaa
open Go.RowKit

/-- a slice of bytes that came in -/
structure Came (w : World) (ba : Option Addr) (cap : Nat) (l : List UInt8) : Prop where
  le : l.length ≤ cap
  max : cap ≤ maxLen
  nil : ba = none → l = [] ∧ cap = 0
  lies : 0 < l.length → ∃ b o, ba = some ⟨b, o, none⟩ ∧ Lies w b o l

theorem Came.keep {w w' : World} {ba : Option Addr} {cap : Nat} {l : List UInt8} (C : Came w ba cap l) (hb : Below w.heap.size w w') : Came w' ba cap l :=
  ⟨C.le, C.max, C.nil, fun h => by obtain ⟨b, o, e, L⟩ := C.lies h; exact ⟨b, o, e, L.keep hb⟩⟩

theorem Came.string {w : World} {ba : Option Addr} {cap : Nat} {l : List UInt8} (C : Came w ba cap l) :
    (convert 22 9 (.slice ba l.length cap)).run Try.prog w = .ok (.string ⟨l.toArray⟩) w := by
  by_cases h : 0 < l.length
  · obtain ⟨b, o, rfl, L⟩ := C.lies h
    exact part_string w b o cap l L
  · obtain rfl : l = [] := List.length_eq_zero_iff.1 (by omega)
    match ba with
    | none => exact run_convert_bytes_nil w 22 5 Try.underlying22 Try.underlying5 0 cap 9 Try.underlying9
    | some a => exact run_convert_bytes_back w 22 9 5 a cap [] Try.underlying22 Try.underlying5 Try.underlying9 fun j hj => by simp at hj

section
variable {H : Type} {enc : TypeId × Value → H} {w : World} {base : Nat} {held : Bool}
theorem bytes_came {r : Reach} {b0 : Nat} {v : Value} {d : DataW H} {p : List MemPlace} (hv : Value.okWide Try.prog w r b0 22 v) (h : DataW.Trod enc Try.prog w base (fun _ => true) held 22 v d p) :
    ∃ (ba : Option Addr) (cap : Nat) (l : List UInt8), v = .slice ba l.length cap ∧ Came w ba cap l := by
  obtain ⟨ba, cap, l, e, h1, h2, h3, h4⟩ := bytes_open hv h
  exact ⟨ba, cap, l, e, h1, h2, h4, h3⟩
end

/-- what Get tells -/
def getE (l : List UInt8) (at_ width : Int) : Int := if at_ < 0 ∨ (l.length : Int) < at_ ∨ width < 1 ∨ 8 < width then 1 else if (l.length : Int) - at_ < width then 2 else 0
def getU (l : List UInt8) (at_ width : Int) : Nat := if getE l at_ width = 0 then sofar l at_.toNat width.toNat else 0
theorem getE_ok {l : List UInt8} {at_ width : Int} (h : getE l at_ width = 0) : ∃ k n : Nat, at_ = k ∧ width = n ∧ (1 : Int) ≤ n ∧ (n : Int) ≤ 8 ∧ k + n ≤ l.length ∧ getU l at_ width = sofar l k n := by
  have h' := h
  unfold getE at h
  split at h
  · cases h
  · split at h
    · cases h
    · exact ⟨at_.toNat, width.toNat, by omega, by omega, by omega, by omega, by omega, by unfold getU; rw [if_pos h']⟩
theorem getU_lt {l : List UInt8} {at_ width : Int} (h : getE l at_ width = 0) : getU l at_ width < 256 ^ width.toNat := by
  obtain ⟨k, n, rfl, rfl, h1, h2, h3, e⟩ := getE_ok h
  rw [e]
  have := Oct.num_lt0 ((l.drop k).take n)
  have e : ((l.drop k).take n).length = n := by rw [List.length_take, List.length_drop]; omega
  rw [e] at this
  exact this
theorem getU_err {l : List UInt8} {at_ width : Int} (h : ¬ getE l at_ width = 0) : getU l at_ width = 0 := if_neg h
def sgnI (l : List UInt8) (at_ width : Int) : Int := if getE l at_ width = 0 then Oct.sgn width.toNat (getU l at_ width) else 0
/-- what ReadText tells -/
def txtE (l : List UInt8) (at_ : Int) : Int := if getE l at_ 1 = 0 then (if (l.length : Int) - at_ - 1 < (getU l at_ 1 : Int) then 2 else 0) else getE l at_ 1
def txtS (l : List UInt8) (at_ : Int) : ByteArray := if txtE l at_ = 0 then ⟨((l.drop (at_.toNat + 1)).take (getU l at_ 1)).toArray⟩ else ⟨#[]⟩
def txtP (l : List UInt8) (at_ : Int) : Int := if txtE l at_ = 0 then at_ + 1 + getU l at_ 1 else 0
/-- what ReadVar tells -/
def rvAns (l : List UInt8) (at_ : Int) : Value := if at_ < 0 ∨ (l.length : Int) < at_ then .tuple #[.int .u64 0, .int .i64 0, .int .i64 1] else answer at_.toNat (Oct.read 0 0 (l.drop at_.toNat))
theorem rvAns_is (l : List UInt8) (at_ : Int) : ∃ y tp er : Int, rvAns l at_ = .tuple #[.int .u64 y, .int .i64 tp, .int .i64 er] := by
  unfold rvAns answer
  split
  · exact ⟨_, _, _, rfl⟩
  · split <;> exact ⟨_, _, _, rfl⟩
/-- what PutSigned tells -/
def psW (n : Int) (k : Nat) : Bool := (n / 2 ^ (8 * k - 1) != 0) && (n / 2 ^ (8 * k - 1) != -1)
def psE (n width : Int) : Int := if width < 1 ∨ 8 < width then 1 else if psW n width.toNat then 8 else 0
def psL (n width : Int) : List UInt8 := if psE n width = 0 then Oct.be width.toNat (IntKind.u64.wrap n).toNat else []
theorem bytes_none (w : World) : Bytes w.heap.size w w (.slice none 0 0) [] := ⟨World.ownsRowF_nil _ _ _ _, Below.refl _ _, Nat.le_refl _⟩
def txE (s : ByteArray) : Int := if (255 : Int) < s.size then 4 else 0
def txL (s : ByteArray) : List UInt8 := if (255 : Int) < s.size then [] else UInt8.ofNat s.size :: s.data.toList

namespace Own
theorem Get_came {w : World} {ba : Option Addr} {cap : Nat} {l : List UInt8} (C : Came w ba cap l) (at_ width : Int) :
    Calls Try.prog 10 #[.slice ba l.length cap, .int .i64 at_, .int .i64 width] w fun e w' => e = .returned (.tuple #[.int .u64 (getU l at_ width : Nat), .int .i64 (getE l at_ width)]) ∧ w = w' := by
  have hm := C.max
  have hc := C.le
  unfold maxLen at hm
  by_cases h0 : getE l at_ width = 0
  · obtain ⟨k, n, rfl, rfl, h1, h2, h3, e⟩ := getE_ok h0
    obtain ⟨b, o, rfl, L⟩ := C.lies (by omega)
    rw [e, h0]
    exact Get_ok b o cap k n l w (by omega) h1 h2 h3 L
  · rw [getU_err h0]
    unfold getE at h0 ⊢
    by_cases g : at_ < 0 ∨ (l.length : Int) < at_ ∨ width < 1 ∨ 8 < width
    · rw [if_pos g]
      exact Get_arg ba l.length cap at_ width w (by omega)
    · rw [if_neg g] at h0 ⊢
      by_cases g2 : (l.length : Int) - at_ < width
      · rw [if_pos g2]
        have := Get_short ba l.length cap at_.toNat width.toNat w (by omega) (by omega) (by omega) (by omega) (by omega)
        rwa [Int.toNat_of_nonneg (by omega), Int.toNat_of_nonneg (by omega)] at this
      · rw [if_neg g2] at h0; exact absurd rfl h0

theorem Signed_came {w : World} {ba : Option Addr} {cap : Nat} {l : List UInt8} (C : Came w ba cap l) (at_ width : Int) :
    Calls Try.prog 12 #[.slice ba l.length cap, .int .i64 at_, .int .i64 width] w fun e w' => e = .returned (.tuple #[.int .i64 (sgnI l at_ width), .int .i64 (getE l at_ width)]) ∧ w = w' := by
  have G := Get_came C at_ width
  unfold sgnI
  by_cases h0 : getE l at_ width = 0
  · have hlt := getU_lt h0
    obtain ⟨k, n, rfl, rfl, h1, h2, h3, e⟩ := getE_ok h0
    rw [if_pos h0]
    rw [h0] at G ⊢
    exact Signed_ok ba l.length cap n _ k w h1 h2 hlt (Lib.hid G)
  · rw [if_neg h0]
    rw [getU_err h0] at G
    exact Signed_err ba l.length cap at_ width _ w (by simp [h0]) (Lib.hid G)

theorem ReadText_came {w : World} {ba : Option Addr} {cap : Nat} {l : List UInt8} (C : Came w ba cap l) (at_ : Int) :
    Calls Try.prog 16 #[.slice ba l.length cap, .int .i64 at_] w fun e w' => e = .returned (.tuple #[.string (txtS l at_), .int .i64 (txtP l at_), .int .i64 (txtE l at_)]) ∧ w = w' := by
  have G := Get_came C at_ 1
  have hm := C.max
  have hc := C.le
  unfold maxLen at hm
  by_cases h0 : getE l at_ 1 = 0
  · have hlt := getU_lt h0
    obtain ⟨k, n, rfl, hn, h1, h2, h3, e⟩ := getE_ok h0
    have hlt' : getU l k 1 < 256 := hlt
    rw [h0] at G
    by_cases g : (l.length : Int) - k - 1 < (getU l k 1 : Int)
    · have e2 : txtE l k = 2 := by unfold txtE; rw [if_pos h0, if_pos g]
      have e3 : txtS l k = ⟨#[]⟩ := by unfold txtS; rw [e2]; rfl
      have e4 : txtP l k = 0 := by unfold txtP; rw [e2]; rfl
      rw [e2, e3, e4]
      exact ReadText_short ba l.length cap k _ w (by omega) (by omega) (by omega) (by omega) (Lib.hid G)
    · have e2 : txtE l k = 0 := by unfold txtE; rw [if_pos h0, if_neg g]
      have e3 : txtS l k = ⟨((l.drop (k + 1)).take (getU l k 1)).toArray⟩ := by unfold txtS; rw [e2]; rfl
      have e4 : txtP l k = (k : Int) + 1 + getU l k 1 := by unfold txtP; rw [e2]; rfl
      rw [e2, e3, e4]
      obtain ⟨b, o, rfl, L⟩ := C.lies (by omega)
      exact ReadText_ok b o cap k _ l w hc (by omega) (by omega) (by omega) L (Lib.hid G)
  · have e2 : txtE l at_ = getE l at_ 1 := by unfold txtE; rw [if_neg h0]
    have e3 : txtS l at_ = ⟨#[]⟩ := by unfold txtS; rw [e2, if_neg h0]
    have e4 : txtP l at_ = 0 := by unfold txtP; rw [e2, if_neg h0]
    rw [getU_err h0] at G
    rw [e2, e3, e4]
    exact ReadText_err ba l.length cap at_ _ w (by simp [h0]) (Lib.hid G)

theorem ReadVar_came {w : World} {ba : Option Addr} {cap : Nat} {l : List UInt8} (C : Came w ba cap l) (hl : l.length ≤ 600) (at_ : Int) :
    Calls Try.prog 20 #[.slice ba l.length cap, .int .i64 at_] w fun e w' => e = .returned (rvAns l at_) ∧ w = w' := by
  have hm := C.max
  have hc := C.le
  unfold maxLen at hm
  unfold rvAns
  by_cases h : at_ < 0 ∨ (l.length : Int) < at_
  · rw [if_pos h]
    exact ReadVar_arg ba l.length cap at_ w (by omega)
  · rw [if_neg h]
    obtain ⟨k, rfl⟩ : ∃ k : Nat, at_ = k := ⟨at_.toNat, by omega⟩
    rw [Int.toNat_natCast]
    by_cases hk : k = l.length
    · subst hk
      rw [List.drop_length]
      show Calls _ _ _ _ fun e w' => e = .returned (.tuple #[.int .u64 0, .int .i64 0, .int .i64 2]) ∧ w = w'
      match ba, C with
      | none, C =>
        obtain ⟨rfl, rfl⟩ := C.nil rfl
        exact ReadVar_none w
      | some a, C => exact ReadVar_end a l.length cap w (by omega) hc
    · obtain ⟨b, o, rfl, L⟩ := C.lies (by omega)
      exact ReadVar_any b o cap k l w hc (by omega) (by omega) (by omega) L

theorem Bits_came {w : World} {ba : Option Addr} {cap : Nat} {l : List UInt8} (C : Came w ba cap l) (hl : l.length ≤ 600) :
    Calls Try.prog 28 #[.slice ba l.length cap] w fun e w' => e = .returned (.int .i64 (pcs l : Nat)) ∧ w = w' := by
  by_cases hk : 0 < l.length
  · obtain ⟨b, o, rfl, L⟩ := C.lies hk
    exact Bits_any b o cap l w hl L
  · obtain rfl : l = [] := List.length_eq_zero_iff.1 (by omega)
    exact Bits_none ba cap w

theorem PutSigned_came (n width : Int) (w : World) :
    Calls Try.prog 8 #[.int .i64 n, .int .i64 width] w fun e w' => ∃ v, e = .returned (.tuple #[v, .int .i64 (psE n width)]) ∧ Bytes w.heap.size w w' v (psL n width) := by
  unfold psL psE
  by_cases h : width < 1 ∨ 8 < width
  · rw [if_pos h]
    exact (PutSigned_arg n width w h).mono fun e w' k => ⟨_, k.1, by rw [← k.2]; exact bytes_none w⟩
  · rw [if_neg h]
    obtain ⟨k, rfl⟩ : ∃ k : Nat, width = k := ⟨width.toNat, by omega⟩
    rw [Int.toNat_natCast]
    by_cases c : psW n k = true
    · rw [if_pos c]
      have c' := c
      unfold psW at c'
      rw [Bool.and_eq_true] at c'
      exact (PutSigned_over n k w (by omega) (by omega) c'.1 c'.2).mono fun e w' k => ⟨_, k.1, by rw [← k.2]; exact bytes_none w⟩
    · rw [if_neg c]
      have c' : psW n k = false := by simpa using c
      unfold psW at c'
      rw [if_pos rfl]
      have hw : IntKind.u64.wrap n = ((IntKind.u64.wrap n).toNat : Int) := by rw [IntKind.wrap_u64]; omega
      refine PutSigned_bytes n k _ w (by omega) (by omega) hw ?_
      revert c'
      cases (n / 2 ^ (8 * k - 1) != 0) <;> simp

theorem Text_came (s : ByteArray) (w : World) :
    Calls Try.prog 14 #[.string s] w fun e w' => ∃ v, e = .returned (.tuple #[v, .int .i64 (txE s)]) ∧ Bytes w.heap.size w w' v (txL s) := by
  unfold txE txL
  by_cases h : (255 : Int) < s.size
  · rw [if_pos h, if_pos h]
    exact (Text_long s w h).mono fun e w' k => ⟨_, k.1, by rw [← k.2]; exact bytes_none w⟩
  · rw [if_neg h, if_neg h]
    exact Text_ok s w (by omega)
end Own

namespace Ref
theorem Get_came {w : World} {ba : Option Addr} {cap : Nat} {l : List UInt8} (C : Came w ba cap l) (at_ width : Int) :
    Calls Try.prog 11 #[.slice ba l.length cap, .int .i64 at_, .int .i64 width] w fun e w' => e = .returned (.tuple #[.int .u64 (getU l at_ width : Nat), .int .i64 (getE l at_ width)]) ∧ w = w' := by
  have hm := C.max
  have hc := C.le
  unfold maxLen at hm
  by_cases h0 : getE l at_ width = 0
  · obtain ⟨k, n, rfl, rfl, h1, h2, h3, e⟩ := getE_ok h0
    obtain ⟨b, o, rfl, L⟩ := C.lies (by omega)
    rw [e, h0]
    exact Get_ok b o cap k n l w (by omega) h1 h2 h3 L
  · rw [getU_err h0]
    unfold getE at h0 ⊢
    by_cases g : at_ < 0 ∨ (l.length : Int) < at_ ∨ width < 1 ∨ 8 < width
    · rw [if_pos g]
      exact Get_arg ba l.length cap at_ width w (by omega)
    · rw [if_neg g] at h0 ⊢
      by_cases g2 : (l.length : Int) - at_ < width
      · rw [if_pos g2]
        have := Get_short ba l.length cap at_.toNat width.toNat w (by omega) (by omega) (by omega) (by omega) (by omega)
        rwa [Int.toNat_of_nonneg (by omega), Int.toNat_of_nonneg (by omega)] at this
      · rw [if_neg g2] at h0; exact absurd rfl h0

theorem Signed_came {w : World} {ba : Option Addr} {cap : Nat} {l : List UInt8} (C : Came w ba cap l) (at_ width : Int) :
    Calls Try.prog 13 #[.slice ba l.length cap, .int .i64 at_, .int .i64 width] w fun e w' => e = .returned (.tuple #[.int .i64 (sgnI l at_ width), .int .i64 (getE l at_ width)]) ∧ w = w' := by
  have G := Get_came C at_ width
  unfold sgnI
  by_cases h0 : getE l at_ width = 0
  · have hlt := getU_lt h0
    obtain ⟨k, n, rfl, rfl, h1, h2, h3, e⟩ := getE_ok h0
    rw [if_pos h0]
    rw [h0] at G ⊢
    exact Signed_ok ba l.length cap n _ k w h1 h2 hlt (Lib.hid G)
  · rw [if_neg h0]
    rw [getU_err h0] at G
    exact Signed_err ba l.length cap at_ width _ w (by simp [h0]) (Lib.hid G)

theorem ReadText_came {w : World} {ba : Option Addr} {cap : Nat} {l : List UInt8} (C : Came w ba cap l) (at_ : Int) :
    Calls Try.prog 17 #[.slice ba l.length cap, .int .i64 at_] w fun e w' => e = .returned (.tuple #[.string (txtS l at_), .int .i64 (txtP l at_), .int .i64 (txtE l at_)]) ∧ w = w' := by
  have G := Get_came C at_ 1
  have hm := C.max
  have hc := C.le
  unfold maxLen at hm
  by_cases h0 : getE l at_ 1 = 0
  · have hlt := getU_lt h0
    obtain ⟨k, n, rfl, hn, h1, h2, h3, e⟩ := getE_ok h0
    have hlt' : getU l k 1 < 256 := hlt
    rw [h0] at G
    by_cases g : (l.length : Int) - k - 1 < (getU l k 1 : Int)
    · have e2 : txtE l k = 2 := by unfold txtE; rw [if_pos h0, if_pos g]
      have e3 : txtS l k = ⟨#[]⟩ := by unfold txtS; rw [e2]; rfl
      have e4 : txtP l k = 0 := by unfold txtP; rw [e2]; rfl
      rw [e2, e3, e4]
      exact ReadText_short ba l.length cap k _ w (by omega) (by omega) (by omega) (by omega) (Lib.hid G)
    · have e2 : txtE l k = 0 := by unfold txtE; rw [if_pos h0, if_neg g]
      have e3 : txtS l k = ⟨((l.drop (k + 1)).take (getU l k 1)).toArray⟩ := by unfold txtS; rw [e2]; rfl
      have e4 : txtP l k = (k : Int) + 1 + getU l k 1 := by unfold txtP; rw [e2]; rfl
      rw [e2, e3, e4]
      obtain ⟨b, o, rfl, L⟩ := C.lies (by omega)
      exact ReadText_ok b o cap k _ l w hc (by omega) (by omega) (by omega) L (Lib.hid G)
  · have e2 : txtE l at_ = getE l at_ 1 := by unfold txtE; rw [if_neg h0]
    have e3 : txtS l at_ = ⟨#[]⟩ := by unfold txtS; rw [e2, if_neg h0]
    have e4 : txtP l at_ = 0 := by unfold txtP; rw [e2, if_neg h0]
    rw [getU_err h0] at G
    rw [e2, e3, e4]
    exact ReadText_err ba l.length cap at_ _ w (by simp [h0]) (Lib.hid G)

theorem ReadVar_came {w : World} {ba : Option Addr} {cap : Nat} {l : List UInt8} (C : Came w ba cap l) (hl : l.length ≤ 600) (at_ : Int) :
    Calls Try.prog 21 #[.slice ba l.length cap, .int .i64 at_] w fun e w' => e = .returned (rvAns l at_) ∧ w = w' := by
  have hm := C.max
  have hc := C.le
  unfold maxLen at hm
  unfold rvAns
  by_cases h : at_ < 0 ∨ (l.length : Int) < at_
  · rw [if_pos h]
    exact ReadVar_arg ba l.length cap at_ w (by omega)
  · rw [if_neg h]
    obtain ⟨k, rfl⟩ : ∃ k : Nat, at_ = k := ⟨at_.toNat, by omega⟩
    rw [Int.toNat_natCast]
    by_cases hk : 0 < l.length
    · obtain ⟨b, o, rfl, L⟩ := C.lies hk
      exact ReadVar_any b o cap k l w (by omega) (by omega) L
    · obtain rfl : l = [] := List.length_eq_zero_iff.1 (by omega)
      obtain rfl : k = 0 := by simp at h; omega
      exact ReadVar_none ba cap w

theorem Bits_came {w : World} {ba : Option Addr} {cap : Nat} {l : List UInt8} (C : Came w ba cap l) (hl : l.length ≤ 600) :
    Calls Try.prog 29 #[.slice ba l.length cap] w fun e w' => e = .returned (.int .i64 (pcs l : Nat)) ∧ w = w' := by
  by_cases hk : 0 < l.length
  · obtain ⟨b, o, rfl, L⟩ := C.lies hk
    exact Bits_any b o cap l w hl L
  · obtain rfl : l = [] := List.length_eq_zero_iff.1 (by omega)
    exact Bits_none ba cap w

theorem Put_bytes (n k : Nat) (width : Int) (w : World) (h1 : (n : Int) ≤ 18446744073709551615) (hk : max 0 (min width 8) = (k : Int)) :
    Calls Try.prog 19 #[.int .u64 n, .int .i64 width] w fun e w' => ∃ v, e = .returned v ∧ Bytes w.heap.size w w' v (Oct.be k n) :=
  (Put_any n k width w h1 hk).mono fun e w' h => ⟨_, h.1, by
    rw [h.2]
    have b := bytes_alloc w (Oct.be k n) _ rfl (by rw [Oct.be_length]; omega)
    rw [Oct.be_length] at b
    exact b⟩

theorem PutSigned_bytes (n : Int) (k u : Nat) (w : World) (h1 : (1 : Int) ≤ k) (h2 : (k : Int) ≤ 8) (hu : IntKind.u64.wrap n = (u : Int))
    (c : (n / 2 ^ (8 * k - 1) != 0) = false ∨ (n / 2 ^ (8 * k - 1) != 0) = true ∧ (n / 2 ^ (8 * k - 1) != -1) = false) :
    Calls Try.prog 9 #[.int .i64 n, .int .i64 k] w fun e w' => ∃ v, e = .returned (.tuple #[v, .int .i64 0]) ∧ Bytes w.heap.size w w' v (Oct.be k u) :=
  have hu2 : (u : Int) ≤ 18446744073709551615 := by rw [← hu, IntKind.wrap_u64]; omega
  (PutSigned_ok n k u w h1 h2 hu c (Lib.hid fun w => Put_any u k k w hu2 (by omega))).mono fun e w' h => ⟨_, h.1, by
    rw [h.2]
    have b := bytes_alloc w (Oct.be k u) _ rfl (by rw [Oct.be_length]; omega)
    rw [Oct.be_length] at b
    exact b⟩

theorem PutSigned_came (n width : Int) (w : World) :
    Calls Try.prog 9 #[.int .i64 n, .int .i64 width] w fun e w' => ∃ v, e = .returned (.tuple #[v, .int .i64 (psE n width)]) ∧ Bytes w.heap.size w w' v (psL n width) := by
  unfold psL psE
  by_cases h : width < 1 ∨ 8 < width
  · rw [if_pos h]
    exact (PutSigned_arg n width w h).mono fun e w' k => ⟨_, k.1, by rw [← k.2]; exact bytes_none w⟩
  · rw [if_neg h]
    obtain ⟨k, rfl⟩ : ∃ k : Nat, width = k := ⟨width.toNat, by omega⟩
    rw [Int.toNat_natCast]
    by_cases c : psW n k = true
    · rw [if_pos c]
      have c' := c
      unfold psW at c'
      rw [Bool.and_eq_true] at c'
      exact (PutSigned_over n k w (by omega) (by omega) c'.1 c'.2).mono fun e w' k => ⟨_, k.1, by rw [← k.2]; exact bytes_none w⟩
    · rw [if_neg c]
      have c' : psW n k = false := by simpa using c
      unfold psW at c'
      rw [if_pos rfl]
      have hw : IntKind.u64.wrap n = ((IntKind.u64.wrap n).toNat : Int) := by rw [IntKind.wrap_u64]; omega
      refine PutSigned_bytes n k _ w (by omega) (by omega) hw ?_
      revert c'
      cases (n / 2 ^ (8 * k - 1) != 0) <;> simp

theorem Text_came (s : ByteArray) (w : World) :
    Calls Try.prog 15 #[.string s] w fun e w' => ∃ v, e = .returned (.tuple #[v, .int .i64 (txE s)]) ∧ Bytes w.heap.size w w' v (txL s) := by
  unfold txE txL
  by_cases h : (255 : Int) < s.size
  · rw [if_pos h, if_pos h]
    exact (Text_long s w h).mono fun e w' k => ⟨_, k.1, by rw [← k.2]; exact bytes_none w⟩
  · rw [if_neg h, if_neg h]
    exact Text_ok s w (by omega)
end Ref

end Go.Proofs.Ytcnnkgkejafeeaa
