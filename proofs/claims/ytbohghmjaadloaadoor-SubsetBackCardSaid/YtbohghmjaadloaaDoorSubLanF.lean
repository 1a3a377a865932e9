/- The landed subset's Parse (a range over a string, rune by rune); all that Own11 asks. -/
import Derived.Test.YtbohghmjaadloaaDoorSubLanE
import Derived.Laws.RangeAny
import Derived.Laws.Strings
import Derived.Lib.OthersKept
namespace Go.Proofs.YtbohghmjaadloaaDoor
open Go.RowKit

/-- the bytes behind a place -/
def tail (s : ByteArray) (p : Nat) : List UInt8 := s.data.toList.drop p
theorem tail_cons (s : ByteArray) (p : Nat) (h : p < s.size) : tail s p = s[p]'h :: tail s (p + 1) := by
  unfold tail
  have h' : p < s.data.toList.length := by simpa using h
  rw [List.drop_eq_getElem_cons h']
  rfl
theorem tail_end (s : ByteArray) (p : Nat) (h : ¬ p < s.size) : tail s p = [] := by
  unfold tail
  refine List.drop_eq_nil_of_le ?_
  have : s.data.toList.length = s.size := by simp
  omega
/-- a set with one more, as code makes it -/
theorem with_low (m : Nat) (hm : m < 64) (z : Int) : ∃ k : Nat, withI (m : Int) z = (k : Int) ∧ k < 64 := by
  unfold withI
  by_cases h : 0 ≤ z ∧ z < 6
  · rw [if_pos h]
    have g : ∀ m : Fin 64, ∀ i : Fin 6, bits .or .i64 (m.val : Int) ((2 : Int) ^ i.val) = ((m.val ||| 2 ^ i.val : Nat) : Int) ∧ m.val ||| 2 ^ i.val < 64 := by decide +kernel
    have hi : z.toNat < 6 := by omega
    exact ⟨_, g ⟨m, hm⟩ ⟨z.toNat, hi⟩⟩
  · rw [if_neg h]
    exact ⟨m, rfl, hm⟩
/-- read on, sign by sign -/
def dgs : List UInt8 → Nat → Nat
  | [], m => m
  | c :: l, m => dgs l (withI (m : Int) ((c.toNat : Int) - 48)).toNat
theorem dgs_txt (k : Nat) (h : k < 64) : dgs (Sub.txt k) 0 = k := by
  have g : ∀ k : Fin 64, dgs (Sub.txt k.val) 0 = k.val := by decide +kernel
  exact g ⟨k, h⟩
theorem txt_low (k : Nat) (h : k < 64) : ∀ c ∈ Sub.txt k, c.toNat < 128 := by
  have g : ∀ k : Fin 64, ∀ c ∈ Sub.txt k.val, c.toNat < 128 := by decide +kernel
  exact g ⟨k, h⟩
/-- it is a set's text -/
def IsTxt (s : ByteArray) : Prop := ∃ k, k < 64 ∧ s.data.toList = Sub.txt k
theorem isTxt_low {s : ByteArray} (h : IsTxt s) (p : Nat) (hp : p < s.size) : (s[p]'hp).toNat < 128 := by
  obtain ⟨k, hk, e⟩ := h
  refine txt_low k hk _ ?_
  rw [← e]
  have h' : p < s.data.toList.length := by simpa using hp
  exact List.getElem_mem h'
theorem parse_is {s : ByteArray} {m : Nat} (hm : m < 64) (h : textI (m : Int) = s) : parseI s = ((m : Int), 0) := by
  rw [← h, parse_text, Sub.low_of m hm]
theorem parse_not {s : ByteArray} {m : Nat} (hn : textI (m : Int) ≠ s) (hd : IsTxt s → m = dgs s.data.toList 0) : parseI s = (0, 3) := by
  unfold parseI
  cases hs : setOf s with
  | none => rfl
  | some k =>
    obtain ⟨h1, h2⟩ := text_of_set hs
    have h3 : s.data.toList = Sub.txt k := by
      rw [← h2]
      unfold textI
      rw [Sub.low_of k h1]
    have h4 := hd ⟨k, h1, h3⟩
    rw [h3, dgs_txt k h1] at h4
    subst h4
    exact absurd h2 hn

namespace Lan11
set_option maxHeartbeats 4000000 in
set_option maxRecDepth 100000 in
theorem Parse_any (s : ByteArray) (w : World) :
    Calls Tryd.prog 8 #[.string s] w fun e w' => e = .returned (.tuple #[.int .i64 (parseI s).1, .int .i64 (parseI s).2]) ∧ Below w.heap.size w w' := by
  obtain ⟨r, hr⟩ : ∃ r, r = parseI s := ⟨_, rfl⟩
  rw [← hr]
  have HR := Lib.hid hr
  clear hr
  go_enter Tryd.func8, Tryd.ntmps8
  go_wp2
  go_loopw [4] (fun sv w' => ∃ pos m : Nat, w' = w.iter s pos ∧ sv = .int .i64 m ∧ m < 64 ∧ (IsTxt s → dgs (tail s pos) m = dgs s.data.toList 0)) (fun _ w' => s.size - w'.iterPos w.heap.size)
  case atStart => exact ⟨0, 0, rfl, rfl, by decide, fun _ => rfl⟩
  case round =>
    obtain ⟨pos, m, rfl, rfl, hm, hg⟩ := hrel
    by_cases hp : pos < s.size
    · rw [tail_cons s pos hp] at hg
      by_cases ha : (s[pos]'hp).toNat < 128
      · have hnx : ∀ ty, (Instr.next (.pointer (some ⟨w.heap.size, 0, none⟩)) true ty).run Tryd.prog (w.iter s pos) = _ := fun ty => run_next_ascii w s pos ty hp ha
        generalize s[pos]'hp = c at *
        have hg2 : IsTxt s → dgs (tail s (pos + 1)) (withI (m : Int) ((c.toNat : Int) - 48)).toNat = dgs s.data.toList 0 := hg
        generalize c.toNat = n at *
        have e1 : wrap32 ((n : Int) - 48) = (n : Int) - 48 := by unfold wrap32; omega
        obtain ⟨k, hk, hk64⟩ := with_low m hm ((n : Int) - 48)
        rw [hk, Int.toNat_natCast] at hg2
        have HG := Lib.hid hg2
        have HC := Lib.hid fun w => With_any (m : Int) ((n : Int) - 48) w
        rw [hk] at HC
        clear hg hg2 hk
        go_wp2_with fail
        refine (HC.out _).mono ?_
        rintro e w1 ⟨rfl, rfl⟩
        go_wp2
        refine ⟨⟨pos + 1, k, rfl, rfl, hk64, HG.out⟩, ?_⟩
        simp
        omega
      · have hnx : ∀ ty, (Instr.next (.pointer (some ⟨w.heap.size, 0, none⟩)) true ty).run Tryd.prog (w.iter s pos) = _ := fun ty => run_next_any w s pos ty hp
        obtain ⟨_, hq⟩ := decode_high s pos hp (by omega)
        have hno : ¬ IsTxt s := fun h => ha (isTxt_low h pos hp)
        generalize (Utf8.decode s pos).1 = n at *
        generalize (Utf8.decode s pos).2 = q at *
        have HN := Lib.hid hno
        clear hg ha hno
        go_wp2_with fail
        refine (With_any _ _ _).mono ?_
        rintro e w1 ⟨rfl, rfl⟩
        obtain ⟨k, hk, hk64⟩ := with_low m hm (wrap64 (wrap32 ((n : Int) - 48)))
        rw [hk]
        clear hk
        go_wp2
        refine ⟨⟨pos + q, k, rfl, rfl, hk64, fun h => absurd h HN.out⟩, ?_⟩
        simp
        omega
    · have hnx : ∀ ty, (Instr.next (.pointer (some ⟨w.heap.size, 0, none⟩)) true ty).run Tryd.prog (w.iter s pos) = _ := fun ty => run_next_end w s pos ty hp
      rw [tail_end s pos hp] at hg
      have HG : Hid (IsTxt s → m = dgs s.data.toList 0) := Lib.hid hg
      clear hg
      go_wp2_with fail
      refine (Text_any (m : Int) _).mono ?_
      rintro e w1 ⟨rfl, h1⟩
      have HB1 : Hid (Below w.heap.size w w1) := Lib.hid (belowT ((Below.refl _ _).alloc (Nat.le_refl _) _) h1)
      clear h1
      obtain ⟨t, ht⟩ : ∃ t, t = textI (m : Int) := ⟨_, rfl⟩
      rw [← ht]
      by_cases hts : t = s
      · have hr := parse_is hm (ht.symm.trans hts)
        rw [← HR.out] at hr
        have HRR := Lib.hid hr
        subst hts
        clear hr ht HG
        go_wp2
        go_ret2
        rw [HRR.out]
        exact ⟨rfl, HB1.out⟩
      · have hr := parse_not (fun h => hts (ht.trans h)) HG.out
        rw [← HR.out] at hr
        have HRR := Lib.hid hr
        have hq : (t.toList == s.toList) = false := by
          rw [beq_eq_false_iff_ne]
          intro h
          rw [ByteArray.toList_eq, ByteArray.toList_eq] at h
          apply hts
          obtain ⟨⟨a⟩⟩ := t
          obtain ⟨⟨b⟩⟩ := s
          simp only at h
          rw [h]
        clear hr ht HG hts
        go_wp2
        go_ret2
        rw [HRR.out]
        exact ⟨rfl, HB1.out⟩

theorem low {C : Prop} {w w' : World} (h : C ∧ w' = w) : C ∧ Below w.heap.size w w' := ⟨h.1, h.2 ▸ Below.refl _ _⟩
theorem ok : Own11 where
  has x i w := (Has_any x i w).mono fun _ _ => low
  with_ x i w := (With_any x i w).mono fun _ _ => low
  without x i w := (Without_any x i w).mono fun _ _ => low
  count x w := (Count_any x w).mono fun _ _ => low
  members := Members_any
  hypos := Hypos_any
  place := Place_any
  text := Text_any
  parse s w _ := Parse_any s w
  next x w := (Next_any x w).mono fun _ _ => low
  of := Of_any
  number := Number_any
  within a b w := (Within_any a b w).mono fun _ _ => low
  part := Part_any
end Lan11
end Go.Proofs.YtbohghmjaadloaaDoor
