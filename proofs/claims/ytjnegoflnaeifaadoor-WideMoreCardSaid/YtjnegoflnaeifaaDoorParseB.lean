/- Parse of package wide, of every text: what it answers is told by the plain numerals. -/
import Derived.Test.YtjnegoflnaeifaaDoorParse
import Derived.Test.YtjnegoflnaeifaaDoorNumeral
import Derived.Lib.SmallJoins
namespace Go.Proofs.YtjnegoflnaeifaaDoor
open Go.RowKit

theorem value_any (s : ByteArray) (hs : s.size ≤ 300) (w : World) (L : Laid w) :
    Calls Tryd.prog 35 #[.string s] w fun e w' => e = .returned (.int .u64 (Dec.valOf s.data.toList)) ∧ Below w.heap.size w w' := by
  unfold Dec.valOf
  cases h : Lib.parseUintB 64 s.data.toList
  · rename_i u
    refine value_ok s u w (Lib.hid fun w' b => (Tryd.strconv_ParseUint_10_at64_ok s (by omega) u h w').mono ?_)
    rintro e w'' ⟨rfl, rfl | rfl⟩
    · exact ⟨rfl, Below.refl _ _⟩
    · exact ⟨rfl, Lib.bytesWorld_below _ _ _⟩
  · refine value_bad s 0 w (Lib.hid fun w' b => ?_)
    obtain ⟨tp, p, hv⟩ := (laid_keep L b).2.1
    exact (Any.strconv_ParseUint_10_at64_syntax_var Tryd.laysPu14 s (by omega) h tp p w' hv).mono fun _ _ ⟨N, he, _, _, hb⟩ => ⟨N, he, hb⟩
  · refine value_bad s 18446744073709551615 w (Lib.hid fun w' b => ?_)
    obtain ⟨tp, p, hv⟩ := (laid_keep L b).2.2
    exact (Any.strconv_ParseUint_10_at64_range_var Tryd.laysPu14 s (by omega) h tp p w' hv).mono fun _ _ ⟨N, he, _, _, hb⟩ => ⟨N, he, hb⟩

theorem CutPrefix_law (s : ByteArray) (w : World) :
    Calls Tryd.prog 33 #[.string s, .string ⟨#[45]⟩] w fun e w' => e = .returned (.tuple #[.string ⟨(Dec.tail s.data.toList).toArray⟩, .bool (Dec.dash s.data.toList)]) ∧ Below w.heap.size w w' :=
  (Tryd.strings_CutPrefix s ⟨#[45]⟩ w).mono fun _ _ ⟨he, hw⟩ => ⟨he, hw ▸ Below.refl _ _⟩

theorem ext_list (l : List UInt8) (a b : Nat) : ((ByteArray.mk l.toArray).extract a b).data.toList = (l.take b).drop a := by
  rw [ByteArray.data_extract]
  simp [List.extract_eq_take_drop, List.drop_take]

/-- whether Parse takes the text -/
def okay (l : List UInt8) : Bool := decide ((Dec.tail l).length ≤ 38) && (text (Dec.num l) == l)

theorem ten_cast : ((10000000000000000000 : Nat) : Int) = 10000000000000000000 := rfl

theorem product_ten (u : Nat) (p : Int) (hp : p = (u : Int) * 10000000000000000000) (hu : u ≤ 9999999999999999999) (w : World) :
    Calls Tryd.prog 34 #[.int .u64 u, .int .u64 10000000000000000000] w fun e w' => e = .returned (.agg #[.int .i64 (Wd.hi p), .int .u64 (Wd.lo p)]) ∧ Below w.heap.size w w' := by
  have h := product_any u 10000000000000000000 (by omega) (by omega) w
  rw [Int.natCast_mul, ten_cast, ← hp] at h
  exact h

theorem add_low (p : Int) (u : Nat) (a : Int) (ha : p + (u : Int) = a) (hu : u ≤ 9999999999999999999) (w : World) :
    Calls Tryd.prog 25 #[.agg #[.int .i64 (Wd.hi p), .int .u64 (Wd.lo p)], .agg #[.int .i64 0, .int .u64 u]] w fun e w' => e = .returned (.agg #[.int .i64 (Wd.hi a), .int .u64 (Wd.lo a)]) ∧ Below w.heap.size w w' := by
  have A := Add_any p (u : Int) w
  rw [Wd.hi_pos (a := (u : Int)) (by omega) (by omega), Wd.lo_pos (a := (u : Int)) (by omega) (by omega), ha] at A
  exact A

theorem size_sum (d : List UInt8) : (Dec.valOf (d.take (d.length - 19)) : Int) * 10000000000000000000 + (Dec.valOf (d.drop (d.length - 19)) : Int) = (Dec.size d : Int) := by
  unfold Dec.size
  generalize Dec.valOf (d.take (d.length - 19)) = a
  generalize Dec.valOf (d.drop (d.length - 19)) = b
  rw [Int.natCast_add, Int.natCast_mul, ten_cast]

theorem cut_wrap (n : Nat) (h : n ≤ 38) : max (wrap64 ((n : Int) - 19)) 0 = ((n - 19 : Nat) : Int) := by rw [wrap_i]; omega

/-- Parse of a text of which 38 digits are left at most -/
theorem Parse_short (s : ByteArray) (d : List UInt8) (neg : Bool) (x : Int) (tl : List UInt8) (w : World) (L : Laid w) (hk : d.length ≤ 38)
    (T : Hid (∀ w', Below w.heap.size w w' → Calls Tryd.prog 16 #[.agg #[.int .i64 (Wd.hi x), .int .u64 (Wd.lo x)]] w' fun e w'' => e = .returned (.string ⟨tl.toArray⟩) ∧ Below w'.heap.size w' w''))
    (C : Hid (∀ w, Calls Tryd.prog 33 #[.string s, .string ⟨#[45]⟩] w fun e w' => e = .returned (.tuple #[.string ⟨d.toArray⟩, .bool neg]) ∧ Below w.heap.size w w'))
    (hn : neg = true → x = -(Dec.size d : Int)) (hy : neg = false → x = (Dec.size d : Int)) :
    Calls Tryd.prog 10 #[.string s] w fun e w' => e = .returned (res (tl == s.data.toList) x) ∧ Below w.heap.size w w' := by
  have V : ∀ l, l.length ≤ 38 → ∀ (t : ByteArray), t.data.toList = l → ∀ w', Below w.heap.size w w' → Calls Tryd.prog 35 #[.string t] w' fun e w'' => e = .returned (.int .u64 (Dec.valOf l)) ∧ Below w'.heap.size w' w'' :=
    fun l hl t ht w' b => by
      have := value_any t (by rw [Lib.size_eq, ht]; omega) w' (laid_keep L b)
      rw [ht] at this; exact this
  have l1 : (d.take (d.length - 19)).length ≤ 19 := by rw [List.length_take]; omega
  have l2 : (d.drop (d.length - 19)).length ≤ 19 := by rw [List.length_drop]; omega
  have v1 := Dec.valOf_19 _ l1
  have v2 := Dec.valOf_19 _ l2
  have z := size_sum d
  have V1 := V _ (Nat.le_trans l1 (by decide)) ((ByteArray.mk d.toArray).extract 0 (d.length - 19)) (by rw [ext_list]; rfl)
  have V2 := V _ (Nat.le_trans l2 (by decide)) ((ByteArray.mk d.toArray).extract (d.length - 19) d.length) (by rw [ext_list, List.take_length])
  generalize Dec.valOf (d.take (d.length - 19)) = u1 at *
  generalize Dec.valOf (d.drop (d.length - 19)) = u2 at *
  generalize (Dec.size d : Int) = a at *
  exact Parse_any s d neg w (d.length - 19) u1 u2 ((u1 : Int) * 10000000000000000000) a tl (-a) x _ hn hy (by rw [Lib.toList_data]) (decide_eq_false (by omega))
    T (Lib.hid (Neg_any _)) (cut_wrap _ hk) (by omega) (by omega) (by rw [show (ByteArray.mk d.toArray).size = d.length from List.size_toArray]; omega) C
    (Lib.hid V1) (Lib.hid V2) (Lib.hid (product_ten u1 _ rfl v1)) (Lib.hid (add_low _ u2 a z v2))

theorem res_false (x : Int) : res false x = .tuple #[.agg #[.int .i64 0, .int .u64 0], .int .i64 3] := rfl
theorem rm_of_le (x : Int) (h : -99999999999999999999999999999999999999 ≤ x ∧ x ≤ 99999999999999999999999999999999999999) : Wd.Rm x := by unfold Wd.Rm; omega
theorem rm_num (l : List UInt8) (h : (Dec.tail l).length ≤ 38) : Wd.Rm (Dec.num l) := rm_of_le _ (Dec.num_le l h)
theorem num_dash (l : List UInt8) (h : Dec.dash l = true) : Dec.num l = -(Dec.size (Dec.tail l) : Int) := by unfold Dec.num; rw [if_pos h]
theorem num_plain (l : List UInt8) (h : Dec.dash l = false) : Dec.num l = (Dec.size (Dec.tail l) : Int) := by unfold Dec.num; rw [if_neg (by rw [h]; decide)]
theorem okay_short (l : List UInt8) (h : (Dec.tail l).length ≤ 38) : okay l = (text (Dec.num l) == l) := by unfold okay; rw [decide_eq_true h, Bool.true_and]
theorem okay_long (l : List UInt8) (h : ¬ (Dec.tail l).length ≤ 38) : okay l = false := by unfold okay; rw [decide_eq_false h, Bool.false_and]

theorem Parse_law (s : ByteArray) (_hs : s.size ≤ 300) (w : World) (L : Laid w) :
    Calls Tryd.prog 10 #[.string s] w fun e w' => e = .returned (res (okay s.data.toList) (Dec.num s.data.toList)) ∧ Below w.heap.size w w' := by
  by_cases hk : (Dec.tail s.data.toList).length ≤ 38
  · have T := fun w' (b : Below w.heap.size w w') => Text_any (Dec.num s.data.toList) w' (rm_num _ hk) (tab_keep L.1 b)
    rw [okay_short _ hk]
    exact Parse_short s _ _ _ _ w L hk (Lib.hid T) (Lib.hid (CutPrefix_law s)) (num_dash _) (num_plain _)
  · rw [okay_long _ hk, res_false]
    have r := Parse_long s (Dec.tail s.data.toList) (Dec.dash s.data.toList) w (decide_eq_true (by omega)) (Lib.hid (CutPrefix_law s))
    rw [Wd.hi_zero, Wd.lo_zero] at r
    exact r

end Go.Proofs.YtjnegoflnaeifaaDoor
