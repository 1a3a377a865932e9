/- Text of package wide, of whatever number; value. -/
import Derived.Test.YtjnegoflnaeifaaDoorText
import Derived.WalkSmall
namespace Go.Proofs.YtjnegoflnaeifaaDoor
open Go.RowKit

/-- a variable of a package reads on as it read -/
theorem var_keep {n : String} {g : Nat} {cs : Array Value} {w w' : World} (hg : Tryd.prog.globalNamed n = some g) (hv : w.var? Tryd.prog n = some cs) (b : Below w.heap.size w w') : w'.var? Tryd.prog n = some cs := by
  refine var?_below b hg ?_ hv
  unfold World.var? at hv
  rw [hg] at hv
  rcases Nat.lt_or_ge g w.heap.size with h | h
  · exact h
  · rw [Option.bind_some, Array.getElem?_eq_none h] at hv
    exact absurd hv (by simp)

theorem tab_keep {w w' : World} (h : Tab w) (b : Below w.heap.size w w') : Tab w' :=
  var_keep (g := Tryd.prog.globalNamed "internal/strconv.uint64pow10" |>.getD 0) (by kernel_rfl) h b

/-- the text of a number -/
def text (x : Int) : List UInt8 := if x < 0 then 45 :: Lib.decDigits x.natAbs else Lib.decDigits x.natAbs

theorem ten19 : (10000000000000000000 : Nat) = 10 ^ 19 := by decide

theorem split_small (m : Nat) (hm : m ≤ 170141183460469231731687303715884105728) (w : World) :
    Calls Tryd.prog 38 #[.agg #[.int .i64 (Wd.hi ((m : Int))), .int .u64 (Wd.lo ((m : Int)))], .int .u64 10000000000000000000] w fun e w' => e = .returned (.tuple #[.agg #[.int .i64 0, .int .u64 ((m / 10000000000000000000 : Nat) : Int)], .int .u64 ((m % 10000000000000000000 : Nat) : Int)]) ∧ Below w.heap.size w w' := by
  have h := split_any (m : Int) 10000000000000000000 w (by omega) (by omega) (by omega) (by omega)
  have e1 : (m : Int) / 10000000000000000000 = ((m / 10000000000000000000 : Nat) : Int) := by omega
  have e2 : (m : Int) % 10000000000000000000 = ((m % 10000000000000000000 : Nat) : Int) := by omega
  have a : Wd.hi ((m / 10000000000000000000 : Nat) : Int) = 0 := Wd.hi_pos (by omega) (by omega)
  have b : Wd.lo ((m / 10000000000000000000 : Nat) : Int) = ((m / 10000000000000000000 : Nat) : Int) := Wd.lo_pos (by omega) (by omega)
  rw [e1, e2, a, b] at h
  exact h

theorem dec_two (m : Nat) (h : 1 ≤ m / 10000000000000000000) :
    Lib.decDigits m = Lib.decDigits (m / 10000000000000000000) ++ List.replicate (19 - (Lib.decDigits (m % 10000000000000000000)).length) 48 ++ Lib.decDigits (m % 10000000000000000000) := by
  have hl : m % 10000000000000000000 < 10 ^ 19 := by omega
  have j := Dec.dec_join 19 (m / 10000000000000000000) (m % 10000000000000000000) h hl
  rw [← ten19, (Dec.dec_pad 19 _ (by omega) hl).1, show m / 10000000000000000000 * 10000000000000000000 + m % 10000000000000000000 = m by omega] at j
  rw [j, List.append_assoc]

theorem Text_any (x : Int) (w : World) (rx : Wd.Rm x) (ht : Tab w) :
    Calls Tryd.prog 16 #[.agg #[.int .i64 (Wd.hi x), .int .u64 (Wd.lo x)]] w fun e w' => e = .returned (.string ⟨(text x).toArray⟩) ∧ Below w.heap.size w w' := by
  have hm : x.natAbs ≤ 170141183460469231731687303715884105728 := by unfold Wd.Rm at rx; omega
  have A := Lib.hid fun w => Abs_any x w rx
  have S := Lib.hid (split_small x.natAbs hm)
  have G := Lib.hid fun w => Sign_any x w rx
  have l1 : (Lib.decDigits (x.natAbs % 10000000000000000000)).length ≤ 19 := Dec.dec_len 19 _ (by omega) (by omega)
  have l2 : (Lib.decDigits (x.natAbs / 10000000000000000000)).length ≤ 20 := Dec.dec_len 20 _ (by omega) (by omega)
  have F1 := Lib.hid fun w' (b : Below w.heap.size w w') => FormatUint_any (x.natAbs % 10000000000000000000) (by omega) w' (tab_keep ht b)
  have F2 := Lib.hid fun w' (b : Below w.heap.size w w') => FormatUint_any (x.natAbs / 10000000000000000000) (by omega) w' (tab_keep ht b)
  have gs : (decide (Wd.sg x < 0) = true ∧ x < 0) ∨ (decide (Wd.sg x < 0) = false ∧ ¬ x < 0) := by
    by_cases h : x < 0
    · exact .inl ⟨by rw [Wd.sg_neg h]; rfl, h⟩
    · refine .inr ⟨decide_eq_false ?_, h⟩
      unfold Wd.sg; split <;> (try split) <;> omega
  by_cases hz : x.natAbs / 10000000000000000000 = 0
  · rw [hz] at S
    have e : x.natAbs % 10000000000000000000 = x.natAbs := by omega
    rw [e] at S F1 l1
    rcases gs with ⟨g, h⟩ | ⟨g, h⟩
    · have r := Text_core_neg x x.natAbs x.natAbs (Wd.sg x) w _ l1 g A S F1 G
      unfold text; rw [if_pos h]; exact r
    · have r := Text_core x x.natAbs x.natAbs (Wd.sg x) w _ g A S F1 G
      unfold text; rw [if_neg h]; exact r
  · have hb : (((x.natAbs / 10000000000000000000 : Nat) : Int) == 0) = false := by rw [beq_eq_false_iff_ne]; omega
    have d := dec_two x.natAbs (by omega)
    rcases gs with ⟨g, h⟩ | ⟨g, h⟩
    · have r := Text_big_neg x x.natAbs _ _ (Wd.sg x) w _ _ hb l1 l2 g (by omega) A S F1 F2 G
      unfold text; rw [if_pos h, d]; exact r
    · have r := Text_big x x.natAbs _ _ (Wd.sg x) w _ _ hb l1 l2 g (by omega) A S F1 F2 G
      unfold text; rw [if_neg h, d]; exact r

end Go.Proofs.YtjnegoflnaeifaaDoor
