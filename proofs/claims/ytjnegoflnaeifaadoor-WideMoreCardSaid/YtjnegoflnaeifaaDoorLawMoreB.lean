/- WideMore: both answers are the same, at any numbers and any text. -/
import Derived.Test.YtjnegoflnaeifaaDoorLawMore
namespace Go.Proofs.YtjnegoflnaeifaaDoor
open Go.RowKit

theorem near_both (x d : Int) (rx : Wd.Rm x) (hd2 : d ≤ 9223372036854775807) : ∃ hp lp ep : Int,
    (∀ w, Calls Tryd.prog 6 #[.agg #[.int .i64 (Wd.hi x), .int .u64 (Wd.lo x)], .int .i64 d] w fun e w' => e = .returned (.tuple #[.agg #[.int .i64 hp, .int .u64 lp], .int .i64 ep]) ∧ Below w.heap.size w w') ∧
    (∀ w, Calls Tryd.prog 7 #[.agg #[.int .i64 (Wd.hi x), .int .u64 (Wd.lo x)], .int .i64 d] w fun e w' => e = .returned (.tuple #[.agg #[.int .i64 hp, .int .u64 lp], .int .i64 ep]) ∧ Below w.heap.size w w') := by
  by_cases h : d < 1
  · exact ⟨0, 0, 1, fun w => Nearest_arg x d w h, fun w => Ref.Nearest_arg x d w h⟩
  · exact ⟨_, _, _, fun w => Nearest_any x d w rx (by omega) hd2, fun w => Ref.Nearest_any x d w rx (by omega) hd2⟩

theorem root_both (x : Int) (rx : Wd.Rm x) : ∃ rt er : Int,
    (∀ w, Calls Tryd.prog 8 #[.agg #[.int .i64 (Wd.hi x), .int .u64 (Wd.lo x)]] w fun e w' => e = .returned (.tuple #[.int .i64 rt, .int .i64 er]) ∧ Below w.heap.size w w') ∧
    (∀ w, Calls Tryd.prog 9 #[.agg #[.int .i64 (Wd.hi x), .int .u64 (Wd.lo x)]] w fun e w' => e = .returned (.tuple #[.int .i64 rt, .int .i64 er]) ∧ Below w.heap.size w w') := by
  by_cases h : x < 0
  · exact ⟨0, 1, fun w => Sqrt_neg x w rx h, fun w => Ref.Sqrt_neg x w rx h⟩
  · obtain ⟨r, hr⟩ := has_root x (by omega)
    exact ⟨r, 0, fun w => Sqrt_at x r w rx (by omega) hr, fun w => Ref.Sqrt_at x r w rx (by omega) hr⟩

theorem res_both (q : Bool) (x : Int) : ∃ hu lu eu : Int, res q x = .tuple #[.agg #[.int .i64 hu, .int .u64 lu], .int .i64 eu] := by
  cases q
  · exact ⟨0, 0, 3, rfl⟩
  · exact ⟨_, _, 0, rfl⟩

theorem parse_both (s : ByteArray) (hs : s.size ≤ 300) (w : World) (L : Laid w) : ∃ hu lu eu : Int,
    (∀ w', Below w.heap.size w w' → Calls Tryd.prog 10 #[.string s] w' fun e w'' => e = .returned (.tuple #[.agg #[.int .i64 hu, .int .u64 lu], .int .i64 eu]) ∧ Below w'.heap.size w' w'') ∧
    (∀ w', Below w.heap.size w w' → Calls Tryd.prog 11 #[.string s] w' fun e w'' => e = .returned (.tuple #[.agg #[.int .i64 hu, .int .u64 lu], .int .i64 eu]) ∧ Below w'.heap.size w' w'') := by
  obtain ⟨hu, lu, eu, h⟩ := res_both (okay s.data.toList) (Dec.num s.data.toList)
  refine ⟨hu, lu, eu, fun w' b => ?_, fun w' _ => ?_⟩
  · have r := Parse_law s hs w' (laid_keep L b)
    rw [h] at r
    exact r
  · have r := Ref.Parse_any s w'
    unfold Ref.Ans at r
    rw [h] at r
    exact r

theorem more_any (h1 l1 h2 l2 d : Int) (s : ByteArray) (w : World) (L : Laid w) (r1 : Wd.R6 h1) (a0 : 0 ≤ l1) (a1 : l1 ≤ 18446744073709551615) (r2 : Wd.R6 h2) (b0 : 0 ≤ l2) (b1 : l2 ≤ 18446744073709551615) (hd : d ≤ 9223372036854775807) :
    Calls Tryd.prog 3 #[.agg #[.int .i64 h1, .int .u64 l1], .agg #[.int .i64 h2, .int .u64 l2], .agg #[.int .i64 d, .string s]] w fun e w' => e = .returned (.bool true) ∧ Below w.heap.size w w' := by
  by_cases hs : s.size ≤ 300
  · obtain ⟨x1, x2, rx⟩ := Wd.of_halves h1 l1 r1.1 r1.2 a0 a1
    obtain ⟨y1, y2, _⟩ := Wd.of_halves h2 l2 r2.1 r2.2 b0 b1
    generalize h1 * 18446744073709551616 + l1 = x at *
    generalize h2 * 18446744073709551616 + l2 = y at *
    subst x1 x2 y1 y2
    obtain ⟨hp, lp, ep, N1, N2⟩ := near_both x d rx hd
    obtain ⟨rt, er, S1, S2⟩ := root_both x rx
    obtain ⟨hu, lu, eu, P1, P2⟩ := parse_both s hs w L
    exact more_core (Wd.hi x) (Wd.lo x) (Wd.hi y) (Wd.lo y) d hp lp ep rt er hu lu eu (Wd.hi (x - y)) (Wd.lo (x - y)) (Wd.hi (x.natAbs : Int)) (Wd.lo (x.natAbs : Int)) s (text x) w (decide_eq_false (by omega))
      (Lib.hid N1) (Lib.hid N2) (Lib.hid S1) (Lib.hid S2) (Lib.hid P1) (Lib.hid P2)
      (Lib.hid fun w => Sub_any x y w) (Lib.hid fun w => Ref.Sub_any x y w) (Lib.hid fun w => Abs_any x w rx) (Lib.hid fun w => Ref.Abs_any x w rx)
      (Lib.hid fun w' b => Text_any x w' rx (tab_keep L.1 b)) (Lib.hid fun w' _ => Ref.Text_any x w' rx) (Lib.hid awake_any)
  · exact more_long h1 l1 h2 l2 d s w (decide_eq_true (by omega)) (Lib.hid awake_any)

end Go.Proofs.YtjnegoflnaeifaaDoor
