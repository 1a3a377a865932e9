/- The landed observer: upTo, around; values. -/
import Derived.Test.YtkjkmnclnedfhaaDoorObSpanC
import Derived.Test.YtkjkmnclnedfhaaDoorObNum
import Derived.Test.YtkjkmnclnedfhaaDoorSp
import Derived.Deep.RegionWith
import Derived.Deep.CutBlock
import Derived.Deep.CutRange
namespace Go.Proofs.YtkjkmnclnedfhaaDoor
open Go.RowKit Obs

/-- by value -/
def al (a : Ai) : List Value := [.int .i64 a.e0, .int .i64 a.e1, .int .i64 a.e2, .bool a.b0, .bool a.b1, .bool a.b2, .int .i64 a.bias, .int .i64 a.change, .int .i64 a.move, .int .i64 a.most]
def ol (o : Ob) : List Value := [.int .i64 o.vL, .int .i64 o.vH, .int .i64 o.bL, .int .i64 o.bH, .bool o.ref]
abbrev av (a : Ai) : Value := .agg #[.int .i64 a.e0, .int .i64 a.e1, .int .i64 a.e2, .bool a.b0, .bool a.b1, .bool a.b2, .int .i64 a.bias, .int .i64 a.change, .int .i64 a.move, .int .i64 a.most]
abbrev ov (o : Ob) : Value := .agg #[.int .i64 o.vL, .int .i64 o.vH, .int .i64 o.bL, .int .i64 o.bH, .bool o.ref]
abbrev sv (l h : Int) : Value := .agg #[.int .i64 l, .int .i64 h]

theorem wrap_neg (x : Int) (h : 0 ≤ x) (k : x ≤ 9223372036854775807) : IntKind.i64.wrap (-x) = -x := (wrap_i64 _).trans (by omega)
theorem Meet_ob (a b c d : Int) (w : World) (n : NoneAt w) : Calls Tryd.prog 26 #[sv a b, sv c d] w fun e w' => e = .returned (sv (meetL a b c d) (meetH a b c d)) ∧ Below w.heap.size w w' := Meet_any a b c d w n
theorem Sub_ob (a b c d : Int) (w : World) (n : NoneAt w) (ra : Sp.R6 a) (rb : Sp.R6 b) (rc : Sp.R6 c) (rd : Sp.R6 d) :
    Calls Tryd.prog 27 #[sv a b, sv c d] w fun e w' => e = .returned (sv (subL a b c d) (subH a b c d)) ∧ Below w.heap.size w w' := sSub a b c d w n ra rb rc rd

theorem upTo_any (m : Int) (h : 0 ≤ m) (k : m ≤ 9223372036854775807) (w : World) :
    Calls Tryd.prog 31 #[.int .i64 m] w fun e w' => e = .returned (sv (-m) m) ∧ Below w.heap.size w w' := by
  have e := wrap_neg m h k
  go_enter Tryd.func31, Tryd.ntmps31
  go_wp2
  exact bodyPost_ret (v := .agg #[.int .i64 (-m), .int .i64 m]) (by simp [results, Tryd.results31, go_sem, *]) rfl ⟨rfl, below1 w _⟩

theorem around_any (x e : Int) (w : World) (n : NoneAt w) (rx : Sp.R6 x) (h0 : 0 ≤ e) (h1 : e ≤ 9223372036854775807) :
    Calls Tryd.prog 33 #[.int .i64 x, .int .i64 e] w fun en w' => en = .returned (sv (Sp.widL x x e) (Sp.widH x x e)) ∧ Below w.heap.size w w' := by
  have WI : Hid (∀ w', Below w.heap.size w w' → Calls Tryd.prog 40 #[sv x x, .int .i64 e] w' fun en w'' => en = .returned (sv (Sp.widL x x e) (Sp.widH x x e)) ∧ Below w'.heap.size w' w'') :=
    Lib.hid fun w' B => sWiden x x e w' (n.keep B) rx rx h0 h1
  generalize Sp.widL x x e = L at *
  generalize Sp.widH x x e = H at *
  clear n rx h0 h1
  go_enter Tryd.func33, Tryd.ntmps33
  go_wp2_with fail
  refine (WI.out _ (below1 w _)).mono ?_; rintro e w1 ⟨rfl, hb1⟩
  have B1 := belowT (below1 w _) hb1
  have X1 := (own2 w _ _ _).keep hb1; have X1a := X1.c0; have X1b := X1.c1; have X1c := X1.f0; have X1d := X1.f1; have X1l := X1.lt
  go_wp2_with fail
  exact bodyPost_ret (v := .agg #[.int .i64 L, .int .i64 H]) (by simp [results, Tryd.results33, go_sem, *]) rfl ⟨rfl, (B1.setCell (by simp) _).setCell (by simp) _⟩

end Go.Proofs.YtkjkmnclnedfhaaDoor
