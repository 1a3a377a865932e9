/- value of package wide. -/
import Derived.Test.YtjnegoflnaeifaaDoorTextB
namespace Go.Proofs.YtjnegoflnaeifaaDoor
open Go.RowKit

def ErrVar (n : String) (w : World) : Prop := ∃ tp p, w.var? Tryd.prog n = some #[.iface tp p]

theorem errvar_keep {n : String} {g : Nat} {w w' : World} (hg : Tryd.prog.globalNamed n = some g) (h : ErrVar n w) (b : Below w.heap.size w w') : ErrVar n w' :=
  let ⟨tp, p, h⟩ := h; ⟨tp, p, var_keep hg h b⟩

/-- what the package finds laid -/
def Laid (w : World) : Prop := Tab w ∧ ErrVar "strconv.ErrSyntax" w ∧ ErrVar "strconv.ErrRange" w

theorem laid_keep {w w' : World} (h : Laid w) (b : Below w.heap.size w w') : Laid w' :=
  ⟨tab_keep h.1 b, errvar_keep (g := Tryd.prog.globalNamed "strconv.ErrSyntax" |>.getD 0) (by kernel_rfl) h.2.1 b, errvar_keep (g := Tryd.prog.globalNamed "strconv.ErrRange" |>.getD 0) (by kernel_rfl) h.2.2 b⟩

theorem value_ok (s : ByteArray) (u : Int) (w : World)
    (P : Hid (∀ w', Below w.heap.size w w' → Calls Tryd.prog 48 #[.string s, .int .i64 10, .int .i64 64] w' fun e w'' => e = .returned (.tuple #[.int .u64 u, .nilIface]) ∧ Below w'.heap.size w' w'')) :
    Calls Tryd.prog 35 #[.string s] w fun e w' => e = .returned (.int .u64 u) ∧ Below w.heap.size w w' := by
  go_enter Tryd.func35, Tryd.ntmps35
  go_wp2_with fail
  refine (P.out _ (Below.refl _ _)).mono ?_; rintro e w1 ⟨rfl, hb1⟩
  have B1 := belowT (Below.refl _ _) hb1
  go_wp2_with fail
  exact bodyPost_ret (v := .int .u64 u) (by simp [results, Tryd.results35, go_sem]) rfl ⟨rfl, B1⟩

theorem value_bad (s : ByteArray) (u : Int) (w : World) 
    (P : Hid (∀ w', Below w.heap.size w w' → Calls Tryd.prog 48 #[.string s, .int .i64 10, .int .i64 64] w' fun e w'' => ∃ N, e = .returned (.tuple #[.int .u64 u, .iface 93 (.pointer (some ⟨N, 0, none⟩))]) ∧ Below w'.heap.size w' w'')) :
    Calls Tryd.prog 35 #[.string s] w fun e w' => e = .returned (.int .u64 0) ∧ Below w.heap.size w w' := by
  go_enter Tryd.func35, Tryd.ntmps35
  go_wp2_with fail
  refine (P.out _ (Below.refl _ _)).mono ?_; rintro e w1 ⟨N, rfl, B1⟩
  go_wp2_with fail
  exact bodyPost_ret (v := .int .u64 0) (by simp [results, Tryd.results35, go_sem]) rfl ⟨rfl, B1⟩

end Go.Proofs.YtjnegoflnaeifaaDoor
