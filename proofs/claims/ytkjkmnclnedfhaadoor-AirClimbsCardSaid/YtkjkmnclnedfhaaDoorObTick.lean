/- A tick of the law of layer 29 (how the value and the bias change, what each source is off by, which ones read): by value, and in a slice that came in. No program's calls. -/
import Derived.Test.YtkjkmnclnedfhaaDoorObLanA
import Derived.Test.YtkjkmnclnedfhaaDoorWhole
import Derived.Deep.MidRow
namespace Go.Proofs.YtkjkmnclnedfhaaDoor
open Go.RowKit Obs

structure Tk where
  move : Int
  change : Int
  o0 : Int
  o1 : Int
  o2 : Int
  t0 : Bool
  t1 : Bool
  t2 : Bool
def tk0 : Tk := ⟨0, 0, 0, 0, 0, false, false, false⟩
def tl (t : Tk) : List Value := [.int .i64 t.move, .int .i64 t.change, .int .i64 t.o0, .int .i64 t.o1, .int .i64 t.o2, .bool t.t0, .bool t.t1, .bool t.t2]
abbrev tv (t : Tk) : Value := .agg #[.int .i64 t.move, .int .i64 t.change, .int .i64 t.o0, .int .i64 t.o1, .int .i64 t.o2, .bool t.t0, .bool t.t1, .bool t.t2]
/-- the array of what is read, its first so many places written -/
def x3 (y0 y1 y2 : Int) : Nat → List (Option Value)
  | 0 => [some (.int .i64 0), some (.int .i64 0), some (.int .i64 0)]
  | 1 => [some (.int .i64 y0), some (.int .i64 0), some (.int .i64 0)]
  | 2 => [some (.int .i64 y0), some (.int .i64 y1), some (.int .i64 0)]
  | _ => [some (.int .i64 y0), some (.int .i64 y1), some (.int .i64 y2)]
theorem tl_one (t : Tk) : (tl t).toArray.all (·.oneCell') = true := all_oneCell_toArray fun v hv => by
  simp only [tl, List.mem_cons, List.not_mem_nil, or_false] at hv
  rcases hv with rfl | rfl | rfl | rfl | rfl | rfl | rfl | rfl <;> rfl
theorem info_tk : (Tryd.prog.info? 39).map (·.size) = some 8 := by kernel_rfl
theorem info_tl (t : Tk) : (Tryd.prog.info? 39).map (·.size) = some (tl t).toArray.size := info_tk
/-- ticks that came in -/
structure CameTk (w : World) (ba : Option Addr) (cap : Nat) (l : List Tk) : Prop where
  le : l.length ≤ cap
  max : cap ≤ maxLen
  lies : 0 < l.length → ∃ b o, ba = some ⟨b, o, none⟩ ∧ ∀ j, j < l.length → w.rangeAt b (o + j * 8) (tl (l.getD j tk0))
theorem CameTk.keep {w w' : World} {ba : Option Addr} {cap : Nat} {l : List Tk} (C : CameTk w ba cap l) (hb : Below w.heap.size w w') : CameTk w' ba cap l :=
  ⟨C.le, C.max, fun h => by obtain ⟨b, o, e, L⟩ := C.lies h; exact ⟨b, o, e, fun j hj => range_keep (L j hj) hb⟩⟩
end Go.Proofs.YtkjkmnclnedfhaaDoor
