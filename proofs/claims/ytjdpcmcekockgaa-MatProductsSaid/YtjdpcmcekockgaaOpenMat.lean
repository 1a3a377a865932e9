/- Three numbers, three rows of three, and two numbers, as arguments by value: opened. -/
import Derived.Test.YtjdpcmcekockgaaMatRef
import Derived.OpenShut
import Derived.Lib.SmallJoins
namespace Go.Proofs.Ytjdpcmcekockgaa
open Go.Joins Go.ChangeShapes Go.WideShapes Go.RowKit

section
variable {H : Type} {enc : TypeId × Value → H} {w : World} {base : Nat} {spare : Nat → Bool} {held : Bool}

theorem vec_cells : Try.prog.cellsOf 23 = 3 := by kernel_rfl
theorem mat_cells : Try.prog.cellsOf 25 = 9 := by kernel_rfl
theorem two_cells64 : Try.prog.cellsOf 48 = 2 := by kernel_rfl
theorem int_cell : Try.prog.cellsOf 2 = 1 := by kernel_rfl

theorem okWide_mat {r : Reach} {b0 : Nat} {v : Value} (hv : Value.okWide Try.prog w r b0 25 v) : ∃ cs : Array Value, v = .agg cs ∧ cs.size = 9 := by
  simp only [Value.okWide, Try.underlying25] at hv
  obtain ⟨cs, h1, h2, _⟩ := hv
  exact ⟨cs, h1, h2.trans mat_cells⟩
theorem okWide_vec {r : Reach} {b0 : Nat} {v : Value} (hv : Value.okWide Try.prog w r b0 23 v) : ∃ cs : Array Value, v = .agg cs ∧ cs.size = 3 := by
  simp only [Value.okWide, Try.underlying23] at hv
  obtain ⟨cs, h1, h2, _⟩ := hv
  exact ⟨cs, h1, h2.trans vec_cells⟩
theorem okWide_two64 {r : Reach} {b0 : Nat} {v : Value} (hv : Value.okWide Try.prog w r b0 48 v) : ∃ cs : Array Value, v = .agg cs ∧ cs.size = 2 := by
  simp only [Value.okWide, Try.underlying48] at hv
  obtain ⟨cs, h1, h2, _⟩ := hv
  exact ⟨cs, h1, h2.trans two_cells64⟩
theorem wf_rng {n : Int} (h : (Lit.int .i64 n).wf = true) : -9223372036854775808 ≤ n ∧ n ≤ 9223372036854775807 := by
  have hmin : IntKind.i64.min = -9223372036854775808 := rfl
  have hmax : IntKind.i64.max = 9223372036854775807 := rfl
  simp only [Lit.wf, Bool.and_eq_true, decide_eq_true_eq] at h
  omega
theorem int_part {m : Nat} {c : Value} {x : DataW H × List MemPlace} (h : DataW.trod enc Try.prog w base spare held m 2 [c] = some x) : ∃ y : BitVec 64, c = .int .i64 y.toInt := by
  obtain ⟨d, p⟩ := x
  obtain ⟨n, e0, _, wx⟩ := DataW.trod_int Try.underlying2 h
  have r := wf_rng wx
  obtain ⟨y, hy⟩ := v_of n r.1 r.2
  injection e0 with e0
  exact ⟨y, by rw [e0, hy]⟩
theorem vec_part {m : Nat} {c0 c1 c2 : Value} {x : DataW H × List MemPlace} (h : DataW.trod enc Try.prog w base spare held m 23 [c0, c1, c2] = some x) : ∃ v : V3, c0 = .int .i64 v.x.toInt ∧ c1 = .int .i64 v.y.toInt ∧ c2 = .int .i64 v.z.toInt := by
  obtain ⟨d, p⟩ := x
  obtain ⟨xs, m', _, _, _, hl, hel⟩ := DataW.trod_array Try.underlying23 h
  match xs, hl with
  | [y0, y1, y2], _ =>
    have g0 := hel 0 (by omega)
    have g1 := hel 1 (by omega)
    have g2 := hel 2 (by omega)
    rw [int_cell] at g0 g1 g2
    obtain ⟨a, ea⟩ := int_part (x := y0) g0
    obtain ⟨b, eb⟩ := int_part (x := y1) g1
    obtain ⟨c, ec⟩ := int_part (x := y2) g2
    exact ⟨⟨a, b, c⟩, ea, eb, ec⟩
theorem vec_open {r : Reach} {b0 : Nat} {v : Value} {d : DataW H} {p : List MemPlace} (hv : Value.okWide Try.prog w r b0 23 v) (h : DataW.Trod enc Try.prog w base spare held 23 v d p) : ∃ x : V3, v = vv x := by
  obtain ⟨cs, rfl, hsz⟩ := okWide_vec hv
  obtain ⟨fuel, hf⟩ := h
  obtain ⟨l⟩ := cs
  match l, hsz with
  | [c0, c1, c2], _ =>
    obtain ⟨x, rfl, rfl, rfl⟩ := vec_part hf
    exact ⟨x, rfl⟩
theorem mat_open {r : Reach} {b0 : Nat} {v : Value} {d : DataW H} {p : List MemPlace} (hv : Value.okWide Try.prog w r b0 25 v) (h : DataW.Trod enc Try.prog w base spare held 25 v d p) : ∃ m : M3, v = mv m := by
  obtain ⟨cs, rfl, hsz⟩ := okWide_mat hv
  obtain ⟨fuel, hf⟩ := h
  obtain ⟨xs, m, _, _, _, hl, hel⟩ := DataW.trod_array Try.underlying25 hf
  obtain ⟨l⟩ := cs
  match l, hsz, xs, hl with
  | [c0, c1, c2, c3, c4, c5, c6, c7, c8], _, [y0, y1, y2], _ =>
    have g0 := hel 0 (by omega)
    have g1 := hel 1 (by omega)
    have g2 := hel 2 (by omega)
    rw [vec_cells] at g0 g1 g2
    obtain ⟨a, rfl, rfl, rfl⟩ := vec_part (x := y0) (c0 := c0) (c1 := c1) (c2 := c2) g0
    obtain ⟨b, rfl, rfl, rfl⟩ := vec_part (x := y1) (c0 := c3) (c1 := c4) (c2 := c5) g1
    obtain ⟨c, rfl, rfl, rfl⟩ := vec_part (x := y2) (c0 := c6) (c1 := c7) (c2 := c8) g2
    exact ⟨⟨a, b, c⟩, rfl⟩
theorem two64_open {r : Reach} {b0 : Nat} {v : Value} {d : DataW H} {p : List MemPlace} (hv : Value.okWide Try.prog w r b0 48 v) (h : DataW.Trod enc Try.prog w base spare held 48 v d p) : ∃ x y : BitVec 64, v = .agg #[.int .i64 x.toInt, .int .i64 y.toInt] := by
  obtain ⟨cs, rfl, hsz⟩ := okWide_two64 hv
  obtain ⟨fuel, hf⟩ := h
  obtain ⟨xs, m, _, _, _, hl, hel⟩ := DataW.trod_array Try.underlying48 hf
  obtain ⟨l⟩ := cs
  match l, hsz, xs, hl with
  | [c0, c1], _, [y0, y1], _ =>
    have g0 := hel 0 (by omega)
    have g1 := hel 1 (by omega)
    rw [int_cell] at g0 g1
    obtain ⟨a, rfl⟩ := int_part (x := y0) (c := c0) g0
    obtain ⟨b, rfl⟩ := int_part (x := y1) (c := c1) g1
    exact ⟨a, b, rfl⟩
end
end Go.Proofs.Ytjdpcmcekockgaa
