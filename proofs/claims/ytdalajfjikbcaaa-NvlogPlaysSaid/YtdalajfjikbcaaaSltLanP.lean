/- The landed slot's parts; two arrays of twelve bytes compared. -/
import Derived.Test.YtdalajfjikbcaaaSltLanW
import Derived.Test.YtdalajfjikbcaaaLanGet
import Derived.ChangeKeysEq
namespace Go.Proofs.Ytdalajfjikbcaaa
open Go.RowKit

namespace Lan18
set_option maxHeartbeats 4000000 in
set_option maxRecDepth 100000 in
theorem parts_core (c0 c1 c2 c3 c4 c5 c6 c7 c8 c9 c10 c11 : UInt8) (l : List UInt8) (s x5 x6 x7 : Nat) (w : World) (hl : l = [c0, c1, c2, c3, c4, c5, c6, c7, c8, c9, c10, c11])
    (es : sofar l 1 4 = s) (hs : s < 4294967296) (e5 : c5.toNat = x5) (e6 : c6.toNat = x6) (e7 : c7.toNat = x7) (_h5 : (x5 : Int) ≤ 255) (_h6 : (x6 : Int) ≤ 255) (_h7 : (x7 : Int) ≤ 255) :
    Calls Try.prog 41 #[.agg (vals l).toArray] w fun e w' => e = .returned (.tuple #[.agg #[.int .i64 x5, .int .i64 x6, .int .i64 x7], .int .u32 s]) ∧ Below w.heap.size w w' := by
  have hlen : l.length = 12 := by rw [hl]; rfl
  have e : (vals l).toArray = #[.int .u8 (c0.toNat : Int), .int .u8 (c1.toNat : Int), .int .u8 (c2.toNat : Int), .int .u8 (c3.toNat : Int), .int .u8 (c4.toNat : Int), .int .u8 x5, .int .u8 x6, .int .u8 x7, .int .u8 (c8.toNat : Int), .int .u8 (c9.toNat : Int), .int .u8 (c10.toNat : Int), .int .u8 (c11.toNat : Int)] := by
    rw [hl, ← e5, ← e6, ← e7]; rfl
  have B1 := below2 w (.cells (vals l).toArray 57) (.cells #[.int .i64 0, .int .i64 0, .int .i64 0] 26)
  have L1 := (lies_alloc w l 57).keep (below1 _ (.cells #[.int .i64 0, .int .i64 0, .int .i64 0] 26))
  have G := Own.Get_ok w.heap.size 0 12 1 4 l _ (by omega) (by decide) (by decide) (by omega) L1
  have q5 := L1 5 (by omega)
  have q6 := L1 6 (by omega)
  have q7 := L1 7 (by omega)
  have g5 : (l.getD 5 0).toNat = x5 := by rw [hl]; exact e5
  have g6 : (l.getD 6 0).toNat = x6 := by rw [hl]; exact e6
  have g7 : (l.getD 7 0).toNat = x7 := by rw [hl]; exact e7
  rw [Nat.zero_add, g5] at q5
  rw [Nat.zero_add, g6] at q6
  rw [Nat.zero_add, g7] at q7
  rw [es, hlen] at G
  have ews : IntKind.u32.wrap (s : Int) = (s : Int) := by rw [IntKind.wrap_u32]; omega
  have i5 : IntKind.i64.wrap (x5 : Int) = x5 := by rw [IntKind.wrap_i64]; omega
  have i6 : IntKind.i64.wrap (x6 : Int) = x6 := by rw [IntKind.wrap_i64]; omega
  have i7 : IntKind.i64.wrap (x7 : Int) = x7 := by rw [IntKind.wrap_i64]; omega
  have B3 := Lib.hid (below3 w (.cells (vals l).toArray 57) (.cells #[.int .i64 x5, .int .i64 x6, .int .i64 x7] 26) (.cells #[.int .i64 x5, .int .i64 x6, .int .i64 x7] 26))
  rw [e] at G q5 q6 q7 B3 ⊢
  have GH := Lib.hid G
  clear G L1 e hl hlen es hs e5 e6 e7 g5 g6 g7 B1
  go_enter Try.func41, Try.ntmps41
  go_wp2_with fail
  refine GH.out.mono ?_; rintro e wx ⟨rfl, rfl⟩
  clear GH
  go_wp2
  exact bodyPost_ret (v := .tuple #[.agg #[.int .i64 x5, .int .i64 x6, .int .i64 x7], .int .u32 s]) (by simp [results, Try.results41, go_sem]) rfl ⟨rfl, B3.out⟩

theorem infob : (Try.prog.info? 5).isSome = true := by kernel_rfl
theorem b_eq (x y : UInt8) : ((x.toNat : Int) == (y.toNat : Int)) = decide (x = y) := by
  by_cases h : x = y
  · subst h; simp
  · rw [decide_eq_false h, beq_eq_false_iff_ne]
    intro k
    exact h (UInt8.toNat_inj.1 (by omega))
theorem part_byte {l : List UInt8} {i : Nat} (h : i < l.length) (w : World) : (part 5 (vals l).toArray (i * 1)).run Try.prog w = .ok (.int .u8 ((l.getD i 0).toNat : Int)) w := by
  have hv := vals_get h
  have hi : i < (vals l).length := by rw [vals_length]; exact h
  simp [part, go_sem, hi]
  have k := List.getElem?_eq_getElem hi
  rw [hv] at k
  injection k with k
  simpa [List.getD] using k.symm
theorem items_bytes (l m : List UInt8) (w : World) : ∀ is : List Nat, (∀ i ∈ is, i < l.length ∧ i < m.length) → (Op.eqItems 9999 5 1 (vals l).toArray (vals m).toArray is).run Try.prog w = .ok (is.all fun i => decide (l.getD i 0 = m.getD i 0)) w
  | [], _ => by simp [Op.eqItems]
  | i :: is, h => by
    obtain ⟨h1, h2⟩ := h i (List.mem_cons_self ..)
    have ih := items_bytes l m w is (fun j hj => h j (List.mem_cons_of_mem _ hj))
    have he : (Op.equalIn 9999 5 (.int .u8 ((l.getD i 0).toNat : Int)) (.int .u8 ((m.getD i 0).toNat : Int))).run Try.prog w = .ok (decide (l.getD i 0 = m.getD i 0)) w := by
      rw [← b_eq]
      simp [go_sem]
    simp only [Op.eqItems, Sem.run_bind, part_byte h1, part_byte h2, he, Result.andThen_ok, List.all_cons]
    cases decide (l.getD i 0 = m.getD i 0)
    · simp
    · simpa using ih
theorem arr12_eq (l m : List UInt8) (hl : l.length = 12) (hm : m.length = 12) (w : World) :
    (Op.equalIn 10000 57 (.agg (vals l).toArray) (.agg (vals m).toArray)).run Try.prog w = .ok (decide (l = m)) w := by
  obtain ⟨i0, hi⟩ := Option.isSome_iff_exists.1 infob
  rw [show (10000 : Nat) = 9999 + 1 from rfl, run_equalIn_array w 9999 _ _ Try.underlying57 hi, cells8, items_bytes l m w (List.range 12) (fun i hi => by have := List.mem_range.1 hi; omega)]
  congr 1
  rw [Bool.eq_iff_iff, List.all_eq_true, decide_eq_true_iff]
  constructor
  · intro h
    apply List.ext_getElem (by omega)
    intro i h1 h2
    have := of_decide_eq_true (h i (List.mem_range.2 (by omega)))
    simpa [List.getD, h1, h2] using this
  · intro h i _
    rw [h]
    simp
end Lan18
end Go.Proofs.Ytdalajfjikbcaaa
