/- The document's Parse. -/
import Derived.Test.YtjnegoflnaeifaaDoorRefText
import Derived.Test.YtjnegoflnaeifaaDoorShl
import Derived.Test.YtjnegoflnaeifaaDoorParseB
import Derived.Deep.CutBlock
import Derived.Deep.CutRange
namespace Go.Proofs.YtjnegoflnaeifaaDoor.Ref
open Go.RowKit Go.Proofs.YtjnegoflnaeifaaDoor

theorem Parse_empty (w : World) :
    Calls Tryd.prog 11 #[.string ⟨#[]⟩] w fun e w' => e = .returned (.tuple #[.agg #[.int .i64 0, .int .u64 0], .int .i64 3]) ∧ Below w.heap.size w w' := by
  go_enter Tryd.func11, Tryd.ntmps11
  go_wp2_with fail
  exact bodyPost_ret (v := .tuple #[.agg #[.int .i64 0, .int .u64 0], .int .i64 3]) (by simp [results, Tryd.results11, go_sem, *]) rfl ⟨rfl, below1 w _⟩

/-- how the text begins: t is what is behind the sign, if there is one -/
structure Begin (s t : ByteArray) (hs : 0 < s.size) (neg : Bool) : Prop where
  yes : neg = true → s.extract 1 s.size = t ∧ ((s[0].toNat : Int) == 45) = true ∧ t.size < s.size
  no : neg = false → t = s ∧ ((s[0].toNat : Int) == 45) = false

set_option maxHeartbeats 1000000 in
set_option maxRecDepth 100000 in
theorem Parse_none (s t : ByteArray) (neg : Bool) (w : World) (hs : 0 < s.size) (hi : (0 : Int) < (s.size : Int)) (he : s.toList = [] → False) (hne : s.toList.isEmpty = false) (hb : Begin s t hs neg)
    (ht : t.toList = [] ∧ t.toList.isEmpty = true ∨ t.toList.isEmpty = false ∧ (t.toList = [] → False) ∧ decide (38 < (t.size : Int)) = true) :
    Calls Tryd.prog 11 #[.string s] w fun e w' => e = .returned (.tuple #[.agg #[.int .i64 0, .int .u64 0], .int .i64 3]) ∧ Below w.heap.size w w' := by
  cases neg
  · obtain ⟨rfl, h0⟩ := hb.no rfl
    clear hb
    rcases ht with ⟨a, b⟩ | ⟨a, b, c⟩
    · exact (he a).elim
    · go_enter Tryd.func11, Tryd.ntmps11
      go_wp2_with fail
      exact bodyPost_ret (v := .tuple #[.agg #[.int .i64 0, .int .u64 0], .int .i64 3]) (by simp [results, Tryd.results11, go_sem, *]) rfl ⟨rfl, below1 w _⟩
  · obtain ⟨h1, h0, h2⟩ := hb.yes rfl
    clear hb
    rcases ht with ⟨a, b⟩ | ⟨a, b, c⟩
    all_goals
      go_enter Tryd.func11, Tryd.ntmps11
      go_wp2_with fail
      exact bodyPost_ret (v := .tuple #[.agg #[.int .i64 0, .int .u64 0], .int .i64 3]) (by simp [results, Tryd.results11, go_sem, *]) rfl ⟨rfl, below1 w _⟩

/-- what holds at a round's head: so many digits are read -/
structure Px (t : List UInt8) (k v : Nat) : Prop where
  le : k ≤ t.length
  all : Dec.Digs (t.take k)
  val : v = Dec.val 0 (t.take k)
  small : v < 10 ^ k

theorem px_start (t : List UInt8) : Px t 0 0 where
  le := Nat.zero_le _
  all := fun c h => by simp at h
  val := by simp [Dec.val]
  small := by simp

theorem Px.next {t : List UInt8} {k v : Nat} {c : UInt8} (h : Px t k v) (hk : k < t.length) (hc : t[k]? = some c) (c0 : 48 ≤ c.toNat) (c1 : c.toNat ≤ 57) : Px t (k + 1) (v * 10 + (c.toNat - 48)) where
  le := hk
  all := by
    rw [List.take_add_one, hc]
    exact h.all.append (fun x hx => by rw [Option.toList_some, List.mem_singleton] at hx; rw [hx]; exact ⟨c0, c1⟩)
  val := by
    rw [List.take_add_one, hc, Dec.val_append, ← h.val]
    rfl
  small := by
    have := h.small
    rw [Nat.pow_succ]; omega

/-- what the document's Parse answers -/
def Ans (l : List UInt8) (w : World) (e : Ending) (w' : World) : Prop := e = .returned (res (okay l) (Dec.num l)) ∧ Below w.heap.size w w'
theorem ans_bad {l : List UInt8} {w w' : World} (h : okay l = false) (b : Below w.heap.size w w') : Ans l w (.returned (.tuple #[.agg #[.int .i64 0, .int .u64 0], .int .i64 3])) w' := ⟨by rw [h, res_false], b⟩
theorem ans_good {l : List UInt8} {w w' : World} {x : Int} (h : okay l = true) (hx : Dec.num l = x) (b : Below w.heap.size w w') : Ans l w (.returned (.tuple #[.agg #[.int .i64 (Wd.hi x), .int .u64 (Wd.lo x)], .int .i64 0])) w' := ⟨by rw [h, hx]; rfl, b⟩

end Go.Proofs.YtjnegoflnaeifaaDoor.Ref
