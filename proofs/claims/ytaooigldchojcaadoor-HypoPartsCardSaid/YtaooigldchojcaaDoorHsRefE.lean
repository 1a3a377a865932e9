/- The document's own Text of a set. -/
import Derived.Test.YtaooigldchojcaaDoorHsRefD
import Derived.Test.YtaooigldchojcaaDoorHypLanE
namespace Go.Proofs.YtaooigldchojcaaDoor
open Go.RowKit

/-- digits, joined -/
def dj (l : List Nat) : List UInt8 := Lib.join (l.map fun i => [UInt8.ofNat (48 + i)]) [43]
theorem join_snoc (sep t : List UInt8) (xs : List (List UInt8)) (h : 0 < xs.length) : Lib.join (xs ++ [t]) sep = Lib.join xs sep ++ (sep ++ t) := by
  cases xs with
  | nil => cases h
  | cons a r =>
    rw [List.cons_append, Lib.join_cons, Lib.join_cons]
    unfold Lib.joinTail
    rw [List.map_append, List.flatten_append, List.append_assoc]
    simp
theorem dj_one (i : Nat) : dj [i] = [UInt8.ofNat (48 + i)] := by unfold dj; exact Lib.join_one _ _
theorem dj_snoc (l : List Nat) (i : Nat) (h : 0 < l.length) : dj (l ++ [i]) = dj l ++ ([43] ++ [UInt8.ofNat (48 + i)]) := by
  unfold dj
  rw [List.map_append]
  exact join_snoc _ _ _ (by rw [List.length_map]; exact h)
theorem dj_len : ∀ l : List Nat, (dj l).length ≤ 2 * l.length ∧ (0 < l.length → 0 < (dj l).length) := fun l => by
  cases l with
  | nil => exact ⟨Nat.le_refl _, fun h => by cases h⟩
  | cons a r =>
    have h : (dj (a :: r)).length = 1 * r.length + Lib.lens ((a :: r).map fun i => [UInt8.ofNat (48 + i)]) := by
      unfold dj; rw [List.map_cons, Lib.join_length, List.length_map]; rfl
    have g : ∀ l : List Nat, Lib.lens (l.map fun i => [UInt8.ofNat (48 + i)]) = l.length := fun l => by
      induction l with
      | nil => rfl
      | cons b t ih => simp only [Lib.lens, List.map_cons, List.sum_cons, List.length_cons, List.length_nil] at *; omega
    rw [g] at h
    rw [List.length_cons] at *
    omega
theorem txt_dj (m : Nat) (h : m < 64) : Sub.txt m = if (Sub.mem m).length = 0 then [45] else dj (Sub.mem m) := by
  have g : ∀ m : Fin 64, Sub.txt m.val = if (Sub.mem m.val).length = 0 then [45] else dj (Sub.mem m.val) := by decide +kernel
  exact g ⟨m, h⟩
theorem cat2 (a b : List UInt8) : (⟨a.toArray⟩ : ByteArray) ++ ⟨b.toArray⟩ = ⟨(a ++ b).toArray⟩ := by
  apply ByteArray.ext
  simp [ByteArray.data_append]

theorem full_ne {s : ByteArray} (h : s ≠ ⟨#[]⟩) : s.toList.isEmpty = false := by
  rw [ByteArray.toList_eq]
  cases e : s.data.toList with
  | nil => exact absurd (ByteArray.ext (by rw [← Array.toArray_toList (xs := s.data), e])) h
  | cons a t => rfl

namespace Ref11
theorem conv_one (u : UInt8) (w : World) : (convert 63 9 (.slice (some ⟨w.heap.size, 0, none⟩) 1 1)).run Tryd.prog (w.alloc (.cells #[.int .u8 (u.toNat : Int)] 5)) = .ok (.string ⟨#[u]⟩) (w.alloc (.cells #[.int .u8 (u.toNat : Int)] 5)) :=
  run_convert_bytes_back (w.alloc (.cells #[.int .u8 (u.toNat : Int)] 5)) 63 9 5 ⟨w.heap.size, 0, none⟩ 1 [u] Tryd.underlying63 Tryd.underlying5 Tryd.underlying9 fun j hj => by
    have : j = 0 := by simpa using hj
    subst this
    simp [Addr.add]

set_option maxHeartbeats 4000000 in
set_option maxRecDepth 100000 in
theorem Text_any (x : Int) (w : World) :
    Calls Tryd.prog 47 #[.int .i64 x] w fun e w' => e = .returned (.string (textI x)) ∧ Below w.heap.size w w' := by
  have HM := Lib.hid (Members_any x w)
  have hlt : ∀ i ∈ Sub.mem (Sub.low x), i < 6 := fun i h => Sub.mem_lt h
  have hle := Sub.cnt_le (Sub.low x)
  have HR : Hid (textI x = ⟨(if (Sub.mem (Sub.low x)).length = 0 then [45] else dj (Sub.mem (Sub.low x))).toArray⟩) := Lib.hid (by unfold textI; rw [txt_dj _ (Sub.low_lt x)])
  unfold Sub.cnt at hle
  unfold memI at HM
  generalize Sub.mem (Sub.low x) = ns at *
  generalize textI x = r at *
  have HLT := Lib.hid hlt
  clear hlt
  go_enter Tryd.func47, Tryd.ntmps47
  go_wp2_with fail
  refine HM.out.mono ?_
  rintro e w1 ⟨v1, rfl, hb1⟩
  obtain ⟨ba, cap, rfl, L, hcap, hmx⟩ := hb1.lies
  have HB1 := Lib.hid hb1.below
  have HL := Lib.hid L
  have hlen : (ns.map Int.ofNat).length = ns.length := List.length_map _
  rw [hlen] at hcap ⊢
  clear hb1 L HM hlen
  go_wp2_with fail
  go_loopw [3, 9] (fun v i wr => ∃ j : Nat, j ≤ ns.length ∧ i = .int .i64 j ∧ (∃ s : ByteArray, v = .string s ∧ s = ⟨(dj (ns.take j)).toArray⟩) ∧ Below w1.heap.size w1 wr) (fun _ i _ => 6 - (intOf i).toNat)
  case atStart => exact ⟨0, by omega, rfl, ⟨_, rfl, rfl⟩, Below.refl _ _⟩
  case round =>
    obtain ⟨j, hjl, rfl, ⟨s, rfl, hs⟩, hB⟩ := hrel
    rename World => wr
    have HS := Lib.hid hs
    have hsz : s.size ≤ 12 := by
      rw [hs]
      have h1 := (dj_len (ns.take j)).1
      have h2 := List.length_take_le j ns
      show (dj (ns.take j)).length ≤ 12
      omega
    by_cases hlt : (j : Int) < ns.length
    · obtain ⟨g, rfl, hc⟩ := HL.out (by rw [List.length_map]; omega)
      have hjn : j < ns.length := by omega
      have c0 := keepc hB (hc j (by rw [List.length_map]; omega))
      have hgd : (ns.map Int.ofNat).getD j 0 = ((ns.getD j 0 : Nat) : Int) := by
        rw [List.getD_eq_getElem?_getD, List.getElem?_map, List.getD_eq_getElem?_getD, List.getElem?_eq_getElem hjn]; rfl
      rw [hgd] at c0
      have hi6 : ns.getD j 0 < 6 := by
        rw [List.getD_eq_getElem?_getD, List.getElem?_eq_getElem hjn]
        exact HLT.out _ (List.getElem_mem hjn)
      have HTK := Lib.hid (Hyp.take_one hjn)
      generalize ns.getD j 0 = i at *
      obtain ⟨u, hu⟩ : ∃ u, u = UInt8.ofNat (48 + i) := ⟨_, rfl⟩
      have eu : IntKind.u8.wrap (48 + (i : Int)) = (u.toNat : Int) := by
        rw [hu]
        rcases (show i = 0 ∨ i = 1 ∨ i = 2 ∨ i = 3 ∨ i = 4 ∨ i = 5 by omega) with rfl | rfl | rfl | rfl | rfl | rfl <;> decide +kernel
      have ew : IntKind.i64.wrap (48 + (i : Int)) = 48 + (i : Int) := by rw [IntKind.wrap_i64]; omega
      have hcv := conv_one u wr
      have HU := Lib.hid hu
      have HB := Lib.hid hB
      clear hgd hc hs hu hB hi6
      by_cases hj0 : j = 0
      · subst hj0
        have hse : s = ⟨#[]⟩ := by rw [HS.out]; rfl
        subst hse
        have HF : Hid ((⟨#[]⟩ : ByteArray) ++ ⟨#[u]⟩ = ⟨(dj (ns.take 1)).toArray⟩) := Lib.hid (by
          have h := HTK.out
          rw [Nat.zero_add] at h
          rw [h, List.take_zero, List.nil_append, dj_one, ← HU.out]
          exact cat2 [] [u])
        clear HS
        go_wp2
        go_roundw
        case rel => exact ⟨1, by omega, rfl, ⟨_, rfl, HF.out⟩, belowT HB.out (below1 _ _)⟩
        case measure => simp [intOf]
      · have hse : s ≠ ⟨#[]⟩ := fun e => by
          have h := (dj_len (ns.take j)).2 (by rw [List.length_take]; omega)
          have : (dj (ns.take j)).length = 0 := by
            have h2 := HS.out.symm.trans e
            have h3 := congrArg (fun b : ByteArray => b.data.toList.length) h2
            simpa using h3
          omega
        have hq1 : s.toList.isEmpty = false := full_ne hse
        have HF : Hid (s ++ (⟨#[43]⟩ : ByteArray) ++ ⟨#[u]⟩ = ⟨(dj (ns.take (j + 1))).toArray⟩) := Lib.hid (by
          rw [HTK.out, dj_snoc _ _ (by rw [List.length_take]; omega), HS.out, ← HU.out]
          show (⟨(dj (ns.take j)).toArray⟩ : ByteArray) ++ ⟨([43] : List UInt8).toArray⟩ ++ ⟨([u] : List UInt8).toArray⟩ = _
          rw [cat2, cat2, List.append_assoc])
        clear HS hse
        go_wp2
        go_roundw
        case rel => exact ⟨j + 1, by omega, rfl, ⟨_, rfl, HF.out⟩, belowT HB.out (below1 _ _)⟩
        case measure => simp [intOf]; omega
    · obtain rfl : j = ns.length := by omega
      have HB := Lib.hid (belowT HB1.out hB)
      clear hB hs
      by_cases h0 : ns.length = 0
      · have hse : s = ⟨#[]⟩ := by
          have : ns = [] := List.length_eq_zero_iff.1 h0
          rw [HS.out, this]; rfl
        have HF : Hid (r = ⟨#[45]⟩) := Lib.hid (by have := HR.out; rwa [if_pos h0] at this)
        subst hse
        clear h0 HS
        go_wp2
        go_ret
        rw [HF.out]
        exact ⟨rfl, HB.out⟩
      · have hse : s ≠ ⟨#[]⟩ := fun e => by
          have h := (dj_len (ns.take ns.length)).2 (by rw [List.length_take]; omega)
          have : (dj (ns.take ns.length)).length = 0 := by
            have h2 := HS.out.symm.trans e
            have h3 := congrArg (fun b : ByteArray => b.data.toList.length) h2
            simpa using h3
          omega
        have hq1 : s.toList.isEmpty = false := full_ne hse
        have HF : Hid (r = s) := Lib.hid (by
          have := HR.out
          rw [if_neg h0] at this
          rw [this, HS.out, List.take_length])
        clear HS hse h0
        go_wp2
        go_ret
        rw [HF.out]
        exact ⟨rfl, HB.out⟩
end Ref11
end Go.Proofs.YtaooigldchojcaaDoor
