/- The document's own Text for layer 23. -/
import Derived.Test.YtaooigldchojcaaDoorHypRefC
import Derived.Test.YtaooigldchojcaaDoorHsRefE
namespace Go.Proofs.YtaooigldchojcaaDoor
open Go.RowKit

theorem Hyp.jn_pos (l : List Nat) (hl : ∀ h ∈ l, h < 64) (h0 : 0 < l.length) : 0 < (Hyp.jn l).length := by
  cases l with
  | nil => cases h0
  | cons a t =>
    have h1 := (Hyp.txt_some a (hl a (List.mem_cons_self ..))).1
    have h2 : Lib.lens ((a :: t).map Sub.txt) = (Sub.txt a).length + Lib.lens (t.map Sub.txt) := by simp [Lib.lens]
    unfold Hyp.jn
    rw [List.map_cons, Lib.join_length]
    rw [List.map_cons] at h2
    omega

namespace Ref23
set_option maxHeartbeats 4000000 in
set_option maxRecDepth 100000 in
theorem Text_any (al : List Bool) (hl : al.length = 22) (w : World) :
    Calls Tryd.prog 26 #[.agg (bl al)] w fun e w' => e = .returned (.string (Hyp.txtOf (Hyp.parts al))) ∧ Below w.heap.size w w' := by
  have HA := ArrB.new w al 26
  have HV := Lib.hid (Parts_any al hl (w.alloc (.cells (bl al) 26)))
  have HW := Lib.hid (below1 w (.cells (bl al) 26))
  have hi := info22 hl
  unfold ArrB at HA
  have hle := Hyp.parts_len al
  have HLT : Hid (∀ x ∈ Hyp.parts al, x < 64) := Lib.hid fun x m => Hyp.parts_lt m
  generalize bl al = arr at *
  generalize Hyp.parts al = ns at *
  have HTX : Hid (∀ l, Hyp.txtOf l = if l.length = 0 then ⟨#[63]⟩ else ⟨(Hyp.jn l).toArray⟩) := Lib.hid fun _ => rfl
  have HR := Lib.hid (HTX.out ns)
  generalize Hyp.txtOf ns = r at *
  clear HTX
  go_enter Tryd.func26, Tryd.ntmps26
  go_wp2_with (refine list_load_any rfl 26 _ rfl _ 0 rfl arr _ HA Tryd.underlying26 rfl hi ?_)
  refine HV.out.mono ?_
  rintro e w1 ⟨v, rfl, hS⟩
  obtain ⟨ba, cap, rfl, L, hcap, hmx⟩ := hS.lies
  have HB1 := Lib.hid (belowT HW.out hS.below)
  have HL := Lib.hid L
  rw [Hyp.ints_len] at hcap ⊢
  clear hS L HV HW HA hi
  go_wp2_with fail
  go_loopw [3, 9] (fun v i wr => ∃ j : Nat, j ≤ ns.length ∧ i = .int .i64 j ∧ (∃ s : ByteArray, v = .string s ∧ s = ⟨(Hyp.jn (ns.take j)).toArray⟩) ∧ Below w1.heap.size w1 wr) (fun _ i _ => 22 - (intOf i).toNat)
  case atStart => exact ⟨0, by omega, rfl, ⟨_, rfl, rfl⟩, Below.refl _ _⟩
  case round =>
    obtain ⟨j, hjl, rfl, ⟨s, rfl, hs⟩, hB⟩ := hrel
    rename World => wr
    have HS := Lib.hid hs
    have hltk : ∀ h ∈ ns.take j, h < 64 := fun h m => HLT.out h (List.mem_of_mem_take m)
    have hsz : s.size ≤ 330 := by
      rw [hs]
      have h1 := Hyp.jn_len (ns.take j) hltk
      have h2 := List.length_take_le j ns
      show (Hyp.jn (ns.take j)).length ≤ 330
      omega
    have HNE : Hid (0 < j → s ≠ ⟨#[]⟩) := Lib.hid fun hj e => by
      have h := Hyp.jn_pos (ns.take j) hltk (by rw [List.length_take]; omega)
      have : (Hyp.jn (ns.take j)).length = 0 := by
        have h2 := HS.out.symm.trans e
        have h3 := congrArg (fun b : ByteArray => b.data.toList.length) h2
        simpa using h3
      omega
    clear hltk
    by_cases hlt : (j : Int) < ns.length
    · obtain ⟨g, rfl, hc⟩ := HL.out (by rw [Hyp.ints_len]; omega)
      have hjn : j < ns.length := by omega
      have c0 := keepc hB (hc j (by rw [Hyp.ints_len]; omega))
      rw [Hyp.ints_at] at c0
      have hi64 : ns.getD j 0 < 64 := by
        rw [List.getD_eq_getElem?_getD, List.getElem?_eq_getElem hjn]
        exact HLT.out _ (List.getElem_mem hjn)
      have HTK := Lib.hid (Hyp.take_one hjn)
      generalize ns.getD j 0 = i at *
      have HTI : Hid (textI (i : Int) = ⟨(Sub.txt i).toArray⟩) := Lib.hid (Hyp.textI_nat i hi64)
      obtain ⟨t, ht⟩ : ∃ t, t = textI (i : Int) := ⟨_, rfl⟩
      have htz : t.size ≤ 11 := by
        rw [ht, HTI.out]
        exact (Hyp.txt_some i hi64).2
      have HC := Lib.hid (fun w => Ref11.Text_any (i : Int) w)
      rw [← ht] at HC HTI
      have HB := Lib.hid hB
      clear hc hs hB hi64 ht
      by_cases hj0 : j = 0
      · subst hj0
        have hse : s = ⟨#[]⟩ := by rw [HS.out]; rfl
        subst hse
        have HF : Hid ((⟨#[]⟩ : ByteArray) ++ t = ⟨(Hyp.jn (ns.take 1)).toArray⟩) := Lib.hid (by
          have h := HTK.out
          rw [Nat.zero_add] at h
          rw [h, List.take_zero, List.nil_append, Hyp.jn_one, HTI.out]
          exact cat2 [] _)
        clear HS HNE
        go_wp2_with fail
        refine (HC.out wr).mono ?_
        rintro e w2 ⟨rfl, hb2⟩
        have HB2 := Lib.hid (belowT HB.out hb2)
        clear hb2
        go_wp2
        go_roundw
        case rel => exact ⟨1, by omega, rfl, ⟨_, rfl, HF.out⟩, HB2.out⟩
        case measure => simp [intOf]
      · have hq1 : s.toList.isEmpty = false := full_ne (HNE.out (by omega))
        have HF : Hid (s ++ (⟨#[32, 111, 114, 32]⟩ : ByteArray) ++ t = ⟨(Hyp.jn (ns.take (j + 1))).toArray⟩) := Lib.hid (by
          rw [HTK.out, Hyp.jn_snoc _ _ (by rw [List.length_take]; omega), HS.out, HTI.out]
          show (⟨(Hyp.jn (ns.take j)).toArray⟩ : ByteArray) ++ ⟨([32, 111, 114, 32] : List UInt8).toArray⟩ ++ ⟨(Sub.txt i).toArray⟩ = _
          rw [cat2, cat2, List.append_assoc])
        clear HS HNE
        go_wp2_with fail
        refine (HC.out wr).mono ?_
        rintro e w2 ⟨rfl, hb2⟩
        have HB2 := Lib.hid (belowT HB.out hb2)
        clear hb2
        go_wp2
        go_roundw
        case rel => exact ⟨j + 1, by omega, rfl, ⟨_, rfl, HF.out⟩, HB2.out⟩
        case measure => simp [intOf]; omega
    · obtain rfl : j = ns.length := by omega
      have HB := Lib.hid (belowT HB1.out hB)
      clear hB hs
      by_cases h0 : ns.length = 0
      · have hse : s = ⟨#[]⟩ := by
          have : ns = [] := List.length_eq_zero_iff.1 h0
          rw [HS.out, this]; rfl
        have HF : Hid (r = ⟨#[63]⟩) := Lib.hid (by have := HR.out; rwa [if_pos h0] at this)
        subst hse
        clear h0 HS HNE
        go_wp2
        go_ret
        rw [HF.out]
        exact ⟨rfl, HB.out⟩
      · have hq1 : s.toList.isEmpty = false := full_ne (HNE.out (by omega))
        have HF : Hid (r = s) := Lib.hid (by
          have := HR.out
          rw [if_neg h0] at this
          rw [this, HS.out, List.take_length])
        clear HS h0 HNE
        go_wp2
        go_ret
        rw [HF.out]
        exact ⟨rfl, HB.out⟩
end Ref23
end Go.Proofs.YtaooigldchojcaaDoor
