/- The landed hypo's Text. -/
import Derived.Test.YtaooigldchojcaaDoorHypLanC
import Derived.Test.YtaooigldchojcaaDoorHsLanE
namespace Go.Proofs.YtaooigldchojcaaDoor
open Go.RowKit

/-- the texts of sets, joined -/
def Hyp.jn (l : List Nat) : List UInt8 := Lib.join (l.map Sub.txt) [32, 111, 114, 32]
def Hyp.txtOf (l : List Nat) : ByteArray := if l.length = 0 then ⟨#[63]⟩ else ⟨(Hyp.jn l).toArray⟩
theorem Hyp.txt_some (h : Nat) (hh : h < 64) : 0 < (Sub.txt h).length ∧ (Sub.txt h).length ≤ 11 := by
  have g : ∀ h : Fin 64, 0 < (Sub.txt h.val).length ∧ (Sub.txt h.val).length ≤ 11 := by decide +kernel
  exact g ⟨h, hh⟩
theorem Hyp.textI_nat (h : Nat) (hh : h < 64) : textI (h : Int) = ⟨(Sub.txt h).toArray⟩ := by unfold textI; rw [Sub.low_of h hh]
theorem Hyp.jn_one (h : Nat) : Hyp.jn [h] = Sub.txt h := by unfold Hyp.jn; exact Lib.join_one _ _
theorem Hyp.jn_snoc (l : List Nat) (h : Nat) (hl : 0 < l.length) : Hyp.jn (l ++ [h]) = Hyp.jn l ++ ([32, 111, 114, 32] ++ Sub.txt h) := by
  cases l with
  | nil => cases hl
  | cons a t =>
    unfold Hyp.jn
    rw [List.cons_append, List.map_cons, List.map_cons, List.map_append, Lib.join_cons, Lib.join_cons]
    unfold Lib.joinTail
    rw [List.map_append, List.flatten_append, List.append_assoc]
    simp
theorem Hyp.lens_le (l : List Nat) (hl : ∀ h ∈ l, h < 64) : Lib.lens (l.map Sub.txt) ≤ 11 * l.length := by
  induction l with
  | nil => exact Nat.le_refl _
  | cons a t ih =>
    have h1 := ih fun h m => hl h (List.mem_cons_of_mem _ m)
    have h2 := (Hyp.txt_some a (hl a (List.mem_cons_self ..))).2
    have h3 : Lib.lens ((a :: t).map Sub.txt) = (Sub.txt a).length + Lib.lens (t.map Sub.txt) := by simp [Lib.lens]
    rw [h3, List.length_cons]
    omega
theorem Hyp.jn_len (l : List Nat) (hl : ∀ h ∈ l, h < 64) : (Hyp.jn l).length ≤ 15 * l.length := by
  cases l with
  | nil => exact Nat.le_refl _
  | cons a t =>
    have h1 := Hyp.lens_le (a :: t) hl
    unfold Hyp.jn
    rw [List.map_cons, Lib.join_length]
    rw [List.map_cons] at h1
    rw [List.length_map, List.length_cons] at *
    simp only [List.length_cons, List.length_nil]
    omega
theorem Hyp.datas_txt (l : List Nat) (hl : ∀ h ∈ l, h < 64) : (l.map fun h : Nat => textI (h : Int)).map (·.data.toList) = l.map Sub.txt := by
  rw [List.map_map]
  refine List.map_congr_left fun h m => ?_
  show (textI (h : Int)).data.toList = _
  rw [Hyp.textI_nat h (hl h m)]

theorem Hyp.parts_lt {al : List Bool} {h : Nat} (m : h ∈ Hyp.parts al) : h < 64 := by
  unfold Hyp.parts Hyp.partsOf at m
  exact Hyp.liv_lt (List.mem_filter.1 m).1
theorem Hyp.parts_len (al : List Bool) : (Hyp.parts al).length ≤ 22 := Nat.le_trans (Hyp.partsOf_len _ _) (Hyp.livN_len al 22)

namespace Lan23
set_option maxHeartbeats 4000000 in
set_option maxRecDepth 100000 in
theorem Text_any (al : List Bool) (hl : al.length = 22) (w : World) (n : PairsAt w) :
    Calls Tryd.prog 25 #[.agg (bl al)] w fun e w' => e = .returned (.string (Hyp.txtOf (Hyp.parts al))) ∧ Below w.heap.size w w' := by
  have HA := ArrB.new w al 26
  have HV := Lib.hid (Parts_any al hl (w.alloc (.cells (bl al) 26)) (n.keep (below1 _ _)))
  have HW := Lib.hid (below1 w (.cells (bl al) 26))
  have hi := info22 hl
  unfold ArrB at HA
  have hle := Hyp.parts_len al
  have HLT : Hid (∀ x ∈ Hyp.parts al, x < 64) := Lib.hid fun x m => Hyp.parts_lt m
  generalize bl al = arr at *
  generalize Hyp.parts al = ns at *
  have HTX : Hid (∀ l, Hyp.txtOf l = if l.length = 0 then ⟨#[63]⟩ else ⟨(Hyp.jn l).toArray⟩) := Lib.hid fun _ => rfl
  have HR := Lib.hid (HTX.out ns)
  generalize Hyp.txtOf ns = r at *
  clear HTX
  go_enter Tryd.func25, Tryd.ntmps25
  go_wp2_with (refine list_load_any rfl 26 _ rfl _ 0 rfl arr _ HA Tryd.underlying26 rfl hi ?_)
  refine HV.out.mono ?_
  rintro e w1 ⟨v, rfl, hS⟩
  obtain ⟨ba, cap, rfl, L, hcap, hmx⟩ := hS.lies
  have HB := Lib.hid (belowT HW.out hS.below)
  have HL := Lib.hid L
  rw [Hyp.ints_len] at hcap ⊢
  clear hS L HV HW HA hi
  go_wp2_with fail
  go_loopw [3, 9] (fun v i wr => ∃ j : Nat, j ≤ ns.length ∧ i = .int .i64 j ∧ Strs w1.heap.size w1 wr v ((ns.take j).map fun h : Nat => textI (h : Int))) (fun _ i _ => 22 - (intOf i).toNat)
  case atStart => exact ⟨0, by omega, rfl, Strs.nil w1⟩
  case round =>
    obtain ⟨j, hj, rfl, hS⟩ := hrel
    rename World => wr
    by_cases hlj : (j : Int) < ns.length
    · have hjn : j < ns.length := by omega
      obtain ⟨g1, rfl, hc⟩ := HL.out (by rw [Hyp.ints_len]; omega)
      have c1 := keepc hS.below (hc j (by rw [Hyp.ints_len]; exact hjn))
      rw [Hyp.ints_at] at c1
      have HT := Lib.hid (Hyp.take_one hjn)
      have hll : ((ns.take j).map fun h : Nat => textI (h : Int)).length + 1 ≤ 1000000000000 := by rw [List.length_map, List.length_take]; omega
      have HLL := Lib.hid hll
      have HS := Lib.hid hS
      generalize ns.getD j 0 = z at *
      clear hc hjn hll hS
      go_wp2_with fail
      refine (Lan11.Text_any (z : Int) wr).mono ?_
      rintro e w2 ⟨rfl, hb2⟩
      have HS2 := Lib.hid (HS.out.keep hb2)
      have hll := HLL.out
      clear hb2
      generalize hs : textI (z : Int) = s at *
      have HSZ := Lib.hid hs
      clear hs
      go_wp2_with (at_builtin; refine list_append_str rfl _ _ rfl (w0 := w2) (v := u3) rfl s HS2.out rfl hll ?_)
      intro v' w' hb'
      have HS3 := Lib.hid hb'
      clear hb' hll
      go_wp2
      go_roundw
      case rel => exact ⟨j + 1, by omega, rfl, by rw [HT.out, List.map_append, List.map_cons, List.map_nil, HSZ.out, List.map_take]; exact HS3.out⟩
      case measure => simp [intOf]; omega
    · obtain rfl : j = ns.length := by omega
      rw [List.take_length] at hS
      obtain ⟨bs, cap2, rfl, hl2, hc2, _⟩ := hS.lies
      have HB2 := Lib.hid (belowT HB.out hS.below)
      have hlen : (ns.map fun h : Nat => textI (h : Int)).length = ns.length := List.length_map _
      have HL2 := Lib.hid hl2
      clear hS hl2 HL
      rw [hlen] at hc2
      by_cases h0 : ns.length = 0
      · have hq : ((ns.length : Int) == 0) = true := by rw [h0]; rfl
        have HRR : Hid (r = ⟨#[63]⟩) := Lib.hid (by have := HR.out; rwa [if_pos h0] at this)
        rw [hlen]
        clear h0
        go_wp2
        go_ret
        rw [HRR.out]
        exact ⟨rfl, HB2.out⟩
      · obtain ⟨g, rfl, hg, hcs⟩ := HL2.out (by rw [hlen]; omega)
        have hq : ((ns.length : Int) == 0) = false := by simpa using h0
        have HRR : Hid (r = ⟨(Hyp.jn ns).toArray⟩) := Lib.hid (by have := HR.out; rwa [if_neg h0] at this)
        have HD := Lib.hid (Hyp.datas_txt ns HLT.out)
        have HJ := Lib.hid (Tryd.strings_Join g 0 cap2 (ns.map fun h : Nat => textI (h : Int)) ⟨#[32, 111, 114, 32]⟩ wr hcs hg (by omega) (by omega) (by
          rw [HD.out]
          have h1 := Hyp.jn_len ns HLT.out
          have h2 : (Lib.join (ns.map Sub.txt) ([32, 111, 114, 32] : List UInt8)).length ≤ 15 * ns.length := h1
          show (Lib.join (ns.map Sub.txt) ([32, 111, 114, 32] : List UInt8)).length ≤ _
          omega))
        rw [hlen] at HJ ⊢
        rw [HD.out] at HJ
        clear hcs hg h0
        go_wp2_with fail
        refine HJ.out.mono ?_
        rintro e w3 ⟨rfl, h3⟩
        have HB3 := Lib.hid (belowT HB2.out h3)
        clear h3
        go_wp2
        go_ret
        rw [HRR.out]
        exact ⟨rfl, HB3.out⟩

end Lan23
end Go.Proofs.YtaooigldchojcaaDoor
