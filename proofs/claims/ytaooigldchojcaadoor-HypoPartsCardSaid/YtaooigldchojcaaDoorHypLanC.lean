/- The landed hypo's Parts: its closure, slices.IndexFunc and ContainsFunc over it. -/
import Derived.Test.YtaooigldchojcaaDoorHypLanB
namespace Go.Proofs.YtaooigldchojcaaDoor
open Go.RowKit

theorem Hyp.within_nat (a b : Nat) (ha : a < 64) (hb : b < 64) : Sub.within (Sub.low (a : Int)) (Sub.low (b : Int)) = Sub.within a b := by rw [Sub.low_of a ha, Sub.low_of b hb]
theorem Hyp.less_take {l : List Nat} {h j : Nat} (hj : j < l.length) : Hyp.less (l.take (j + 1)) h = (Hyp.less (l.take j) h || (decide (l.getD j 0 ≠ h) && Sub.within (l.getD j 0) h)) := by
  unfold Hyp.less
  rw [Hyp.take_one hj, List.any_append]
  simp
theorem Hyp.less_hit {l : List Nat} {h j : Nat} (hj : j < l.length) (g : (decide (l.getD j 0 ≠ h) && Sub.within (l.getD j 0) h) = true) : Hyp.less l h = true := by
  unfold Hyp.less
  refine List.any_eq_true.2 ⟨l.getD j 0, ?_, g⟩
  rw [List.getD_eq_getElem?_getD, List.getElem?_eq_getElem hj]
  exact List.getElem_mem hj

namespace Lan23
theorem isLess_any (z h : Nat) (hz : z < 64) (hh : h < 64) (g : Nat) (w : World) (c : w.cell? ⟨g, 0, none⟩ = some (.int .i64 (h : Int))) :
    Calls Tryd.prog 43 #[.int .i64 (z : Int), .pointer (some ⟨g, 0, none⟩)] w fun e w' => e = .returned (.bool (decide (z ≠ h) && Sub.within z h)) ∧ w' = w := by
  have HW := Lib.hid (Lan11.Within_any (z : Int) (h : Int) w)
  rw [Hyp.within_nat z h hz hh] at HW
  by_cases e : z = h
  · have hq : ((z : Int) != (h : Int)) = false := by rw [e]; simp
    have HR : Hid ((decide (z ≠ h) && Sub.within z h) = false) := Lib.hid (by rw [decide_eq_false (by simpa using e)]; rfl)
    clear e HW
    generalize (decide (z ≠ h) && Sub.within z h) = r at *
    go_enter Tryd.func43, Tryd.ntmps43
    go_wp2
    go_ret
    rw [HR.out]
    exact ⟨rfl, rfl⟩
  · have hq : ((z : Int) != (h : Int)) = true := by
      have : ¬ (z : Int) = (h : Int) := by omega
      simpa using this
    have HR : Hid ((decide (z ≠ h) && Sub.within z h) = Sub.within z h) := Lib.hid (by rw [decide_eq_true (by simpa using e)]; rfl)
    clear e
    generalize (decide (z ≠ h) && Sub.within z h) = r at *
    go_enter Tryd.func43, Tryd.ntmps43
    go_wp2_with fail
    refine HW.out.mono ?_
    rintro e w1 ⟨rfl, rfl⟩
    go_wp2
    go_ret
    rw [HR.out]
    exact ⟨rfl, rfl⟩

set_option maxHeartbeats 2000000 in
set_option maxRecDepth 100000 in
theorem IndexFunc_any (ns : List Nat) (hlt : ∀ x ∈ ns, x < 64) (hle : ns.length ≤ 22) (h : Nat) (hh : h < 64) (g : Nat) (ba : Option Addr) (cap : Nat) (w : World) (c : w.cell? ⟨g, 0, none⟩ = some (.int .i64 (h : Int))) (L : LiesI w ba (Hyp.ints ns)) :
    Calls Tryd.prog 49 #[.slice ba ns.length cap, .func (.func 43) #[] #[.pointer (some ⟨g, 0, none⟩)]] w fun e w' => ∃ r : Int, e = .returned (.int .i64 r) ∧ decide (0 ≤ r) = Hyp.less ns h ∧ w' = w := by
  have HL := Lib.hid L
  have HLT := Lib.hid hlt
  have HC := Lib.hid c
  clear L hlt c
  go_enter Tryd.func49, Tryd.ntmps49
  go_wp2
  go_loop [8] (fun i => ∃ j : Nat, j ≤ ns.length ∧ i = .int .i64 j ∧ Hyp.less (ns.take j) h = false) (fun i => 22 - (intOf i).toNat)
  case atStart => exact ⟨0, by omega, rfl, rfl⟩
  case round =>
    obtain ⟨j, hj, rfl, hp⟩ := hrel
    by_cases hlj : (j : Int) < ns.length
    · have hjn : j < ns.length := by omega
      obtain ⟨g1, rfl, hc⟩ := HL.out (by rw [Hyp.ints_len]; omega)
      have c1 := hc j (by rw [Hyp.ints_len]; exact hjn)
      rw [Hyp.ints_at] at c1
      have hm : ns.getD j 0 ∈ ns := by rw [List.getD_eq_getElem?_getD, List.getElem?_eq_getElem hjn]; exact List.getElem_mem hjn
      have HI := Lib.hid (isLess_any (ns.getD j 0) h (HLT.out _ hm) hh g w HC.out)
      have HT := Lib.hid (Hyp.less_take (h := h) hjn)
      have HHIT := Lib.hid (Hyp.less_hit (h := h) hjn)
      rw [hp] at HT
      have HP := Lib.hid hp
      clear hm hjn hp hc
      generalize (decide (ns.getD j 0 ≠ h) && Sub.within (ns.getD j 0) h) = q at *
      generalize ns.getD j 0 = z at *
      cases q
      · go_wp2_with fail
        refine HI.out.mono ?_
        rintro e w1 ⟨rfl, rfl⟩
        go_wp2
        go_round
        case rel => exact ⟨j + 1, by omega, rfl, by rw [HT.out]; rfl⟩
        case measure => simp [intOf]; omega
      · have HF := Lib.hid (HHIT.out rfl)
        clear HHIT HT
        go_wp2_with fail
        refine HI.out.mono ?_
        rintro e w1 ⟨rfl, rfl⟩
        go_wp2
        go_ret
        exact ⟨_, rfl, by rw [HF.out]; exact decide_eq_true (by omega), rfl⟩
    · obtain rfl : j = ns.length := by omega
      rw [List.take_length] at hp
      have HP := Lib.hid hp
      clear hp
      go_wp2
      go_ret
      exact ⟨_, rfl, by rw [HP.out]; rfl, rfl⟩

theorem ContainsFunc_any (ns : List Nat) (hlt : ∀ x ∈ ns, x < 64) (hle : ns.length ≤ 22) (h : Nat) (hh : h < 64) (g : Nat) (ba : Option Addr) (cap : Nat) (w : World) (c : w.cell? ⟨g, 0, none⟩ = some (.int .i64 (h : Int))) (L : LiesI w ba (Hyp.ints ns)) :
    Calls Tryd.prog 44 #[.slice ba ns.length cap, .func (.func 43) #[] #[.pointer (some ⟨g, 0, none⟩)]] w fun e w' => e = .returned (.bool (Hyp.less ns h)) ∧ w' = w := by
  have HI := Lib.hid (IndexFunc_any ns hlt hle h hh g ba cap w c L)
  clear hlt c L
  generalize Hyp.less ns h = b at *
  go_enter Tryd.func44, Tryd.ntmps44
  go_wp2_with fail
  refine HI.out.mono ?_
  rintro e w1 ⟨r, rfl, hr, rfl⟩
  go_wp2
  go_ret
  exact ⟨rfl, rfl⟩

set_option maxHeartbeats 4000000 in
set_option maxRecDepth 100000 in
theorem Parts_any (al : List Bool) (hl : al.length = 22) (w : World) (n : PairsAt w) :
    Calls Tryd.prog 23 #[.agg (bl al)] w fun e w' => ∃ v, e = .returned v ∧ Ints w.heap.size w w' v (Hyp.ints (Hyp.parts al)) := by
  have hmf : ∀ (fn : Fn) (first cap : Array Value) (w : World), (Instr.makeFunc fn first cap).run Tryd.prog w = .ok (.func fn first cap) w := fun _ _ _ _ => rfl
  have HA := ArrB.new w al 26
  have HV : Hid (Calls Tryd.prog 36 #[.agg (bl al)] (w.alloc (.cells (bl al) 26)) fun e w' => ∃ v, e = .returned v ∧ Ints (w.alloc (.cells (bl al) 26)).heap.size (w.alloc (.cells (bl al) 26)) w' v (Hyp.ints (Hyp.livN al 22))) := Lib.hid (living_any al hl (w.alloc (.cells (bl al) 26)) (n.keep (below1 _ _)))
  have HW := Lib.hid (below1 w (.cells (bl al) 26))
  have hi := info22 hl
  unfold ArrB at HA
  unfold Hyp.parts
  have hle := Hyp.livN_len al 22
  have HLT : Hid (∀ x ∈ Hyp.livN al 22, x < 64) := Lib.hid fun x m => Hyp.liv_lt m
  generalize bl al = arr at *
  generalize Hyp.livN al 22 = ns at *
  go_enter Tryd.func23, Tryd.ntmps23
  go_wp2_with (refine list_load_any rfl 26 _ rfl _ 0 rfl arr _ HA Tryd.underlying26 rfl hi ?_)
  refine HV.out.mono ?_
  rintro e w1 ⟨v, rfl, hS⟩
  obtain ⟨ba, cap, rfl, L, hcap, hmx⟩ := hS.lies
  have HB := Lib.hid (belowT HW.out hS.below)
  have HL := Lib.hid L
  rw [Hyp.ints_len] at hcap ⊢
  clear hS L HV HW HA hi
  go_wp2_with fail
  go_loopw [4, 12] (fun v i wr => ∃ j : Nat, j ≤ ns.length ∧ i = .int .i64 j ∧ Ints w1.heap.size w1 wr v (Hyp.ints (Hyp.partsOf ns (ns.take j)))) (fun _ i _ => 22 - (intOf i).toNat)
  case atStart => exact ⟨0, by omega, rfl, Ints.nil w1⟩
  case round =>
    obtain ⟨j, hj, rfl, hS⟩ := hrel
    rename World => wr
    by_cases hlj : (j : Int) < ns.length
    · have hjn : j < ns.length := by omega
      obtain ⟨g1, rfl, hc⟩ := HL.out (by rw [Hyp.ints_len]; omega)
      have c1 := keepc hS.below (hc j (by rw [Hyp.ints_len]; exact hjn))
      rw [Hyp.ints_at] at c1
      have hm : ns.getD j 0 ∈ ns := by rw [List.getD_eq_getElem?_getD, List.getElem?_eq_getElem hjn]; exact List.getElem_mem hjn
      have hz := HLT.out _ hm
      have HT := Lib.hid (Hyp.take_one hjn)
      have hpl : (Hyp.partsOf ns (ns.take j)).length ≤ 22 := by
        have h1 := Hyp.partsOf_len ns (ns.take j)
        have h2 := List.length_take_le j ns
        omega
      generalize ns.getD j 0 = z at *
      have L' : LiesI (wr.alloc (.cells #[.int .i64 (z : Int)] 3)) (some ⟨g1, 0, none⟩) (Hyp.ints ns) := (HL.out.keep hS.below).keep (below1 _ _)
      have HCF := Lib.hid (ContainsFunc_any ns HLT.out hle z hz wr.heap.size (some ⟨g1, 0, none⟩) cap (wr.alloc (.cells #[.int .i64 (z : Int)] 3)) (by simp) L')
      have H1 := Lib.hid (fun h => Hyp.partsOf_one (l := ns) (m := ns.take j) (h := z) h)
      have H2 := Lib.hid (fun h => Hyp.partsOf_same (l := ns) (m := ns.take j) (h := z) h)
      have HS := Lib.hid (hS.alloc (.cells #[.int .i64 (z : Int)] 3))
      have hll : (Hyp.ints (Hyp.partsOf ns (ns.take j))).length + 1 ≤ 10000000000000 := by rw [Hyp.ints_len]; omega
      have HLL := Lib.hid hll
      clear hm hz hjn hc hpl L' hS hll
      go_wp2_with fail
      refine HCF.out.mono ?_
      rintro e w2 ⟨rfl, hw2⟩
      have c6 : w2.cell? ⟨wr.heap.size, 0, none⟩ = some (.int .i64 (z : Int)) := by rw [hw2]; simp
      have HS2 : Hid (Ints w1.heap.size w1 w2 u4 (Hyp.ints (Hyp.partsOf ns (ns.take j)))) := Lib.hid (by rw [hw2]; exact HS.out)
      clear hw2 HS
      cases hq : Hyp.less ns z
      · have HF := Lib.hid (H1.out hq)
        clear hq H1 H2 HCF
        have hll := HLL.out
        go_wp2_with (at_builtin; refine list_append_int rfl _ _ rfl (w0 := w2) (v := u4) rfl (z : Int) HS2.out rfl hll ?_)
        intro v' w' hb'
        go_wp2
        go_roundw
        case rel => exact ⟨j + 1, by omega, rfl, by rw [HT.out, HF.out, Hyp.ints_app]; exact hb'⟩
        case measure => simp [intOf]; omega
      · have HF := Lib.hid (H2.out hq)
        clear hq H1 H2 HCF
        go_wp2
        go_roundw
        case rel => exact ⟨j + 1, by omega, rfl, by rw [HT.out, HF.out]; exact HS2.out⟩
        case measure => simp [intOf]; omega
    · obtain rfl : j = ns.length := by omega
      rw [List.take_length] at hS
      have HS := Lib.hid (hS.low HB.out.size HB.out)
      clear hS
      go_wp2
      go_ret
      exact ⟨_, rfl, HS.out⟩
end Lan23
end Go.Proofs.YtaooigldchojcaaDoor
