
/- strconv.Itoa of a gyro's number; the landed subset's Text. -/
import Derived.Test.YtaooigldchojcaaDoorHsLanD
import Derived.Test.YtaooigldchojcaaDoorStrs
import Derived.Test.YtaooigldchojcaaDoorShelf
namespace Go.Proofs.YtaooigldchojcaaDoor
open Go.RowKit

/-- a gyro's digit -/
def dig (i : Nat) : ByteArray := ⟨#[UInt8.ofNat (48 + i)]⟩
theorem dig_dec (i : Nat) (h : i < 6) : (⟨(Lib.decDigits i).toArray⟩ : ByteArray) = dig i := by
  have g : ∀ i : Fin 6, Lib.decDigits i.val = [UInt8.ofNat (48 + i.val)] := by decide +kernel
  rw [g ⟨i, h⟩]
  rfl
def datas (l : List ByteArray) : List (List UInt8) := l.map (·.data.toList)
theorem txt_join (x : Int) (h : Sub.mem (Sub.low x) ≠ []) : Sub.txt (Sub.low x) = Lib.join (datas ((Sub.mem (Sub.low x)).map dig)) [43] := by
  have g : ∀ m : Fin 64, Sub.mem m.val ≠ [] → Sub.txt m.val = Lib.join (datas ((Sub.mem m.val).map dig)) [43] := by decide +kernel
  exact g ⟨_, Sub.low_lt x⟩ h
theorem txt_none (x : Int) (h : Sub.mem (Sub.low x) = []) : textI x = ⟨#[45]⟩ := by
  unfold textI Sub.txt
  rw [h]

namespace Lan11
set_option maxRecDepth 100000 in
theorem FormatInt_any (i : Nat) (h : i < 6) (w : World) :
    Calls Tryd.prog 59 #[.int .i64 (i : Int), .int .i64 10] w fun e w' => e = .returned (.string (dig i)) ∧ w' = w := by
  have H := Lib.hid (Tryd.internal_strconv_small i (by omega) w)
  rw [dig_dec i h] at H
  have h1 : (0 : Int) ≤ i := by omega
  have h2 : (i : Int) < 100 := by omega
  clear h
  go_enter Tryd.func59, Tryd.ntmps59
  go_wp2_with fail
  refine H.out.mono ?_
  rintro e w1 ⟨rfl, rfl⟩
  go_wp2_with fail
  go_ret
  exact ⟨rfl, rfl⟩
theorem ItoaIn_any (i : Nat) (h : i < 6) (w : World) :
    Calls Tryd.prog 56 #[.int .i64 (i : Int)] w fun e w' => e = .returned (.string (dig i)) ∧ w' = w := by
  have H := Lib.hid (FormatInt_any i h w)
  have h2 : (i : Int) < 6 := by omega
  clear h
  go_enter Tryd.func56, Tryd.ntmps56
  go_wp2_with fail
  refine H.out.mono ?_
  rintro e w1 ⟨rfl, rfl⟩
  go_wp2_with fail
  go_ret
  exact ⟨rfl, rfl⟩
theorem Itoa_any (i : Nat) (h : i < 6) (w : World) :
    Calls Tryd.prog 51 #[.int .i64 (i : Int)] w fun e w' => e = .returned (.string (dig i)) ∧ w' = w := by
  have H := Lib.hid (ItoaIn_any i h w)
  clear h
  go_enter Tryd.func51, Tryd.ntmps51
  go_wp2_with fail
  refine H.out.mono ?_
  rintro e w1 ⟨rfl, rfl⟩
  go_wp2_with fail
  go_ret
  exact ⟨rfl, rfl⟩

set_option maxHeartbeats 4000000 in
set_option maxRecDepth 100000 in
theorem Text_any (x : Int) (w : World) :
    Calls Tryd.prog 45 #[.int .i64 x] w fun e w' => e = .returned (.string (textI x)) ∧ Below w.heap.size w w' := by
  have HM := Lib.hid (Members_any x w)
  have hlt : ∀ i ∈ Sub.mem (Sub.low x), i < 6 := fun i h => Sub.mem_lt h
  have hle := Sub.cnt_le (Sub.low x)
  have hj := Lib.hid (txt_join x)
  have hn := Lib.hid (txt_none x)
  have ht : textI x = ⟨(Sub.txt (Sub.low x)).toArray⟩ := rfl
  have hz : (Sub.txt (Sub.low x)).length ≤ 300 := by
    have g : ∀ m : Fin 64, (Sub.txt m.val).length ≤ 300 := by decide +kernel
    exact g ⟨_, Sub.low_lt x⟩
  unfold Sub.cnt at hle
  unfold memI at HM
  generalize Sub.mem (Sub.low x) = ns at *
  generalize Sub.txt (Sub.low x) = tx at *
  generalize textI x = r at *
  have HLT := Lib.hid hlt
  have HT := Lib.hid ht
  have HZ := Lib.hid hz
  clear hlt ht hz
  go_enter Tryd.func45, Tryd.ntmps45
  go_wp2_with fail
  refine HM.out.mono ?_
  rintro e w1 ⟨v1, rfl, hb1⟩
  obtain ⟨ba, cap, rfl, L, hcap, hmx⟩ := hb1.lies
  have HB1 := Lib.hid hb1.below
  have HL := Lib.hid L
  have hlen : (ns.map Int.ofNat).length = ns.length := List.length_map _
  rw [hlen] at hcap ⊢
  clear hb1 L HM hlen
  go_wp2_with fail
  go_loopw [3, 9] (fun v i wr => ∃ j : Nat, j ≤ ns.length ∧ i = .int .i64 j ∧ Strs w1.heap.size w1 wr v ((ns.take j).map dig)) (fun _ i _ => 6 - (intOf i).toNat)
  case atStart => exact ⟨0, by omega, rfl, Strs.nil w1⟩
  case round =>
    obtain ⟨j, hjl, rfl, hS⟩ := hrel
    by_cases hlt : (j : Int) < ns.length
    · obtain ⟨g, rfl, hc⟩ := HL.out (by rw [List.length_map]; omega)
      have hjn : j < ns.length := by omega
      have c0 := keepc hS.below (hc j (by rw [List.length_map]; omega))
      have hgd : (ns.map Int.ofNat).getD j 0 = ((ns[j] : Nat) : Int) := by
        rw [List.getD_eq_getElem?_getD, List.getElem?_map, List.getElem?_eq_getElem hjn]; rfl
      rw [hgd] at c0
      have hi6 : ns[j] < 6 := HLT.out _ (List.getElem_mem hjn)
      have htk : (ns.take (j + 1)).map dig = (ns.take j).map dig ++ [dig ns[j]] := by
        rw [List.take_add_one, List.getElem?_eq_getElem hjn, List.map_append]; rfl
      have HTK := Lib.hid htk
      generalize ns[j] = i at *
      have hl : ((ns.take j).map dig).length + 1 ≤ 1000000000000 := by rw [List.length_map, List.length_take]; omega
      have HHL := Lib.hid hl
      have HS := Lib.hid hS
      clear hgd hc htk hl hS
      go_wp2_with fail
      refine (Itoa_any i hi6 wr).mono ?_
      rintro e w2 ⟨rfl, rfl⟩
      have hl := HHL.out
      go_wp2_with (at_builtin; refine list_append_str rfl _ _ rfl (w0 := w2) (v := u3) rfl (dig i) HS.out rfl hl ?_)
      intro v' w' hb'
      have HS' := Lib.hid hb'
      clear hb' hl
      go_wp2
      go_roundw
      case rel => exact ⟨j + 1, by omega, rfl, by rw [HTK.out, List.map_take]; exact HS'.out⟩
      case measure => simp [intOf]; omega
    · obtain rfl : j = ns.length := by omega
      rw [List.take_length] at hS
      obtain ⟨bs, cap2, rfl, hl2, hc2, _⟩ := hS.lies
      have HB := Lib.hid (belowT HB1.out hS.below)
      have hlen : (ns.map dig).length = ns.length := List.length_map _
      have HL2 := Lib.hid hl2
      clear hS hl2 HL
      rw [hlen] at hc2
      by_cases h0 : ns.length = 0
      · have hnil : ns = [] := List.length_eq_zero_iff.1 h0
        rw [hlen]
        have HN := Lib.hid (hn.out hnil)
        have hq : ((ns.length : Int) == 0) = true := by rw [h0]; rfl
        clear hj hn h0 hnil
        go_wp2
        go_ret
        rw [HN.out]
        exact ⟨rfl, HB.out⟩
      · obtain ⟨g, rfl, hg, hcs⟩ := HL2.out (by omega)
        have hne : ns ≠ [] := fun e => h0 (by rw [e]; rfl)
        have hjj := hj.out hne
        have hq : ((ns.length : Int) == 0) = false := by simpa using h0
        have HJ := Lib.hid (Tryd.strings_Join g 0 cap2 (ns.map dig) ⟨#[43]⟩ wr hcs hg (by omega) (by omega) (by
          show (Lib.join (datas (ns.map dig)) [43]).length ≤ _
          rw [← hjj]; have := HZ.out; omega))
        have HJJ := Lib.hid hjj
        rw [hlen] at HJ ⊢
        clear hj hn hjj hcs hg hne h0
        go_wp2_with fail
        refine HJ.out.mono ?_
        rintro e w3 ⟨rfl, h3⟩
        have HB3 := Lib.hid (belowT HB.out h3)
        clear h3
        go_wp2
        go_ret
        rw [HT.out, HJJ.out]
        unfold datas
        rw [List.map_map]
        exact ⟨rfl, HB3.out⟩
end Lan11
end Go.Proofs.YtaooigldchojcaaDoor
