/- The document's Parse, of every text: as package wide's. -/
import Derived.Test.YtjnegoflnaeifaaDoorRefParseB
import Derived.Test.YtjnegoflnaeifaaDoorNumeralB
namespace Go.Proofs.YtjnegoflnaeifaaDoor.Ref
open Go.RowKit Go.Proofs.YtjnegoflnaeifaaDoor

theorem okay_not (l : List UInt8) (h : ¬ (Dec.Digs (Dec.tail l) ∧ Dec.tail l ≠ [])) : okay l = false := by
  cases q : okay l with
  | false => rfl
  | true =>
    unfold okay at q
    rw [Bool.and_eq_true, beq_iff_eq] at q
    have t := Dec.tail_text (Dec.num l)
    have e : Dec.text (Dec.num l) = l := q.2
    rw [e] at t
    exact (h t).elim

theorem list_cons : ∀ (l : List UInt8) (h : 0 < l.length), l = l[0] :: l.drop 1
  | _ :: _, _ => rfl

theorem head_list (s : ByteArray) (hs : 0 < s.size) : s.data.toList = s[0] :: s.data.toList.drop 1 := by
  have h : 0 < s.data.toList.length := by rw [← Lib.size_eq]; exact hs
  have e : s[0] = s.data.toList[0] := by rw [Array.getElem_toList]; rfl
  rw [e]
  exact list_cons _ h

theorem ext_data (s : ByteArray) : (s.extract 1 s.size).data.toList = s.data.toList.drop 1 := by
  have e : s = ⟨s.data.toList.toArray⟩ := rfl
  have h := ext_list s.data.toList 1 s.size
  rw [← e] at h
  rw [h, Lib.size_eq, List.take_length]

theorem empty_list (t : ByteArray) (h : t.size = 0) : t.toList = [] := by
  rw [Lib.toList_data]
  exact List.length_eq_zero_iff.1 (by rw [← Lib.size_eq]; exact h)
theorem some_list (t : ByteArray) (h : t.size ≠ 0) : t.toList ≠ [] := by
  rw [Lib.toList_data]
  intro e
  apply h
  rw [Lib.size_eq, e]; rfl

theorem Parse_any (s : ByteArray) (w : World) : Calls Tryd.prog 11 #[.string s] w (Ans s.data.toList w) := by
  by_cases h0 : s.size = 0
  · have e : s = ⟨#[]⟩ := by
      apply ByteArray.ext
      apply Array.toList_inj.1
      rw [← Lib.toList_data, empty_list s h0]
    subst e
    exact (Parse_empty w).mono fun _ _ ⟨he, hb⟩ => by
      rw [he]
      exact ans_bad (okay_not _ (fun g => g.2 rfl)) hb
  · have hs : 0 < s.size := by omega
    have hne : s.toList.isEmpty = false := by
      have := some_list s h0
      cases h : s.toList with
      | nil => exact (this h).elim
      | cons _ _ => rfl
    have hl := head_list s hs
    obtain ⟨l, el⟩ : ∃ l, l = s.data.toList := ⟨_, rfl⟩
    -- the sign, and what is behind it
    have key : ∃ (t : ByteArray) (neg : Bool), Begin s t hs neg ∧ Dec.tail l = t.data.toList ∧ Dec.dash l = neg := by
      by_cases hc : s[0] = 45
      · refine ⟨s.extract 1 s.size, true, ⟨fun _ => ⟨rfl, ?_, ?_⟩, (fun h => by cases h)⟩, ?_, ?_⟩
        · rw [hc]; rfl
        · rw [Lib.size_eq, ext_data]; rw [List.length_drop, ← Lib.size_eq]; omega
        · rw [el, hl, hc, Dec.tail_cons, ext_data]
        · rw [el, hl, hc, Dec.dash_cons]
      · have hd : Dec.dash l = false := by
          rw [el, hl]
          have : ((45 : UInt8) == s[0]) = false := by rw [beq_eq_false_iff_ne]; exact fun e => hc e.symm
          simp [Dec.dash, Lib.hasPrefix, List.isPrefixOf, this]
        refine ⟨s, false, ⟨(fun h => by cases h), fun _ => ⟨rfl, ?_⟩⟩, ?_, hd⟩
        · rw [beq_eq_false_iff_ne]
          intro e
          apply hc
          apply UInt8.toNat_inj.1
          have : (45 : UInt8).toNat = 45 := rfl
          omega
        · have hd2 := hd
          unfold Dec.dash at hd2
          unfold Dec.tail Lib.trimPrefix
          rw [if_neg (by rw [hd2]; decide), el]
    obtain ⟨t, neg, hb, ht, hg⟩ := key
    have tl := Lib.size_eq t
    rw [← el]
    by_cases hbad : t.size = 0 ∨ 38 < t.size
    · have ok : okay l = false := by
        rcases hbad with h | h
        · exact okay_not _ fun g => g.2 (by rw [ht]; exact List.length_eq_zero_iff.1 (by omega))
        · exact okay_long _ (by rw [ht]; omega)
      refine (Parse_none s t neg w hs (by omega) (fun e => some_list s h0 e) hne hb ?_).mono fun _ _ ⟨he, hb⟩ => by
        rw [he]
        exact ans_bad ok hb
      rcases hbad with h | h
      · refine Or.inl ⟨empty_list t h, by rw [empty_list t h]; rfl⟩
      · refine Or.inr ⟨?_, fun e => some_list t (by omega) e, decide_eq_true (by omega)⟩
        have := some_list t (by omega)
        cases h : t.toList with
        | nil => exact (this h).elim
        | cons _ _ => rfl
    · have ta : t.toList.isEmpty = false := by
        have := some_list t (by omega)
        cases h : t.toList with
        | nil => exact (this h).elim
        | cons _ _ => rfl
      have tc : decide (38 < (t.size : Int)) = false := decide_eq_false (by omega)
      have hk : (Dec.tail l).length ≤ 38 := by rw [ht]; omega
      have bad : ∀ (k : Nat) (h : k < t.size), ¬ (48 ≤ t[k].toNat ∧ t[k].toNat ≤ 57) → okay l = false := fun k h g =>
        okay_not _ fun d => g (d.1 t[k] (by rw [ht]; exact Array.getElem_mem_toList _))
      have T := Lib.hid fun w => Text_any (Dec.num l) w (rm_num _ hk)
      have hq : (text (Dec.num l) == s.toList) = okay l := by rw [okay_short _ hk, Lib.toList_data, el]
      have hv : ∀ v, Px t.data.toList t.size v → Dec.size (Dec.tail l) = v := fun v hP => by
        have a := hP.all
        have b := hP.val
        rw [tl, List.take_length] at a b
        rw [ht, Dec.size_val _ a (by omega), b]
      cases neg
      · obtain ⟨rfl, c0⟩ := hb.no rfl
        have r := Parse_plain t w hs hne c0 tc (by omega) (by rw [← el]; exact bad) (Dec.num l) (text (Dec.num l)) (okay l) hq (by rw [← el]) (by rw [← el]; exact fun _ => rfl) (fun v hP => by rw [num_plain _ hg, hv v hP]) T
        rw [← el] at r
        exact r
      · obtain ⟨c1, c0, c2⟩ := hb.yes rfl
        have r := Parse_neg s t w hs hne c1 c0 c2 ta tc (by omega) (by rw [← el]; exact bad) (Dec.num l) (text (Dec.num l)) (okay l) hq (by rw [← el]) (by rw [← el]; exact fun _ => rfl) (fun v hP => by rw [num_dash _ hg, hv v hP]) T
        rw [← el] at r
        exact r

end Go.Proofs.YtjnegoflnaeifaaDoor.Ref
