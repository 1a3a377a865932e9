/- Frames as bytes, plain: what is read is written so; one bit turned is told. -/
import Derived.Test.YtdalajfjikbcaaaFrm
namespace Go.Proofs.Ytdalajfjikbcaaa
open Go.RowKit

theorem eleven (l : List UInt8) (h : 11 ≤ l.length) : ∃ c0 c1 c2 c3 c4 c5 c6 c7 c8 c9 c10 r, l = c0 :: c1 :: c2 :: c3 :: c4 :: c5 :: c6 :: c7 :: c8 :: c9 :: c10 :: r := by
  match l, h with
  | c0 :: c1 :: c2 :: c3 :: c4 :: c5 :: c6 :: c7 :: c8 :: c9 :: c10 :: r, _ => exact ⟨c0, c1, c2, c3, c4, c5, c6, c7, c8, c9, c10, r, rfl⟩

theorem read_back (l : List UInt8) (f : Fr) (h : readF l = (f, 0)) : rightF f = true ∧ 11 ≤ l.length ∧ frameF f = l.take 11 := by
  unfold readF at h
  by_cases h1 : l.length < 11
  · rw [if_pos h1] at h; injection h with _ h; cases h
  rw [if_neg h1] at h
  by_cases h2 : beginsF l = false
  · rw [if_pos h2] at h; injection h with _ h; cases h
  rw [if_neg h2] at h
  by_cases h3 : fitsB ((l.drop 2).take 9) = false
  · rw [if_pos h3] at h; injection h with _ h; cases h
  rw [if_neg h3] at h
  by_cases h4 : rightF (ofBytes l) = false ∨ 1 < (l.getD 4 0).toNat
  · rw [if_pos h4] at h; injection h with _ h; cases h
  rw [if_neg h4] at h
  injection h with h _
  subst h
  have hr : rightF (ofBytes l) = true := by
    cases g : rightF (ofBytes l)
    · exact absurd (Or.inl g) h4
    · rfl
  refine ⟨hr, by omega, ?_⟩
  obtain ⟨c0, c1, c2, c3, c4, c5, c6, c7, c8, c9, c10, r, rfl⟩ := eleven l (by omega)
  have hb : beginsF (c0 :: c1 :: c2 :: c3 :: c4 :: c5 :: c6 :: c7 :: c8 :: c9 :: c10 :: r) = true := by
    cases g : beginsF (c0 :: c1 :: c2 :: c3 :: c4 :: c5 :: c6 :: c7 :: c8 :: c9 :: c10 :: r)
    · exact absurd g h2
    · rfl
  have hf : fitsB ([c2, c3, c4, c5, c6, c7, c8] ++ [c9, c10]) = true := by
    cases g : fitsB ([c2, c3, c4, c5, c6, c7, c8] ++ [c9, c10])
    · exact absurd g h3
    · rfl
  rw [fits_nine _ _ _ rfl] at hf
  simp only [beginsF, List.getD_cons_zero, List.getD_cons_succ, Bool.and_eq_true, beq_iff_eq, decide_eq_true_eq] at hb hf h4
  obtain ⟨⟨_, rfl⟩, rfl⟩ := hb
  obtain ⟨e9, e10⟩ := hf
  obtain ⟨r1, r2, r3, r4, r5, r6⟩ := (right_iff _).1 hr
  have hw : c4.toNat ≤ 1 := by
    have : ¬ 1 < c4.toNat := fun g => h4 (Or.inr g)
    omega
  have eb : bodyF (ofBytes (165 :: 90 :: c2 :: c3 :: c4 :: c5 :: c6 :: c7 :: c8 :: c9 :: c10 :: r)) = [c2, c3, c4, c5, c6, c7, c8] := by
    have q2 : UInt8.ofNat ((c2.toNat : Int)).toNat = c2 := by rw [Int.toNat_natCast, UInt8.ofNat_toNat]
    have q3 : UInt8.ofNat ((c3.toNat : Int)).toNat = c3 := by rw [Int.toNat_natCast, UInt8.ofNat_toNat]
    have q4 : (if (c4 == 1) = true then (1 : UInt8) else 0) = c4 := by
      rcases (show c4.toNat = 0 ∨ c4.toNat = 1 by omega) with g | g
      · have : c4 = 0 := UInt8.toNat_inj.1 g
        subst this; rfl
      · have : c4 = 1 := UInt8.toNat_inj.1 g
        subst this; rfl
    have qv : Oct.be 4 (Oct.sgn 4 (Oct.num 0 [c5, c6, c7, c8]) % 4294967296).toNat = [c5, c6, c7, c8] := by
      have g := Oct.be_num 4 [c5, c6, c7, c8] rfl
      have hn := Oct.num_lt0 [c5, c6, c7, c8]
      rw [← g]
      generalize Oct.num 0 [c5, c6, c7, c8] = n at *
      have e : (256 : Nat) ^ [c5, c6, c7, c8].length = 4294967296 := by show (256 : Nat) ^ 4 = _; decide
      rw [e] at hn
      have e2 : (Oct.sgn 4 (Oct.num 0 (Oct.be 4 n)) % 4294967296).toNat = n := by
        rw [Oct.num_be]
        have e3 : n % 256 ^ 4 = n := Nat.mod_eq_of_lt (by omega)
        rw [e3]
        unfold Oct.sgn
        have e4 : (256 : Nat) ^ 4 = 4294967296 := by decide
        rw [e4]
        split <;> omega
      exact congrArg (Oct.be 4) e2
    show [UInt8.ofNat ((c2.toNat : Int)).toNat, UInt8.ofNat ((c3.toNat : Int)).toNat, if (c4 == 1) = true then (1 : UInt8) else 0] ++ Oct.be 4 (Oct.sgn 4 (Oct.num 0 [c5, c6, c7, c8]) % 4294967296).toNat = _
    rw [q2, q3, q4, qv]; rfl
  unfold frameF withSum
  rw [eb, e9, e10]
  rfl

theorem set_sum (l : List UInt8) (q : Nat) (m : UInt8) (hq : q < l.length) (hm : m ≠ 0) : sumOf (l.set q (l.getD q 0 ^^^ m)) ≠ sumOf l := by
  have hm' : m.toBitVec ≠ 0#8 := fun e => hm (by
    have : m = ⟨0#8⟩ := by rw [← e]
    rw [this]; rfl)
  have e1 : l.set q (l.getD q 0 ^^^ m) = l.take q ++ (l.getD q 0 ^^^ m) :: l.drop (q + 1) := by
    rw [List.set_eq_take_append_cons_drop, if_pos hq]
  have e2 : l = l.take q ++ l.getD q 0 :: l.drop (q + 1) := by
    have g : l.getD q 0 = l[q] := by simp [List.getD, hq]
    rw [g, List.getElem_cons_drop, List.take_append_drop]
  have t := Crc.turned_told (bv (l.take q)) (bv (l.drop (q + 1))) (l.getD q 0).toBitVec m.toBitVec hm'
  intro h
  apply t
  have c1 : bv (l.set q (l.getD q 0 ^^^ m)) = bv (l.take q) ++ ((l.getD q 0).toBitVec ^^^ m.toBitVec) :: bv (l.drop (q + 1)) := by rw [e1, bv_append]; rfl
  have c2 : bv l = bv (l.take q) ++ (l.getD q 0).toBitVec :: bv (l.drop (q + 1)) := by
    have := congrArg bv e2
    rw [bv_append] at this
    exact this
  rw [← c1, ← c2]
  exact h
theorem halves_inj (x y : BitVec 16) (h1 : hiB x = hiB y) (h2 : loB x = loB y) : x = y := by
  have a : Crc.hiOf x = Crc.hiOf y := congrArg UInt8.toBitVec h1
  have b : Crc.loOf x = Crc.loOf y := congrArg UInt8.toBitVec h2
  rw [Crc.halves x, Crc.halves y, a, b]
theorem xor_ne (c m : UInt8) (hm : m ≠ 0) : c ^^^ m ≠ c := fun h => hm (by
  have : c ^^^ (c ^^^ m) = c ^^^ c := by rw [h]
  rw [← UInt8.xor_assoc, UInt8.xor_self, UInt8.zero_xor] at this
  exact this)

theorem read_turned (f : Fr) (q : Nat) (m : UInt8) (hq : q < 11) (hm : m ≠ 0) : (readF ((frameF f).set q ((frameF f).getD q 0 ^^^ m))).2 ≠ 0 := by
  obtain ⟨a, b, c, d, _, eb⟩ := body_seven f
  have hl : ((frameF f).set q ((frameF f).getD q 0 ^^^ m)).length = 11 := by rw [List.length_set, frame_length]
  unfold readF
  rw [if_neg (by omega)]
  by_cases q2 : q < 2
  · rw [if_pos]
    · decide
    · have e : ∃ t, frameF f = 165 :: 90 :: t := ⟨_, rfl⟩
      obtain ⟨t, e⟩ := e
      rw [e]
      rcases (show q = 0 ∨ q = 1 by omega) with rfl | rfl
      · have : ((165 : UInt8) ^^^ m == 165) = false := beq_eq_false_iff_ne.2 (xor_ne _ _ hm)
        simp [beginsF, this]
      · have : ((90 : UInt8) ^^^ m == 90) = false := beq_eq_false_iff_ne.2 (xor_ne _ _ hm)
        simp [beginsF, this]
  by_cases hb : beginsF ((frameF f).set q ((frameF f).getD q 0 ^^^ m)) = false
  · rw [if_pos hb]; decide
  rw [if_neg hb, if_pos]
  · decide
  · have eB : ∀ (l : List UInt8) (y : UInt8), ((([165, 90] ++ l).set q y).drop 2).take 9 = (l.set (q - 2) y).take 9 := fun l y => by
      obtain ⟨p, rfl⟩ : ∃ p, q = p + 2 := ⟨q - 2, by omega⟩
      rfl
    have eD : ∀ (l : List UInt8), ([165, 90] ++ l).getD q 0 = l.getD (q - 2) 0 := fun l => by
      obtain ⟨p, rfl⟩ : ∃ p, q = p + 2 := ⟨q - 2, by omega⟩
      rfl
    unfold frameF
    rw [eB, eD]
    unfold withSum
    have hbl : (bodyF f).length = 7 := by rw [eb]; rfl
    generalize bodyF f = B at *
    by_cases q9 : q < 9
    · have e1 : (B ++ [hiB (sumOf B), loB (sumOf B)]).getD (q - 2) 0 = B.getD (q - 2) 0 := by
        rw [List.getD_eq_getElem?_getD, List.getD_eq_getElem?_getD, List.getElem?_append_left (by omega)]
      rw [e1, List.set_append_left _ _ (by omega), List.take_of_length_le (by rw [List.length_append, List.length_set, hbl]; exact Nat.le_refl 9), fits_nine _ _ _ (by rw [List.length_set, hbl])]
      have hn := set_sum B (q - 2) m (by omega) hm
      rw [Bool.and_eq_false_iff, beq_eq_false_iff_ne, beq_eq_false_iff_ne]
      by_cases g : hiB (sumOf B) = hiB (sumOf (B.set (q - 2) (B.getD (q - 2) 0 ^^^ m)))
      · exact Or.inr fun g2 => hn (halves_inj _ _ g g2).symm
      · exact Or.inl g
    · rcases (show q = 9 ∨ q = 10 by omega) with rfl | rfl
      · match B, hbl with
        | [b0, b1, b2, b3, b4, b5, b6], _ =>
          generalize hs : sumOf [b0, b1, b2, b3, b4, b5, b6] = s
          show fitsB ([b0, b1, b2, b3, b4, b5, b6] ++ [hiB s ^^^ m, loB s]) = false
          rw [fits_nine _ _ _ rfl, hs, beq_eq_false_iff_ne.2 (xor_ne _ _ hm), Bool.false_and]
      · match B, hbl with
        | [b0, b1, b2, b3, b4, b5, b6], _ =>
          generalize hs : sumOf [b0, b1, b2, b3, b4, b5, b6] = s
          show fitsB ([b0, b1, b2, b3, b4, b5, b6] ++ [hiB s, loB s ^^^ m]) = false
          rw [fits_nine _ _ _ rfl, hs, beq_eq_false_iff_ne.2 (xor_ne (loB s) m hm), Bool.and_false]

end Go.Proofs.Ytdalajfjikbcaaa
