/- Least hypotheses: plain. -/
import Derived.Test.YtaooigldchojcaaDoorHypBank
namespace Go.Proofs.YtaooigldchojcaaDoor.Hyp
open Go.RowKit

theorem within_trans {a b c : Nat} (h1 : Sub.within a b = true) (h2 : Sub.within b c = true) : Sub.within a c = true := by
  rw [within_test] at *
  exact fun i hi h => h2 i hi (h1 i hi h)
theorem within_refl (a : Nat) : Sub.within a a = true := by rw [within_test]; exact fun _ _ h => h
theorem within_less {a b : Nat} (ha : a < 22) (hb : b < 22) (h : Sub.within (setN a) (setN b) = true) (hn : a ≠ b) : a < b := by
  have g : ∀ a b : Fin 22, Sub.within (setN a.val) (setN b.val) = true → a.val ≠ b.val → a.val < b.val := by decide +kernel
  exact g ⟨a, ha⟩ ⟨b, hb⟩ h hn
theorem mem_parts {al : List Bool} {p : Nat} : p ∈ parts al ↔ p ∈ livN al 22 ∧ less (livN al 22) p = false := by
  unfold parts partsOf
  rw [List.mem_filter]
  constructor
  · rintro ⟨h1, h2⟩
    exact ⟨h1, by simpa using h2⟩
  · rintro ⟨h1, h2⟩
    exact ⟨h1, by rw [h2]; rfl⟩
/-- each that is alive has a least one within -/
theorem least_in (al : List Bool) : ∀ n, n < 22 → al.getD n false = true → ∃ p, p ∈ parts al ∧ Sub.within p (setN n) = true := by
  intro n
  induction n using Nat.strongRecOn with
  | _ n ih =>
    intro hn ha
    cases e : less (livN al 22) (setN n)
    · exact ⟨setN n, mem_parts.2 ⟨mem_liv.2 ⟨n, hn, ha, rfl⟩, e⟩, within_refl _⟩
    · unfold less at e
      obtain ⟨o, ho, h2⟩ := List.any_eq_true.1 e
      obtain ⟨m, hm, hma, rfl⟩ := mem_liv.1 ho
      simp only [Bool.and_eq_true, decide_eq_true_eq] at h2
      have hmn := within_less hm hn h2.2 (fun e => h2.1 (by rw [e]))
      obtain ⟨p, hp, hw⟩ := ih m hmn hm hma
      exact ⟨p, hp, within_trans hw h2.2⟩
def found (al : List Bool) (n : Nat) : Bool := (parts al).any fun p => Sub.within p (setN n)
theorem found_of (al : List Bool) (n : Nat) (hn : n < 22) (ha : al.getD n false = true) : found al n = true := by
  obtain ⟨p, hp, hw⟩ := least_in al n hn ha
  exact List.any_eq_true.2 ⟨p, hp, hw⟩
theorem parts_nil (al : List Bool) (h : parts al = []) : any al = false := by
  cases e : any al
  · rfl
  · obtain ⟨n, hn, ha⟩ := (any_iff al).1 e
    obtain ⟨p, hp, _⟩ := least_in al n hn ha
    rw [h] at hp; cases hp
theorem parts_any {al : List Bool} {p : Nat} (h : p ∈ parts al) : any al = true := by
  obtain ⟨n, hn, ha, _⟩ := mem_liv.1 (mem_parts.1 h).1
  exact (any_iff al).2 ⟨n, hn, ha⟩
theorem parts_one {al : List Bool} {p : Nat} (h : parts al = [p]) : any al = true ∧ exc al = p ∧ amb al = false := by
  have hp : p ∈ parts al := by rw [h]; exact List.mem_singleton.2 rfl
  have hany := parts_any hp
  obtain ⟨k, hk, hka, e⟩ := mem_liv.1 (mem_parts.1 hp).1
  have hall : ∀ n, n < 22 → al.getD n false = true → Sub.within p (setN n) = true := fun n hn ha => by
    obtain ⟨q, hq, hw⟩ := least_in al n hn ha
    rw [h, List.mem_singleton] at hq
    rwa [← hq]
  have hexc : exc al = p := by
    have h64 : p < 64 := by rw [e]; exact setN_lt k
    refine Nat.eq_of_testBit_eq fun i => ?_
    by_cases hi : i < 6
    · rw [Bool.eq_iff_iff, exc_bit hany i hi]
      constructor
      · intro g; rw [e]; exact g k hk hka
      · intro g n hn ha
        have := hall n hn ha
        rw [within_test] at this
        exact this i hi g
    · have big : ∀ x : Nat, x < 64 → x.testBit i = false := fun x hx => Nat.testBit_lt_two_pow (Nat.lt_of_lt_of_le hx (show 2 ^ 6 ≤ 2 ^ i from Nat.pow_le_pow_right (by decide) (by omega)))
      rw [big _ (exc_lt al), big _ h64]
  refine ⟨hany, hexc, ?_⟩
  obtain ⟨h1, _, h3⟩ := plc_ok hany
  have : plc al = k := setN_inj h1 hk (by rw [h3, hexc, e])
  unfold amb
  rw [this, hka]; simp
theorem liv_apart (al : List Bool) : (livN al 22).Pairwise (fun a b => a ≠ b) := by
  unfold livN
  rw [List.pairwise_map]
  refine List.Pairwise.imp_of_mem ?_ (List.Pairwise.filter _ (List.nodup_range (n := 22)))
  intro a b ha hb hne e
  exact hne (setN_inj (List.mem_range.1 (List.mem_filter.1 ha).1) (List.mem_range.1 (List.mem_filter.1 hb).1) e)
theorem parts_more {al : List Bool} (h : 1 < (parts al).length) : any al = true ∧ amb al = true := by
  match e : parts al, h with
  | a :: b :: r, _ =>
    have ha : a ∈ parts al := by rw [e]; exact List.mem_cons_self ..
    have hb : b ∈ parts al := by rw [e]; exact List.mem_cons_of_mem _ (List.mem_cons_self ..)
    have hany := parts_any ha
    refine ⟨hany, ?_⟩
    have hp : (parts al).Pairwise (fun a b => a ≠ b) := by unfold parts partsOf; exact (liv_apart al).filter _
    rw [e] at hp
    have hne : a ≠ b := (List.pairwise_cons.1 hp).1 b (List.mem_cons_self ..)
    obtain ⟨h1, _, h3⟩ := plc_ok hany
    unfold amb
    rw [hany]
    cases g : al.getD (plc al) false
    · rfl
    · exfalso
      have all : ∀ p, p ∈ parts al → p = exc al := fun p hp => by
        obtain ⟨n, hn, hna, en⟩ := mem_liv.1 (mem_parts.1 hp).1
        have hw : Sub.within (exc al) p = true := by rw [en]; exact exc_within hn hna
        have hl := (mem_parts.1 hp).2
        cases d : decide (exc al = p)
        · have hx : exc al ∈ livN al 22 := mem_liv.2 ⟨plc al, h1, g, h3.symm⟩
          unfold less at hl
          have := List.any_eq_false.1 hl _ hx
          rw [hw, decide_eq_true (p := exc al ≠ p) (of_decide_eq_false d)] at this
          exact absurd rfl this
        · exact (of_decide_eq_true d).symm
      exact hne ((all a ha).trans (all b hb).symm)
theorem tell_iff (n m : Nat) (hn : n < 22) (hm : m < 22) : (((ints (tell (setN n : Int) (setN m : Int) 15)).length : Int) == 0) = ((n : Int) == (m : Int)) := by
  have g : ∀ n m : Fin 22, (((ints (tell (setN n.val : Int) (setN m.val : Int) 15)).length : Int) == 0) = ((n.val : Int) == (m.val : Int)) := by decide +kernel
  exact g ⟨n, hn⟩ ⟨m, hm⟩
end Go.Proofs.YtaooigldchojcaaDoor.Hyp
