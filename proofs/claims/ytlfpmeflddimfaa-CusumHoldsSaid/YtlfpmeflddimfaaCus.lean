/- Counts of excesses, as plain functions on whole numbers; what follows of them. No program is named here. -/
import Derived.Test.YtlfpmeflddimfaaSpec
namespace Go.Proofs.Ytlfpmeflddimfaa.Cus

def step (c e k : Int) : Int := Fix.clamp (Fix.sat c e) 0 (max k 0)
def steps (c k : Int) : List Int → Int
  | [] => c
  | e :: l => steps (step c e k) k l
/-- the place, from i on, of the first behind which the count is lim or more -/
def reach (lim k c : Int) (i : Nat) : List Int → Int
  | [] => -1
  | e :: l => if lim ≤ step c e k then (i : Int) else reach lim k (step c e k) (i + 1) l

theorem step_low (c e k : Int) : 0 ≤ step c e k := by unfold step Fix.clamp; omega
theorem step_high (c e k : Int) : step c e k ≤ max 0 k := by unfold step Fix.clamp; omega
theorem sat_in (a b : Int) : Fix.Room (Fix.sat a b) := by
  unfold Fix.sat Fix.Room; split
  · omega
  · split <;> omega
theorem step_room (c e k : Int) : Fix.Room (step c e k) := by
  have h := sat_in c e
  unfold step Fix.clamp
  obtain ⟨h1, h2⟩ := h
  exact ⟨by omega, by omega⟩

theorem steps_app (k : Int) : ∀ (c : Int) (l m : List Int), steps c k (l ++ m) = steps (steps c k l) k m
  | _, [], _ => rfl
  | c, e :: l, m => steps_app k (step c e k) l m
theorem steps_room (k : Int) : ∀ (c : Int) (l : List Int), Fix.Room c → Fix.Room (steps c k l)
  | _, [], h => h
  | c, e :: l, _ => steps_room k (step c e k) l (step_room c e k)
theorem steps_bounds (k : Int) : ∀ (c : Int) (l : List Int), 0 ≤ c → c ≤ max 0 k → 0 ≤ steps c k l ∧ steps c k l ≤ max 0 k
  | _, [], h1, h2 => ⟨h1, h2⟩
  | c, e :: l, _, _ => steps_bounds k (step c e k) l (step_low ..) (step_high ..)
theorem steps_take (c k : Int) (l : List Int) (j : Nat) (h : j < l.length) : steps c k (l.take (j + 1)) = step (steps c k (l.take j)) (l.getD j 0) k := by
  rw [List.take_succ_eq_append_getElem h, steps_app, show l.getD j 0 = l[j] by simp [List.getD, List.getElem?_eq_getElem h]]
  rfl
theorem drop_cons (l : List Int) (j : Nat) (h : j < l.length) : l.drop j = l.getD j 0 :: l.drop (j + 1) := by
  rw [List.drop_eq_getElem_cons h, show l.getD j 0 = l[j] by simp [List.getD, List.getElem?_eq_getElem h]]
/-- the search at its j-th round -/
theorem reach_round (lim k c : Int) (l : List Int) (j : Nat) (h : j < l.length) :
    reach lim k (steps c k (l.take j)) j (l.drop j) = if lim ≤ steps c k (l.take (j + 1)) then (j : Int) else reach lim k (steps c k (l.take (j + 1))) (j + 1) (l.drop (j + 1)) := by
  rw [drop_cons l j h, steps_take c k l j h]
  rfl
theorem reach_end (lim k c : Int) (l : List Int) : reach lim k c l.length (l.drop l.length) = -1 := by rw [List.drop_length]; rfl

/-- excesses that are not above 0 never count -/
theorem step_none (e k : Int) (h : e ≤ 0) : step 0 e k = 0 := by
  unfold step Fix.clamp Fix.sat
  split
  · omega
  · split <;> omega
theorem steps_none (k : Int) : ∀ l : List Int, (∀ x ∈ l, x ≤ 0) → steps 0 k l = 0
  | [], _ => rfl
  | e :: l, h => by
    show steps (step 0 e k) k l = 0
    rw [step_none e k (h e (List.mem_cons_self ..))]
    exact steps_none k l fun x hx => h x (List.mem_cons_of_mem _ hx)
theorem reach_none (k : Int) : ∀ (l : List Int) (i : Nat), (∀ x ∈ l, x ≤ 0) → reach 1 k 0 i l = -1
  | [], _, _ => rfl
  | e :: l, i, h => by
    show (if 1 ≤ step 0 e k then (i : Int) else reach 1 k (step 0 e k) (i + 1) l) = -1
    rw [step_none e k (h e (List.mem_cons_self ..)), if_neg (by omega)]
    exact reach_none k l (i + 1) fun x hx => h x (List.mem_cons_of_mem _ hx)

/-- a count is not lower for a greater count ahead and a greater excess -/
theorem sat_mono {a b c d : Int} (h : a ≤ b) (g : c ≤ d) : Fix.sat a c ≤ Fix.sat b d := by
  unfold Fix.sat
  repeat' split
  all_goals omega
theorem step_mono {a b c d : Int} (k : Int) (h : a ≤ b) (g : c ≤ d) : step a c k ≤ step b d k := by
  have := sat_mono h g
  unfold step Fix.clamp
  omega

/-- what a count is at least, if each excess is by at least -/
theorem step_far (c e k by_ T : Int) (h0 : 0 ≤ c) (he : by_ ≤ e) (hb : 0 ≤ by_) (hT : T ≤ c ∨ k ≤ c) (hk : k < 9223372036854775807) (hk0 : 0 ≤ k) : T + by_ ≤ step c e k ∨ k ≤ step c e k := by
  unfold step Fix.clamp Fix.sat
  split
  · omega
  · split <;> omega
theorem steps_far (k by_ : Int) (hb : 0 ≤ by_) (hk : k < 9223372036854775807) (hk0 : 0 ≤ k) : ∀ (l : List Int) (c T : Int), 0 ≤ c → (∀ x ∈ l, by_ ≤ x) → (T ≤ c ∨ k ≤ c) → (T + l.length * by_ ≤ steps c k l ∨ k ≤ steps c k l)
  | [], c, T, _, _, h => by simpa [steps] using h
  | e :: l, c, T, h0, hl, h => by
    have s := step_far c e k by_ T h0 (hl e (List.mem_cons_self ..)) hb h hk hk0
    have r := steps_far k by_ hb hk hk0 l (step c e k) (T + by_) (step_low ..) (fun x hx => hl x (List.mem_cons_of_mem _ hx)) s
    show T + ((e :: l).length : Nat) * by_ ≤ steps (step c e k) k l ∨ k ≤ steps (step c e k) k l
    rw [List.length_cons, Int.natCast_add, Int.add_mul]
    simp only [Int.natCast_one, Int.one_mul]
    omega
/-- a limit that the whole reaches is reached at a place within -/
theorem reach_in (lim k : Int) : ∀ (l : List Int) (c : Int) (i : Nat), c < lim → lim ≤ steps c k l → (i : Int) ≤ reach lim k c i l ∧ reach lim k c i l < i + l.length
  | [], c, i, h, g => by simp only [steps] at g; omega
  | e :: l, c, i, h, g => by
    show (i : Int) ≤ (if lim ≤ step c e k then (i : Int) else reach lim k (step c e k) (i + 1) l) ∧ (if lim ≤ step c e k then (i : Int) else reach lim k (step c e k) (i + 1) l) < i + ((e :: l).length : Nat)
    rw [List.length_cons]
    split
    · omega
    · have := reach_in lim k l (step c e k) (i + 1) (by omega) g
      omega
end Go.Proofs.Ytlfpmeflddimfaa.Cus
