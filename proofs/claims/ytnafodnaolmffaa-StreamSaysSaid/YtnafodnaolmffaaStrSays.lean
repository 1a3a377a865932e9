/- StreamSays over Own15. -/
import Derived.Test.YtnafodnaolmffaaStrAwake
namespace Go.Proofs.Ytnafodnaolmffaa
open Go.RowKit

set_option maxHeartbeats 8000000 in
set_option maxRecDepth 100000 in
theorem says_core (O : Own15) {w : World} {ba bb : Option Addr} {ca cb : Nat} {p l : List UInt8} (P : Came w ba ca p) (D : Came w bb cb l) (h : ¬ (2000 : Int) < (p.length : Int) + l.length) :
    Calls Try.prog 3 #[.slice ba p.length ca, .slice bb l.length cb] w fun e w' => e = .returned (.bool true) ∧ Below w.heap.size w w' := by
  have AW := Lib.hid (awake_any O)
  have OS := Lib.hid fun (w' : World) (h' : Below w.heap.size w w') => O.split w' bb cb l (D.keep h') (by omega)
  have RS := Lib.hid fun (w' : World) (h' : Below w.heap.size w w') => Ref15.Split_came (D.keep h') (by omega)
  have OF := Lib.hid fun (w' : World) (h' : Below w.heap.size w w') => O.feed w' ba bb ca cb p l (P.keep h') (D.keep h') (by omega)
  have RF := Lib.hid fun (w' : World) (h' : Below w.heap.size w w') => Ref15.Feed_came (P.keep h') (D.keep h') (by omega)
  have OL := Lib.hid fun (w' : World) (h' : Below w.heap.size w w') => O.lost w' bb cb l (D.keep h') (by omega)
  have RL := Lib.hid fun (w' : World) (h' : Below w.heap.size w w') => Ref15.Lost_came (D.keep h') (by omega)
  have hp := P.max
  have hp' := P.le
  have hd := D.max
  have hd' := D.le
  unfold maxLen at hp hd
  have h1 : (p.length : Int) ≤ 9223372036854775807 := by omega
  have h2 : (l.length : Int) ≤ 9223372036854775807 := by omega
  clear P D hp hp' hd hd'
  generalize (p ++ l).drop (splitF (p ++ l)).2.1 = R at *
  generalize splitF (p ++ l) = S2 at *
  generalize splitF l = S1 at *
  obtain ⟨F1, n1, k1⟩ := S1
  obtain ⟨F2, n2, k2⟩ := S2
  simp only at OS RS OF RF OL RL
  go_enter Try.func3, Try.ntmps3
  go_wp2_with fail
  refine (OS.out w (Below.refl _ _)).mono ?_; rintro e w1 ⟨v1, c1, rfl, A1, hb1⟩
  have HB1 := Lib.hid hb1
  have HA1 := Lib.hid A1
  clear OS hb1 A1
  go_wp2_with fail
  refine (RS.out w1 HB1.out).mono ?_; rintro e w2 ⟨v, rfl, hf⟩
  obtain ⟨v2, c2, rfl, A2⟩ := hf.came
  have HB2 := Lib.hid (belowT HB1.out hf.below)
  have HA1b := Lib.hid (HA1.out.keep hf.below)
  have HA2 := Lib.hid A2
  clear RS hf A2 HB1 HA1
  go_wp2_with fail
  refine (OF.out w2 HB2.out).mono ?_; rintro e w3 ⟨v3, c3, u3, d3, rfl, A3, D3, hb3, _⟩
  have HB3 := Lib.hid (belowT HB2.out hb3)
  have HA1c := Lib.hid (HA1b.out.keep hb3)
  have HA2b := Lib.hid (HA2.out.keep hb3)
  have HA3 := Lib.hid A3
  have HD3 := Lib.hid D3
  clear OF hb3 A3 D3 HB2 HA1b HA2
  go_wp2_with fail
  refine (RF.out w3 HB3.out).mono ?_; rintro e w4 ⟨v, u, rfl, hf, hu⟩
  obtain ⟨v4, c4, rfl, A4⟩ := hf.came
  have HB4 := Lib.hid (belowT HB3.out hf.below)
  have HA1d := Lib.hid (HA1c.out.keep hf.below)
  have HA2c := Lib.hid (HA2b.out.keep hf.below)
  have HA3b := Lib.hid (HA3.out.keep hf.below)
  have HD3b := Lib.hid (HD3.out.keep hf.below)
  have HA4 := Lib.hid A4
  have HU := Lib.hid hu
  clear RF hf A4 hu HB3 HA1c HA2b HA3 HD3
  go_wp2_with fail
  have SM := Same_came HA1d.out HA2c.out
  rw [decide_eq_true rfl] at SM
  refine SM.mono ?_; rintro e w5 ⟨rfl, hb5⟩
  have HB5 := Lib.hid (belowT HB4.out hb5)
  have HA3c := Lib.hid (HA3b.out.keep hb5)
  have HA4b := Lib.hid (HA4.out.keep hb5)
  have HD3c := Lib.hid (HD3b.out.keep hb5)
  have HUb := Lib.hid (HU.out.keep hb5)
  clear SM hb5 HA1d HA2c HA3b HA4 HD3b HU HB4
  go_wp2_with fail
  have SM := Same_came HA3c.out HA4b.out
  rw [decide_eq_true rfl] at SM
  refine SM.mono ?_; rintro e w6 ⟨rfl, hb6⟩
  have HB6 := Lib.hid (belowT HB5.out hb6)
  have q1 := (HD3c.out.keep hb6).string
  have q2 := HUb.out.string w6 hb6
  clear SM hb6 HA3c HA4b HD3c HUb HB5
  generalize (Value.slice u3 R.length d3) = U at *
  go_wp2_with fail
  refine (OL.out w6 HB6.out).mono ?_; rintro e w7 ⟨rfl, hb7⟩
  have HB7 := Lib.hid (belowT HB6.out hb7)
  clear OL hb7 HB6
  go_wp2_with fail
  refine (RL.out w7 HB7.out).mono ?_; rintro e w8 ⟨rfl, hb8⟩
  have HB8 := Lib.hid (belowT HB7.out hb8)
  clear RL hb8 HB7
  go_wp2_with fail
  refine (AW.out w8).mono ?_; rintro e w9 ⟨rfl, hb9⟩
  have HB9 := Lib.hid (belowT HB8.out hb9)
  clear AW hb9 HB8
  go_wp2
  go_ret
  exact ⟨rfl, HB9.out⟩

theorem says_long (ba bb : Option Addr) (la ca lb cb : Nat) (w : World) (_h1 : (la : Int) ≤ 9223372036854775807) (_h2 : (lb : Int) ≤ 9223372036854775807) (hl : (2000 : Int) < wrap64 ((la : Int) + lb))
    (AW : Hid (∀ w, Calls Try.prog 7 #[] w fun e w' => e = .returned (.bool true) ∧ Below w.heap.size w w')) :
    Calls Try.prog 3 #[.slice ba la ca, .slice bb lb cb] w fun e w' => e = .returned (.bool true) ∧ Below w.heap.size w w' := by
  go_enter Try.func3, Try.ntmps3
  go_wp2_with fail
  refine (AW.out _).mono ?_; rintro e w1 ⟨rfl, hb1⟩
  go_wp2_with fail
  go_ret
  exact ⟨rfl, hb1⟩

theorem says_any (O : Own15) {w : World} {ba bb : Option Addr} {ca cb : Nat} {p l : List UInt8} (P : Came w ba ca p) (D : Came w bb cb l) (b1 : p.length ≤ 140737488355328) (b2 : l.length ≤ 140737488355328) :
    Calls Try.prog 3 #[.slice ba p.length ca, .slice bb l.length cb] w fun e w' => e = .returned (.bool true) ∧ Below w.heap.size w w' := by
  by_cases h : (2000 : Int) < (p.length : Int) + l.length
  · exact says_long ba bb _ ca _ cb w (by omega) (by omega) (by rw [show wrap64 ((p.length : Int) + l.length) = (p.length : Int) + l.length by unfold wrap64; omega]; exact h) (Lib.hid (awake_any O))
  · exact says_core O P D h
end Go.Proofs.Ytnafodnaolmffaa
