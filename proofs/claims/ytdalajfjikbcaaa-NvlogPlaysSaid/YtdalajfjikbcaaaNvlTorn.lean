/- NvlogTorn over Own19. -/
import Derived.Test.YtdalajfjikbcaaaNvlSpoilt
import Derived.Test.YtdalajfjikbcaaaOpenOps
namespace Go.Proofs.Ytdalajfjikbcaaa
open Go.RowKit

/-- bytes elsewhere stay where a variable is written -/
theorem Came.var {w : World} {ba : Option Addr} {cap : Nat} {l : List UInt8} {g : Nat} {c : Array Value} {T : TypeId} (C : Came w ba cap l) (V : Vr w g c T) (hc : ∀ (j : Nat) (z : Int), c[j]? ≠ some (Value.int .u8 z)) (j : Nat) (u : Value) : Came (w.setCell ⟨g, j, none⟩ u) ba cap l :=
  ⟨C.le, C.max, C.nil, fun h => by
    obtain ⟨b, o, e, L⟩ := C.lies h
    refine ⟨b, o, e, fun i hi => ?_⟩
    have hne : b ≠ g := fun k => by
      have h1 := L i hi
      rw [k, cell_of_row _ _ _ _ _ _ V] at h1
      exact hc _ _ h1
    rw [World.cell?_setCell_other _ _ _ _ (by intro k; injection k with k _; exact hne k.symm)]
    exact L i hi⟩
theorem ints3 (x y z : Int) : ∀ (j : Nat) (v : Int), (#[Value.int .i64 x, .int .i64 y, .int .i64 z] : Array Value)[j]? ≠ some (Value.int .u8 v) := fun j v h => by
  match j, h with
  | 0, h => simp at h
  | 1, h => simp at h
  | 2, h => simp at h
  | j + 3, h => simp at h
/-- a note written over a note -/
theorem Vr.note {w : World} {g : Nat} {T : TypeId} {x y z : Int} (V : Vr w g #[.int .i64 x, .int .i64 y, .int .i64 z] T) (x' y' z' : Int) :
    Vr (((w.setCell ⟨g, 0, none⟩ (.int .i64 x')).setCell ⟨g, 1, none⟩ (.int .i64 y')).setCell ⟨g, 2, none⟩ (.int .i64 z')) g #[.int .i64 x', .int .i64 y', .int .i64 z'] T :=
  ((V.set 0 (.int .i64 x')).set 1 (.int .i64 y')).set 2 (.int .i64 z')
theorem Came.note {w : World} {ba : Option Addr} {cap : Nat} {l : List UInt8} {g : Nat} {T : TypeId} {x y z : Int} (C : Came w ba cap l) (V : Vr w g #[.int .i64 x, .int .i64 y, .int .i64 z] T) (x' y' z' : Int) :
    Came (((w.setCell ⟨g, 0, none⟩ (.int .i64 x')).setCell ⟨g, 1, none⟩ (.int .i64 y')).setCell ⟨g, 2, none⟩ (.int .i64 z')) ba cap l := by
  have V1 : Vr (w.setCell ⟨g, 0, none⟩ (.int .i64 x')) g #[.int .i64 x', .int .i64 y, .int .i64 z] T := V.set 0 (.int .i64 x')
  have V2 : Vr ((w.setCell ⟨g, 0, none⟩ (.int .i64 x')).setCell ⟨g, 1, none⟩ (.int .i64 y')) g #[.int .i64 x', .int .i64 y', .int .i64 z] T := V1.set 1 (.int .i64 y')
  exact ((C.var V (ints3 _ _ _) 0 _).var V1 (ints3 _ _ _) 1 _).var V2 (ints3 _ _ _) 2 _
theorem below_note {B g : Nat} {w0 w : World} (h : Below B w0 w) (hg : B ≤ g) (u v x : Value) : Below B w0 (((w.setCell ⟨g, 0, none⟩ u).setCell ⟨g, 1, none⟩ v).setCell ⟨g, 2, none⟩ x) :=
  ((h.setCell (p := ⟨g, 0, none⟩) hg _).setCell (p := ⟨g, 1, none⟩) hg _).setCell (p := ⟨g, 2, none⟩) hg _

/-- as the law knows a memory: whether it has a note, and which -/
structure Known (m : List UInt8) (n : Nt) (has : Bool) (j : Nat) : Prop where
  ok : OkM m
  load : loadF m = if has then (n, 0) else (nt0, 9)
  yes : has = true → ¬ (newF m).1 < 0
  no : has = false → (newF m).1 < 0
  seq : (newF m).2.2 ≤ j
theorem Known.new (n : Nt) : Known zeroM n false 0 := ⟨zero_ok, by rw [load_of zero_new]; rfl, (fun h => by cases h), (fun _ => by rw [zero_new]; show (-1 : Int) < 0; decide), by rw [zero_new]; exact Nat.le_refl _⟩
theorem Known.none {m : List UInt8} {n : Nt} {j : Nat} (h : Known m n false j) (k : Nt) : Known m k false j := ⟨h.ok, h.load, h.yes, h.no, h.seq⟩
theorem Known.more {m : List UInt8} {n : Nt} {has : Bool} {j : Nat} (h : Known m n has j) : Known m n has (j + 1) := ⟨h.ok, h.load, h.yes, h.no, Nat.le_succ_of_le h.seq⟩
theorem Known.whole {m : List UInt8} {n k : Nt} {has : Bool} {j : Nat} (h : Known m n has j) (hj : j ≤ 1000) (hk : rightN k = true) (most : Int) (hm : 12 ≤ most) : (saveF m k most).2 = 0 ∧ Known (saveF m k most).1 k true (j + 1) := by
  obtain ⟨a, b, c, _⟩ := save_ok h.ok hk (by have := h.seq; omega) most
  have e := c hm
  exact ⟨a, b, by rw [load_of e, if_neg (toF_nonneg _)]; rfl, fun _ => by rw [e]; exact toF_nonneg _, (fun x => by cases x), by rw [e]; exact Nat.succ_le_succ h.seq⟩
theorem Known.torn {m : List UInt8} {n k : Nt} {has : Bool} {j : Nat} (h : Known m n has j) (hj : j ≤ 1000) (hk : rightN k = true) (most : Int) (hm : most < 12) : (saveF m k most).2 = 0 ∧ Known (saveF m k most).1 n has (j + 1) := by
  obtain ⟨a, b, _, d⟩ := save_ok h.ok hk (by have := h.seq; omega) most
  have e := d hm
  refine ⟨a, b, ?_, fun x => by rw [e]; exact h.yes x, fun x => by rw [e]; exact h.no x, by rw [e]; exact Nat.le_succ_of_le h.seq⟩
  have l := h.load
  unfold loadF at l ⊢
  rw [e]; exact l

set_option maxHeartbeats 16000000 in
set_option maxRecDepth 100000 in
theorem torn_core (O : Own19) {w : World} {ba : Option Addr} {ca : Nat} {l : List Nop} (A : CameOps w ba ca l) (h1 : (l.length : Int) ≤ 40) :
    Calls Try.prog 4 #[.slice ba l.length ca] w fun e w' => e = .returned (.bool true) ∧ Below w.heap.size w w' := by
  have AW := Lib.hid (awake_any O)
  have ON := Lib.hid O.new
  have LD := Lib.hid fun (w : World) (ba : Option Addr) (cap : Nat) (m : List UInt8) (n : Nt) (y : Int) (C : Came w ba cap m) (hl : m.length = 24) (hd : loadF m = (n, y)) => (by
    have := O.load w ba cap m C (by omega)
    rw [hd, hl] at this
    exact this : Calls Try.prog 13 #[.slice ba 24 cap] w fun e w' => e = .returned (.tuple #[nv n, .int .i64 y]) ∧ Below w.heap.size w w')
  have SV := Lib.hid fun (w : World) (ba : Option Addr) (cap : Nat) (m k : List UInt8) (n : Nt) (mo er : Int) (C : Came w ba cap m) (hl : m.length = 24) (hk : k.length = 24) (hd : saveF m n mo = (k, er)) => (by
    have := O.save w ba cap m n mo C (by omega)
    rw [hd, hl] at this
    simp only [hk] at this
    exact this : Calls Try.prog 11 #[.slice ba 24 cap, nv n, .int .i64 mo] w fun e w' => ∃ b2 c2, e = .returned (.tuple #[.slice b2 24 c2, .int .i64 er]) ∧ Came w' b2 c2 k ∧ Below w.heap.size w w')
  have HA := Lib.hid A
  clear A
  go_enter Try.func4, Try.ntmps4
  go_wp2_with fail
  refine (ON.out w).mono ?_; rintro e w1 ⟨b1, c1, rfl, C1, hb1⟩
  have HG := Lib.hid hb1.size
  have CS := Lib.hid (C1.keep (below1 w1 (.cells #[.int .i64 0, .int .i64 0, .int .i64 0] 26)))
  have HS := Lib.hid (belowT hb1 (below1 w1 (.cells #[.int .i64 0, .int .i64 0, .int .i64 0] 26)))
  have VS := Lib.hid (Vr.new w1 #[.int .i64 0, .int .i64 0, .int .i64 0] 26)
  obtain ⟨g, hg⟩ : ∃ g, g = w1.heap.size := ⟨_, rfl⟩
  rw [← hg] at VS HG
  have hG := Lib.hid hg
  clear C1 hb1 ON hg
  go_wp2
  rw [← hG.out]
  go_loopw [3, 5, 23] (fun v hv i wr => ∃ (j : Nat) (m : List UInt8) (bm : Option Addr) (cm : Nat) (x y z : Int) (has : Bool), j ≤ l.length ∧ i = .int .i64 j ∧ v = .slice bm m.length cm ∧ hv = .bool has ∧ Known m ⟨x, y, z⟩ has j ∧ Came wr bm cm m ∧
    Vr wr g #[.int .i64 x, .int .i64 y, .int .i64 z] 26 ∧ Below w.heap.size w wr) (fun _ _ i _ => l.length - (intOf i).toNat)
  case atStart => exact ⟨0, zeroM, b1, c1, 0, 0, 0, false, Nat.zero_le _, rfl, rfl, rfl, Known.new _, CS.out, VS.out, HS.out⟩
  case round =>
    obtain ⟨j, m, bm, cm, x, y, z, has, hj, rfl, rfl, rfl, hk, hc, hv, hb⟩ := hrel
    have HK := Lib.hid hk
    rw [hk.ok.len]
    clear CS HS VS
    by_cases hlt : (j : Int) < l.length
    · obtain ⟨b, o, rfl, L⟩ := (HA.out.keep hb).lies (by omega)
      have L := L j (by omega)
      generalize l.getD j op0 = nop at *
      obtain ⟨sp, ⟨p, q, r⟩, mo⟩ := nop
      have k0 : wr.cell? ⟨b, o + j * 5, none⟩ = some (.bool sp) := L 0 _ rfl
      have k1 : wr.cell? ⟨b, o + j * 5 + 1, none⟩ = some (.int .i64 p) := L 1 _ rfl
      have k2 : wr.cell? ⟨b, o + j * 5 + 2, none⟩ = some (.int .i64 q) := L 2 _ rfl
      have k3 : wr.cell? ⟨b, o + j * 5 + 3, none⟩ = some (.int .i64 r) := L 3 _ rfl
      have k4 : wr.cell? ⟨b, o + j * 5 + 4, none⟩ = some (.int .i64 mo) := L 4 _ rfl
      have hd : (j : Int) ≥ 0 := by omega
      have hj2 : (j : Int) ≤ 40 := by omega
      have hba := below1 wr (.cells #[.bool sp, .int .i64 p, .int .i64 q, .int .i64 r, .int .i64 mo] 28)
      have HB1 := Lib.hid (belowT hb hba)
      have V1 := Lib.hid (hv.keep hba)
      have O1 := Lib.hid (hasl wr [.bool sp, .int .i64 p, .int .i64 q, .int .i64 r, .int .i64 mo] 28)
      have C1 := Lib.hid (hc.keep hba)
      clear L hk hc hv hb hba
      cases sp
      · cases has
        · have KL := HK.out.load
          have X := Lib.hid (LD.out _ bm cm m nt0 9 (C1.out) HK.out.ok.len KL)
          simp only [nv, nt0] at X
          clear KL
          go_wp2_with fail
          refine X.out.mono ?_; rintro e w2 ⟨rfl, hb2⟩
          have hb2a := belowT hb2 (below1 w2 (.cells #[.int .i64 0, .int .i64 0, .int .i64 0] 26))
          have HB2 := Lib.hid (belowT HB1.out hb2a)
          have V2 := Lib.hid (V1.out.keep hb2a)
          have O2 := Lib.hid (O1.out.keep hb2a)
          have C2 := Lib.hid (C1.out.keep hb2a)
          have U2 := Lib.hid (hasl w2 [.int .i64 0, .int .i64 0, .int .i64 0] 26)
          have v0 := V2.out.at 0 rfl
          have v1 := V2.out.at 1 rfl
          have v2 := V2.out.at 2 rfl
          have u0 := U2.out.at 0 rfl
          have u1 := U2.out.at 1 rfl
          have u2 := U2.out.at 2 rfl
          have o0 := O2.out.at 1 rfl
          have o1 := O2.out.at 2 rfl
          have o2 := O2.out.at 3 rfl
          have o3 := O2.out.at 4 rfl
          clear X hb2 hb2a HB1 V1 O1 C1 k0 k1 k2 k3 k4
          cases hr : rightN ⟨p, q, r⟩
          · obtain ⟨e1, e2⟩ := save_wrong (n := ⟨p, q, r⟩) HK.out.ok (Or.inl hr) mo
            obtain ⟨er, her⟩ : ∃ er, er = (saveF m ⟨p, q, r⟩ mo).2 := ⟨_, rfl⟩
            rw [← her] at e1
            have X := Lib.hid (SV.out _ bm cm m m ⟨p, q, r⟩ mo er C2.out HK.out.ok.len HK.out.ok.len (Prod.ext e2 her.symm))
            have hq : (er == 0) = false := by simpa using e1
            simp only [nv] at X
            clear e1 e2 her hr
            go_wp2_with fail
            refine X.out.mono ?_; rintro e w3 ⟨b3, c3, rfl, C3, hb3⟩
            have HB3 := Lib.hid (belowT HB2.out hb3)
            have V3 := Lib.hid (V2.out.keep hb3)
            have D3 := Lib.hid (C2.out.keep hb3)
            have s1 := C3.string
            have s2 := D3.out.string
            rw [HK.out.ok.len] at s1 s2
            clear X hb3 C3 HB2 V2 O2 U2 C2 v0 v1 v2 u0 u1 u2 o0 o1 o2 o3
            go_wp2
            go_roundw
            case rel => exact ⟨j + 1, m, bm, cm, x, y, z, false, by omega, rfl, by rw [HK.out.ok.len], rfl, HK.out.more, D3.out, V3.out, HB3.out⟩
            case measure => simp [intOf]; omega
          · by_cases hm : mo < 12
            · obtain ⟨e1, K2⟩ := HK.out.torn (by omega) hr mo (by omega)
              have hk24 := K2.ok.len
              have X := Lib.hid (SV.out _ bm cm m _ ⟨p, q, r⟩ mo 0 C2.out HK.out.ok.len hk24 (pair_of e1))
              generalize (saveF m ⟨p, q, r⟩ mo).1 = K at *
              have HK2 := Lib.hid K2
              have KL := K2.load
              simp only [nv] at X
              clear e1 hr K2 hk24
              go_wp2_with fail
              refine X.out.mono ?_; rintro e w3 ⟨b3, c3, rfl, C3, hb3⟩
              have HB3 := Lib.hid (belowT HB2.out hb3)
              have V3 := Lib.hid (V2.out.keep hb3)
              have O3 := Lib.hid (O2.out.keep hb3)
              have D3 := Lib.hid C3
              have Y := Lib.hid (LD.out _ b3 c3 K nt0 9 C3 HK2.out.ok.len KL)
              simp only [nv, nt0] at Y
              clear X hb3 C3 HB2 V2 O2 U2 C2 v0 v1 v2 u0 u1 u2 o0 o1 o2 o3 KL
              go_wp2_with fail
              refine Y.out.mono ?_; rintro e w4 ⟨rfl, hb4⟩
              have hb4a := belowT hb4 (below1 w4 (.cells #[.int .i64 0, .int .i64 0, .int .i64 0] 26))
              have HB4 := Lib.hid (belowT HB3.out hb4a)
              have V4 := Lib.hid (V3.out.keep hb4a)
              have O4 := Lib.hid (O3.out.keep hb4a)
              have D4 := Lib.hid (D3.out.keep hb4a)
              have U4 := Lib.hid (hasl w4 [.int .i64 0, .int .i64 0, .int .i64 0] 26)
              have v0 := V4.out.at 0 rfl; have f0 := V4.out.free 0
              have v1 := V4.out.at 1 rfl; have f1 := V4.out.free 1
              have v2 := V4.out.at 2 rfl; have f2 := V4.out.free 2
              have u0 := U4.out.at 0 rfl
              have u1 := U4.out.at 1 rfl
              have u2 := U4.out.at 2 rfl
              have o0 := O4.out.at 1 rfl
              have o1 := O4.out.at 2 rfl
              have o2 := O4.out.at 3 rfl
              have o3 := O4.out.at 4 rfl
              have hmd : decide (mo ≥ 12) = false := decide_eq_false (by omega)
              have V5 := Lib.hid (V4.out.note 0 0 0)
              have D5 := Lib.hid (D4.out.note V4.out 0 0 0)
              have HB5 := Lib.hid (below_note HB4.out HG.out (.int .i64 0) (.int .i64 0) (.int .i64 0))
              clear Y hb4 hb4a HB3 V3 O3 D3 U4 O4 V4 D4 HB4 hm
              go_wp2
              go_roundw
              case rel => exact ⟨j + 1, K, b3, c3, 0, 0, 0, false, by omega, rfl, by rw [HK2.out.ok.len], rfl, HK2.out.none _, D5.out, V5.out, HB5.out⟩
              case measure => simp [intOf]; omega
            · obtain ⟨e1, K2⟩ := HK.out.whole (by omega) hr mo (by omega)
              have hk24 := K2.ok.len
              have X := Lib.hid (SV.out _ bm cm m _ ⟨p, q, r⟩ mo 0 C2.out HK.out.ok.len hk24 (pair_of e1))
              generalize (saveF m ⟨p, q, r⟩ mo).1 = K at *
              have HK2 := Lib.hid K2
              have KL := K2.load
              simp only [nv] at X
              clear e1 hr K2 hk24
              go_wp2_with fail
              refine X.out.mono ?_; rintro e w3 ⟨b3, c3, rfl, C3, hb3⟩
              have HB3 := Lib.hid (belowT HB2.out hb3)
              have V3 := Lib.hid (V2.out.keep hb3)
              have O3 := Lib.hid (O2.out.keep hb3)
              have D3 := Lib.hid C3
              have Y := Lib.hid (LD.out _ b3 c3 K ⟨p, q, r⟩ 0 C3 HK2.out.ok.len KL)
              simp only [nv] at Y
              clear X hb3 C3 HB2 V2 O2 U2 C2 v0 v1 v2 u0 u1 u2 o0 o1 o2 o3 KL
              go_wp2_with fail
              refine Y.out.mono ?_; rintro e w4 ⟨rfl, hb4⟩
              have hb4a := belowT hb4 (below1 w4 (.cells #[.int .i64 p, .int .i64 q, .int .i64 r] 26))
              have HB4 := Lib.hid (belowT HB3.out hb4a)
              have V4 := Lib.hid (V3.out.keep hb4a)
              have O4 := Lib.hid (O3.out.keep hb4a)
              have D4 := Lib.hid (D3.out.keep hb4a)
              have U4 := Lib.hid (hasl w4 [.int .i64 p, .int .i64 q, .int .i64 r] 26)
              have v0 := V4.out.at 0 rfl; have f0 := V4.out.free 0
              have v1 := V4.out.at 1 rfl; have f1 := V4.out.free 1
              have v2 := V4.out.at 2 rfl; have f2 := V4.out.free 2
              have u0 := U4.out.at 0 rfl
              have u1 := U4.out.at 1 rfl
              have u2 := U4.out.at 2 rfl
              have o0 := O4.out.at 1 rfl
              have o1 := O4.out.at 2 rfl
              have o2 := O4.out.at 3 rfl
              have o3 := O4.out.at 4 rfl
              have hmd : decide (mo ≥ 12) = true := decide_eq_true (by omega)
              have V5 := Lib.hid (V4.out.note p q r)
              have D5 := Lib.hid (D4.out.note V4.out p q r)
              have HB5 := Lib.hid (below_note HB4.out HG.out (.int .i64 p) (.int .i64 q) (.int .i64 r))
              clear Y hb4 hb4a HB3 V3 O3 D3 U4 O4 V4 D4 HB4 hm
              go_wp2
              go_roundw
              case rel => exact ⟨j + 1, K, b3, c3, p, q, r, true, by omega, rfl, by rw [HK2.out.ok.len], rfl, HK2.out, D5.out, V5.out, HB5.out⟩
              case measure => simp [intOf]; omega
        · have KL := HK.out.load
          have X := Lib.hid (LD.out _ bm cm m ⟨x, y, z⟩ 0 (C1.out) HK.out.ok.len KL)
          simp only [nv] at X
          clear KL
          go_wp2_with fail
          refine X.out.mono ?_; rintro e w2 ⟨rfl, hb2⟩
          have hb2a := belowT hb2 (below1 w2 (.cells #[.int .i64 x, .int .i64 y, .int .i64 z] 26))
          have HB2 := Lib.hid (belowT HB1.out hb2a)
          have V2 := Lib.hid (V1.out.keep hb2a)
          have O2 := Lib.hid (O1.out.keep hb2a)
          have C2 := Lib.hid (C1.out.keep hb2a)
          have U2 := Lib.hid (hasl w2 [.int .i64 x, .int .i64 y, .int .i64 z] 26)
          have v0 := V2.out.at 0 rfl
          have v1 := V2.out.at 1 rfl
          have v2 := V2.out.at 2 rfl
          have u0 := U2.out.at 0 rfl
          have u1 := U2.out.at 1 rfl
          have u2 := U2.out.at 2 rfl
          have o0 := O2.out.at 1 rfl
          have o1 := O2.out.at 2 rfl
          have o2 := O2.out.at 3 rfl
          have o3 := O2.out.at 4 rfl
          clear X hb2 hb2a HB1 V1 O1 C1 k0 k1 k2 k3 k4
          cases hr : rightN ⟨p, q, r⟩
          · obtain ⟨e1, e2⟩ := save_wrong (n := ⟨p, q, r⟩) HK.out.ok (Or.inl hr) mo
            obtain ⟨er, her⟩ : ∃ er, er = (saveF m ⟨p, q, r⟩ mo).2 := ⟨_, rfl⟩
            rw [← her] at e1
            have X := Lib.hid (SV.out _ bm cm m m ⟨p, q, r⟩ mo er C2.out HK.out.ok.len HK.out.ok.len (Prod.ext e2 her.symm))
            have hq : (er == 0) = false := by simpa using e1
            simp only [nv] at X
            clear e1 e2 her hr
            go_wp2_with fail
            refine X.out.mono ?_; rintro e w3 ⟨b3, c3, rfl, C3, hb3⟩
            have HB3 := Lib.hid (belowT HB2.out hb3)
            have V3 := Lib.hid (V2.out.keep hb3)
            have D3 := Lib.hid (C2.out.keep hb3)
            have s1 := C3.string
            have s2 := D3.out.string
            rw [HK.out.ok.len] at s1 s2
            clear X hb3 C3 HB2 V2 O2 U2 C2 v0 v1 v2 u0 u1 u2 o0 o1 o2 o3
            go_wp2
            go_roundw
            case rel => exact ⟨j + 1, m, bm, cm, x, y, z, true, by omega, rfl, by rw [HK.out.ok.len], rfl, HK.out.more, D3.out, V3.out, HB3.out⟩
            case measure => simp [intOf]; omega
          · by_cases hm : mo < 12
            · obtain ⟨e1, K2⟩ := HK.out.torn (by omega) hr mo (by omega)
              have hk24 := K2.ok.len
              have X := Lib.hid (SV.out _ bm cm m _ ⟨p, q, r⟩ mo 0 C2.out HK.out.ok.len hk24 (pair_of e1))
              generalize (saveF m ⟨p, q, r⟩ mo).1 = K at *
              have HK2 := Lib.hid K2
              have KL := K2.load
              simp only [nv] at X
              clear e1 hr K2 hk24
              go_wp2_with fail
              refine X.out.mono ?_; rintro e w3 ⟨b3, c3, rfl, C3, hb3⟩
              have HB3 := Lib.hid (belowT HB2.out hb3)
              have V3 := Lib.hid (V2.out.keep hb3)
              have O3 := Lib.hid (O2.out.keep hb3)
              have D3 := Lib.hid C3
              have Y := Lib.hid (LD.out _ b3 c3 K ⟨x, y, z⟩ 0 C3 HK2.out.ok.len KL)
              simp only [nv] at Y
              clear X hb3 C3 HB2 V2 O2 U2 C2 v0 v1 v2 u0 u1 u2 o0 o1 o2 o3 KL
              go_wp2_with fail
              refine Y.out.mono ?_; rintro e w4 ⟨rfl, hb4⟩
              have hb4a := belowT hb4 (below1 w4 (.cells #[.int .i64 x, .int .i64 y, .int .i64 z] 26))
              have HB4 := Lib.hid (belowT HB3.out hb4a)
              have V4 := Lib.hid (V3.out.keep hb4a)
              have O4 := Lib.hid (O3.out.keep hb4a)
              have D4 := Lib.hid (D3.out.keep hb4a)
              have U4 := Lib.hid (hasl w4 [.int .i64 x, .int .i64 y, .int .i64 z] 26)
              have v0 := V4.out.at 0 rfl; have f0 := V4.out.free 0
              have v1 := V4.out.at 1 rfl; have f1 := V4.out.free 1
              have v2 := V4.out.at 2 rfl; have f2 := V4.out.free 2
              have u0 := U4.out.at 0 rfl
              have u1 := U4.out.at 1 rfl
              have u2 := U4.out.at 2 rfl
              have o0 := O4.out.at 1 rfl
              have o1 := O4.out.at 2 rfl
              have o2 := O4.out.at 3 rfl
              have o3 := O4.out.at 4 rfl
              have hmd : decide (mo ≥ 12) = false := decide_eq_false (by omega)
              have V5 := Lib.hid (V4.out.note x y z)
              have D5 := Lib.hid (D4.out.note V4.out x y z)
              have HB5 := Lib.hid (below_note HB4.out HG.out (.int .i64 x) (.int .i64 y) (.int .i64 z))
              clear Y hb4 hb4a HB3 V3 O3 D3 U4 O4 V4 D4 HB4 hm
              go_wp2
              go_roundw
              case rel => exact ⟨j + 1, K, b3, c3, x, y, z, true, by omega, rfl, by rw [HK2.out.ok.len], rfl, HK2.out, D5.out, V5.out, HB5.out⟩
              case measure => simp [intOf]; omega
            · obtain ⟨e1, K2⟩ := HK.out.whole (by omega) hr mo (by omega)
              have hk24 := K2.ok.len
              have X := Lib.hid (SV.out _ bm cm m _ ⟨p, q, r⟩ mo 0 C2.out HK.out.ok.len hk24 (pair_of e1))
              generalize (saveF m ⟨p, q, r⟩ mo).1 = K at *
              have HK2 := Lib.hid K2
              have KL := K2.load
              simp only [nv] at X
              clear e1 hr K2 hk24
              go_wp2_with fail
              refine X.out.mono ?_; rintro e w3 ⟨b3, c3, rfl, C3, hb3⟩
              have HB3 := Lib.hid (belowT HB2.out hb3)
              have V3 := Lib.hid (V2.out.keep hb3)
              have O3 := Lib.hid (O2.out.keep hb3)
              have D3 := Lib.hid C3
              have Y := Lib.hid (LD.out _ b3 c3 K ⟨p, q, r⟩ 0 C3 HK2.out.ok.len KL)
              simp only [nv] at Y
              clear X hb3 C3 HB2 V2 O2 U2 C2 v0 v1 v2 u0 u1 u2 o0 o1 o2 o3 KL
              go_wp2_with fail
              refine Y.out.mono ?_; rintro e w4 ⟨rfl, hb4⟩
              have hb4a := belowT hb4 (below1 w4 (.cells #[.int .i64 p, .int .i64 q, .int .i64 r] 26))
              have HB4 := Lib.hid (belowT HB3.out hb4a)
              have V4 := Lib.hid (V3.out.keep hb4a)
              have O4 := Lib.hid (O3.out.keep hb4a)
              have D4 := Lib.hid (D3.out.keep hb4a)
              have U4 := Lib.hid (hasl w4 [.int .i64 p, .int .i64 q, .int .i64 r] 26)
              have v0 := V4.out.at 0 rfl; have f0 := V4.out.free 0
              have v1 := V4.out.at 1 rfl; have f1 := V4.out.free 1
              have v2 := V4.out.at 2 rfl; have f2 := V4.out.free 2
              have u0 := U4.out.at 0 rfl
              have u1 := U4.out.at 1 rfl
              have u2 := U4.out.at 2 rfl
              have o0 := O4.out.at 1 rfl
              have o1 := O4.out.at 2 rfl
              have o2 := O4.out.at 3 rfl
              have o3 := O4.out.at 4 rfl
              have hmd : decide (mo ≥ 12) = true := decide_eq_true (by omega)
              have V5 := Lib.hid (V4.out.note p q r)
              have D5 := Lib.hid (D4.out.note V4.out p q r)
              have HB5 := Lib.hid (below_note HB4.out HG.out (.int .i64 p) (.int .i64 q) (.int .i64 r))
              clear Y hb4 hb4a HB3 V3 O3 D3 U4 O4 V4 D4 HB4 hm
              go_wp2
              go_roundw
              case rel => exact ⟨j + 1, K, b3, c3, p, q, r, true, by omega, rfl, by rw [HK2.out.ok.len], rfl, HK2.out, D5.out, V5.out, HB5.out⟩
              case measure => simp [intOf]; omega
      · go_wp2
        go_roundw
        case rel => exact ⟨j + 1, m, bm, cm, x, y, z, has, by omega, rfl, by rw [HK.out.ok.len], rfl, HK.out.more, C1.out, V1.out, HB1.out⟩
        case measure => simp [intOf]; omega
    · obtain rfl : j = l.length := by omega
      have HB := Lib.hid hb
      clear hk hc hv hb
      go_wp2_with fail
      refine (AW.out _).mono ?_; rintro e w2 ⟨rfl, hb2⟩
      have HB2 := Lib.hid (belowT HB.out hb2)
      clear hb2 HB
      go_wp2
      go_ret
      exact ⟨rfl, HB2.out⟩

theorem torn_long (ba : Option Addr) (la ca : Nat) (w : World) (_h1 : (la : Int) ≤ 9223372036854775807) (hl : (40 : Int) < la)
    (AW : Hid (∀ w, Calls Try.prog 6 #[] w fun e w' => e = .returned (.bool true) ∧ Below w.heap.size w w')) :
    Calls Try.prog 4 #[.slice ba la ca] w fun e w' => e = .returned (.bool true) ∧ Below w.heap.size w w' := by
  go_enter Try.func4, Try.ntmps4
  go_wp2_with fail
  refine (AW.out _).mono ?_; rintro e w1 ⟨rfl, hb1⟩
  go_wp2_with fail
  go_ret
  exact ⟨rfl, hb1⟩

theorem Torn19_all (O : Own19) {w : World} {ba : Option Addr} {ca : Nat} {l : List Nop} (A : CameOps w ba ca l) :
    Calls Try.prog 4 #[.slice ba l.length ca] w fun e w' => e = .returned (.bool true) ∧ Below w.heap.size w w' := by
  have a1 := A.le
  have a2 := A.max
  unfold maxLen at a2
  by_cases h1 : (40 : Int) < l.length
  · exact torn_long ba _ ca w (by omega) h1 (Lib.hid (awake_any O))
  · exact torn_core O A (by omega)
end Go.Proofs.Ytdalajfjikbcaaa
