/- Bytes of the document's own answers for layer 14. -/
import Derived.Test.YtnafodnaolmffaaFrmRefA
namespace Go.Proofs.Ytnafodnaolmffaa
open Go.RowKit

theorem u8_nat (z : Int) (h0 : 0 ≤ z) (h1 : z < 256) : IntKind.u8.wrap z = ((UInt8.ofNat z.toNat).toNat : Int) := by
  rw [IntKind.wrap_u8, byte_of' _ (by omega)]
  omega
theorem be4_wrap (v : Int) : Oct.be 4 (v % 18446744073709551616).toNat = Oct.be 4 (v % 4294967296).toNat := Oct.be_mod 4 _ _ (by
  have e : (256 : Nat) ^ 4 = 4294967296 := by decide
  rw [e]; omega)
theorem be2_sum (x : BitVec 16) : Oct.be 2 x.toNat = [hiB x, loB x] := by
  have h1 := hi_u16 x
  have h2 := lo_u16 x
  have a : UInt8.ofNat (x.toNat / 256 % 256) = hiB x := by
    apply UInt8.toNat_inj.1
    rw [byte_of' _ (by omega)]
    show _ = (Crc.hiOf x).toNat
    have := x.isLt
    omega
  have b : UInt8.ofNat (x.toNat % 256) = loB x := by
    apply UInt8.toNat_inj.1
    rw [byte_of' _ (by omega)]
    show _ = (Crc.loOf x).toNat
    omega
  show [] ++ [UInt8.ofNat (x.toNat / 256 % 256)] ++ [UInt8.ofNat (x.toNat % 256)] = _
  rw [a, b]; rfl

namespace Ref14
set_option maxRecDepth 100000 in
theorem Bytes_no (f : Fr) (w : World) (h : rightF f = false) :
    Calls Try.prog 30 #[fv f] w fun e w' => e = .returned (.tuple #[.slice none 0 0, .int .i64 1]) ∧ Below w.heap.size w w' := by
  have HR := Lib.hid fun w => Right_any f w
  rw [h] at HR
  obtain ⟨s, c, b, v⟩ := f
  simp only [fv] at HR ⊢
  have B1 := Lib.hid (below1 w (.cells #[.int .i64 s, .int .i64 c, .bool b, .int .i64 v] 35))
  go_enter Try.func30, Try.ntmps30
  go_wp2_with fail
  refine (HR.out _).mono ?_; rintro e w1 ⟨rfl, hb1⟩
  have HB := Lib.hid (belowT B1.out hb1)
  clear hb1 B1
  go_wp2
  go_ret2
  exact ⟨rfl, HB.out⟩

/-- The operations of a drawn region, as the translation has them. -/
def bytes6 : Array Oper := #[
  { dst := some 12, op := .fieldAddr 35 (.tmp 1) 0, type := 0, pos := "ref.go:27", after := #[], guard := none },
  { dst := some 13, op := .load 3 (.tmp 12), type := 3, pos := "ref.go:27", after := #[{ on := 0, ground := .data }], guard := none },
  { dst := some 14, op := .convert 3 5 (.tmp 13), type := 5, pos := "ref.go:27", after := #[{ on := 1, ground := .data }], guard := none },
  { dst := some 15, op := .fieldAddr 35 (.tmp 1) 1, type := 0, pos := "ref.go:27", after := #[], guard := none },
  { dst := some 16, op := .load 3 (.tmp 15), type := 3, pos := "ref.go:27", after := #[{ on := 3, ground := .data }], guard := none },
  { dst := some 17, op := .convert 3 5 (.tmp 16), type := 5, pos := "ref.go:27", after := #[{ on := 4, ground := .data }], guard := none },
  { dst := some 18, op := .move (.tmp 4), type := 5, pos := "ref.go:27", after := #[], guard := none },
  { dst := some 19, op := .buildSlice 22 3 #[(0, .tmp 14), (1, .tmp 17), (2, .tmp 18)], type := 22, pos := "ref.go:27", after := #[{ on := 2, ground := .data }, { on := 5, ground := .data }, { on := 6, ground := .data }], guard := none },
  { dst := some 20, op := .fieldAddr 35 (.tmp 1) 3, type := 0, pos := "ref.go:27", after := #[], guard := none },
  { dst := some 21, op := .load 2 (.tmp 20), type := 2, pos := "ref.go:27", after := #[{ on := 8, ground := .data }], guard := none },
  { dst := some 22, op := .convert 2 57 (.tmp 21), type := 57, pos := "ref.go:27", after := #[{ on := 9, ground := .data }], guard := none },
  { dst := some 23, op := .call { callee := .value (.func 40), args := #[.tmp 22, .const (.int .i64 4)], argTypes := #[57, 3] }, type := 22, pos := "ref.go:27", after := #[{ on := 10, ground := .data }], guard := none },
  { dst := some 24, op := .call { callee := .builtin .append, args := #[.tmp 19, .tmp 23], argTypes := #[22, 22] }, type := 22, pos := "ref.go:27", after := #[{ on := 7, ground := .data }, { on := 11, ground := .data }, { on := 11, ground := .chain }], guard := none },
  { dst := some 5, op := .assign (.tmp 24), type := 22, pos := "ref.go:27", after := #[{ on := 12, ground := .data }, { on := 12, ground := .chain }, { on := 0, ground := .phase }, { on := 1, ground := .phase }, { on := 2, ground := .phase }, { on := 3, ground := .phase }, { on := 4, ground := .phase }, { on := 5, ground := .phase }, { on := 6, ground := .phase }, { on := 7, ground := .phase }, { on := 8, ground := .phase }, { on := 9, ground := .phase }, { on := 10, ground := .phase }, { on := 11, ground := .phase }, { on := 12, ground := .phase }], guard := none }]
theorem bytes6_plain : Region.noSelect bytes6 = true := by kernel_rfl

set_option maxHeartbeats 4000000 in
set_option maxRecDepth 100000 in
theorem bytes_core (s c v : Int) (b : Bool) (c2 c3 : UInt8) (n : Nat) (body : List UInt8) (x : BitVec 16) (w : World) (e2 : IntKind.u8.wrap s = (c2.toNat : Int)) (e3 : IntKind.u8.wrap c = (c3.toNat : Int))
    (en : IntKind.u64.wrap v = (n : Int)) (hn : (n : Int) ≤ 18446744073709551615) (hbody : [c2, c3, if b then 1 else 0] ++ Oct.be 4 n = body) (hlen : body.length = 7) (hx : sumOf body = x)
    (HR : Hid (∀ w, Calls Try.prog 36 #[.agg #[.int .i64 s, .int .i64 c, .bool b, .int .i64 v]] w fun e w' => e = .returned (.bool true) ∧ Below w.heap.size w w')) :
    Calls Try.prog 30 #[.agg #[.int .i64 s, .int .i64 c, .bool b, .int .i64 v]] w fun e w' => ∃ u, e = .returned (.tuple #[u, .int .i64 0]) ∧ Bytes w.heap.size w w' u ([165, 90] ++ body ++ [hiB x, loB x]) := by
  have B1 := Lib.hid (below1 w (.cells #[.int .i64 s, .int .i64 c, .bool b, .int .i64 v] 35))
  have HL := Lib.hid (And.intro hbody (And.intro hlen hx))
  clear hbody hlen hx
  have k0 : ∀ w', Below (w.alloc (.cells #[.int .i64 s, .int .i64 c, .bool b, .int .i64 v] 35)).heap.size (w.alloc (.cells #[.int .i64 s, .int .i64 c, .bool b, .int .i64 v] 35)) w' → w'.cell? ⟨w.heap.size, 0, none⟩ = some (.int .i64 s) := fun w' h => keepc h (by simp)
  have k1 : ∀ w', Below (w.alloc (.cells #[.int .i64 s, .int .i64 c, .bool b, .int .i64 v] 35)).heap.size (w.alloc (.cells #[.int .i64 s, .int .i64 c, .bool b, .int .i64 v] 35)) w' → w'.cell? ⟨w.heap.size, 1, none⟩ = some (.int .i64 c) := fun w' h => keepc h (by simp)
  have k2 : ∀ w', Below (w.alloc (.cells #[.int .i64 s, .int .i64 c, .bool b, .int .i64 v] 35)).heap.size (w.alloc (.cells #[.int .i64 s, .int .i64 c, .bool b, .int .i64 v] 35)) w' → w'.cell? ⟨w.heap.size, 2, none⟩ = some (.bool b) := fun w' h => keepc h (by simp)
  have k3 : ∀ w', Below (w.alloc (.cells #[.int .i64 s, .int .i64 c, .bool b, .int .i64 v] 35)).heap.size (w.alloc (.cells #[.int .i64 s, .int .i64 c, .bool b, .int .i64 v] 35)) w' → w'.cell? ⟨w.heap.size, 3, none⟩ = some (.int .i64 v) := fun w' h => keepc h (by simp)
  have HK := Lib.hid (And.intro k0 (And.intro k1 (And.intro k2 k3)))
  clear k0 k1 k2 k3
  go_enter Try.func30, Try.ntmps30
  go_wp2_with fail
  refine (HR.out _).mono ?_; rintro e w1 ⟨rfl, hb1⟩
  have HB1 := Lib.hid (belowT B1.out hb1)
  have q0 := HK.out.1 w1 hb1
  have q1 := HK.out.2.1 w1 hb1
  have q2 := HK.out.2.2.1 w1 hb1
  have q3 := HK.out.2.2.2 w1 hb1
  clear hb1 B1 HK HR
  have g0 : ∀ w', Below w1.heap.size w1 w' → w'.cell? ⟨w.heap.size, 0, none⟩ = some (.int .i64 s) := fun w' h => keepc h q0
  have g1 : ∀ w', Below w1.heap.size w1 w' → w'.cell? ⟨w.heap.size, 1, none⟩ = some (.int .i64 c) := fun w' h => keepc h q1
  have g3 : ∀ w', Below w1.heap.size w1 w' → w'.cell? ⟨w.heap.size, 3, none⟩ = some (.int .i64 v) := fun w' h => keepc h q3
  cases b
  · go_wp2_with fail
    go_upto_region 6 with fail
    go_cut [5] from 5 to 25 (fun u5 wx => Bytes w1.heap.size w1 wx u5 body)
    case first =>
      have hbe : (Oct.be 4 n).length = 4 := Oct.be_length 4 n
      change (Code.region 6 bytes6 true).wp Try.prog _ _ _
      refine wp_region_noPanic ?_
      refine wp_region_held_drew (S := fun w' => Below w1.heap.size w1 w') (by kernel_rfl) ((Below.refl _ _).drew) (fun hHeld => ?_)
      obtain ⟨w2, hX⟩ : ∃ x, x = w1.drew := ⟨_, rfl⟩
      have hb : Below w1.heap.size w1 w2 := hX ▸ (Below.refl _ _).drew
      rw [← hX] at hHeld ⊢
      have HB := hHeld; clear hHeld
      clear hb hX
      refine wpAnyH_take (i := 0) (oi := ({ dst := some 12, op := .fieldAddr 35 (.tmp 1) 0, type := 0, pos := "ref.go:27", after := #[], guard := none } : Oper)) (v := ?vt1_1_) rfl bytes6_plain (by as_aux_lemma => kernel_rfl) (by as_aux_lemma => kernel_rfl) (fun _ _ _ h => h) (Or.inl ⟨by rfl, ?yt1_1_⟩) HB ?rt1_1_
      case yt1_1_ => (intro w hSw; (try dsimp only at hSw); go_simp; try with_reducible rfl)
      try simp only [Act.put, List.setIfInBounds_toArray, List.set_cons_zero, List.set_cons_succ]
      refine wpAnyH_take (i := 1) (oi := ({ dst := some 13, op := .load 3 (.tmp 12), type := 3, pos := "ref.go:27", after := #[{ on := 0, ground := .data }], guard := none } : Oper)) (v := ?vt1_2_) rfl bytes6_plain (by as_aux_lemma => kernel_rfl) (by as_aux_lemma => kernel_rfl) (fun _ _ _ h => h) (Or.inl ⟨by rfl, ?yt1_2_⟩) HB ?rt1_2_
      case yt1_2_ => (intro w hSw; (try dsimp only at hSw); go_simp; try with_reducible rfl)
      try simp only [Act.put, List.setIfInBounds_toArray, List.set_cons_zero, List.set_cons_succ]
      refine wpAnyH_take (i := 2) (oi := ({ dst := some 14, op := .convert 3 5 (.tmp 13), type := 5, pos := "ref.go:27", after := #[{ on := 1, ground := .data }], guard := none } : Oper)) (v := ?vt1_3_) rfl bytes6_plain (by as_aux_lemma => kernel_rfl) (by as_aux_lemma => kernel_rfl) (fun _ _ _ h => h) (Or.inl ⟨by rfl, ?yt1_3_⟩) HB ?rt1_3_
      case yt1_3_ => (intro w hSw; (try dsimp only at hSw); go_simp; try with_reducible rfl)
      try simp only [Act.put, List.setIfInBounds_toArray, List.set_cons_zero, List.set_cons_succ]
      refine wpAnyH_take (i := 3) (oi := ({ dst := some 15, op := .fieldAddr 35 (.tmp 1) 1, type := 0, pos := "ref.go:27", after := #[], guard := none } : Oper)) (v := ?vt1_4_) rfl bytes6_plain (by as_aux_lemma => kernel_rfl) (by as_aux_lemma => kernel_rfl) (fun _ _ _ h => h) (Or.inl ⟨by rfl, ?yt1_4_⟩) HB ?rt1_4_
      case yt1_4_ => (intro w hSw; (try dsimp only at hSw); go_simp; try with_reducible rfl)
      try simp only [Act.put, List.setIfInBounds_toArray, List.set_cons_zero, List.set_cons_succ]
      refine wpAnyH_take (i := 4) (oi := ({ dst := some 16, op := .load 3 (.tmp 15), type := 3, pos := "ref.go:27", after := #[{ on := 3, ground := .data }], guard := none } : Oper)) (v := ?vt1_5_) rfl bytes6_plain (by as_aux_lemma => kernel_rfl) (by as_aux_lemma => kernel_rfl) (fun _ _ _ h => h) (Or.inl ⟨by rfl, ?yt1_5_⟩) HB ?rt1_5_
      case yt1_5_ => (intro w hSw; (try dsimp only at hSw); go_simp; try with_reducible rfl)
      try simp only [Act.put, List.setIfInBounds_toArray, List.set_cons_zero, List.set_cons_succ]
      refine wpAnyH_take (i := 5) (oi := ({ dst := some 17, op := .convert 3 5 (.tmp 16), type := 5, pos := "ref.go:27", after := #[{ on := 4, ground := .data }], guard := none } : Oper)) (v := ?vt1_6_) rfl bytes6_plain (by as_aux_lemma => kernel_rfl) (by as_aux_lemma => kernel_rfl) (fun _ _ _ h => h) (Or.inl ⟨by rfl, ?yt1_6_⟩) HB ?rt1_6_
      case yt1_6_ => (intro w hSw; (try dsimp only at hSw); go_simp; try with_reducible rfl)
      try simp only [Act.put, List.setIfInBounds_toArray, List.set_cons_zero, List.set_cons_succ]
      refine wpAnyH_take (i := 6) (oi := ({ dst := some 18, op := .move (.tmp 4), type := 5, pos := "ref.go:27", after := #[], guard := none } : Oper)) (v := ?vt1_7_) rfl bytes6_plain (by as_aux_lemma => kernel_rfl) (by as_aux_lemma => kernel_rfl) (fun _ _ _ h => h) (Or.inl ⟨by rfl, ?yt1_7_⟩) HB ?rt1_7_
      case yt1_7_ => (intro w hSw; (try dsimp only at hSw); go_simp; try with_reducible rfl)
      try simp only [Act.put, List.setIfInBounds_toArray, List.set_cons_zero, List.set_cons_succ]
      refine wpAnyH_take (i := 8) (oi := ({ dst := some 20, op := .fieldAddr 35 (.tmp 1) 3, type := 0, pos := "ref.go:27", after := #[], guard := none } : Oper)) (v := ?vt1_8_) rfl bytes6_plain (by as_aux_lemma => kernel_rfl) (by as_aux_lemma => kernel_rfl) (fun _ _ _ h => h) (Or.inl ⟨by rfl, ?yt1_8_⟩) HB ?rt1_8_
      case yt1_8_ => (intro w hSw; (try dsimp only at hSw); go_simp; try with_reducible rfl)
      try simp only [Act.put, List.setIfInBounds_toArray, List.set_cons_zero, List.set_cons_succ]
      refine wpAnyH_take (i := 9) (oi := ({ dst := some 21, op := .load 2 (.tmp 20), type := 2, pos := "ref.go:27", after := #[{ on := 8, ground := .data }], guard := none } : Oper)) (v := ?vt1_9_) rfl bytes6_plain (by as_aux_lemma => kernel_rfl) (by as_aux_lemma => kernel_rfl) (fun _ _ _ h => h) (Or.inl ⟨by rfl, ?yt1_9_⟩) HB ?rt1_9_
      case yt1_9_ => (intro w hSw; (try dsimp only at hSw); go_simp; try with_reducible rfl)
      try simp only [Act.put, List.setIfInBounds_toArray, List.set_cons_zero, List.set_cons_succ]
      refine wpAnyH_take (i := 10) (oi := ({ dst := some 22, op := .convert 2 57 (.tmp 21), type := 57, pos := "ref.go:27", after := #[{ on := 9, ground := .data }], guard := none } : Oper)) (v := ?vt1_10_) rfl bytes6_plain (by as_aux_lemma => kernel_rfl) (by as_aux_lemma => kernel_rfl) (fun _ _ _ h => h) (Or.inl ⟨by rfl, ?yt1_10_⟩) HB ?rt1_10_
      case yt1_10_ => (intro w hSw; (try dsimp only at hSw); go_simp; try with_reducible rfl)
      try simp only [Act.put, List.setIfInBounds_toArray, List.set_cons_zero, List.set_cons_succ]
      refine wpAnyH_ready (rs := [7, 11]) (by as_aux_lemma => kernel_rfl) (by simp) ?_
      refine AllReadyH.cons (o := ({ dst := some 19, op := .buildSlice 22 3 #[(0, .tmp 14), (1, .tmp 17), (2, .tmp 18)], type := 22, pos := "ref.go:27", after := #[{ on := 2, ground := .data }, { on := 5, ground := .data }, { on := 6, ground := .data }], guard := none } : Oper)) rfl (fun KK hK => ?_) (AllReadyH.cons (o := ({ dst := some 23, op := .call { callee := .value (.func 40), args := #[.tmp 22, .const (.int .i64 4)], argTypes := #[57, 3] }, type := 22, pos := "ref.go:27", after := #[{ on := 10, ground := .data }], guard := none } : Oper)) rfl (fun KK hK => ?_) AllReadyH.nil)
      · skip
        rw [if_pos (by rfl)]
        go_simp
        have hb := below1 w2 (.cells #[.int .u8 (c2.toNat : Int), .int .u8 (c3.toNat : Int), .int .u8 0] 5)
        have hv : Bytes w2.heap.size w2 (w2.alloc (.cells #[.int .u8 (c2.toNat : Int), .int .u8 (c3.toNat : Int), .int .u8 0] 5)) (.slice (some ⟨w2.heap.size, 0, none⟩) 3 3) [c2, c3, 0] := bytes_alloc w2 [c2, c3, 0] _ rfl (by simp)
        replace hv := hv.low HB
        obtain ⟨gv, hgv⟩ : ∃ g, g = w2.heap.size := ⟨_, rfl⟩
        rw [← hgv] at hv ⊢
        clear hgv
        obtain ⟨w3, hX⟩ : ∃ x, x = w2.alloc (.cells #[.int .u8 (c2.toNat : Int), .int .u8 (c3.toNat : Int), .int .u8 0] 5) := ⟨_, rfl⟩
        rw [← hX] at hv hb ⊢
        clear hX
        refine hK.out _ _ ?_ (fun hHeld => ?_)
        · exact belowT HB hb
        replace HB := hHeld; clear hHeld hK KK
        clear hb
        try simp only [Act.put, List.setIfInBounds_toArray, List.set_cons_zero, List.set_cons_succ]
        refine wpAnyH_ready (rs := [11]) (by as_aux_lemma => kernel_rfl) (by simp) ?_
        refine AllReadyH.cons (o := ({ dst := some 23, op := .call { callee := .value (.func 40), args := #[.tmp 22, .const (.int .i64 4)], argTypes := #[57, 3] }, type := 22, pos := "ref.go:27", after := #[{ on := 10, ground := .data }], guard := none } : Oper)) rfl (fun KK hK => ?_) AllReadyH.nil
        rw [if_pos (by rfl)]
        go_simp
        go_at_call 40; refine (Ref.Put_any n 4 4 w3 hn (by decide)).mono ?_; rintro e w4 ⟨rfl, hw⟩
        have hp : Lies w4 w3.heap.size 0 (Oct.be 4 n) := hw ▸ lies_alloc _ _ _
        have hb : Below w3.heap.size w3 w4 := hw ▸ below1 _ _
        clear hw
        obtain ⟨gp, hgp⟩ : ∃ g, g = w3.heap.size := ⟨_, rfl⟩
        rw [← hgp] at hp ⊢
        clear hgp
        go_wp2_with fail
        refine hK.out _ _ ?_ (fun hHeld => ?_)
        · exact belowT HB hb
        replace HB := hHeld; clear hHeld hK KK
        replace hv := hv.keep hb
        clear hb
        try simp only [Act.put, List.setIfInBounds_toArray, List.set_cons_zero, List.set_cons_succ]
        refine wpAnyH_ready (rs := [12]) (by as_aux_lemma => kernel_rfl) (by simp) ?_
        refine AllReadyH.cons (o := ({ dst := some 24, op := .call { callee := .builtin .append, args := #[.tmp 19, .tmp 23], argTypes := #[22, 22] }, type := 22, pos := "ref.go:27", after := #[{ on := 7, ground := .data }, { on := 11, ground := .data }, { on := 11, ground := .chain }], guard := none } : Oper)) rfl (fun KK hK => ?_) AllReadyH.nil
        rw [if_pos (by rfl)]
        refine oper_append_bytes (v := .slice (some ⟨gv, 0, none⟩) 3 3) (m := Oct.be 4 n) (c := 4) rfl rfl hv (by rw [hbe]; rfl) hp (by rw [hbe]; simp) (fun v4 w5 hq => ?_)
        have HN := hq.below
        refine hK.out _ _ ?_ (fun hHeld => ?_)
        · exact HN
        replace HB := hHeld; clear hHeld hK KK HN
        clear hv hp
        try simp only [Act.put, List.setIfInBounds_toArray, List.set_cons_zero, List.set_cons_succ]
        refine wpAnyH_take (i := 13) (oi := ({ dst := some 5, op := .assign (.tmp 24), type := 22, pos := "ref.go:27", after := #[{ on := 12, ground := .data }, { on := 12, ground := .chain }, { on := 0, ground := .phase }, { on := 1, ground := .phase }, { on := 2, ground := .phase }, { on := 3, ground := .phase }, { on := 4, ground := .phase }, { on := 5, ground := .phase }, { on := 6, ground := .phase }, { on := 7, ground := .phase }, { on := 8, ground := .phase }, { on := 9, ground := .phase }, { on := 10, ground := .phase }, { on := 11, ground := .phase }, { on := 12, ground := .phase }], guard := none } : Oper)) (v := ?vt1_11_) rfl bytes6_plain (by as_aux_lemma => kernel_rfl) (by as_aux_lemma => kernel_rfl) (fun _ _ _ h => h) (Or.inl ⟨by rfl, ?yt1_11_⟩) HB ?rt1_11_
        case yt1_11_ => (intro w hSw; (try dsimp only at hSw); go_simp; try with_reducible rfl)
        try simp only [Act.put, List.setIfInBounds_toArray, List.set_cons_zero, List.set_cons_succ]
        refine wpAnyH_done (by as_aux_lemma => kernel_rfl) ?_ _
        refine NoPanic.normal ?_
        go_wp2_with fail
        go_meet
        rw [show ([c2, c3, 0] ++ Oct.be 4 n : List UInt8) = body from HL.out.1] at hq
        exact hq
      · skip
        rw [if_pos (by rfl)]
        go_simp
        go_at_call 40; refine (Ref.Put_any n 4 4 w2 hn (by decide)).mono ?_; rintro e w3 ⟨rfl, hw⟩
        have hp : Lies w3 w2.heap.size 0 (Oct.be 4 n) := hw ▸ lies_alloc _ _ _
        have hb : Below w2.heap.size w2 w3 := hw ▸ below1 _ _
        clear hw
        obtain ⟨gp, hgp⟩ : ∃ g, g = w2.heap.size := ⟨_, rfl⟩
        rw [← hgp] at hp ⊢
        clear hgp
        go_wp2_with fail
        refine hK.out _ _ ?_ (fun hHeld => ?_)
        · exact belowT HB hb
        replace HB := hHeld; clear hHeld hK KK
        clear hb
        try simp only [Act.put, List.setIfInBounds_toArray, List.set_cons_zero, List.set_cons_succ]
        refine wpAnyH_ready (rs := [7]) (by as_aux_lemma => kernel_rfl) (by simp) ?_
        refine AllReadyH.cons (o := ({ dst := some 19, op := .buildSlice 22 3 #[(0, .tmp 14), (1, .tmp 17), (2, .tmp 18)], type := 22, pos := "ref.go:27", after := #[{ on := 2, ground := .data }, { on := 5, ground := .data }, { on := 6, ground := .data }], guard := none } : Oper)) rfl (fun KK hK => ?_) AllReadyH.nil
        rw [if_pos (by rfl)]
        go_simp
        have hb := below1 w3 (.cells #[.int .u8 (c2.toNat : Int), .int .u8 (c3.toNat : Int), .int .u8 0] 5)
        have hv : Bytes w3.heap.size w3 (w3.alloc (.cells #[.int .u8 (c2.toNat : Int), .int .u8 (c3.toNat : Int), .int .u8 0] 5)) (.slice (some ⟨w3.heap.size, 0, none⟩) 3 3) [c2, c3, 0] := bytes_alloc w3 [c2, c3, 0] _ rfl (by simp)
        replace hv := hv.low HB
        obtain ⟨gv, hgv⟩ : ∃ g, g = w3.heap.size := ⟨_, rfl⟩
        rw [← hgv] at hv ⊢
        clear hgv
        obtain ⟨w4, hX⟩ : ∃ x, x = w3.alloc (.cells #[.int .u8 (c2.toNat : Int), .int .u8 (c3.toNat : Int), .int .u8 0] 5) := ⟨_, rfl⟩
        rw [← hX] at hv hb ⊢
        clear hX
        refine hK.out _ _ ?_ (fun hHeld => ?_)
        · exact belowT HB hb
        replace HB := hHeld; clear hHeld hK KK
        replace hp := hp.keep hb
        clear hb
        try simp only [Act.put, List.setIfInBounds_toArray, List.set_cons_zero, List.set_cons_succ]
        refine wpAnyH_ready (rs := [12]) (by as_aux_lemma => kernel_rfl) (by simp) ?_
        refine AllReadyH.cons (o := ({ dst := some 24, op := .call { callee := .builtin .append, args := #[.tmp 19, .tmp 23], argTypes := #[22, 22] }, type := 22, pos := "ref.go:27", after := #[{ on := 7, ground := .data }, { on := 11, ground := .data }, { on := 11, ground := .chain }], guard := none } : Oper)) rfl (fun KK hK => ?_) AllReadyH.nil
        rw [if_pos (by rfl)]
        refine oper_append_bytes (v := .slice (some ⟨gv, 0, none⟩) 3 3) (m := Oct.be 4 n) (c := 4) rfl rfl hv (by rw [hbe]; rfl) hp (by rw [hbe]; simp) (fun v4 w5 hq => ?_)
        have HN := hq.below
        refine hK.out _ _ ?_ (fun hHeld => ?_)
        · exact HN
        replace HB := hHeld; clear hHeld hK KK HN
        clear hp hv
        try simp only [Act.put, List.setIfInBounds_toArray, List.set_cons_zero, List.set_cons_succ]
        refine wpAnyH_take (i := 13) (oi := ({ dst := some 5, op := .assign (.tmp 24), type := 22, pos := "ref.go:27", after := #[{ on := 12, ground := .data }, { on := 12, ground := .chain }, { on := 0, ground := .phase }, { on := 1, ground := .phase }, { on := 2, ground := .phase }, { on := 3, ground := .phase }, { on := 4, ground := .phase }, { on := 5, ground := .phase }, { on := 6, ground := .phase }, { on := 7, ground := .phase }, { on := 8, ground := .phase }, { on := 9, ground := .phase }, { on := 10, ground := .phase }, { on := 11, ground := .phase }, { on := 12, ground := .phase }], guard := none } : Oper)) (v := ?vt1_12_) rfl bytes6_plain (by as_aux_lemma => kernel_rfl) (by as_aux_lemma => kernel_rfl) (fun _ _ _ h => h) (Or.inl ⟨by rfl, ?yt1_12_⟩) HB ?rt1_12_
        case yt1_12_ => (intro w hSw; (try dsimp only at hSw); go_simp; try with_reducible rfl)
        try simp only [Act.put, List.setIfInBounds_toArray, List.set_cons_zero, List.set_cons_succ]
        refine wpAnyH_done (by as_aux_lemma => kernel_rfl) ?_ _
        refine NoPanic.normal ?_
        go_wp2_with fail
        go_meet
        rw [show ([c2, c3, 0] ++ Oct.be 4 n : List UInt8) = body from HL.out.1] at hq
        exact hq
    case rest =>
      rename World => wx
      have hlen := HL.out.2.1
      have HX := Lib.hid HL.out.2.2
      obtain ⟨rfl, h0⟩ | ⟨g5, c5, rfl, L5⟩ := hcut.lies
      · rw [h0] at hlen; cases hlen
      obtain ⟨_, hc5, hc5m⟩ := hcut.cap_le (fun h0 => by rw [h0] at hlen; cases hlen)
      have C5 : Came wx (some ⟨g5, 0, none⟩) c5 body := ⟨hc5, hc5m, fun h => (by cases h), fun _ => ⟨g5, 0, rfl, L5⟩⟩
      have HBX := Lib.hid (belowT HB1.out hcut.below)
      have hvA : Bytes wx.heap.size wx (wx.alloc (.cells #[.int .u8 165, .int .u8 90] 5)) (.slice (some ⟨wx.heap.size, 0, none⟩) 2 2) [165, 90] := bytes_alloc wx [165, 90] _ rfl (by simp)
      have HLEN := Lib.hid hlen
      clear hcut HB1 g0 g1 g3 q0 q1 q2 q3 hc5 hc5m hlen HL
      go_wp2_with (at_builtin; refine list_append_bytes (v := .slice (some ⟨wx.heap.size, 0, none⟩) 2 2) (m := body) (c := c5) rfl rfl rfl hvA rfl (L5.keep (below1 _ _)) ?c1 ?_)
      case c1 => have := HLEN.out; simp; omega
      intro v6 w6 hv6
      have C6 := C5.keep hv6.below
      clear C5 L5 hvA
      go_wp2_with fail
      refine (Ref6.Of_came C6).mono ?_; rintro e w7 ⟨rfl, rfl⟩
      have ex : Crc.sum (bv body) = x := HX.out
      rw [ex]
      have hx1 : (x.toNat : Int) ≤ 18446744073709551615 := by have := x.isLt; omega
      have ew : IntKind.u64.wrap (x.toNat : Int) = (x.toNat : Int) := by rw [IntKind.wrap_u64]; omega
      clear C6 ex
      go_wp2_with fail
      refine (Ref.Put_any x.toNat 2 2 w6 hx1 (by decide)).mono ?_; rintro e w8 ⟨rfl, hw⟩
      have hp : Lies w8 w6.heap.size 0 (Oct.be 2 x.toNat) := hw ▸ lies_alloc _ _ _
      have hv8 := hv6.keep (hw ▸ below1 _ _ : Below w6.heap.size w6 w8)
      rw [be2_sum] at hp
      clear hw hv6
      go_wp2_with (at_builtin; refine list_append_bytes (v := v6) (m := [hiB x, loB x]) (c := 2) rfl rfl rfl hv8 rfl hp ?c2 ?_)
      case c2 => have := HLEN.out; simp; omega
      intro v9 w9 hv9
      have hv10 := Lib.hid (hv9.low HBX.out)
      clear hv9 hv8 hp
      go_wp2
      go_ret2
      exact ⟨v9, rfl, hv10.out⟩
  · go_wp2_with fail
    go_upto_region 6 with fail
    go_cut [5] from 5 to 25 (fun u5 wx => Bytes w1.heap.size w1 wx u5 body)
    case first =>
      have hbe : (Oct.be 4 n).length = 4 := Oct.be_length 4 n
      change (Code.region 6 bytes6 true).wp Try.prog _ _ _
      refine wp_region_noPanic ?_
      refine wp_region_held_drew (S := fun w' => Below w1.heap.size w1 w') (by kernel_rfl) ((Below.refl _ _).drew) (fun hHeld => ?_)
      obtain ⟨w2, hX⟩ : ∃ x, x = w1.drew := ⟨_, rfl⟩
      have hb : Below w1.heap.size w1 w2 := hX ▸ (Below.refl _ _).drew
      rw [← hX] at hHeld ⊢
      have HB := hHeld; clear hHeld
      clear hb hX
      refine wpAnyH_take (i := 0) (oi := ({ dst := some 12, op := .fieldAddr 35 (.tmp 1) 0, type := 0, pos := "ref.go:27", after := #[], guard := none } : Oper)) (v := ?vt2_1_) rfl bytes6_plain (by as_aux_lemma => kernel_rfl) (by as_aux_lemma => kernel_rfl) (fun _ _ _ h => h) (Or.inl ⟨by rfl, ?yt2_1_⟩) HB ?rt2_1_
      case yt2_1_ => (intro w hSw; (try dsimp only at hSw); go_simp; try with_reducible rfl)
      try simp only [Act.put, List.setIfInBounds_toArray, List.set_cons_zero, List.set_cons_succ]
      refine wpAnyH_take (i := 1) (oi := ({ dst := some 13, op := .load 3 (.tmp 12), type := 3, pos := "ref.go:27", after := #[{ on := 0, ground := .data }], guard := none } : Oper)) (v := ?vt2_2_) rfl bytes6_plain (by as_aux_lemma => kernel_rfl) (by as_aux_lemma => kernel_rfl) (fun _ _ _ h => h) (Or.inl ⟨by rfl, ?yt2_2_⟩) HB ?rt2_2_
      case yt2_2_ => (intro w hSw; (try dsimp only at hSw); go_simp; try with_reducible rfl)
      try simp only [Act.put, List.setIfInBounds_toArray, List.set_cons_zero, List.set_cons_succ]
      refine wpAnyH_take (i := 2) (oi := ({ dst := some 14, op := .convert 3 5 (.tmp 13), type := 5, pos := "ref.go:27", after := #[{ on := 1, ground := .data }], guard := none } : Oper)) (v := ?vt2_3_) rfl bytes6_plain (by as_aux_lemma => kernel_rfl) (by as_aux_lemma => kernel_rfl) (fun _ _ _ h => h) (Or.inl ⟨by rfl, ?yt2_3_⟩) HB ?rt2_3_
      case yt2_3_ => (intro w hSw; (try dsimp only at hSw); go_simp; try with_reducible rfl)
      try simp only [Act.put, List.setIfInBounds_toArray, List.set_cons_zero, List.set_cons_succ]
      refine wpAnyH_take (i := 3) (oi := ({ dst := some 15, op := .fieldAddr 35 (.tmp 1) 1, type := 0, pos := "ref.go:27", after := #[], guard := none } : Oper)) (v := ?vt2_4_) rfl bytes6_plain (by as_aux_lemma => kernel_rfl) (by as_aux_lemma => kernel_rfl) (fun _ _ _ h => h) (Or.inl ⟨by rfl, ?yt2_4_⟩) HB ?rt2_4_
      case yt2_4_ => (intro w hSw; (try dsimp only at hSw); go_simp; try with_reducible rfl)
      try simp only [Act.put, List.setIfInBounds_toArray, List.set_cons_zero, List.set_cons_succ]
      refine wpAnyH_take (i := 4) (oi := ({ dst := some 16, op := .load 3 (.tmp 15), type := 3, pos := "ref.go:27", after := #[{ on := 3, ground := .data }], guard := none } : Oper)) (v := ?vt2_5_) rfl bytes6_plain (by as_aux_lemma => kernel_rfl) (by as_aux_lemma => kernel_rfl) (fun _ _ _ h => h) (Or.inl ⟨by rfl, ?yt2_5_⟩) HB ?rt2_5_
      case yt2_5_ => (intro w hSw; (try dsimp only at hSw); go_simp; try with_reducible rfl)
      try simp only [Act.put, List.setIfInBounds_toArray, List.set_cons_zero, List.set_cons_succ]
      refine wpAnyH_take (i := 5) (oi := ({ dst := some 17, op := .convert 3 5 (.tmp 16), type := 5, pos := "ref.go:27", after := #[{ on := 4, ground := .data }], guard := none } : Oper)) (v := ?vt2_6_) rfl bytes6_plain (by as_aux_lemma => kernel_rfl) (by as_aux_lemma => kernel_rfl) (fun _ _ _ h => h) (Or.inl ⟨by rfl, ?yt2_6_⟩) HB ?rt2_6_
      case yt2_6_ => (intro w hSw; (try dsimp only at hSw); go_simp; try with_reducible rfl)
      try simp only [Act.put, List.setIfInBounds_toArray, List.set_cons_zero, List.set_cons_succ]
      refine wpAnyH_take (i := 6) (oi := ({ dst := some 18, op := .move (.tmp 4), type := 5, pos := "ref.go:27", after := #[], guard := none } : Oper)) (v := ?vt2_7_) rfl bytes6_plain (by as_aux_lemma => kernel_rfl) (by as_aux_lemma => kernel_rfl) (fun _ _ _ h => h) (Or.inl ⟨by rfl, ?yt2_7_⟩) HB ?rt2_7_
      case yt2_7_ => (intro w hSw; (try dsimp only at hSw); go_simp; try with_reducible rfl)
      try simp only [Act.put, List.setIfInBounds_toArray, List.set_cons_zero, List.set_cons_succ]
      refine wpAnyH_take (i := 8) (oi := ({ dst := some 20, op := .fieldAddr 35 (.tmp 1) 3, type := 0, pos := "ref.go:27", after := #[], guard := none } : Oper)) (v := ?vt2_8_) rfl bytes6_plain (by as_aux_lemma => kernel_rfl) (by as_aux_lemma => kernel_rfl) (fun _ _ _ h => h) (Or.inl ⟨by rfl, ?yt2_8_⟩) HB ?rt2_8_
      case yt2_8_ => (intro w hSw; (try dsimp only at hSw); go_simp; try with_reducible rfl)
      try simp only [Act.put, List.setIfInBounds_toArray, List.set_cons_zero, List.set_cons_succ]
      refine wpAnyH_take (i := 9) (oi := ({ dst := some 21, op := .load 2 (.tmp 20), type := 2, pos := "ref.go:27", after := #[{ on := 8, ground := .data }], guard := none } : Oper)) (v := ?vt2_9_) rfl bytes6_plain (by as_aux_lemma => kernel_rfl) (by as_aux_lemma => kernel_rfl) (fun _ _ _ h => h) (Or.inl ⟨by rfl, ?yt2_9_⟩) HB ?rt2_9_
      case yt2_9_ => (intro w hSw; (try dsimp only at hSw); go_simp; try with_reducible rfl)
      try simp only [Act.put, List.setIfInBounds_toArray, List.set_cons_zero, List.set_cons_succ]
      refine wpAnyH_take (i := 10) (oi := ({ dst := some 22, op := .convert 2 57 (.tmp 21), type := 57, pos := "ref.go:27", after := #[{ on := 9, ground := .data }], guard := none } : Oper)) (v := ?vt2_10_) rfl bytes6_plain (by as_aux_lemma => kernel_rfl) (by as_aux_lemma => kernel_rfl) (fun _ _ _ h => h) (Or.inl ⟨by rfl, ?yt2_10_⟩) HB ?rt2_10_
      case yt2_10_ => (intro w hSw; (try dsimp only at hSw); go_simp; try with_reducible rfl)
      try simp only [Act.put, List.setIfInBounds_toArray, List.set_cons_zero, List.set_cons_succ]
      refine wpAnyH_ready (rs := [7, 11]) (by as_aux_lemma => kernel_rfl) (by simp) ?_
      refine AllReadyH.cons (o := ({ dst := some 19, op := .buildSlice 22 3 #[(0, .tmp 14), (1, .tmp 17), (2, .tmp 18)], type := 22, pos := "ref.go:27", after := #[{ on := 2, ground := .data }, { on := 5, ground := .data }, { on := 6, ground := .data }], guard := none } : Oper)) rfl (fun KK hK => ?_) (AllReadyH.cons (o := ({ dst := some 23, op := .call { callee := .value (.func 40), args := #[.tmp 22, .const (.int .i64 4)], argTypes := #[57, 3] }, type := 22, pos := "ref.go:27", after := #[{ on := 10, ground := .data }], guard := none } : Oper)) rfl (fun KK hK => ?_) AllReadyH.nil)
      · skip
        rw [if_pos (by rfl)]
        go_simp
        have hb := below1 w2 (.cells #[.int .u8 (c2.toNat : Int), .int .u8 (c3.toNat : Int), .int .u8 1] 5)
        have hv : Bytes w2.heap.size w2 (w2.alloc (.cells #[.int .u8 (c2.toNat : Int), .int .u8 (c3.toNat : Int), .int .u8 1] 5)) (.slice (some ⟨w2.heap.size, 0, none⟩) 3 3) [c2, c3, 1] := bytes_alloc w2 [c2, c3, 1] _ rfl (by simp)
        replace hv := hv.low HB
        obtain ⟨gv, hgv⟩ : ∃ g, g = w2.heap.size := ⟨_, rfl⟩
        rw [← hgv] at hv ⊢
        clear hgv
        obtain ⟨w3, hX⟩ : ∃ x, x = w2.alloc (.cells #[.int .u8 (c2.toNat : Int), .int .u8 (c3.toNat : Int), .int .u8 1] 5) := ⟨_, rfl⟩
        rw [← hX] at hv hb ⊢
        clear hX
        refine hK.out _ _ ?_ (fun hHeld => ?_)
        · exact belowT HB hb
        replace HB := hHeld; clear hHeld hK KK
        clear hb
        try simp only [Act.put, List.setIfInBounds_toArray, List.set_cons_zero, List.set_cons_succ]
        refine wpAnyH_ready (rs := [11]) (by as_aux_lemma => kernel_rfl) (by simp) ?_
        refine AllReadyH.cons (o := ({ dst := some 23, op := .call { callee := .value (.func 40), args := #[.tmp 22, .const (.int .i64 4)], argTypes := #[57, 3] }, type := 22, pos := "ref.go:27", after := #[{ on := 10, ground := .data }], guard := none } : Oper)) rfl (fun KK hK => ?_) AllReadyH.nil
        rw [if_pos (by rfl)]
        go_simp
        go_at_call 40; refine (Ref.Put_any n 4 4 w3 hn (by decide)).mono ?_; rintro e w4 ⟨rfl, hw⟩
        have hp : Lies w4 w3.heap.size 0 (Oct.be 4 n) := hw ▸ lies_alloc _ _ _
        have hb : Below w3.heap.size w3 w4 := hw ▸ below1 _ _
        clear hw
        obtain ⟨gp, hgp⟩ : ∃ g, g = w3.heap.size := ⟨_, rfl⟩
        rw [← hgp] at hp ⊢
        clear hgp
        go_wp2_with fail
        refine hK.out _ _ ?_ (fun hHeld => ?_)
        · exact belowT HB hb
        replace HB := hHeld; clear hHeld hK KK
        replace hv := hv.keep hb
        clear hb
        try simp only [Act.put, List.setIfInBounds_toArray, List.set_cons_zero, List.set_cons_succ]
        refine wpAnyH_ready (rs := [12]) (by as_aux_lemma => kernel_rfl) (by simp) ?_
        refine AllReadyH.cons (o := ({ dst := some 24, op := .call { callee := .builtin .append, args := #[.tmp 19, .tmp 23], argTypes := #[22, 22] }, type := 22, pos := "ref.go:27", after := #[{ on := 7, ground := .data }, { on := 11, ground := .data }, { on := 11, ground := .chain }], guard := none } : Oper)) rfl (fun KK hK => ?_) AllReadyH.nil
        rw [if_pos (by rfl)]
        refine oper_append_bytes (v := .slice (some ⟨gv, 0, none⟩) 3 3) (m := Oct.be 4 n) (c := 4) rfl rfl hv (by rw [hbe]; rfl) hp (by rw [hbe]; simp) (fun v4 w5 hq => ?_)
        have HN := hq.below
        refine hK.out _ _ ?_ (fun hHeld => ?_)
        · exact HN
        replace HB := hHeld; clear hHeld hK KK HN
        clear hv hp
        try simp only [Act.put, List.setIfInBounds_toArray, List.set_cons_zero, List.set_cons_succ]
        refine wpAnyH_take (i := 13) (oi := ({ dst := some 5, op := .assign (.tmp 24), type := 22, pos := "ref.go:27", after := #[{ on := 12, ground := .data }, { on := 12, ground := .chain }, { on := 0, ground := .phase }, { on := 1, ground := .phase }, { on := 2, ground := .phase }, { on := 3, ground := .phase }, { on := 4, ground := .phase }, { on := 5, ground := .phase }, { on := 6, ground := .phase }, { on := 7, ground := .phase }, { on := 8, ground := .phase }, { on := 9, ground := .phase }, { on := 10, ground := .phase }, { on := 11, ground := .phase }, { on := 12, ground := .phase }], guard := none } : Oper)) (v := ?vt2_11_) rfl bytes6_plain (by as_aux_lemma => kernel_rfl) (by as_aux_lemma => kernel_rfl) (fun _ _ _ h => h) (Or.inl ⟨by rfl, ?yt2_11_⟩) HB ?rt2_11_
        case yt2_11_ => (intro w hSw; (try dsimp only at hSw); go_simp; try with_reducible rfl)
        try simp only [Act.put, List.setIfInBounds_toArray, List.set_cons_zero, List.set_cons_succ]
        refine wpAnyH_done (by as_aux_lemma => kernel_rfl) ?_ _
        refine NoPanic.normal ?_
        go_wp2_with fail
        go_meet
        rw [show ([c2, c3, 1] ++ Oct.be 4 n : List UInt8) = body from HL.out.1] at hq
        exact hq
      · skip
        rw [if_pos (by rfl)]
        go_simp
        go_at_call 40; refine (Ref.Put_any n 4 4 w2 hn (by decide)).mono ?_; rintro e w3 ⟨rfl, hw⟩
        have hp : Lies w3 w2.heap.size 0 (Oct.be 4 n) := hw ▸ lies_alloc _ _ _
        have hb : Below w2.heap.size w2 w3 := hw ▸ below1 _ _
        clear hw
        obtain ⟨gp, hgp⟩ : ∃ g, g = w2.heap.size := ⟨_, rfl⟩
        rw [← hgp] at hp ⊢
        clear hgp
        go_wp2_with fail
        refine hK.out _ _ ?_ (fun hHeld => ?_)
        · exact belowT HB hb
        replace HB := hHeld; clear hHeld hK KK
        clear hb
        try simp only [Act.put, List.setIfInBounds_toArray, List.set_cons_zero, List.set_cons_succ]
        refine wpAnyH_ready (rs := [7]) (by as_aux_lemma => kernel_rfl) (by simp) ?_
        refine AllReadyH.cons (o := ({ dst := some 19, op := .buildSlice 22 3 #[(0, .tmp 14), (1, .tmp 17), (2, .tmp 18)], type := 22, pos := "ref.go:27", after := #[{ on := 2, ground := .data }, { on := 5, ground := .data }, { on := 6, ground := .data }], guard := none } : Oper)) rfl (fun KK hK => ?_) AllReadyH.nil
        rw [if_pos (by rfl)]
        go_simp
        have hb := below1 w3 (.cells #[.int .u8 (c2.toNat : Int), .int .u8 (c3.toNat : Int), .int .u8 1] 5)
        have hv : Bytes w3.heap.size w3 (w3.alloc (.cells #[.int .u8 (c2.toNat : Int), .int .u8 (c3.toNat : Int), .int .u8 1] 5)) (.slice (some ⟨w3.heap.size, 0, none⟩) 3 3) [c2, c3, 1] := bytes_alloc w3 [c2, c3, 1] _ rfl (by simp)
        replace hv := hv.low HB
        obtain ⟨gv, hgv⟩ : ∃ g, g = w3.heap.size := ⟨_, rfl⟩
        rw [← hgv] at hv ⊢
        clear hgv
        obtain ⟨w4, hX⟩ : ∃ x, x = w3.alloc (.cells #[.int .u8 (c2.toNat : Int), .int .u8 (c3.toNat : Int), .int .u8 1] 5) := ⟨_, rfl⟩
        rw [← hX] at hv hb ⊢
        clear hX
        refine hK.out _ _ ?_ (fun hHeld => ?_)
        · exact belowT HB hb
        replace HB := hHeld; clear hHeld hK KK
        replace hp := hp.keep hb
        clear hb
        try simp only [Act.put, List.setIfInBounds_toArray, List.set_cons_zero, List.set_cons_succ]
        refine wpAnyH_ready (rs := [12]) (by as_aux_lemma => kernel_rfl) (by simp) ?_
        refine AllReadyH.cons (o := ({ dst := some 24, op := .call { callee := .builtin .append, args := #[.tmp 19, .tmp 23], argTypes := #[22, 22] }, type := 22, pos := "ref.go:27", after := #[{ on := 7, ground := .data }, { on := 11, ground := .data }, { on := 11, ground := .chain }], guard := none } : Oper)) rfl (fun KK hK => ?_) AllReadyH.nil
        rw [if_pos (by rfl)]
        refine oper_append_bytes (v := .slice (some ⟨gv, 0, none⟩) 3 3) (m := Oct.be 4 n) (c := 4) rfl rfl hv (by rw [hbe]; rfl) hp (by rw [hbe]; simp) (fun v4 w5 hq => ?_)
        have HN := hq.below
        refine hK.out _ _ ?_ (fun hHeld => ?_)
        · exact HN
        replace HB := hHeld; clear hHeld hK KK HN
        clear hp hv
        try simp only [Act.put, List.setIfInBounds_toArray, List.set_cons_zero, List.set_cons_succ]
        refine wpAnyH_take (i := 13) (oi := ({ dst := some 5, op := .assign (.tmp 24), type := 22, pos := "ref.go:27", after := #[{ on := 12, ground := .data }, { on := 12, ground := .chain }, { on := 0, ground := .phase }, { on := 1, ground := .phase }, { on := 2, ground := .phase }, { on := 3, ground := .phase }, { on := 4, ground := .phase }, { on := 5, ground := .phase }, { on := 6, ground := .phase }, { on := 7, ground := .phase }, { on := 8, ground := .phase }, { on := 9, ground := .phase }, { on := 10, ground := .phase }, { on := 11, ground := .phase }, { on := 12, ground := .phase }], guard := none } : Oper)) (v := ?vt2_12_) rfl bytes6_plain (by as_aux_lemma => kernel_rfl) (by as_aux_lemma => kernel_rfl) (fun _ _ _ h => h) (Or.inl ⟨by rfl, ?yt2_12_⟩) HB ?rt2_12_
        case yt2_12_ => (intro w hSw; (try dsimp only at hSw); go_simp; try with_reducible rfl)
        try simp only [Act.put, List.setIfInBounds_toArray, List.set_cons_zero, List.set_cons_succ]
        refine wpAnyH_done (by as_aux_lemma => kernel_rfl) ?_ _
        refine NoPanic.normal ?_
        go_wp2_with fail
        go_meet
        rw [show ([c2, c3, 1] ++ Oct.be 4 n : List UInt8) = body from HL.out.1] at hq
        exact hq
    case rest =>
      rename World => wx
      have hlen := HL.out.2.1
      have HX := Lib.hid HL.out.2.2
      obtain ⟨rfl, h0⟩ | ⟨g5, c5, rfl, L5⟩ := hcut.lies
      · rw [h0] at hlen; cases hlen
      obtain ⟨_, hc5, hc5m⟩ := hcut.cap_le (fun h0 => by rw [h0] at hlen; cases hlen)
      have C5 : Came wx (some ⟨g5, 0, none⟩) c5 body := ⟨hc5, hc5m, fun h => (by cases h), fun _ => ⟨g5, 0, rfl, L5⟩⟩
      have HBX := Lib.hid (belowT HB1.out hcut.below)
      have hvA : Bytes wx.heap.size wx (wx.alloc (.cells #[.int .u8 165, .int .u8 90] 5)) (.slice (some ⟨wx.heap.size, 0, none⟩) 2 2) [165, 90] := bytes_alloc wx [165, 90] _ rfl (by simp)
      have HLEN := Lib.hid hlen
      clear hcut HB1 g0 g1 g3 q0 q1 q2 q3 hc5 hc5m hlen HL
      go_wp2_with (at_builtin; refine list_append_bytes (v := .slice (some ⟨wx.heap.size, 0, none⟩) 2 2) (m := body) (c := c5) rfl rfl rfl hvA rfl (L5.keep (below1 _ _)) ?c1 ?_)
      case c1 => have := HLEN.out; simp; omega
      intro v6 w6 hv6
      have C6 := C5.keep hv6.below
      clear C5 L5 hvA
      go_wp2_with fail
      refine (Ref6.Of_came C6).mono ?_; rintro e w7 ⟨rfl, rfl⟩
      have ex : Crc.sum (bv body) = x := HX.out
      rw [ex]
      have hx1 : (x.toNat : Int) ≤ 18446744073709551615 := by have := x.isLt; omega
      have ew : IntKind.u64.wrap (x.toNat : Int) = (x.toNat : Int) := by rw [IntKind.wrap_u64]; omega
      clear C6 ex
      go_wp2_with fail
      refine (Ref.Put_any x.toNat 2 2 w6 hx1 (by decide)).mono ?_; rintro e w8 ⟨rfl, hw⟩
      have hp : Lies w8 w6.heap.size 0 (Oct.be 2 x.toNat) := hw ▸ lies_alloc _ _ _
      have hv8 := hv6.keep (hw ▸ below1 _ _ : Below w6.heap.size w6 w8)
      rw [be2_sum] at hp
      clear hw hv6
      go_wp2_with (at_builtin; refine list_append_bytes (v := v6) (m := [hiB x, loB x]) (c := 2) rfl rfl rfl hv8 rfl hp ?c2 ?_)
      case c2 => have := HLEN.out; simp; omega
      intro v9 w9 hv9
      have hv10 := Lib.hid (hv9.low HBX.out)
      clear hv9 hv8 hp
      go_wp2
      go_ret2
      exact ⟨v9, rfl, hv10.out⟩

theorem Bytes_ok (f : Fr) (w : World) (h : rightF f = true) (_hv : -9223372036854775808 ≤ f.val ∧ f.val ≤ 9223372036854775807) :
    Calls Try.prog 30 #[fv f] w fun e w' => ∃ u, e = .returned (.tuple #[u, .int .i64 0]) ∧ Bytes w.heap.size w w' u (frameF f) := by
  obtain ⟨h1, h2, h3, h4, h5, h6⟩ := (right_iff f).1 h
  obtain ⟨a, b', c', d, e, eb⟩ := body_seven f
  have HR := Lib.hid fun w => Right_any f w
  rw [h] at HR
  have k := bytes_core f.src f.cnt f.val f.well (UInt8.ofNat f.src.toNat) (UInt8.ofNat f.cnt.toNat) (f.val % 18446744073709551616).toNat (bodyF f) (sumOf (bodyF f)) w (u8_nat _ h1 (by omega)) (u8_nat _ h3 h4)
    (by rw [IntKind.wrap_u64]; omega) (by omega) (by rw [be4_wrap]; rfl) (by rw [eb]; rfl) rfl HR
  refine k.mono fun e w' hk => ?_
  obtain ⟨u, he, hu⟩ := hk
  exact ⟨u, he, by unfold frameF withSum; rw [List.append_assoc] at hu; exact hu⟩
end Ref14
end Go.Proofs.Ytnafodnaolmffaa
