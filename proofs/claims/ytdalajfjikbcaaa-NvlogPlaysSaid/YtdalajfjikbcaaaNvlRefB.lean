/- Load, Write, Save, Spoil of the document's own answers for layer 19. -/
import Derived.Test.YtdalajfjikbcaaaNvlRefA
import Derived.Test.YtdalajfjikbcaaaNtEq
import Derived.Laws.CopyOwn
import Derived.Lib.MinMax
import Derived.Deep.CutBlock
import Derived.Deep.CutRange
namespace Go.Proofs.Ytdalajfjikbcaaa
open Go.RowKit

theorem size8 : (Try.prog.info? 5).map (·.size) = some 1 := by kernel_rfl
/-- bytes copied to a place of what may be written -/
theorem oper_copy_own {o : Oper} {a : Act} {w : World} {K : Act → World → Prop} {Q : Exit → Act → World → Prop} {B : Nat} {W0 : World} {g cap : Nat} {l m : List UInt8} {d s : Operand} {ba : Option Addr} {c dc k : Nat}
    (ho : o.op = .call { callee := .builtin .copy, args := #[d, s], argTypes := #[22, 22] }) (hb : Bytes0 B W0 w (.slice (some ⟨g, 0, none⟩) l.length cap) l)
    (hd : a.eval d = .slice (some ⟨g, k, none⟩) (l.length - k) dc) (hs : a.eval s = .slice ba m.length c) (C : Came w ba c m) (hk : k + m.length ≤ l.length)
    (h : ∀ w', Bytes0 B W0 w' (.slice (some ⟨g, 0, none⟩) l.length cap) (putF l k m) → K (a.put o.dst (goInt m.length)) w') : Oper.wp Try.prog o a w K Q := by
  have hmin : m.length = Nat.min m.length (l.length - k) := (Nat.min_eq_left (by omega : m.length ≤ l.length - k)).symm
  by_cases h0 : 0 < m.length
  · obtain ⟨g2, o2, rfl, L⟩ := C.lies h0
    obtain ⟨e1, ⟨hv, _⟩ | ⟨g', cap', cur, hv, hB, hg, hle, hm, hsz, htk⟩⟩ := hb.1
    · cases hv
    injection hv with hv1 _ hv2
    injection hv1 with hv1
    injection hv1 with hv1
    subst hv1 hv2
    have hrun := run_copy_row (P := Try.prog) w 22 22 o.type 5 g k (l.length - k) dc ⟨g2, o2, none⟩ m.length c cur 5 (vals m) Try.underlying22 size8 hg (by simp only [vals, List.length_map]; exact hmin) L.cellsA (by simp only [vals, List.length_map]; omega) (vals_oneA m)
    have hvl : (vals m).length = m.length := by simp [vals]
    rw [hvl] at hrun
    unfold Oper.wp execOp
    simp only [ho, resolve, invoke, builtin, Sem.run_bind, Sem.run_pure, Result.andThen_ok, List.map_toArray, List.map_cons, List.map_nil, hd, hs, hrun]
    have hpl := put_length hk
    refine h _ ⟨?_, below_setRow hb.2.1 hB _, ?_⟩
    · rw [hpl]
      refine ⟨by simp [vals, hpl], Or.inr ⟨g, cap, _, rfl, hB, setRow_heap w g cur _ _ _ hg, hle, hm, ?_, ?_⟩⟩
      · simp only [List.size_toArray, List.length_append, List.length_take, List.length_drop, Array.length_toList, hvl]; omega
      · simp only [Nat.mul_one] at htk hsz ⊢
        show List.take l.length (List.take k cur.toList ++ vals m ++ List.drop (k + m.length) cur.toList) = vals (putF l k m)
        have ec : vals l = List.take l.length cur.toList := htk.symm
        have e2 : vals (putF l k m) = (vals l).take k ++ vals m ++ (vals l).drop (k + m.length) := by
          unfold putF vals
          rw [List.map_append, List.map_append, List.map_take, List.map_drop]
        have hcl : cur.toList.length = cap := by rw [Array.length_toList]; omega
        have l1 : (List.take k cur.toList).length = k := by rw [List.length_take]; omega
        rw [e2, ec, List.take_take, Nat.min_eq_left (by omega), List.drop_take, List.take_append, List.take_of_length_le (by rw [List.length_append, l1, hvl]; omega), List.length_append, l1, hvl]
    · have e : (w.setRow g (List.take k cur.toList ++ vals m ++ List.drop (k + m.length) cur.toList).toArray).heap.size = w.heap.size := by simp [World.setRow]
      rw [e]; exact hb.2.2
  · obtain rfl : m = [] := List.length_eq_zero_iff.1 (by omega)
    have hrun := run_copy_none (P := Try.prog) w 22 22 o.type 5 (some ⟨g, k, none⟩) ba (l.length - k) dc ([] : List UInt8).length c Try.underlying22 size8 (by rw [List.length_nil]; exact Nat.zero_min _)
    unfold Oper.wp execOp
    simp only [ho, resolve, invoke, builtin, Sem.run_bind, Sem.run_pure, Result.andThen_ok, List.map_toArray, List.map_cons, List.map_nil, hd, hs, hrun]
    exact h w (by rw [put_zero]; exact hb)

namespace Ref19
set_option maxHeartbeats 4000000 in
set_option maxRecDepth 100000 in
theorem Load_came {w : World} {ba : Option Addr} {cap : Nat} {l : List UInt8} (C : Came w ba cap l) :
    Calls Try.prog 14 #[.slice ba l.length cap] w fun e w' => e = .returned (.tuple #[nv (loadF l).1, .int .i64 (loadF l).2]) ∧ Below w.heap.size w w' := by
  have B1 := below1 w (.cells #[.int .i64 0, .int .i64 0, .int .i64 0] 26)
  have NW := Lib.hid (newest_came (C.keep B1))
  have SN := Lib.hid ((Sp.none w).more [.int .i64 0, .int .i64 0, .int .i64 0] 26)
  have LD : Hid (loadF l = if (newF l).1 < 0 then (nt0, 9) else ((newF l).2.1, 0)) := Lib.hid rfl
  generalize newF l = r at *
  obtain ⟨a, ⟨x, y, z⟩, s⟩ := r
  simp only [nv] at NW
  clear C
  go_enter Try.func14, Try.ntmps14
  go_wp2_with fail
  refine NW.out.mono ?_; rintro e w1 ⟨rfl, hb1⟩
  have hb1a := belowT hb1 (below1 w1 (.cells #[.int .i64 x, .int .i64 y, .int .i64 z] 26))
  have HB := Lib.hid (belowT B1 hb1a)
  have S2 := SN.out.keep hb1a
  have c0 := S2.at 0 rfl 0 rfl; have f0 := S2.free 0 rfl 0 rfl
  have c1 := S2.at 0 rfl 1 rfl; have f1 := S2.free 0 rfl 1 rfl
  have c2 := S2.at 0 rfl 2 rfl; have f2 := S2.free 0 rfl 2 rfl
  clear B1 NW SN hb1 hb1a S2
  by_cases ha : a < 0
  · have hr : Hid (loadF l = (nt0, 9)) := Lib.hid (by rw [LD.out]; exact if_pos ha)
    clear LD
    go_wp2
    refine bodyPost_ret (v := .tuple #[nv0, .int .i64 9]) (by simp [nv0, results, Try.results14, go_sem, *]) rfl ⟨by rw [hr.out]; rfl, below_set3 HB.out _ _ _⟩
  · have hr : Hid (loadF l = (⟨x, y, z⟩, 0)) := Lib.hid (by rw [LD.out]; exact if_neg ha)
    have hd : decide (a < 0) = false := decide_eq_false ha
    clear LD ha
    go_wp2
    refine bodyPost_ret (v := .tuple #[nv ⟨x, y, z⟩, .int .i64 0]) (by simp [nv, results, Try.results14, go_sem, *]) rfl ⟨by rw [hr.out], below_set3 HB.out _ _ _⟩

set_option maxHeartbeats 4000000 in
set_option maxRecDepth 100000 in
theorem Write_came {w : World} {ba : Option Addr} {cap : Nat} {l : List UInt8} (C : Came w ba cap l) (n : Nt) :
    Calls Try.prog 10 #[.slice ba l.length cap, nv n] w fun e w' => ∃ b2 c2, e = .returned (.tuple #[.int .i64 (writeF l n).1, .slice b2 (writeF l n).2.1.length c2, .int .i64 (writeF l n).2.2]) ∧ Came w' b2 c2 (writeF l n).2.1 ∧ Below w.heap.size w w' := by
  have B1 := Lib.hid (below1 w (.cells #[.int .i64 n.ex, .int .i64 n.inh, .int .i64 n.mode] 26))
  have H1 := Lib.hid (hasl w [.int .i64 n.ex, .int .i64 n.inh, .int .i64 n.mode] 26)
  have NW := Lib.hid (newest_came (C.keep B1.out))
  have WR : Hid (writeF l n = if l.length ≠ 24 then (0, [], 1) else if 2147483648 ≤ (newF l).2.2 then (0, [], 8) else if rightN n = false then (0, [], 1) else ((if (newF l).1 = 0 then 1 else 0), slotN n ((newF l).2.2 + 1), 0)) := Lib.hid rfl
  have hle := C.le
  have hmx := C.max
  unfold maxLen at hmx
  have hlen : (l.length : Int) ≤ 9223372036854775807 := by omega
  have NC : ∀ w' : World, Came w' none 0 [] := none_come
  clear C hle hmx
  by_cases h24 : l.length = 24
  · have hq : ((l.length : Int) == 24) = true := by simp; omega
    rw [if_neg (show ¬ l.length ≠ 24 by omega)] at WR
    generalize newF l = r at *
    obtain ⟨a, ⟨x, y, z⟩, s⟩ := r
    have OB := Lib.hid fun (w : World) (h : s < 2147483648) => Ref18.Bytes_any n (s + 1) w (by omega)
    obtain ⟨S, hS⟩ : ∃ S : Int, S = s := ⟨_, rfl⟩
    have OB2 : Hid (∀ w, s < 2147483648 → Calls Try.prog 23 #[nv n, .int .u32 (S + 1)] w fun e w' => ∃ ba cap, e = .returned (.tuple #[.slice ba (bytesN n (s + 1)).1.length cap, .int .i64 (bytesN n (s + 1)).2]) ∧ Came w' ba cap (bytesN n (s + 1)).1 ∧ Below w.heap.size w w') := Lib.hid (by
      rw [hS]
      exact OB.out)
    simp only [nv] at NW
    rw [← hS] at NW
    have HS := Lib.hid hS
    clear OB hS h24 hlen
    cases hn : rightN n
    · have eb := bytesN_no (s + 1) hn
      rw [eb] at OB2
      have HN := Lib.hid hn
      clear hn eb
      obtain ⟨p, q, r⟩ := n
      simp only [nv] at OB2 ⊢
      go_enter Try.func10, Try.ntmps10
      go_wp2_with fail
      refine NW.out.mono ?_; rintro e w1 ⟨rfl, hb1⟩
      have hb1a := belowT hb1 (below1 w1 (.cells #[.int .i64 x, .int .i64 y, .int .i64 z] 26))
      have HB := Lib.hid (belowT B1.out hb1a)
      have H2 := H1.out.keep hb1a
      have q0 := H2.at 0 rfl
      have q1 := H2.at 1 rfl
      have q2 := H2.at 2 rfl
      clear NW B1 H1 hb1 hb1a H2
      by_cases hs : S ≥ 2147483648
      · have hr : Hid (writeF l ⟨p, q, r⟩ = (0, [], 8)) := Lib.hid (by rw [WR.out, if_pos (show 2147483648 ≤ s by have := HS.out; omega)])
        clear WR OB2
        go_wp2
        refine bodyPost_ret (v := .tuple #[.int .i64 0, .slice none 0 0, .int .i64 8]) (by simp [results, Try.results10, go_sem]) rfl ⟨none, 0, by rw [hr.out]; rfl, by rw [hr.out]; exact NC _, HB.out⟩
      · have OB3 := Lib.hid fun w => OB2.out w (by have := HS.out; omega)
        have k1 : S + 1 ≤ 4294967295 := by omega
        have k2 : S + 1 ≥ 0 := by have := HS.out; omega
        have hsd : decide (S ≥ 2147483648) = false := decide_eq_false hs
        clear OB2
        have hr : Hid (writeF l ⟨p, q, r⟩ = (0, [], 1)) := Lib.hid (by rw [WR.out, if_neg (show ¬ 2147483648 ≤ s by have := HS.out; omega), if_pos HN.out])
        clear WR
        by_cases ha : a = 0
        · have hd : (a == 0) = true := by simpa using ha
          go_wp2_with fail
          refine (OB3.out _).mono ?_; rintro e w3 ⟨b3, c3, rfl, C3, hb3⟩
          have HB3 := Lib.hid (belowT HB.out hb3)
          clear OB3 hb3 HB
          go_wp2
          refine bodyPost_ret (v := .tuple #[.int .i64 0, .slice none 0 0, .int .i64 1]) (by simp [results, Try.results10, go_sem]) rfl ⟨none, 0, by rw [hr.out]; rfl, by rw [hr.out]; exact NC _, HB3.out⟩
        · have hd : (a == 0) = false := by simpa using ha
          go_wp2_with fail
          refine (OB3.out _).mono ?_; rintro e w3 ⟨b3, c3, rfl, C3, hb3⟩
          have HB3 := Lib.hid (belowT HB.out hb3)
          clear OB3 hb3 HB
          go_wp2
          refine bodyPost_ret (v := .tuple #[.int .i64 0, .slice none 0 0, .int .i64 1]) (by simp [results, Try.results10, go_sem]) rfl ⟨none, 0, by rw [hr.out]; rfl, by rw [hr.out]; exact NC _, HB3.out⟩
    · have eb := bytesN_ok (s + 1) hn
      rw [eb] at OB2
      have HN := Lib.hid hn
      have sl := slot_length n (s + 1)
      simp only [sl] at OB2
      have SL := Lib.hid sl
      clear hn eb sl
      generalize hL : slotN n (s + 1) = L at *
      have HL := Lib.hid hL
      clear hL
      obtain ⟨p, q, r⟩ := n
      simp only [nv] at OB2 ⊢
      go_enter Try.func10, Try.ntmps10
      go_wp2_with fail
      refine NW.out.mono ?_; rintro e w1 ⟨rfl, hb1⟩
      have hb1a := belowT hb1 (below1 w1 (.cells #[.int .i64 x, .int .i64 y, .int .i64 z] 26))
      have HB := Lib.hid (belowT B1.out hb1a)
      have H2 := H1.out.keep hb1a
      have q0 := H2.at 0 rfl
      have q1 := H2.at 1 rfl
      have q2 := H2.at 2 rfl
      clear NW B1 H1 hb1 hb1a H2
      by_cases hs : S ≥ 2147483648
      · have hr : Hid (writeF l ⟨p, q, r⟩ = (0, [], 8)) := Lib.hid (by rw [WR.out, if_pos (show 2147483648 ≤ s by have := HS.out; omega)])
        clear WR OB2
        go_wp2
        refine bodyPost_ret (v := .tuple #[.int .i64 0, .slice none 0 0, .int .i64 8]) (by simp [results, Try.results10, go_sem]) rfl ⟨none, 0, by rw [hr.out]; rfl, by rw [hr.out]; exact NC _, HB.out⟩
      · have OB3 := Lib.hid fun w => OB2.out w (by have := HS.out; omega)
        have k1 : S + 1 ≤ 4294967295 := by omega
        have k2 : S + 1 ≥ 0 := by have := HS.out; omega
        have hsd : decide (S ≥ 2147483648) = false := decide_eq_false hs
        clear OB2
        by_cases ha : a = 0
        · have hd : (a == 0) = true := by simpa using ha
          have hr : Hid (writeF l ⟨p, q, r⟩ = (1, L, 0)) := Lib.hid (by rw [WR.out, if_neg (show ¬ 2147483648 ≤ s by have := HS.out; omega), if_neg (by rw [HN.out]; simp), if_pos ha])
          go_wp2_with fail
          refine (OB3.out _).mono ?_; rintro e w3 ⟨b3, c3, rfl, C3, hb3⟩
          have HB3 := Lib.hid (belowT HB.out hb3)
          clear OB3 hb3 HB
          go_wp2
          refine bodyPost_ret (v := .tuple #[.int .i64 1, .slice b3 12 c3, .int .i64 0]) (by simp [results, Try.results10, go_sem]) rfl ⟨b3, c3, by rw [hr.out]; simp only [SL.out]; rfl, by rw [hr.out]; exact C3, HB3.out⟩
        · have hd : (a == 0) = false := by simpa using ha
          have hr : Hid (writeF l ⟨p, q, r⟩ = (0, L, 0)) := Lib.hid (by rw [WR.out, if_neg (show ¬ 2147483648 ≤ s by have := HS.out; omega), if_neg (by rw [HN.out]; simp), if_neg ha])
          go_wp2_with fail
          refine (OB3.out _).mono ?_; rintro e w3 ⟨b3, c3, rfl, C3, hb3⟩
          have HB3 := Lib.hid (belowT HB.out hb3)
          clear OB3 hb3 HB
          go_wp2
          refine bodyPost_ret (v := .tuple #[.int .i64 0, .slice b3 12 c3, .int .i64 0]) (by simp [results, Try.results10, go_sem]) rfl ⟨b3, c3, by rw [hr.out]; simp only [SL.out]; rfl, by rw [hr.out]; exact C3, HB3.out⟩
  · have hq : ((l.length : Int) == 24) = false := by simp; omega
    rw [if_pos (show l.length ≠ 24 from h24)] at WR
    obtain ⟨p, q, r⟩ := n
    simp only [nv] at ⊢
    clear h24 NW H1
    go_enter Try.func10, Try.ntmps10
    go_wp2
    refine bodyPost_ret (v := .tuple #[.int .i64 0, .slice none 0 0, .int .i64 1]) (by simp [results, Try.results10, go_sem]) rfl ⟨none, 0, by rw [WR.out]; rfl, by rw [WR.out]; exact NC _, B1.out⟩
end Ref19
end Go.Proofs.Ytdalajfjikbcaaa
