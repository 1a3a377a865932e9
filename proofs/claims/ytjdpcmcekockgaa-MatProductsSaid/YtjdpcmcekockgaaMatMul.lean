/- Mul of the document's own answers for layer 8. -/
import Derived.Test.YtjdpcmcekockgaaMatTurn
import Derived.Test.YtjdpcmcekockgaaSt
import Derived.Test.YtjdpcmcekockgaaRebase
namespace Go.Proofs.Ytjdpcmcekockgaa
open Go.RowKit
def M3.mul (a b : M3) : M3 := ⟨b.turn.times a.a, b.turn.times a.b, b.turn.times a.c⟩

/-- a's block, the result's, the turned one's, and what is made, n numbers of it -/
def mulB (w w1 : World) (a t r : M3) (n : Nat) : List (Nat × List (Option Value)) := [(w.heap.size, (ml a).map some), (w.heap.size + 1 + 1, List.replicate 9 none), (w1.heap.size, (ml t).map some), (w1.heap.size + 1, ((ml r).take n).map some ++ List.replicate (9 - n) none)]
theorem mulB_apart (w w1 : World) (a t r : M3) (h : w.heap.size + 3 ≤ w1.heap.size) (n : Nat) : Apart (mulB w w1 a t r n) := by
  unfold Apart mulB
  simp
  omega
namespace Ref8
/-- The operations of a drawn region, as the translation has them. -/
def mul6 : Array Oper := #[
  { dst := some 13, op := .move (.tmp 7), type := 3, pos := "ref.go:30", after := #[], guard := none },
  { dst := some 14, op := .load 25 (.tmp 5), type := 25, pos := "ref.go:30", after := #[], guard := none },
  { dst := some 15, op := .move (.tmp 7), type := 3, pos := "ref.go:30", after := #[], guard := none },
  { dst := some 16, op := .indexAddr 25 (.tmp 2) (.tmp 15), type := 0, pos := "ref.go:30", after := #[{ on := 2, ground := .data }], guard := none },
  { dst := some 17, op := .load 23 (.tmp 16), type := 23, pos := "ref.go:30", after := #[{ on := 3, ground := .data }], guard := none },
  { dst := some 18, op := .call { callee := .value (.func 32), args := #[.tmp 14, .tmp 17], argTypes := #[25, 23] }, type := 23, pos := "ref.go:30", after := #[{ on := 1, ground := .data }, { on := 4, ground := .data }], guard := none },
  { dst := some 19, op := .indexAddr 25 (.tmp 6) (.tmp 13), type := 0, pos := "ref.go:30", after := #[{ on := 0, ground := .data }, { on := 0, ground := .phase }, { on := 1, ground := .phase }, { on := 2, ground := .phase }, { on := 3, ground := .phase }, { on := 4, ground := .phase }, { on := 5, ground := .phase }], guard := none },
  { dst := none, op := .store 23 (.tmp 19) (.tmp 18), type := 0, pos := "ref.go:30", after := #[{ on := 6, ground := .data }, { on := 5, ground := .data }, { on := 5, ground := .chain }, { on := 0, ground := .phase }, { on := 1, ground := .phase }, { on := 2, ground := .phase }, { on := 3, ground := .phase }, { on := 4, ground := .phase }, { on := 5, ground := .phase }], guard := none }]
theorem mul6_plain : Region.noSelect mul6 = true := by kernel_rfl

set_option maxHeartbeats 8000000 in
set_option maxRecDepth 100000 in
theorem Mul_any (a b : M3) (w : World) :
    Calls Try.prog 31 #[mv a, mv b] w fun e w' => e = .returned (mv (a.mul b)) ∧ Below w.heap.size w w' := by
  have TU := Lib.hid (Turn_any b)
  obtain ⟨r, hr⟩ : ∃ r, r = a.mul b := ⟨_, rfl⟩
  rw [← hr]
  have ra : b.turn.times a.a = r.a := by rw [hr]; rfl
  have rb : b.turn.times a.b = r.b := by rw [hr]; rfl
  have rc : b.turn.times a.c = r.c := by rw [hr]; rfl
  clear hr
  obtain ⟨t, ht⟩ : ∃ t, t = b.turn := ⟨_, rfl⟩
  rw [← ht] at TU ra rb rc
  clear ht
  have T0 := fun w => Times_any t a.a w
  have T1 := fun w => Times_any t a.b w
  have T2 := fun w => Times_any t a.c w
  rw [ra] at T0
  rw [rb] at T1
  rw [rc] at T2
  replace T0 := Lib.hid T0; replace T1 := Lib.hid T1; replace T2 := Lib.hid T2
  clear ra rb rc
  have i1 : ∀ w1, Below (((w.alloc (.cells (ml a).toArray 25)).alloc (.cells (ml b).toArray 25)).alloc (.cells #[.int .i64 0, .int .i64 0, .int .i64 0, .int .i64 0, .int .i64 0, .int .i64 0, .int .i64 0, .int .i64 0, .int .i64 0] 25)).heap.size (((w.alloc (.cells (ml a).toArray 25)).alloc (.cells (ml b).toArray 25)).alloc (.cells #[.int .i64 0, .int .i64 0, .int .i64 0, .int .i64 0, .int .i64 0, .int .i64 0, .int .i64 0, .int .i64 0, .int .i64 0] 25)) w1 →
      w.heap.size + 3 ≤ w1.heap.size ∧ St w (mulB w w1 a t r 0) ((w1.alloc (.cells (ml t).toArray 25)).alloc (.cells #[.int .i64 0, .int .i64 0, .int .i64 0, .int .i64 0, .int .i64 0, .int .i64 0, .int .i64 0, .int .i64 0, .int .i64 0] 25)) := by
    intro w1 hb
    have h0 := (((St.none w).more (ml a) 25).more (ml b) 25).more [.int .i64 0, .int .i64 0, .int .i64 0, .int .i64 0, .int .i64 0, .int .i64 0, .int .i64 0, .int .i64 0, .int .i64 0] 25
    have h1 := ((h0.keep hb).more (ml t) 25).more [.int .i64 0, .int .i64 0, .int .i64 0, .int .i64 0, .int .i64 0, .int .i64 0, .int .i64 0, .int .i64 0, .int .i64 0] 25
    have hs := hb.size
    rw [heap1, heap1, heap1] at hs
    refine ⟨by omega, ?_⟩
    rw [heap1, heap1, heap1] at h1
    refine ⟨h1.below, fun p hp => ?_⟩
    unfold mulB at hp
    simp only [List.mem_cons, List.not_mem_nil, or_false] at hp
    rcases hp with rfl | rfl | rfl | rfl
    · exact h1.cells 0 rfl
    · exact (h1.cells 2 rfl).blank
    · exact h1.cells 3 rfl
    · have h4 := (h1.cells 4 rfl).blank
      rw [heap1] at h4; exact h4
  have I1 := Lib.hid i1
  clear i1
  go_enter Try.func31, Try.ntmps31
  go_wp2_with fail
  refine (TU.out _).mono ?_; rintro e w1 ⟨rfl, hb1⟩
  obtain ⟨hz, hS0⟩ := I1.out w1 hb1
  have HS0 := Lib.hid hS0
  have ap0 := fun n => mulB_apart w w1 a t r hz n
  clear hS0 hb1 I1 TU
  go_wp2_with fail
  go_loopw [10] (fun iv wr => ∃ i : Nat, i ≤ 3 ∧ iv = .int .i64 i ∧ St w (mulB w w1 a t r (3 * i)) wr) (fun iv _ => 3 - (intOf iv).toNat)
  case atStart => exact ⟨0, by omega, rfl, HS0.out⟩
  case round =>
    clear HS0
    obtain ⟨i, hi, rfl, hS⟩ := hrel
    rcases (show i = 0 ∨ i = 1 ∨ i = 2 ∨ i = 3 by omega) with rfl | rfl | rfl | rfl
    · obtain ⟨bs, hbs⟩ : ∃ bs, bs = mulB w w1 a t r 0 := ⟨_, rfl⟩
      rw [← hbs] at hS
      have ap : Apart bs := by rw [hbs]; exact ap0 _
      have m0 : ∀ w', St w bs w' → w'.cell? ⟨w.heap.size, 0, none⟩ = some (.int .i64 a.a.x.toInt) := by rw [hbs]; exact fun w' h => h.at 0 rfl 0 rfl
      have m1 : ∀ w', St w bs w' → w'.cell? ⟨w.heap.size, 1, none⟩ = some (.int .i64 a.a.y.toInt) := by rw [hbs]; exact fun w' h => h.at 0 rfl 1 rfl
      have m2 : ∀ w', St w bs w' → w'.cell? ⟨w.heap.size, 2, none⟩ = some (.int .i64 a.a.z.toInt) := by rw [hbs]; exact fun w' h => h.at 0 rfl 2 rfl
      have t0 : ∀ w', St w bs w' → w'.cell? ⟨w1.heap.size, 0, none⟩ = some (.int .i64 t.a.x.toInt) := by rw [hbs]; exact fun w' h => h.at 2 rfl 0 rfl
      have t1 : ∀ w', St w bs w' → w'.cell? ⟨w1.heap.size, 1, none⟩ = some (.int .i64 t.a.y.toInt) := by rw [hbs]; exact fun w' h => h.at 2 rfl 1 rfl
      have t2 : ∀ w', St w bs w' → w'.cell? ⟨w1.heap.size, 2, none⟩ = some (.int .i64 t.a.z.toInt) := by rw [hbs]; exact fun w' h => h.at 2 rfl 2 rfl
      have t3 : ∀ w', St w bs w' → w'.cell? ⟨w1.heap.size, 3, none⟩ = some (.int .i64 t.b.x.toInt) := by rw [hbs]; exact fun w' h => h.at 2 rfl 3 rfl
      have t4 : ∀ w', St w bs w' → w'.cell? ⟨w1.heap.size, 4, none⟩ = some (.int .i64 t.b.y.toInt) := by rw [hbs]; exact fun w' h => h.at 2 rfl 4 rfl
      have t5 : ∀ w', St w bs w' → w'.cell? ⟨w1.heap.size, 5, none⟩ = some (.int .i64 t.b.z.toInt) := by rw [hbs]; exact fun w' h => h.at 2 rfl 5 rfl
      have t6 : ∀ w', St w bs w' → w'.cell? ⟨w1.heap.size, 6, none⟩ = some (.int .i64 t.c.x.toInt) := by rw [hbs]; exact fun w' h => h.at 2 rfl 6 rfl
      have t7 : ∀ w', St w bs w' → w'.cell? ⟨w1.heap.size, 7, none⟩ = some (.int .i64 t.c.y.toInt) := by rw [hbs]; exact fun w' h => h.at 2 rfl 7 rfl
      have t8 : ∀ w', St w bs w' → w'.cell? ⟨w1.heap.size, 8, none⟩ = some (.int .i64 t.c.z.toInt) := by rw [hbs]; exact fun w' h => h.at 2 rfl 8 rfl
      have o0 : ∀ w', St w bs w' → ∃ z, w'.cell? ⟨w1.heap.size + 1, 0, none⟩ = some z ∧ w'.frozen? ⟨w1.heap.size + 1, 0, none⟩ = false := by rw [hbs]; exact fun w' h => h.there 3 rfl 0 rfl
      have s0 : ∀ w' z, St w bs w' → St w bs (w'.setCell ⟨w1.heap.size + 1, 0, none⟩ z) := by rw [hbs] at ap ⊢; exact fun w' z h => h.hit ap 3 rfl (by omega) 0 rfl z
      have o1 : ∀ w', St w bs w' → ∃ z, w'.cell? ⟨w1.heap.size + 1, 1, none⟩ = some z ∧ w'.frozen? ⟨w1.heap.size + 1, 1, none⟩ = false := by rw [hbs]; exact fun w' h => h.there 3 rfl 1 rfl
      have s1 : ∀ w' z, St w bs w' → St w bs (w'.setCell ⟨w1.heap.size + 1, 1, none⟩ z) := by rw [hbs] at ap ⊢; exact fun w' z h => h.hit ap 3 rfl (by omega) 1 rfl z
      have o2 : ∀ w', St w bs w' → ∃ z, w'.cell? ⟨w1.heap.size + 1, 2, none⟩ = some z ∧ w'.frozen? ⟨w1.heap.size + 1, 2, none⟩ = false := by rw [hbs]; exact fun w' h => h.there 3 rfl 2 rfl
      have s2 : ∀ w' z, St w bs w' → St w bs (w'.setCell ⟨w1.heap.size + 1, 2, none⟩ z) := by rw [hbs] at ap ⊢; exact fun w' z h => h.hit ap 3 rfl (by omega) 2 rfl z
      have nx : ∀ w', St w bs w' → St w (mulB w w1 a t r 3) (((w'.setCell ⟨w1.heap.size + 1, 0, none⟩ (.int .i64 r.a.x.toInt)).setCell ⟨w1.heap.size + 1, 1, none⟩ (.int .i64 r.a.y.toInt)).setCell ⟨w1.heap.size + 1, 2, none⟩ (.int .i64 r.a.z.toInt)) := by
        rw [hbs]
        exact fun w' h => ((h.put (ap0 _) 3 rfl (by omega) 0 _).put ((ap0 _).put rfl _) 3 rfl (by omega) 1 _).put (((ap0 _).put rfl _).put rfl _) 3 rfl (by omega) 2 _
      have kS : ∀ w1 w2, St w bs w1 → Below w1.heap.size w1 w2 → St w bs w2 := fun _ _ h hb => h.keep hb
      have TI := T0
      clear hbs ap ap0 T0 T1 T2
      go_upto_region 6 with fail
      change (Code.region 6 mul6 true).wp Try.prog _ _ _
      refine wp_region_noPanic ?_
      refine wp_region_held_drew (S := (St w bs)) (by kernel_rfl) (hS.drew) (fun hHeld => ?_)
      refine wpAnyH_take (i := 0) (oi := ({ dst := some 13, op := .move (.tmp 7), type := 3, pos := "ref.go:30", after := #[], guard := none } : Oper)) (v := ?vs7_0) rfl mul6_plain (by as_aux_lemma => kernel_rfl) (by as_aux_lemma => kernel_rfl) (fun _ _ _ h => h) (Or.inl ⟨by rfl, ?ys7_0⟩) (by assumption) ?rs7_0
      case ys7_0 => (intro w hSw; (try dsimp only at hSw); go_simp; try with_reducible rfl)
      try simp only [Act.put, List.setIfInBounds_toArray, List.set_cons_zero, List.set_cons_succ]
      refine wpAnyH_take (i := 1) (oi := ({ dst := some 14, op := .load 25 (.tmp 5), type := 25, pos := "ref.go:30", after := #[], guard := none } : Oper)) (v := ?vs7_1) rfl mul6_plain (by as_aux_lemma => kernel_rfl) (by as_aux_lemma => kernel_rfl) (fun _ _ _ h => h) (Or.inl ⟨by rfl, ?ys7_1⟩) (by assumption) ?rs7_1
      case ys7_1 => (intro w hSw; (try dsimp only at hSw); go_simp; try with_reducible rfl)
      try simp only [Act.put, List.setIfInBounds_toArray, List.set_cons_zero, List.set_cons_succ]
      refine wpAnyH_take (i := 2) (oi := ({ dst := some 15, op := .move (.tmp 7), type := 3, pos := "ref.go:30", after := #[], guard := none } : Oper)) (v := ?vs7_2) rfl mul6_plain (by as_aux_lemma => kernel_rfl) (by as_aux_lemma => kernel_rfl) (fun _ _ _ h => h) (Or.inl ⟨by rfl, ?ys7_2⟩) (by assumption) ?rs7_2
      case ys7_2 => (intro w hSw; (try dsimp only at hSw); go_simp; try with_reducible rfl)
      try simp only [Act.put, List.setIfInBounds_toArray, List.set_cons_zero, List.set_cons_succ]
      refine wpAnyH_take (i := 3) (oi := ({ dst := some 16, op := .indexAddr 25 (.tmp 2) (.tmp 15), type := 0, pos := "ref.go:30", after := #[{ on := 2, ground := .data }], guard := none } : Oper)) (v := ?vs7_3) rfl mul6_plain (by as_aux_lemma => kernel_rfl) (by as_aux_lemma => kernel_rfl) (fun _ _ _ h => h) (Or.inl ⟨by rfl, ?ys7_3⟩) (by assumption) ?rs7_3
      case ys7_3 => (intro w hSw; (try dsimp only at hSw); go_simp; try with_reducible rfl)
      try simp only [Act.put, List.setIfInBounds_toArray, List.set_cons_zero, List.set_cons_succ]
      refine wpAnyH_take (i := 4) (oi := ({ dst := some 17, op := .load 23 (.tmp 16), type := 23, pos := "ref.go:30", after := #[{ on := 3, ground := .data }], guard := none } : Oper)) (v := ?vs7_4) rfl mul6_plain (by as_aux_lemma => kernel_rfl) (by as_aux_lemma => kernel_rfl) (fun _ _ _ h => h) (Or.inl ⟨by rfl, ?ys7_4⟩) (by assumption) ?rs7_4
      case ys7_4 => (intro w hSw; (try dsimp only at hSw); go_simp; try with_reducible rfl)
      try simp only [Act.put, List.setIfInBounds_toArray, List.set_cons_zero, List.set_cons_succ]
      refine wpAnyH_ready (rs := [5]) (by as_aux_lemma => kernel_rfl) (by simp) ?_
      refine AllReadyH.cons (o := ({ dst := some 18, op := .call { callee := .value (.func 32), args := #[.tmp 14, .tmp 17], argTypes := #[25, 23] }, type := 23, pos := "ref.go:30", after := #[{ on := 1, ground := .data }, { on := 4, ground := .data }], guard := none } : Oper)) rfl (fun KK hK => ?_) AllReadyH.nil
      rw [if_pos (by rfl)]
      go_simp
      go_at_call 32; refine (TI.out _).mono ?_; rintro e w2 ⟨rfl, hb2⟩
      go_wp2_with fail
      refine hK.out _ _ ?_ (fun hHeld2 => ?_)
      · exact kS _ _ (by assumption) hb2
      clear hK KK hb2
      try simp only [Act.put, List.setIfInBounds_toArray, List.set_cons_zero, List.set_cons_succ]
      refine wpAnyH_take (i := 6) (oi := ({ dst := some 19, op := .indexAddr 25 (.tmp 6) (.tmp 13), type := 0, pos := "ref.go:30", after := #[{ on := 0, ground := .data }, { on := 0, ground := .phase }, { on := 1, ground := .phase }, { on := 2, ground := .phase }, { on := 3, ground := .phase }, { on := 4, ground := .phase }, { on := 5, ground := .phase }], guard := none } : Oper)) (v := ?vs7_6) rfl mul6_plain (by as_aux_lemma => kernel_rfl) (by as_aux_lemma => kernel_rfl) (fun _ _ _ h => h) (Or.inl ⟨by rfl, ?ys7_6⟩) (by assumption) ?rs7_6
      case ys7_6 => (intro w hSw; (try dsimp only at hSw); go_simp; try with_reducible rfl)
      try simp only [Act.put, List.setIfInBounds_toArray, List.set_cons_zero, List.set_cons_succ]
      refine wpAnyH_ready (rs := [7]) (by as_aux_lemma => kernel_rfl) (by simp) ?_
      refine AllReadyH.cons (o := ({ dst := none, op := .store 23 (.tmp 19) (.tmp 18), type := 0, pos := "ref.go:30", after := #[{ on := 6, ground := .data }, { on := 5, ground := .data }, { on := 5, ground := .chain }, { on := 0, ground := .phase }, { on := 1, ground := .phase }, { on := 2, ground := .phase }, { on := 3, ground := .phase }, { on := 4, ground := .phase }, { on := 5, ground := .phase }], guard := none } : Oper)) rfl (fun KK hK => ?_) AllReadyH.nil
      rw [if_pos (by rfl)]
      obtain ⟨z0, k0, f0⟩ := o0 w2 (by assumption)
      obtain ⟨z1, k1, f1⟩ := o1 w2 (by assumption)
      obtain ⟨z2, k2, f2⟩ := o2 w2 (by assumption)
      have N1 := nx w2 (by assumption)
      go_simp
      refine hK.out _ _ ?_ (fun hHeldS => ?_)
      · exact s2 _ _ (s1 _ _ (s0 _ _ (by assumption)))
      clear hK KK
      try simp only [Act.put, List.setIfInBounds_toArray, List.set_cons_zero, List.set_cons_succ]
      refine wpAnyH_done (by as_aux_lemma => kernel_rfl) ?_ _
      refine NoPanic.normal ?_
      go_wp2_with fail
      go_roundw
      case rel => exact ⟨1, by omega, rfl, N1⟩
      case measure => simp [intOf]
    · obtain ⟨bs, hbs⟩ : ∃ bs, bs = mulB w w1 a t r 3 := ⟨_, rfl⟩
      rw [← hbs] at hS
      have ap : Apart bs := by rw [hbs]; exact ap0 _
      have m0 : ∀ w', St w bs w' → w'.cell? ⟨w.heap.size, 3, none⟩ = some (.int .i64 a.b.x.toInt) := by rw [hbs]; exact fun w' h => h.at 0 rfl 3 rfl
      have m1 : ∀ w', St w bs w' → w'.cell? ⟨w.heap.size, 4, none⟩ = some (.int .i64 a.b.y.toInt) := by rw [hbs]; exact fun w' h => h.at 0 rfl 4 rfl
      have m2 : ∀ w', St w bs w' → w'.cell? ⟨w.heap.size, 5, none⟩ = some (.int .i64 a.b.z.toInt) := by rw [hbs]; exact fun w' h => h.at 0 rfl 5 rfl
      have t0 : ∀ w', St w bs w' → w'.cell? ⟨w1.heap.size, 0, none⟩ = some (.int .i64 t.a.x.toInt) := by rw [hbs]; exact fun w' h => h.at 2 rfl 0 rfl
      have t1 : ∀ w', St w bs w' → w'.cell? ⟨w1.heap.size, 1, none⟩ = some (.int .i64 t.a.y.toInt) := by rw [hbs]; exact fun w' h => h.at 2 rfl 1 rfl
      have t2 : ∀ w', St w bs w' → w'.cell? ⟨w1.heap.size, 2, none⟩ = some (.int .i64 t.a.z.toInt) := by rw [hbs]; exact fun w' h => h.at 2 rfl 2 rfl
      have t3 : ∀ w', St w bs w' → w'.cell? ⟨w1.heap.size, 3, none⟩ = some (.int .i64 t.b.x.toInt) := by rw [hbs]; exact fun w' h => h.at 2 rfl 3 rfl
      have t4 : ∀ w', St w bs w' → w'.cell? ⟨w1.heap.size, 4, none⟩ = some (.int .i64 t.b.y.toInt) := by rw [hbs]; exact fun w' h => h.at 2 rfl 4 rfl
      have t5 : ∀ w', St w bs w' → w'.cell? ⟨w1.heap.size, 5, none⟩ = some (.int .i64 t.b.z.toInt) := by rw [hbs]; exact fun w' h => h.at 2 rfl 5 rfl
      have t6 : ∀ w', St w bs w' → w'.cell? ⟨w1.heap.size, 6, none⟩ = some (.int .i64 t.c.x.toInt) := by rw [hbs]; exact fun w' h => h.at 2 rfl 6 rfl
      have t7 : ∀ w', St w bs w' → w'.cell? ⟨w1.heap.size, 7, none⟩ = some (.int .i64 t.c.y.toInt) := by rw [hbs]; exact fun w' h => h.at 2 rfl 7 rfl
      have t8 : ∀ w', St w bs w' → w'.cell? ⟨w1.heap.size, 8, none⟩ = some (.int .i64 t.c.z.toInt) := by rw [hbs]; exact fun w' h => h.at 2 rfl 8 rfl
      have o0 : ∀ w', St w bs w' → ∃ z, w'.cell? ⟨w1.heap.size + 1, 3, none⟩ = some z ∧ w'.frozen? ⟨w1.heap.size + 1, 3, none⟩ = false := by rw [hbs]; exact fun w' h => h.there 3 rfl 3 rfl
      have s0 : ∀ w' z, St w bs w' → St w bs (w'.setCell ⟨w1.heap.size + 1, 3, none⟩ z) := by rw [hbs] at ap ⊢; exact fun w' z h => h.hit ap 3 rfl (by omega) 3 rfl z
      have o1 : ∀ w', St w bs w' → ∃ z, w'.cell? ⟨w1.heap.size + 1, 4, none⟩ = some z ∧ w'.frozen? ⟨w1.heap.size + 1, 4, none⟩ = false := by rw [hbs]; exact fun w' h => h.there 3 rfl 4 rfl
      have s1 : ∀ w' z, St w bs w' → St w bs (w'.setCell ⟨w1.heap.size + 1, 4, none⟩ z) := by rw [hbs] at ap ⊢; exact fun w' z h => h.hit ap 3 rfl (by omega) 4 rfl z
      have o2 : ∀ w', St w bs w' → ∃ z, w'.cell? ⟨w1.heap.size + 1, 5, none⟩ = some z ∧ w'.frozen? ⟨w1.heap.size + 1, 5, none⟩ = false := by rw [hbs]; exact fun w' h => h.there 3 rfl 5 rfl
      have s2 : ∀ w' z, St w bs w' → St w bs (w'.setCell ⟨w1.heap.size + 1, 5, none⟩ z) := by rw [hbs] at ap ⊢; exact fun w' z h => h.hit ap 3 rfl (by omega) 5 rfl z
      have nx : ∀ w', St w bs w' → St w (mulB w w1 a t r 6) (((w'.setCell ⟨w1.heap.size + 1, 3, none⟩ (.int .i64 r.b.x.toInt)).setCell ⟨w1.heap.size + 1, 4, none⟩ (.int .i64 r.b.y.toInt)).setCell ⟨w1.heap.size + 1, 5, none⟩ (.int .i64 r.b.z.toInt)) := by
        rw [hbs]
        exact fun w' h => ((h.put (ap0 _) 3 rfl (by omega) 3 _).put ((ap0 _).put rfl _) 3 rfl (by omega) 4 _).put (((ap0 _).put rfl _).put rfl _) 3 rfl (by omega) 5 _
      have kS : ∀ w1 w2, St w bs w1 → Below w1.heap.size w1 w2 → St w bs w2 := fun _ _ h hb => h.keep hb
      have TI := T1
      clear hbs ap ap0 T0 T1 T2
      go_upto_region 6 with fail
      change (Code.region 6 mul6 true).wp Try.prog _ _ _
      refine wp_region_noPanic ?_
      refine wp_region_held_drew (S := (St w bs)) (by kernel_rfl) (hS.drew) (fun hHeld => ?_)
      refine wpAnyH_take (i := 0) (oi := ({ dst := some 13, op := .move (.tmp 7), type := 3, pos := "ref.go:30", after := #[], guard := none } : Oper)) (v := ?vs8_0) rfl mul6_plain (by as_aux_lemma => kernel_rfl) (by as_aux_lemma => kernel_rfl) (fun _ _ _ h => h) (Or.inl ⟨by rfl, ?ys8_0⟩) (by assumption) ?rs8_0
      case ys8_0 => (intro w hSw; (try dsimp only at hSw); go_simp; try with_reducible rfl)
      try simp only [Act.put, List.setIfInBounds_toArray, List.set_cons_zero, List.set_cons_succ]
      refine wpAnyH_take (i := 1) (oi := ({ dst := some 14, op := .load 25 (.tmp 5), type := 25, pos := "ref.go:30", after := #[], guard := none } : Oper)) (v := ?vs8_1) rfl mul6_plain (by as_aux_lemma => kernel_rfl) (by as_aux_lemma => kernel_rfl) (fun _ _ _ h => h) (Or.inl ⟨by rfl, ?ys8_1⟩) (by assumption) ?rs8_1
      case ys8_1 => (intro w hSw; (try dsimp only at hSw); go_simp; try with_reducible rfl)
      try simp only [Act.put, List.setIfInBounds_toArray, List.set_cons_zero, List.set_cons_succ]
      refine wpAnyH_take (i := 2) (oi := ({ dst := some 15, op := .move (.tmp 7), type := 3, pos := "ref.go:30", after := #[], guard := none } : Oper)) (v := ?vs8_2) rfl mul6_plain (by as_aux_lemma => kernel_rfl) (by as_aux_lemma => kernel_rfl) (fun _ _ _ h => h) (Or.inl ⟨by rfl, ?ys8_2⟩) (by assumption) ?rs8_2
      case ys8_2 => (intro w hSw; (try dsimp only at hSw); go_simp; try with_reducible rfl)
      try simp only [Act.put, List.setIfInBounds_toArray, List.set_cons_zero, List.set_cons_succ]
      refine wpAnyH_take (i := 3) (oi := ({ dst := some 16, op := .indexAddr 25 (.tmp 2) (.tmp 15), type := 0, pos := "ref.go:30", after := #[{ on := 2, ground := .data }], guard := none } : Oper)) (v := ?vs8_3) rfl mul6_plain (by as_aux_lemma => kernel_rfl) (by as_aux_lemma => kernel_rfl) (fun _ _ _ h => h) (Or.inl ⟨by rfl, ?ys8_3⟩) (by assumption) ?rs8_3
      case ys8_3 => (intro w hSw; (try dsimp only at hSw); go_simp; try with_reducible rfl)
      try simp only [Act.put, List.setIfInBounds_toArray, List.set_cons_zero, List.set_cons_succ]
      refine wpAnyH_take (i := 4) (oi := ({ dst := some 17, op := .load 23 (.tmp 16), type := 23, pos := "ref.go:30", after := #[{ on := 3, ground := .data }], guard := none } : Oper)) (v := ?vs8_4) rfl mul6_plain (by as_aux_lemma => kernel_rfl) (by as_aux_lemma => kernel_rfl) (fun _ _ _ h => h) (Or.inl ⟨by rfl, ?ys8_4⟩) (by assumption) ?rs8_4
      case ys8_4 => (intro w hSw; (try dsimp only at hSw); go_simp; try with_reducible rfl)
      try simp only [Act.put, List.setIfInBounds_toArray, List.set_cons_zero, List.set_cons_succ]
      refine wpAnyH_ready (rs := [5]) (by as_aux_lemma => kernel_rfl) (by simp) ?_
      refine AllReadyH.cons (o := ({ dst := some 18, op := .call { callee := .value (.func 32), args := #[.tmp 14, .tmp 17], argTypes := #[25, 23] }, type := 23, pos := "ref.go:30", after := #[{ on := 1, ground := .data }, { on := 4, ground := .data }], guard := none } : Oper)) rfl (fun KK hK => ?_) AllReadyH.nil
      rw [if_pos (by rfl)]
      go_simp
      go_at_call 32; refine (TI.out _).mono ?_; rintro e w2 ⟨rfl, hb2⟩
      go_wp2_with fail
      refine hK.out _ _ ?_ (fun hHeld2 => ?_)
      · exact kS _ _ (by assumption) hb2
      clear hK KK hb2
      try simp only [Act.put, List.setIfInBounds_toArray, List.set_cons_zero, List.set_cons_succ]
      refine wpAnyH_take (i := 6) (oi := ({ dst := some 19, op := .indexAddr 25 (.tmp 6) (.tmp 13), type := 0, pos := "ref.go:30", after := #[{ on := 0, ground := .data }, { on := 0, ground := .phase }, { on := 1, ground := .phase }, { on := 2, ground := .phase }, { on := 3, ground := .phase }, { on := 4, ground := .phase }, { on := 5, ground := .phase }], guard := none } : Oper)) (v := ?vs8_6) rfl mul6_plain (by as_aux_lemma => kernel_rfl) (by as_aux_lemma => kernel_rfl) (fun _ _ _ h => h) (Or.inl ⟨by rfl, ?ys8_6⟩) (by assumption) ?rs8_6
      case ys8_6 => (intro w hSw; (try dsimp only at hSw); go_simp; try with_reducible rfl)
      try simp only [Act.put, List.setIfInBounds_toArray, List.set_cons_zero, List.set_cons_succ]
      refine wpAnyH_ready (rs := [7]) (by as_aux_lemma => kernel_rfl) (by simp) ?_
      refine AllReadyH.cons (o := ({ dst := none, op := .store 23 (.tmp 19) (.tmp 18), type := 0, pos := "ref.go:30", after := #[{ on := 6, ground := .data }, { on := 5, ground := .data }, { on := 5, ground := .chain }, { on := 0, ground := .phase }, { on := 1, ground := .phase }, { on := 2, ground := .phase }, { on := 3, ground := .phase }, { on := 4, ground := .phase }, { on := 5, ground := .phase }], guard := none } : Oper)) rfl (fun KK hK => ?_) AllReadyH.nil
      rw [if_pos (by rfl)]
      obtain ⟨z0, k0, f0⟩ := o0 w2 (by assumption)
      obtain ⟨z1, k1, f1⟩ := o1 w2 (by assumption)
      obtain ⟨z2, k2, f2⟩ := o2 w2 (by assumption)
      have N1 := nx w2 (by assumption)
      go_simp
      refine hK.out _ _ ?_ (fun hHeldS => ?_)
      · exact s2 _ _ (s1 _ _ (s0 _ _ (by assumption)))
      clear hK KK
      try simp only [Act.put, List.setIfInBounds_toArray, List.set_cons_zero, List.set_cons_succ]
      refine wpAnyH_done (by as_aux_lemma => kernel_rfl) ?_ _
      refine NoPanic.normal ?_
      go_wp2_with fail
      go_roundw
      case rel => exact ⟨2, by omega, rfl, N1⟩
      case measure => simp [intOf]
    · obtain ⟨bs, hbs⟩ : ∃ bs, bs = mulB w w1 a t r 6 := ⟨_, rfl⟩
      rw [← hbs] at hS
      have ap : Apart bs := by rw [hbs]; exact ap0 _
      have m0 : ∀ w', St w bs w' → w'.cell? ⟨w.heap.size, 6, none⟩ = some (.int .i64 a.c.x.toInt) := by rw [hbs]; exact fun w' h => h.at 0 rfl 6 rfl
      have m1 : ∀ w', St w bs w' → w'.cell? ⟨w.heap.size, 7, none⟩ = some (.int .i64 a.c.y.toInt) := by rw [hbs]; exact fun w' h => h.at 0 rfl 7 rfl
      have m2 : ∀ w', St w bs w' → w'.cell? ⟨w.heap.size, 8, none⟩ = some (.int .i64 a.c.z.toInt) := by rw [hbs]; exact fun w' h => h.at 0 rfl 8 rfl
      have t0 : ∀ w', St w bs w' → w'.cell? ⟨w1.heap.size, 0, none⟩ = some (.int .i64 t.a.x.toInt) := by rw [hbs]; exact fun w' h => h.at 2 rfl 0 rfl
      have t1 : ∀ w', St w bs w' → w'.cell? ⟨w1.heap.size, 1, none⟩ = some (.int .i64 t.a.y.toInt) := by rw [hbs]; exact fun w' h => h.at 2 rfl 1 rfl
      have t2 : ∀ w', St w bs w' → w'.cell? ⟨w1.heap.size, 2, none⟩ = some (.int .i64 t.a.z.toInt) := by rw [hbs]; exact fun w' h => h.at 2 rfl 2 rfl
      have t3 : ∀ w', St w bs w' → w'.cell? ⟨w1.heap.size, 3, none⟩ = some (.int .i64 t.b.x.toInt) := by rw [hbs]; exact fun w' h => h.at 2 rfl 3 rfl
      have t4 : ∀ w', St w bs w' → w'.cell? ⟨w1.heap.size, 4, none⟩ = some (.int .i64 t.b.y.toInt) := by rw [hbs]; exact fun w' h => h.at 2 rfl 4 rfl
      have t5 : ∀ w', St w bs w' → w'.cell? ⟨w1.heap.size, 5, none⟩ = some (.int .i64 t.b.z.toInt) := by rw [hbs]; exact fun w' h => h.at 2 rfl 5 rfl
      have t6 : ∀ w', St w bs w' → w'.cell? ⟨w1.heap.size, 6, none⟩ = some (.int .i64 t.c.x.toInt) := by rw [hbs]; exact fun w' h => h.at 2 rfl 6 rfl
      have t7 : ∀ w', St w bs w' → w'.cell? ⟨w1.heap.size, 7, none⟩ = some (.int .i64 t.c.y.toInt) := by rw [hbs]; exact fun w' h => h.at 2 rfl 7 rfl
      have t8 : ∀ w', St w bs w' → w'.cell? ⟨w1.heap.size, 8, none⟩ = some (.int .i64 t.c.z.toInt) := by rw [hbs]; exact fun w' h => h.at 2 rfl 8 rfl
      have o0 : ∀ w', St w bs w' → ∃ z, w'.cell? ⟨w1.heap.size + 1, 6, none⟩ = some z ∧ w'.frozen? ⟨w1.heap.size + 1, 6, none⟩ = false := by rw [hbs]; exact fun w' h => h.there 3 rfl 6 rfl
      have s0 : ∀ w' z, St w bs w' → St w bs (w'.setCell ⟨w1.heap.size + 1, 6, none⟩ z) := by rw [hbs] at ap ⊢; exact fun w' z h => h.hit ap 3 rfl (by omega) 6 rfl z
      have o1 : ∀ w', St w bs w' → ∃ z, w'.cell? ⟨w1.heap.size + 1, 7, none⟩ = some z ∧ w'.frozen? ⟨w1.heap.size + 1, 7, none⟩ = false := by rw [hbs]; exact fun w' h => h.there 3 rfl 7 rfl
      have s1 : ∀ w' z, St w bs w' → St w bs (w'.setCell ⟨w1.heap.size + 1, 7, none⟩ z) := by rw [hbs] at ap ⊢; exact fun w' z h => h.hit ap 3 rfl (by omega) 7 rfl z
      have o2 : ∀ w', St w bs w' → ∃ z, w'.cell? ⟨w1.heap.size + 1, 8, none⟩ = some z ∧ w'.frozen? ⟨w1.heap.size + 1, 8, none⟩ = false := by rw [hbs]; exact fun w' h => h.there 3 rfl 8 rfl
      have s2 : ∀ w' z, St w bs w' → St w bs (w'.setCell ⟨w1.heap.size + 1, 8, none⟩ z) := by rw [hbs] at ap ⊢; exact fun w' z h => h.hit ap 3 rfl (by omega) 8 rfl z
      have nx : ∀ w', St w bs w' → St w (mulB w w1 a t r 9) (((w'.setCell ⟨w1.heap.size + 1, 6, none⟩ (.int .i64 r.c.x.toInt)).setCell ⟨w1.heap.size + 1, 7, none⟩ (.int .i64 r.c.y.toInt)).setCell ⟨w1.heap.size + 1, 8, none⟩ (.int .i64 r.c.z.toInt)) := by
        rw [hbs]
        exact fun w' h => ((h.put (ap0 _) 3 rfl (by omega) 6 _).put ((ap0 _).put rfl _) 3 rfl (by omega) 7 _).put (((ap0 _).put rfl _).put rfl _) 3 rfl (by omega) 8 _
      have kS : ∀ w1 w2, St w bs w1 → Below w1.heap.size w1 w2 → St w bs w2 := fun _ _ h hb => h.keep hb
      have TI := T2
      clear hbs ap ap0 T0 T1 T2
      go_upto_region 6 with fail
      change (Code.region 6 mul6 true).wp Try.prog _ _ _
      refine wp_region_noPanic ?_
      refine wp_region_held_drew (S := (St w bs)) (by kernel_rfl) (hS.drew) (fun hHeld => ?_)
      refine wpAnyH_take (i := 0) (oi := ({ dst := some 13, op := .move (.tmp 7), type := 3, pos := "ref.go:30", after := #[], guard := none } : Oper)) (v := ?vs9_0) rfl mul6_plain (by as_aux_lemma => kernel_rfl) (by as_aux_lemma => kernel_rfl) (fun _ _ _ h => h) (Or.inl ⟨by rfl, ?ys9_0⟩) (by assumption) ?rs9_0
      case ys9_0 => (intro w hSw; (try dsimp only at hSw); go_simp; try with_reducible rfl)
      try simp only [Act.put, List.setIfInBounds_toArray, List.set_cons_zero, List.set_cons_succ]
      refine wpAnyH_take (i := 1) (oi := ({ dst := some 14, op := .load 25 (.tmp 5), type := 25, pos := "ref.go:30", after := #[], guard := none } : Oper)) (v := ?vs9_1) rfl mul6_plain (by as_aux_lemma => kernel_rfl) (by as_aux_lemma => kernel_rfl) (fun _ _ _ h => h) (Or.inl ⟨by rfl, ?ys9_1⟩) (by assumption) ?rs9_1
      case ys9_1 => (intro w hSw; (try dsimp only at hSw); go_simp; try with_reducible rfl)
      try simp only [Act.put, List.setIfInBounds_toArray, List.set_cons_zero, List.set_cons_succ]
      refine wpAnyH_take (i := 2) (oi := ({ dst := some 15, op := .move (.tmp 7), type := 3, pos := "ref.go:30", after := #[], guard := none } : Oper)) (v := ?vs9_2) rfl mul6_plain (by as_aux_lemma => kernel_rfl) (by as_aux_lemma => kernel_rfl) (fun _ _ _ h => h) (Or.inl ⟨by rfl, ?ys9_2⟩) (by assumption) ?rs9_2
      case ys9_2 => (intro w hSw; (try dsimp only at hSw); go_simp; try with_reducible rfl)
      try simp only [Act.put, List.setIfInBounds_toArray, List.set_cons_zero, List.set_cons_succ]
      refine wpAnyH_take (i := 3) (oi := ({ dst := some 16, op := .indexAddr 25 (.tmp 2) (.tmp 15), type := 0, pos := "ref.go:30", after := #[{ on := 2, ground := .data }], guard := none } : Oper)) (v := ?vs9_3) rfl mul6_plain (by as_aux_lemma => kernel_rfl) (by as_aux_lemma => kernel_rfl) (fun _ _ _ h => h) (Or.inl ⟨by rfl, ?ys9_3⟩) (by assumption) ?rs9_3
      case ys9_3 => (intro w hSw; (try dsimp only at hSw); go_simp; try with_reducible rfl)
      try simp only [Act.put, List.setIfInBounds_toArray, List.set_cons_zero, List.set_cons_succ]
      refine wpAnyH_take (i := 4) (oi := ({ dst := some 17, op := .load 23 (.tmp 16), type := 23, pos := "ref.go:30", after := #[{ on := 3, ground := .data }], guard := none } : Oper)) (v := ?vs9_4) rfl mul6_plain (by as_aux_lemma => kernel_rfl) (by as_aux_lemma => kernel_rfl) (fun _ _ _ h => h) (Or.inl ⟨by rfl, ?ys9_4⟩) (by assumption) ?rs9_4
      case ys9_4 => (intro w hSw; (try dsimp only at hSw); go_simp; try with_reducible rfl)
      try simp only [Act.put, List.setIfInBounds_toArray, List.set_cons_zero, List.set_cons_succ]
      refine wpAnyH_ready (rs := [5]) (by as_aux_lemma => kernel_rfl) (by simp) ?_
      refine AllReadyH.cons (o := ({ dst := some 18, op := .call { callee := .value (.func 32), args := #[.tmp 14, .tmp 17], argTypes := #[25, 23] }, type := 23, pos := "ref.go:30", after := #[{ on := 1, ground := .data }, { on := 4, ground := .data }], guard := none } : Oper)) rfl (fun KK hK => ?_) AllReadyH.nil
      rw [if_pos (by rfl)]
      go_simp
      go_at_call 32; refine (TI.out _).mono ?_; rintro e w2 ⟨rfl, hb2⟩
      go_wp2_with fail
      refine hK.out _ _ ?_ (fun hHeld2 => ?_)
      · exact kS _ _ (by assumption) hb2
      clear hK KK hb2
      try simp only [Act.put, List.setIfInBounds_toArray, List.set_cons_zero, List.set_cons_succ]
      refine wpAnyH_take (i := 6) (oi := ({ dst := some 19, op := .indexAddr 25 (.tmp 6) (.tmp 13), type := 0, pos := "ref.go:30", after := #[{ on := 0, ground := .data }, { on := 0, ground := .phase }, { on := 1, ground := .phase }, { on := 2, ground := .phase }, { on := 3, ground := .phase }, { on := 4, ground := .phase }, { on := 5, ground := .phase }], guard := none } : Oper)) (v := ?vs9_6) rfl mul6_plain (by as_aux_lemma => kernel_rfl) (by as_aux_lemma => kernel_rfl) (fun _ _ _ h => h) (Or.inl ⟨by rfl, ?ys9_6⟩) (by assumption) ?rs9_6
      case ys9_6 => (intro w hSw; (try dsimp only at hSw); go_simp; try with_reducible rfl)
      try simp only [Act.put, List.setIfInBounds_toArray, List.set_cons_zero, List.set_cons_succ]
      refine wpAnyH_ready (rs := [7]) (by as_aux_lemma => kernel_rfl) (by simp) ?_
      refine AllReadyH.cons (o := ({ dst := none, op := .store 23 (.tmp 19) (.tmp 18), type := 0, pos := "ref.go:30", after := #[{ on := 6, ground := .data }, { on := 5, ground := .data }, { on := 5, ground := .chain }, { on := 0, ground := .phase }, { on := 1, ground := .phase }, { on := 2, ground := .phase }, { on := 3, ground := .phase }, { on := 4, ground := .phase }, { on := 5, ground := .phase }], guard := none } : Oper)) rfl (fun KK hK => ?_) AllReadyH.nil
      rw [if_pos (by rfl)]
      obtain ⟨z0, k0, f0⟩ := o0 w2 (by assumption)
      obtain ⟨z1, k1, f1⟩ := o1 w2 (by assumption)
      obtain ⟨z2, k2, f2⟩ := o2 w2 (by assumption)
      have N1 := nx w2 (by assumption)
      go_simp
      refine hK.out _ _ ?_ (fun hHeldS => ?_)
      · exact s2 _ _ (s1 _ _ (s0 _ _ (by assumption)))
      clear hK KK
      try simp only [Act.put, List.setIfInBounds_toArray, List.set_cons_zero, List.set_cons_succ]
      refine wpAnyH_done (by as_aux_lemma => kernel_rfl) ?_ _
      refine NoPanic.normal ?_
      go_wp2_with fail
      go_roundw
      case rel => exact ⟨3, by omega, rfl, N1⟩
      case measure => simp [intOf]
    · have hB := hS.below
      have k0 := hS.at 3 rfl 0 (v := .int .i64 r.a.x.toInt) rfl
      have k1 := hS.at 3 rfl 1 (v := .int .i64 r.a.y.toInt) rfl
      have k2 := hS.at 3 rfl 2 (v := .int .i64 r.a.z.toInt) rfl
      have k3 := hS.at 3 rfl 3 (v := .int .i64 r.b.x.toInt) rfl
      have k4 := hS.at 3 rfl 4 (v := .int .i64 r.b.y.toInt) rfl
      have k5 := hS.at 3 rfl 5 (v := .int .i64 r.b.z.toInt) rfl
      have k6 := hS.at 3 rfl 6 (v := .int .i64 r.c.x.toInt) rfl
      have k7 := hS.at 3 rfl 7 (v := .int .i64 r.c.y.toInt) rfl
      have k8 := hS.at 3 rfl 8 (v := .int .i64 r.c.z.toInt) rfl
      obtain ⟨y0, g0, q0⟩ := hS.there 1 rfl 0 rfl
      obtain ⟨y1, g1, q1⟩ := hS.there 1 rfl 1 rfl
      obtain ⟨y2, g2, q2⟩ := hS.there 1 rfl 2 rfl
      obtain ⟨y3, g3, q3⟩ := hS.there 1 rfl 3 rfl
      obtain ⟨y4, g4, q4⟩ := hS.there 1 rfl 4 rfl
      obtain ⟨y5, g5, q5⟩ := hS.there 1 rfl 5 rfl
      obtain ⟨y6, g6, q6⟩ := hS.there 1 rfl 6 rfl
      obtain ⟨y7, g7, q7⟩ := hS.there 1 rfl 7 rfl
      obtain ⟨y8, g8, q8⟩ := hS.there 1 rfl 8 rfl
      have BH := Lib.hid hB
      clear hS hB ap0 T0 T1 T2
      go_wp2
      refine bodyPost_ret (v := mv r) (by simp [mv, ml, results, Try.results31, go_sem, *]) rfl ⟨rfl, ?_⟩
      iterate 9 refine Below.setCell (p := ⟨w.heap.size + 1 + 1, _, none⟩) ?_ (show w.heap.size ≤ w.heap.size + 1 + 1 by omega) _
      exact BH.out
end Ref8
end Go.Proofs.Ytjdpcmcekockgaa
