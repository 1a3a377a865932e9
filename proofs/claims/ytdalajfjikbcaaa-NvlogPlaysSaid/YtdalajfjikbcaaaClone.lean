/- bytes.Clone: its answer is the call's own, and may be written in place. -/
import Derived.Test.YtdalajfjikbcaaaBufOwn
namespace Go.Proofs.Ytdalajfjikbcaaa
open Go.RowKit

theorem bytes0_nil (w : World) : Bytes0 w.heap.size w w (.slice none 0 0) [] := ⟨⟨rfl, Or.inl ⟨rfl, rfl⟩⟩, Below.refl _ _, Nat.le_refl _⟩
theorem Clone_own {w : World} {ba : Option Addr} {cap : Nat} {l : List UInt8} (C : Came w ba cap l) (hsmall : l.length ≤ 1000000000) :
    Calls Try.prog 18 #[.slice ba l.length cap] w fun e w' => ∃ v, e = .returned v ∧ Bytes0 w.heap.size w w' v l := by
  have qT : ∀ (w : World) (a : Option Addr) (n c n' c' : Nat), (binOp .eql 22 (.slice a n c) (.slice none n' c')).run Try.prog w = .ok (.bool a.isNone) w := fun w a n c n' c' => Lib.run_eql_slice_nil w _ _ a n c n' c' Try.underlying22
  cases ba with
  | none =>
    obtain ⟨rfl, rfl⟩ := C.nil rfl
    clear C
    go_enter Try.func18, Try.ntmps18
    go_wp2
    go_ret
    exact ⟨_, rfl, bytes0_nil w⟩
  | some a =>
    have b0 := empty_bytes0 w _ rfl
    have HC := Lib.hid (C.keep b0.below)
    have hroom : ([] : List UInt8).length + l.length ≤ 140737488355328 := by simp only [List.length_nil]; omega
    clear C
    go_enter Try.func18, Try.ntmps18
    go_wp2_with (at_builtin; refine list_append_came0 (v := .slice (some ⟨w.heap.size, 0, none⟩) 0 0) (m := l) (ba := some a) (c := cap) rfl rfl rfl b0 rfl HC.out hroom ?_)
    intro v w1 hv
    go_wp2
    go_ret
    exact ⟨_, rfl, hv⟩
end Go.Proofs.Ytdalajfjikbcaaa
