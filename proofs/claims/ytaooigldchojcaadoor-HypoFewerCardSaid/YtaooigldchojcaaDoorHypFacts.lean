/- Closed facts of the law's awake. -/
import Derived.Test.YtaooigldchojcaaDoorHypBlame
namespace Go.Proofs.YtaooigldchojcaaDoor
namespace Law23
def rf1 : List Bool := listB (blame 1)
def rf2 : List Bool := listB fun _ => false
def rf5 : List Bool := listB fun p => decide (p < 13)
def rf6 : List Bool := listB (blame 6)
theorem factE1 : (Hyp.exc (Hyp.aliveL rf1 0) : Int) = 2 := by decide +kernel
theorem factM1 : Hyp.amb (Hyp.aliveL rf1 0) = false := by decide +kernel
theorem factY1 : Hyp.any (Hyp.aliveL rf1 0) = true := by decide +kernel
theorem factE2 : (Hyp.exc (Hyp.aliveL rf2 0) : Int) = 0 := by decide +kernel
theorem factL2 : (Hyp.blm (Hyp.livN (Hyp.aliveL rf2 0) 22) 3 : Int) = 6 := by decide +kernel
theorem factE5 : (Hyp.exc (Hyp.aliveL rf5 0) : Int) = 32 := by decide +kernel
theorem factM5 : Hyp.amb (Hyp.aliveL rf5 0) = true := by decide +kernel
theorem factY6 : Hyp.any (Hyp.aliveL rf6 0) = false := by decide +kernel
theorem factE6 : (Hyp.exc (Hyp.aliveL rf6 0) : Int) = 0 := by decide +kernel
end Law23
end Go.Proofs.YtaooigldchojcaaDoor
