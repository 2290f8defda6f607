/- TrapBack: nothing is told ahead. -/
import Derived.Test.YthlmpiaijiegjaaLTrapBack
namespace Go.Proofs.Ythlmpiaijiegjaa.Sx
open Go
theorem case0_ok (e : Nat → Int) : Holds e case0 := fun _ _ h => by cases h
end Go.Proofs.Ythlmpiaijiegjaa.Sx
