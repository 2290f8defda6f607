/- Calls that InstDecodes makes, read once and kept. -/
import Derived.Test.YtedmbiadbofaoaaDoorTInstDecodesQ0
namespace Go.Proofs.YtedmbiadbofaoaaDoor.Sx
open Go
set_option maxRecDepth 100000
def tab0 : List Kept := kept1
theorem tab0_is : ∀ k ∈ tab0, k.isT Tryd.prog tabs := fun k hk => kept1_is k hk
noncomputable abbrev base : Ev := (keptEvT tabs tab0)
theorem base_ok : Snd Tryd.prog (tabGlob tabs) base := (keptEvT_ok tab0_is)
end Go.Proofs.YtedmbiadbofaoaaDoor.Sx
