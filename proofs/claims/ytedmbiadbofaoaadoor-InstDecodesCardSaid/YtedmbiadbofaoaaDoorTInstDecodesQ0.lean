/- Calls that InstDecodes makes, read once and kept: a part. -/
import Derived.Test.YtedmbiadbofaoaaDoorTInstDecodesQ
namespace Go.Proofs.YtedmbiadbofaoaaDoor.Sx
open Go
set_option maxRecDepth 100000
def kept1 : List Kept := [{ fn := 11, args := [], val := .b (.lit 1) }]
theorem kept1_ok : keptOkT Tryd.prog tabs noBase 300 30 kept1 = true := by kernel_rfl
theorem kept1_is : ∀ k ∈ kept1, k.isT Tryd.prog tabs := keptT_is (noBase_ok _ _) (by kernel_rfl) (by kernel_rfl) (by kernel_rfl) kept1_ok
end Go.Proofs.YtedmbiadbofaoaaDoor.Sx
