/- Calls that TrapRises makes, read once and kept. -/
import Derived.Test.YtlhmcmadacemnaaSw
set_option linter.unusedVariables false
namespace Go.Proofs.Ytlhmcmadacemnaa.Sx
open Go
set_option maxRecDepth 100000
def kept1 : List Kept := [{ fn := 9, args := [], val := .b (.lit 1) }]
theorem kept1_ok : keptOk Try.prog noGlob noBase 300 30 kept1 = true := by kernel_rfl
theorem kept1_is : ∀ k ∈ kept1, k.is Try.prog := kept_is (noBase_ok _ _) (by kernel_rfl) kept1_ok
def tab0 : List Kept := kept1
theorem tab0_is : ∀ k ∈ tab0, k.is Try.prog := fun k hk => kept1_is k hk
abbrev base : Ev := (keptEv tab0)
theorem base_ok : Snd Try.prog noGlob base := (keptEv_ok tab0_is)
end Go.Proofs.Ytlhmcmadacemnaa.Sx
