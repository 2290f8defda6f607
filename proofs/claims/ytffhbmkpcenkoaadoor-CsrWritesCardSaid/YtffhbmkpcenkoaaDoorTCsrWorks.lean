/- Calls that CsrWorks makes, read once and kept. -/
import Derived.Test.YtffhbmkpcenkoaaDoorTCsrWorksQ0
set_option linter.unusedVariables false
set_option linter.unusedSimpArgs false
namespace Go.Proofs.YtffhbmkpcenkoaaDoor.Sx
open Go
set_option maxRecDepth 100000
def tab0 : List Kept := kept1 ++ (kept2 ++ (kept3 ++ (kept4)))
theorem tab0_is : ∀ k ∈ tab0, k.isT Tryd.prog tabs := fun k hk => (List.mem_append.1 hk).elim (kept1_is k) fun hk => (List.mem_append.1 hk).elim (kept2_is k) fun hk => (List.mem_append.1 hk).elim (kept3_is k) fun hk => kept4_is k hk
def kept5 : List Kept := [{ fn := 10, args := [], val := .b (.lit 1) }]
theorem kept5_ok : keptOkT Tryd.prog tabs (keptEvT tabs tab0) 300 30 kept5 = true := by kernel_rfl
theorem kept5_is : ∀ k ∈ kept5, k.isT Tryd.prog tabs := keptT_is (keptEvT_ok tab0_is) (by kernel_rfl) (by kernel_rfl) (by kernel_rfl) kept5_ok
def tab1 : List Kept := tab0 ++ (kept5)
theorem tab1_is : ∀ k ∈ tab1, k.isT Tryd.prog tabs := fun k hk => (List.mem_append.1 hk).elim (tab0_is k) fun hk => kept5_is k hk
noncomputable abbrev base : Ev := (keptEvT tabs tab1)
theorem base_ok : Snd Tryd.prog (tabGlob tabs) base := (keptEvT_ok tab1_is)
end Go.Proofs.YtffhbmkpcenkoaaDoor.Sx
