/- Calls that InstAwake makes, read once and kept. -/
import Derived.Test.YtjlfojjkdeflpaaDoorTInstAwakeQ0
set_option linter.unusedVariables false
set_option linter.unusedSimpArgs false
namespace Go.Proofs.YtjlfojjkdeflpaaDoor.Sx
open Go
set_option maxRecDepth 100000
def tab0 : List Kept := kept1 ++ (kept2)
theorem tab0_is : ∀ k ∈ tab0, k.isT Tryd.prog tabs := fun k hk => (List.mem_append.1 hk).elim (kept1_is k) fun hk => kept2_is k hk
def kept3 : List Kept := [{ fn := 7, args := [], val := .b (.lit 1) }]
theorem kept3_ok : keptOkT Tryd.prog tabs (keptEvT tabs tab0) 822752278660603021077484591278675252491367932816789931674304812 30 kept3 = true := by kernel_rfl
theorem kept3_is : ∀ k ∈ kept3, k.isT Tryd.prog tabs := keptT_is (keptEvT_ok tab0_is) (by kernel_rfl) (by kernel_rfl) (by kernel_rfl) kept3_ok
def tab1 : List Kept := tab0 ++ (kept3)
theorem tab1_is : ∀ k ∈ tab1, k.isT Tryd.prog tabs := fun k hk => (List.mem_append.1 hk).elim (tab0_is k) fun hk => kept3_is k hk
noncomputable abbrev base : Ev := (keptEvT tabs tab1)
theorem base_ok : Snd Tryd.prog (tabGlob tabs) base := (keptEvT_ok tab1_is)
end Go.Proofs.YtjlfojjkdeflpaaDoor.Sx
