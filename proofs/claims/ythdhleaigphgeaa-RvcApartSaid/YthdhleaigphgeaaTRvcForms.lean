/- Calls that RvcForms makes, read once and kept. -/
import Derived.Test.YthdhleaigphgeaaTRvcFormsQ0
import Derived.Test.YthdhleaigphgeaaTRvcFormsQ1
set_option linter.unusedVariables false
set_option linter.unusedSimpArgs false
namespace Go.Proofs.Ythdhleaigphgeaa.Sx
open Go
set_option maxRecDepth 100000
def tab0 : List Kept := kept1 ++ (kept2 ++ (kept3 ++ (kept4)))
theorem tab0_is : ∀ k ∈ tab0, k.is Try.prog := fun k hk => (List.mem_append.1 hk).elim (kept1_is k) fun hk => (List.mem_append.1 hk).elim (kept2_is k) fun hk => (List.mem_append.1 hk).elim (kept3_is k) fun hk => kept4_is k hk
def kept5 : List Kept := [{ fn := 9, args := [], val := .b (.lit 1) }]
theorem kept5_ok : keptOk Try.prog noGlob (keptEv tab0) 300 40 kept5 = true := by kernel_rfl
theorem kept5_is : ∀ k ∈ kept5, k.is Try.prog := kept_is (keptEv_ok tab0_is) (by kernel_rfl) kept5_ok
def tab1 : List Kept := tab0 ++ (kept5)
theorem tab1_is : ∀ k ∈ tab1, k.is Try.prog := fun k hk => (List.mem_append.1 hk).elim (tab0_is k) fun hk => kept5_is k hk
noncomputable abbrev base : Ev := (keptEv tab1)
theorem base_ok : Snd Try.prog noGlob base := (keptEv_ok tab1_is)
end Go.Proofs.Ythdhleaigphgeaa.Sx
