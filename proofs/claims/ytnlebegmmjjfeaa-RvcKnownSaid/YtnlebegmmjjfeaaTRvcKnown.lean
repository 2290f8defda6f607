/- Calls that RvcKnown makes, read once and kept. -/
import Derived.Test.YtnlebegmmjjfeaaTRvcKnownQ0
import Derived.Test.YtnlebegmmjjfeaaTRvcKnownQ1
import Derived.Test.YtnlebegmmjjfeaaTRvcKnownQ2
import Derived.Test.YtnlebegmmjjfeaaTRvcKnownQ3
namespace Go.Proofs.Ytnlebegmmjjfeaa.Sx
open Go
set_option maxRecDepth 100000
def tab0 : List Kept := kept1 ++ (kept2 ++ (kept3 ++ (kept4 ++ (kept5 ++ (kept6 ++ (kept7 ++ (kept8 ++ (kept9 ++ (kept10 ++ (kept11 ++ (kept12 ++ (kept13 ++ (kept14 ++ (kept15 ++ (kept16 ++ (kept17 ++ (kept18 ++ (kept19 ++ (kept20 ++ (kept21 ++ (kept22 ++ (kept23 ++ (kept24 ++ (kept25 ++ (kept26 ++ (kept27 ++ (kept28 ++ (kept29 ++ (kept30 ++ (kept31))))))))))))))))))))))))))))))
theorem tab0_is : ∀ k ∈ tab0, k.is Try.prog := fun k hk => (List.mem_append.1 hk).elim (kept1_is k) fun hk => (List.mem_append.1 hk).elim (kept2_is k) fun hk => (List.mem_append.1 hk).elim (kept3_is k) fun hk => (List.mem_append.1 hk).elim (kept4_is k) fun hk => (List.mem_append.1 hk).elim (kept5_is k) fun hk => (List.mem_append.1 hk).elim (kept6_is k) fun hk => (List.mem_append.1 hk).elim (kept7_is k) fun hk => (List.mem_append.1 hk).elim (kept8_is k) fun hk => (List.mem_append.1 hk).elim (kept9_is k) fun hk => (List.mem_append.1 hk).elim (kept10_is k) fun hk => (List.mem_append.1 hk).elim (kept11_is k) fun hk => (List.mem_append.1 hk).elim (kept12_is k) fun hk => (List.mem_append.1 hk).elim (kept13_is k) fun hk => (List.mem_append.1 hk).elim (kept14_is k) fun hk => (List.mem_append.1 hk).elim (kept15_is k) fun hk => (List.mem_append.1 hk).elim (kept16_is k) fun hk => (List.mem_append.1 hk).elim (kept17_is k) fun hk => (List.mem_append.1 hk).elim (kept18_is k) fun hk => (List.mem_append.1 hk).elim (kept19_is k) fun hk => (List.mem_append.1 hk).elim (kept20_is k) fun hk => (List.mem_append.1 hk).elim (kept21_is k) fun hk => (List.mem_append.1 hk).elim (kept22_is k) fun hk => (List.mem_append.1 hk).elim (kept23_is k) fun hk => (List.mem_append.1 hk).elim (kept24_is k) fun hk => (List.mem_append.1 hk).elim (kept25_is k) fun hk => (List.mem_append.1 hk).elim (kept26_is k) fun hk => (List.mem_append.1 hk).elim (kept27_is k) fun hk => (List.mem_append.1 hk).elim (kept28_is k) fun hk => (List.mem_append.1 hk).elim (kept29_is k) fun hk => (List.mem_append.1 hk).elim (kept30_is k) fun hk => kept31_is k hk
def kept32 : List Kept := [{ fn := 11, args := [], val := .b (.lit 1) }]
theorem kept32_ok : keptOk Try.prog noGlob (keptEv tab0) 300 40 kept32 = true := by kernel_rfl
theorem kept32_is : ∀ k ∈ kept32, k.is Try.prog := kept_is (keptEv_ok tab0_is) (by kernel_rfl) kept32_ok
def tab1 : List Kept := tab0 ++ (kept32)
theorem tab1_is : ∀ k ∈ tab1, k.is Try.prog := fun k hk => (List.mem_append.1 hk).elim (tab0_is k) fun hk => kept32_is k hk
noncomputable abbrev base : Ev := (keptEv tab1)
theorem base_ok : Snd Try.prog noGlob base := (keptEv_ok tab1_is)
end Go.Proofs.Ytnlebegmmjjfeaa.Sx
