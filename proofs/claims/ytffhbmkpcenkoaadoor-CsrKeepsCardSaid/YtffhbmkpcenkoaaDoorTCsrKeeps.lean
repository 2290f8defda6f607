/- Calls that CsrKeeps makes, read once and kept. -/
import Derived.Test.YtffhbmkpcenkoaaDoorTCsrKeepsR0
import Derived.Test.YtffhbmkpcenkoaaDoorTCsrKeepsR1
import Derived.Test.YtffhbmkpcenkoaaDoorTCsrKeepsR2
import Derived.Test.YtffhbmkpcenkoaaDoorTCsrKeepsR3
import Derived.Test.YtffhbmkpcenkoaaDoorTCsrKeepsR4
import Derived.Test.YtffhbmkpcenkoaaDoorTCsrKeepsR5
set_option linter.unusedVariables false
set_option linter.unusedSimpArgs false
namespace Go.Proofs.YtffhbmkpcenkoaaDoor.Sx
open Go
set_option maxRecDepth 100000
noncomputable def tab2 : List Kept := keptc0 ++ (keptc1 ++ (keptc2 ++ (keptc3 ++ (keptc4 ++ (keptc5 ++ (keptc6 ++ (keptc7 ++ (keptc8 ++ (keptc9 ++ (keptc10 ++ (keptc11 ++ (keptc12 ++ (keptc13 ++ (keptc14 ++ (keptc15 ++ (keptc16 ++ (keptc17 ++ (keptc18 ++ (keptc19 ++ (keptc20 ++ (keptc21 ++ (keptc22 ++ (keptc23 ++ (keptc24 ++ (keptc25 ++ (keptc26 ++ (keptc27 ++ (keptc28 ++ (keptc29 ++ (keptc30 ++ (keptc31 ++ (keptc32))))))))))))))))))))))))))))))))
theorem tab2_is : ∀ k ∈ tab2, k.isT Tryd.prog tabs := fun k hk => (List.mem_append.1 hk).elim (keptc0_is k) fun hk => (List.mem_append.1 hk).elim (keptc1_is k) fun hk => (List.mem_append.1 hk).elim (keptc2_is k) fun hk => (List.mem_append.1 hk).elim (keptc3_is k) fun hk => (List.mem_append.1 hk).elim (keptc4_is k) fun hk => (List.mem_append.1 hk).elim (keptc5_is k) fun hk => (List.mem_append.1 hk).elim (keptc6_is k) fun hk => (List.mem_append.1 hk).elim (keptc7_is k) fun hk => (List.mem_append.1 hk).elim (keptc8_is k) fun hk => (List.mem_append.1 hk).elim (keptc9_is k) fun hk => (List.mem_append.1 hk).elim (keptc10_is k) fun hk => (List.mem_append.1 hk).elim (keptc11_is k) fun hk => (List.mem_append.1 hk).elim (keptc12_is k) fun hk => (List.mem_append.1 hk).elim (keptc13_is k) fun hk => (List.mem_append.1 hk).elim (keptc14_is k) fun hk => (List.mem_append.1 hk).elim (keptc15_is k) fun hk => (List.mem_append.1 hk).elim (keptc16_is k) fun hk => (List.mem_append.1 hk).elim (keptc17_is k) fun hk => (List.mem_append.1 hk).elim (keptc18_is k) fun hk => (List.mem_append.1 hk).elim (keptc19_is k) fun hk => (List.mem_append.1 hk).elim (keptc20_is k) fun hk => (List.mem_append.1 hk).elim (keptc21_is k) fun hk => (List.mem_append.1 hk).elim (keptc22_is k) fun hk => (List.mem_append.1 hk).elim (keptc23_is k) fun hk => (List.mem_append.1 hk).elim (keptc24_is k) fun hk => (List.mem_append.1 hk).elim (keptc25_is k) fun hk => (List.mem_append.1 hk).elim (keptc26_is k) fun hk => (List.mem_append.1 hk).elim (keptc27_is k) fun hk => (List.mem_append.1 hk).elim (keptc28_is k) fun hk => (List.mem_append.1 hk).elim (keptc29_is k) fun hk => (List.mem_append.1 hk).elim (keptc30_is k) fun hk => (List.mem_append.1 hk).elim (keptc31_is k) fun hk => keptc32_is k hk
noncomputable def tab3 : List Kept := tab1 ++ tab2
theorem tab3_is : ∀ k ∈ tab3, k.isT Tryd.prog tabs := fun k hk => (List.mem_append.1 hk).elim (tab1_is k) (tab2_is k)
noncomputable abbrev baseK : Ev := (keptEvT tabs tab3)
theorem baseK_ok : Snd Tryd.prog (tabGlob tabs) baseK := (keptEvT_ok tab3_is)
end Go.Proofs.YtffhbmkpcenkoaaDoor.Sx
