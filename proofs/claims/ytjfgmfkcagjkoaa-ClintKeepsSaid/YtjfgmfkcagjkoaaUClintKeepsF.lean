/- ClintKeeps: all places are good. -/
import Derived.Test.YtjfgmfkcagjkoaaUClintKeepsP0
import Derived.Test.YtjfgmfkcagjkoaaUClintKeepsP1
import Derived.Test.YtjfgmfkcagjkoaaUClintKeepsP2
import Derived.Test.YtjfgmfkcagjkoaaUClintKeepsP3
namespace Go.Proofs.Ytjfgmfkcagjkoaa.Sx
open Go
theorem places0_yes : ∀ p ∈ places0, placeYes Try.prog noGlob lawEv 300 lawBody lawFn 0 100000 places0 lawExc0 p = true := by
  intro p hp
  simp only [places0, List.mem_cons, List.not_mem_nil, or_false] at hp
  rcases hp with rfl | rfl | rfl | rfl | rfl | rfl | rfl | rfl | rfl | rfl | rfl | rfl | rfl | rfl | rfl | rfl | rfl | rfl | rfl | rfl | rfl | rfl
  · exact place0_0_yes
  · exact place0_1_yes
  · exact place0_2_yes
  · exact place0_3_yes
  · exact place0_4_yes
  · exact place0_5_yes
  · exact place0_6_yes
  · exact place0_7_yes
  · exact place0_8_yes
  · exact place0_9_yes
  · exact place0_10_yes
  · exact place0_11_yes
  · exact place0_12_yes
  · exact place0_13_yes
  · exact place0_14_yes
  · exact place0_15_yes
  · exact place0_16_yes
  · exact place0_17_yes
  · exact place0_18_yes
  · exact place0_19_yes
  · exact place0_20_yes
  · exact place0_21_yes
end Go.Proofs.Ytjfgmfkcagjkoaa.Sx
