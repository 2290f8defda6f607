/- ClintKeeps: ways from one place to the next, part 0. -/
import Derived.Test.YtjfgmfkcagjkoaaUClintKeeps
namespace Go.Proofs.Ytjfgmfkcagjkoaa.Sx
open Go
set_option maxRecDepth 100000
theorem place0_0_yes : placeYes Try.prog noGlob lawEv 300 lawBody lawFn 0 100000 places0 lawExc0 place0_0 = true := by kernel_rfl
theorem start0_yes : startYes Try.prog noGlob lawEv 300 lawBody lawFn 0 100000 places0 lawExc0 lawArgs0 start0 = true := by kernel_rfl
theorem empty_yes : startYes Try.prog noGlob lawEv 300 lawBody lawFn 0 100000 places0 lawExc0 emptyArgs { nxt := 1, hp := hpOf [(0, .dead)], pc := [] } = true := by kernel_rfl
theorem nil_yes : startYes Try.prog noGlob lawEv 300 lawBody lawFn 0 100000 places0 lawExc0 nilArgs { nxt := 0, hp := .nil, pc := [] } = true := by kernel_rfl
theorem place0_1_yes : placeYes Try.prog noGlob lawEv 300 lawBody lawFn 0 100000 places0 lawExc0 place0_1 = true := by kernel_rfl
theorem place0_2_yes : placeYes Try.prog noGlob lawEv 300 lawBody lawFn 0 100000 places0 lawExc0 place0_2 = true := by kernel_rfl
theorem place0_3_yes : placeYes Try.prog noGlob lawEv 300 lawBody lawFn 0 100000 places0 lawExc0 place0_3 = true := by kernel_rfl
theorem place0_4_yes : placeYes Try.prog noGlob lawEv 300 lawBody lawFn 0 100000 places0 lawExc0 place0_4 = true := by kernel_rfl
end Go.Proofs.Ytjfgmfkcagjkoaa.Sx
