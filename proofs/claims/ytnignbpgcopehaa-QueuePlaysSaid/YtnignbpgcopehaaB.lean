/- Some of the chapter's answers hold: awake, read by the reader. -/
import Derived.Test.YtnignbpgcopehaaA
import Derived.Test.YtnignbpgcopehaaSv
set_option linter.unusedVariables false
set_option linter.unusedSimpArgs false
namespace Go.Proofs.Ytnignbpgcopehaa
open Go.RowKit
def Yes (w : World) (e : Ending) (w' : World) : Prop := e = .returned (.bool true) ∧ Below w.heap.size w w'
set_option maxRecDepth 100000 in
theorem read_awake : Sx.yes (Sx.ev Try.prog Sx.noGlob Sx.noBase 300 30 [] 10 [] Sx.st00) = true := by kernel_rfl
theorem awake_any (w : World) : Calls Try.prog 10 #[] w (Yes w) :=
  Sx.calls_yes (Sx.noBase_ok _ _) (by kernel_rfl) (args := []) trivial read_awake (fun _ => 0) (fun _ => undef) w
end Go.Proofs.Ytnignbpgcopehaa
