/- InstDecodes: what is told of it ahead. -/
import Derived.Test.YtedmbiadbofaoaaDoorUd
import Derived.Test.YtedmbiadbofaoaaDoorTInstDecodes
namespace Go.Proofs.YtedmbiadbofaoaaDoor.Sx
open Go
noncomputable section
set_option maxRecDepth 100000
/-- A table of the start, as a block. -/
def tb (i : Nat) : Nat × Blk := (i, match tat tabs i with | some t => .ro t.cells | none => .dead)
noncomputable abbrev lawFn : Func := Tryd.f3
noncomputable abbrev lawBody : Code := ((Tryd.f3.body).getD .skip)
noncomputable abbrev lawEv : Ev := ev Tryd.prog (tabGlob tabs) base 300 30
def lawPs : List Ps := [.one (some .u32)]
end
end Go.Proofs.YtedmbiadbofaoaaDoor.Sx
