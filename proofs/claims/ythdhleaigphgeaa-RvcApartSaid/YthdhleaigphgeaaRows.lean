/-
  No cell of these rows narrows 'for every input' (looked for: loops, veiled, ifaces, maps, wideKeys, modest, calm, conditions, laid).
  DERIVED. THE GIVEN ROWS OF THIS SEAT. 4 by the template 'for every input the law returns true; each argument reads behind the call as it read before'; 0 by the template 'total and deterministic' (their statements: YthdhleaigphgeaaTotals.lean).
  GIVEN WITH THE SEED: the statements are not yours to turn. If you find one false, say at which input.
  Laid BY PROGRAM, IN A SANDBOX (cutbox-rows.mjs): the forced cells as the released guide's own fill.sh prints them over the translation d6f959fd0d65fde7… (all of the seat's roots in one cut). By AI agents, Wed Nov 11 2026. No macro, syntax, notation, axiom, sorry.
-/
import Derived.Test.YthdhleaigphgeaaChecked
import GoSem.Claim
import GoSem.ClaimJoined
import GoSem.ClaimMapViews
import Derived.JoinedTies
import Derived.KernelRfl
namespace Go.Proofs.Ythdhleaigphgeaa
/- THE CELL 'sum', in the pinned program and in every row, IS THE sha256 OF THE DUMP (.gsa) THAT YthdhleaigphgeaaProg.lean LOADS. Nothing in Lean hashes anything: it is a label: what it is worth is what the hold of that sum in a sandbox is worth. -/
noncomputable def Try.pinned : Pinned := { name := "ythdhleaigphgeaa", sum := "d6f959fd0d65fde709b0513be40b0e0ab47aa8e85f4045654262d49333065166", checked := Try.checked }
namespace Rows
def none {H : Type} : Left H := { results := [], args := [] }

/-- 'almonrylaw04.RvcDecodes': WHATEVER THE INPUT: true; the input reads as it did. -/
def rvcDecodesSpec : ChangeSpec := { name := "rvcDecodes", fn := fun _ => fun
  | [d] => { results := [.lit (.bool true)], args := [d] }
  | _ => none }
def rvcDecodesRow : OpenClaim := { program := "ythdhleaigphgeaa", sum := "d6f959fd0d65fde709b0513be40b0e0ab47aa8e85f4045654262d49333065166", func := "almonry/almonrylaw04.RvcDecodes", spec := "rvcDecodes", unfollowed := true, recurses := true, apart := false }
def RvcDecodesSaid : Prop := rvcDecodesRow.holds Try.pinned (OpenSpec.ofChange rvcDecodesSpec)

/-- ITS FALSE NEIGHBOUR: 'it returns false'. Refute it at one input. -/
def rvcDecodesWrong : ChangeSpec := { name := "rvcDecodes", fn := fun _ => fun
  | [d] => { results := [.lit (.bool false)], args := [d] }
  | _ => none }
def RvcDecodesWrongFalsely : Prop := rvcDecodesRow.holds Try.pinned (OpenSpec.ofChange rvcDecodesWrong)

/-- 'almonrylaw04.RvcBack': WHATEVER THE INPUT: true; the input reads as it did. -/
def rvcBackSpec : ChangeSpec := { name := "rvcBack", fn := fun _ => fun
  | [d1, d2] => { results := [.lit (.bool true)], args := [d1, d2] }
  | _ => none }
def rvcBackRow : OpenClaim := { program := "ythdhleaigphgeaa", sum := "d6f959fd0d65fde709b0513be40b0e0ab47aa8e85f4045654262d49333065166", func := "almonry/almonrylaw04.RvcBack", spec := "rvcBack", unfollowed := true, recurses := true, apart := false }
def RvcBackSaid : Prop := rvcBackRow.holds Try.pinned (OpenSpec.ofChange rvcBackSpec)

/-- ITS FALSE NEIGHBOUR: 'it returns false'. Refute it at one input. -/
def rvcBackWrong : ChangeSpec := { name := "rvcBack", fn := fun _ => fun
  | [d1, d2] => { results := [.lit (.bool false)], args := [d1, d2] }
  | _ => none }
def RvcBackWrongFalsely : Prop := rvcBackRow.holds Try.pinned (OpenSpec.ofChange rvcBackWrong)

/-- 'almonrylaw04.RvcForms': WHATEVER THE INPUT: true; the input reads as it did. -/
def rvcFormsSpec : ChangeSpec := { name := "rvcForms", fn := fun _ => fun
  | [d] => { results := [.lit (.bool true)], args := [d] }
  | _ => none }
def rvcFormsRow : OpenClaim := { program := "ythdhleaigphgeaa", sum := "d6f959fd0d65fde709b0513be40b0e0ab47aa8e85f4045654262d49333065166", func := "almonry/almonrylaw04.RvcForms", spec := "rvcForms", unfollowed := true, recurses := true, apart := false }
def RvcFormsSaid : Prop := rvcFormsRow.holds Try.pinned (OpenSpec.ofChange rvcFormsSpec)

/-- ITS FALSE NEIGHBOUR: 'it returns false'. Refute it at one input. -/
def rvcFormsWrong : ChangeSpec := { name := "rvcForms", fn := fun _ => fun
  | [d] => { results := [.lit (.bool false)], args := [d] }
  | _ => none }
def RvcFormsWrongFalsely : Prop := rvcFormsRow.holds Try.pinned (OpenSpec.ofChange rvcFormsWrong)

/-- 'almonrylaw04.RvcApart': WHATEVER THE INPUT: true; the input reads as it did. -/
def rvcApartSpec : ChangeSpec := { name := "rvcApart", fn := fun _ => fun
  | [d1, d2] => { results := [.lit (.bool true)], args := [d1, d2] }
  | _ => none }
def rvcApartRow : OpenClaim := { program := "ythdhleaigphgeaa", sum := "d6f959fd0d65fde709b0513be40b0e0ab47aa8e85f4045654262d49333065166", func := "almonry/almonrylaw04.RvcApart", spec := "rvcApart", unfollowed := true, recurses := true, apart := false }
def RvcApartSaid : Prop := rvcApartRow.holds Try.pinned (OpenSpec.ofChange rvcApartSpec)

/-- ITS FALSE NEIGHBOUR: 'it returns false'. Refute it at one input. -/
def rvcApartWrong : ChangeSpec := { name := "rvcApart", fn := fun _ => fun
  | [d1, d2] => { results := [.lit (.bool false)], args := [d1, d2] }
  | _ => none }
def RvcApartWrongFalsely : Prop := rvcApartRow.holds Try.pinned (OpenSpec.ofChange rvcApartWrong)

/- THE SECOND FORM. 'bulk': how many values and letters a reading holds, each counted each time it is reached (what is shared counts as often as it is met; a slice's spare places count too). A statement '..UptoSaid' is the law's where the arguments, and the package variables that the reading takes, are together of bulk at most 1048576: NARROWER than '..Said'. Prove '..Said' where nothing that the law and all that it calls make is longer than what came in: it says more and counts as full. Else prove '..UptoSaid'. A law counts once. -/
mutual
def uptoBulk {H : Type} : DataW H → Nat
  | .lit (.string bytes) => bytes.length + 1
  | .lit _ => 1
  | .nil => 1
  | .ptr d => uptoBulk d + 1
  | .slice elems spare => uptoBulkAll elems + uptoBulkAll spare + 1
  | .agg parts => uptoBulkAll parts + 1
  | .iface _ d => uptoBulk d + 1
  | .map entries => uptoBulkEntries entries + 1
  | .held _ => 1
def uptoBulkAll {H : Type} : List (DataW H) → Nat
  | [] => 0
  | d :: r => uptoBulk d + uptoBulkAll r
def uptoBulkEntries {H : Type} : List (Lit × DataW H) → Nat
  | [] => 0
  | x :: r => uptoBulkEntry x + uptoBulkEntries r
def uptoBulkEntry {H : Type} : Lit × DataW H → Nat
  | (.string bytes, d) => bytes.length + uptoBulk d + 1
  | (_, d) => uptoBulk d + 1
 end
def uptoSmall : (H : Type) → List (DataW H) → Bool := fun _ ds => decide (uptoBulkAll ds ≤ 1048576)
def OpenSpec.upto (s : _root_.Go.ChangeSpec) : _root_.Go.OpenSpec := { _root_.Go.OpenSpec.ofChange s with cond := some uptoSmall }

/-- 'almonrylaw04.RvcDecodes', WHERE WHAT IT READS IS OF BULK AT MOST 1048576: true; the input reads as it did. -/
def rvcDecodesUptoRow : OpenClaim := { program := "ythdhleaigphgeaa", sum := "d6f959fd0d65fde709b0513be40b0e0ab47aa8e85f4045654262d49333065166", func := "almonry/almonrylaw04.RvcDecodes", spec := "rvcDecodes", unfollowed := true, recurses := true, apart := false, narrowed := true }
def RvcDecodesUptoSaid : Prop := rvcDecodesUptoRow.holds Try.pinned (OpenSpec.upto rvcDecodesSpec)

/-- 'almonrylaw04.RvcBack', WHERE WHAT IT READS IS OF BULK AT MOST 1048576: true; the input reads as it did. -/
def rvcBackUptoRow : OpenClaim := { program := "ythdhleaigphgeaa", sum := "d6f959fd0d65fde709b0513be40b0e0ab47aa8e85f4045654262d49333065166", func := "almonry/almonrylaw04.RvcBack", spec := "rvcBack", unfollowed := true, recurses := true, apart := false, narrowed := true }
def RvcBackUptoSaid : Prop := rvcBackUptoRow.holds Try.pinned (OpenSpec.upto rvcBackSpec)

/-- 'almonrylaw04.RvcForms', WHERE WHAT IT READS IS OF BULK AT MOST 1048576: true; the input reads as it did. -/
def rvcFormsUptoRow : OpenClaim := { program := "ythdhleaigphgeaa", sum := "d6f959fd0d65fde709b0513be40b0e0ab47aa8e85f4045654262d49333065166", func := "almonry/almonrylaw04.RvcForms", spec := "rvcForms", unfollowed := true, recurses := true, apart := false, narrowed := true }
def RvcFormsUptoSaid : Prop := rvcFormsUptoRow.holds Try.pinned (OpenSpec.upto rvcFormsSpec)

/-- 'almonrylaw04.RvcApart', WHERE WHAT IT READS IS OF BULK AT MOST 1048576: true; the input reads as it did. -/
def rvcApartUptoRow : OpenClaim := { program := "ythdhleaigphgeaa", sum := "d6f959fd0d65fde709b0513be40b0e0ab47aa8e85f4045654262d49333065166", func := "almonry/almonrylaw04.RvcApart", spec := "rvcApart", unfollowed := true, recurses := true, apart := false, narrowed := true }
def RvcApartUptoSaid : Prop := rvcApartUptoRow.holds Try.pinned (OpenSpec.upto rvcApartSpec)

end Rows
end Go.Proofs.Ythdhleaigphgeaa
