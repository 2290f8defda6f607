/-
  DERIVED. GIVEN WITH THE SEED: THE CARDS: each row of YtjlobpknihmkoaaDoorRows.lean that lists a variable, with what it lists TIED to the program's text (the seventh form; the later family's looks); each row that meets fmt, with fmt's text TOLD by the authors' own Lean function (tested against real Go, not proved from fmt's source: count such statements apart). THE CARD IS WHAT COUNTS. Prove the row's statement (the work); the ties are given (YtjlobpknihmkoaaDoorTie.lean); close each card by the builder's one call (the guide's Derived/Test/ToyasCard.lean, 'card_holds'). Laid BY PROGRAM, IN A SANDBOX (cutbox-door.mjs). By AI agents, Wed Nov 11 2026. No macro, syntax, notation, axiom, sorry.
-/
import Derived.Test.YtjlobpknihmkoaaDoorRows
import GoSem.ClaimSeven
namespace Go.Proofs.YtjlobpknihmkoaaDoor
namespace Rows

/-- THE TIED CARD OF 'almonrylaw03.InstDecodes'. -/
def instDecodesCard : Claim7 := { stood := { row := instDecodesRow, standIns := [], harness := (true, "4621d53cfa80221524905d43f846df4e1e8c5dd80f88144eb6c993b85646b48e"), looks := false }, kinds := [], alts := [], laidByText := true, laidKinds := [.data, .data, .data, .data, .data, .data, .data, .data, .data, .data, .data, .data, .data, .data, .data, .data, .data], laidTests := true, laidLooks := .later }
def InstDecodesCardSaid : Prop := Claim7.holds Tryd.pinned (.plain (OpenSpec.ofChange instDecodesSpec)) instDecodesCard

/-- THE TIED CARD OF 'almonrylaw03.InstOne'. -/
def instOneCard : Claim7 := { stood := { row := instOneRow, standIns := [], harness := (true, "4621d53cfa80221524905d43f846df4e1e8c5dd80f88144eb6c993b85646b48e"), looks := false }, kinds := [], alts := [], laidByText := true, laidKinds := [.data, .data, .data, .data, .data, .data, .data, .data, .data, .data, .data, .data, .data, .data, .data, .data, .data], laidTests := true, laidLooks := .later }
def InstOneCardSaid : Prop := Claim7.holds Tryd.pinned (.plain (OpenSpec.ofChange instOneSpec)) instOneCard

/-- THE TIED CARD OF 'almonrylaw03.InstSame'. -/
def instSameCard : Claim7 := { stood := { row := instSameRow, standIns := [], harness := (true, "4621d53cfa80221524905d43f846df4e1e8c5dd80f88144eb6c993b85646b48e"), looks := false }, kinds := [], alts := [], laidByText := true, laidKinds := [.data, .data, .data, .data, .data, .data, .data, .data, .data, .data, .data, .data, .data, .data, .data, .data, .data], laidTests := true, laidLooks := .later }
def InstSameCardSaid : Prop := Claim7.holds Tryd.pinned (.plain (OpenSpec.ofChange instSameSpec)) instSameCard

/-- THE SECOND FORM's CARD OF 'almonrylaw03.InstDecodes'. -/
def instDecodesUptoCard : Claim7 := { stood := { row := instDecodesUptoRow, standIns := [], harness := (true, "4621d53cfa80221524905d43f846df4e1e8c5dd80f88144eb6c993b85646b48e"), looks := false }, kinds := [], alts := [], laidByText := true, laidKinds := [.data, .data, .data, .data, .data, .data, .data, .data, .data, .data, .data, .data, .data, .data, .data, .data, .data], laidTests := true, laidLooks := .later }
def InstDecodesUptoCardSaid : Prop := Claim7.holds Tryd.pinned (.plain (OpenSpec.upto instDecodesSpec)) instDecodesUptoCard

/-- THE SECOND FORM's CARD OF 'almonrylaw03.InstOne'. -/
def instOneUptoCard : Claim7 := { stood := { row := instOneUptoRow, standIns := [], harness := (true, "4621d53cfa80221524905d43f846df4e1e8c5dd80f88144eb6c993b85646b48e"), looks := false }, kinds := [], alts := [], laidByText := true, laidKinds := [.data, .data, .data, .data, .data, .data, .data, .data, .data, .data, .data, .data, .data, .data, .data, .data, .data], laidTests := true, laidLooks := .later }
def InstOneUptoCardSaid : Prop := Claim7.holds Tryd.pinned (.plain (OpenSpec.upto instOneSpec)) instOneUptoCard

/-- THE SECOND FORM's CARD OF 'almonrylaw03.InstSame'. -/
def instSameUptoCard : Claim7 := { stood := { row := instSameUptoRow, standIns := [], harness := (true, "4621d53cfa80221524905d43f846df4e1e8c5dd80f88144eb6c993b85646b48e"), looks := false }, kinds := [], alts := [], laidByText := true, laidKinds := [.data, .data, .data, .data, .data, .data, .data, .data, .data, .data, .data, .data, .data, .data, .data, .data, .data], laidTests := true, laidLooks := .later }
def InstSameUptoCardSaid : Prop := Claim7.holds Tryd.pinned (.plain (OpenSpec.upto instSameSpec)) instSameUptoCard
end Rows
end Go.Proofs.YtjlobpknihmkoaaDoor
