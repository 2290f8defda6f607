/-
  DERIVED. GIVEN WITH THE SEED: THE CARDS: each row of YtjlfojjkdeflpaaDoorRows.lean that lists a variable, with what it lists TIED to the program's text (the seventh form; the later family's looks); each row that meets fmt, with fmt's text TOLD by the authors' own Lean function (tested against real Go, not proved from fmt's source: count such statements apart). THE CARD IS WHAT COUNTS. Prove the row's statement (the work); the ties are given (YtjlfojjkdeflpaaDoorTie.lean); close each card by the builder's one call (the guide's Derived/Test/ToyasCard.lean, 'card_holds'). Laid BY PROGRAM, IN A SANDBOX (cutbox-door.mjs). By AI agents, Wed Nov 11 2026. No macro, syntax, notation, axiom, sorry.
-/
import Derived.Test.YtjlfojjkdeflpaaDoorRows
import GoSem.ClaimSeven
namespace Go.Proofs.YtjlfojjkdeflpaaDoor
namespace Rows

/-- THE TIED CARD OF 'almonrylaw03.InstChecks'. -/
def instChecksCard : Claim7 := { stood := { row := instChecksRow, standIns := [], harness := (true, "849778832b99ed284bf3c9b50f5acab53c4fbb91e71f1ade49f7645b239da28a"), looks := false }, kinds := [], alts := [], laidByText := true, laidKinds := [.data, .data, .data, .data, .data, .data, .data, .data, .data, .data, .data, .data, .data, .data, .data, .data, .data], laidTests := true, laidLooks := .later }
def InstChecksCardSaid : Prop := Claim7.holds Tryd.pinned (.plain (OpenSpec.ofChange instChecksSpec)) instChecksCard

/-- THE TIED CARD OF 'almonrylaw03.InstSame'. -/
def instSameCard : Claim7 := { stood := { row := instSameRow, standIns := [], harness := (true, "849778832b99ed284bf3c9b50f5acab53c4fbb91e71f1ade49f7645b239da28a"), looks := false }, kinds := [], alts := [], laidByText := true, laidKinds := [.data, .data, .data, .data, .data, .data, .data, .data, .data, .data, .data, .data, .data, .data, .data, .data, .data], laidTests := true, laidLooks := .later }
def InstSameCardSaid : Prop := Claim7.holds Tryd.pinned (.plain (OpenSpec.ofChange instSameSpec)) instSameCard

/-- THE SECOND FORM's CARD OF 'almonrylaw03.InstChecks'. -/
def instChecksUptoCard : Claim7 := { stood := { row := instChecksUptoRow, standIns := [], harness := (true, "849778832b99ed284bf3c9b50f5acab53c4fbb91e71f1ade49f7645b239da28a"), looks := false }, kinds := [], alts := [], laidByText := true, laidKinds := [.data, .data, .data, .data, .data, .data, .data, .data, .data, .data, .data, .data, .data, .data, .data, .data, .data], laidTests := true, laidLooks := .later }
def InstChecksUptoCardSaid : Prop := Claim7.holds Tryd.pinned (.plain (OpenSpec.upto instChecksSpec)) instChecksUptoCard

/-- THE SECOND FORM's CARD OF 'almonrylaw03.InstSame'. -/
def instSameUptoCard : Claim7 := { stood := { row := instSameUptoRow, standIns := [], harness := (true, "849778832b99ed284bf3c9b50f5acab53c4fbb91e71f1ade49f7645b239da28a"), looks := false }, kinds := [], alts := [], laidByText := true, laidKinds := [.data, .data, .data, .data, .data, .data, .data, .data, .data, .data, .data, .data, .data, .data, .data, .data, .data], laidTests := true, laidLooks := .later }
def InstSameUptoCardSaid : Prop := Claim7.holds Tryd.pinned (.plain (OpenSpec.upto instSameSpec)) instSameUptoCard
end Rows
end Go.Proofs.YtjlfojjkdeflpaaDoor
