/-
  DERIVED. GIVEN WITH THE SEED: THE CARDS: each row of YtmjdfcgcclhgjaaDoorRows.lean that lists a variable, with what it lists TIED to the program's text (the seventh form; the later family's looks); each row that meets fmt, with fmt's text TOLD by the authors' own Lean function (tested against real Go, not proved from fmt's source: count such statements apart). THE CARD IS WHAT COUNTS. Prove the row's statement (the work); the ties are given (YtmjdfcgcclhgjaaDoorTie.lean); close each card by the builder's one call (the guide's Derived/Test/ToyasCard.lean, 'card_holds'). Laid BY PROGRAM, IN A SANDBOX (cutbox-door.mjs). By AI agents, Wed Nov 11 2026. No macro, syntax, notation, axiom, sorry.
-/
import Derived.Test.YtmjdfcgcclhgjaaDoorRows
import GoSem.ClaimSeven
namespace Go.Proofs.YtmjdfcgcclhgjaaDoor
namespace Rows

/-- THE TIED CARD OF 'almonrylaw16.BlkKnown'. -/
def blkKnownCard : Claim7 := { stood := { row := blkKnownRow, standIns := [], harness := (true, "eb2cf407863b12a1ea1af1c1b1b26d3f34494ab90056d67349a4c2bba89a853e"), looks := false }, kinds := [], alts := [], laidByText := true, laidKinds := [.data, .data, .data], laidTests := true, laidLooks := .later }
def BlkKnownCardSaid : Prop := Claim7.holds Tryd.pinned (.plain (OpenSpec.ofChange blkKnownSpec)) blkKnownCard

/-- THE SECOND FORM's CARD OF 'almonrylaw16.BlkKnown'. -/
def blkKnownUptoCard : Claim7 := { stood := { row := blkKnownUptoRow, standIns := [], harness := (true, "eb2cf407863b12a1ea1af1c1b1b26d3f34494ab90056d67349a4c2bba89a853e"), looks := false }, kinds := [], alts := [], laidByText := true, laidKinds := [.data, .data, .data], laidTests := true, laidLooks := .later }
def BlkKnownUptoCardSaid : Prop := Claim7.holds Tryd.pinned (.plain (OpenSpec.upto blkKnownSpec)) blkKnownUptoCard
end Rows
end Go.Proofs.YtmjdfcgcclhgjaaDoor
