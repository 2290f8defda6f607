/-
  DERIVED. GIVEN WITH THE SEED: THE CARDS: each row of YtgicehhenahfpaaDoorRows.lean that lists a variable, with what it lists TIED to the program's text (the seventh form; the later family's looks); each row that meets fmt, with fmt's text TOLD by the authors' own Lean function (tested against real Go, not proved from fmt's source: count such statements apart). THE CARD IS WHAT COUNTS. Prove the row's statement (the work); the ties are given (YtgicehhenahfpaaDoorTie.lean); close each card by the builder's one call (the guide's Derived/Test/ToyasCard.lean, 'card_holds'). Laid BY PROGRAM, IN A SANDBOX (cutbox-door.mjs). By AI agents, Wed Nov 11 2026. No macro, syntax, notation, axiom, sorry.
-/
import Derived.Test.YtgicehhenahfpaaDoorRows
import GoSem.ClaimSeven
namespace Go.Proofs.YtgicehhenahfpaaDoor
namespace Rows

/-- THE TIED CARD OF 'almonrylaw18.SamplePlays'. -/
def samplePlaysCard : Claim7 := { stood := { row := samplePlaysRow, standIns := [], harness := (true, "304c562c339e03355ab07430689e600fc0caa9695322d84fe70f9efa0e928638"), looks := false }, kinds := [], alts := [], laidByText := true, laidKinds := [.data, .data, .data], laidTests := true, laidLooks := .later }
def SamplePlaysCardSaid : Prop := Claim7.holds Tryd.pinned (.plain (OpenSpec.ofChange samplePlaysSpec)) samplePlaysCard

/-- THE TIED CARD OF 'almonrylaw18.SampleKnown'. -/
def sampleKnownCard : Claim7 := { stood := { row := sampleKnownRow, standIns := [], harness := (true, "304c562c339e03355ab07430689e600fc0caa9695322d84fe70f9efa0e928638"), looks := false }, kinds := [], alts := [], laidByText := true, laidKinds := [.data, .data, .data], laidTests := true, laidLooks := .later }
def SampleKnownCardSaid : Prop := Claim7.holds Tryd.pinned (.plain (OpenSpec.ofChange sampleKnownSpec)) sampleKnownCard

/-- THE SECOND FORM's CARD OF 'almonrylaw18.SamplePlays'. -/
def samplePlaysUptoCard : Claim7 := { stood := { row := samplePlaysUptoRow, standIns := [], harness := (true, "304c562c339e03355ab07430689e600fc0caa9695322d84fe70f9efa0e928638"), looks := false }, kinds := [], alts := [], laidByText := true, laidKinds := [.data, .data, .data], laidTests := true, laidLooks := .later }
def SamplePlaysUptoCardSaid : Prop := Claim7.holds Tryd.pinned (.plain (OpenSpec.upto samplePlaysSpec)) samplePlaysUptoCard

/-- THE SECOND FORM's CARD OF 'almonrylaw18.SampleKnown'. -/
def sampleKnownUptoCard : Claim7 := { stood := { row := sampleKnownUptoRow, standIns := [], harness := (true, "304c562c339e03355ab07430689e600fc0caa9695322d84fe70f9efa0e928638"), looks := false }, kinds := [], alts := [], laidByText := true, laidKinds := [.data, .data, .data], laidTests := true, laidLooks := .later }
def SampleKnownUptoCardSaid : Prop := Claim7.holds Tryd.pinned (.plain (OpenSpec.upto sampleKnownSpec)) sampleKnownUptoCard
end Rows
end Go.Proofs.YtgicehhenahfpaaDoor
