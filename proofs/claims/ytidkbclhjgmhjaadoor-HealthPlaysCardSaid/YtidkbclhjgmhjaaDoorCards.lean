/-
  DERIVED. GIVEN WITH THE SEED: THE CARDS: each row of YtidkbclhjgmhjaaDoorRows.lean that lists a variable, with what it lists TIED to the program's text (the seventh form; the later family's looks); each row that meets fmt, with fmt's text TOLD by the authors' own Lean function (tested against real Go, not proved from fmt's source: count such statements apart). THE CARD IS WHAT COUNTS. Prove the row's statement (the work); the ties are given (YtidkbclhjgmhjaaDoorTie.lean); close each card by the builder's one call (the guide's Derived/Test/ToyasCard.lean, 'card_holds'). Laid BY PROGRAM, IN A SANDBOX (cutbox-door.mjs). By AI agents, Wed Nov 11 2026. No macro, syntax, notation, axiom, sorry.
-/
import Derived.Test.YtidkbclhjgmhjaaDoorRows
import GoSem.ClaimSeven
namespace Go.Proofs.YtidkbclhjgmhjaaDoor
namespace Rows

/-- THE TIED CARD OF 'almonrylaw29.HealthPlays'. -/
def healthPlaysCard : Claim7 := { stood := { row := healthPlaysRow, standIns := [], harness := (true, "d07dfc8afd226a3179e567678611154e8684267f997221321743263b1c71f160"), looks := false }, kinds := [], alts := [], laidByText := true, laidKinds := [.data, .data, .data], laidTests := true, laidLooks := .later }
def HealthPlaysCardSaid : Prop := Claim7.holds Tryd.pinned (.plain (OpenSpec.ofChange healthPlaysSpec)) healthPlaysCard

/-- THE TIED CARD OF 'almonrylaw29.HealthNothing'. -/
def healthNothingCard : Claim7 := { stood := { row := healthNothingRow, standIns := [], harness := (true, "d07dfc8afd226a3179e567678611154e8684267f997221321743263b1c71f160"), looks := false }, kinds := [], alts := [], laidByText := true, laidKinds := [.data, .data, .data], laidTests := true, laidLooks := .later }
def HealthNothingCardSaid : Prop := Claim7.holds Tryd.pinned (.plain (OpenSpec.ofChange healthNothingSpec)) healthNothingCard

/-- THE SECOND FORM's CARD OF 'almonrylaw29.HealthPlays'. -/
def healthPlaysUptoCard : Claim7 := { stood := { row := healthPlaysUptoRow, standIns := [], harness := (true, "d07dfc8afd226a3179e567678611154e8684267f997221321743263b1c71f160"), looks := false }, kinds := [], alts := [], laidByText := true, laidKinds := [.data, .data, .data], laidTests := true, laidLooks := .later }
def HealthPlaysUptoCardSaid : Prop := Claim7.holds Tryd.pinned (.plain (OpenSpec.upto healthPlaysSpec)) healthPlaysUptoCard

/-- THE SECOND FORM's CARD OF 'almonrylaw29.HealthNothing'. -/
def healthNothingUptoCard : Claim7 := { stood := { row := healthNothingUptoRow, standIns := [], harness := (true, "d07dfc8afd226a3179e567678611154e8684267f997221321743263b1c71f160"), looks := false }, kinds := [], alts := [], laidByText := true, laidKinds := [.data, .data, .data], laidTests := true, laidLooks := .later }
def HealthNothingUptoCardSaid : Prop := Claim7.holds Tryd.pinned (.plain (OpenSpec.upto healthNothingSpec)) healthNothingUptoCard
end Rows
end Go.Proofs.YtidkbclhjgmhjaaDoor
