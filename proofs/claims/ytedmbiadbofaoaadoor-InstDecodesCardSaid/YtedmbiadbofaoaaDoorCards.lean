/-
  DERIVED. GIVEN WITH THE SEED: THE CARDS: each row of YtedmbiadbofaoaaDoorRows.lean that lists a variable, with what it lists TIED to the program's text (the seventh form; the later family's looks); each row that meets fmt, with fmt's text TOLD by the authors' own Lean function (tested against real Go, not proved from fmt's source: count such statements apart). THE CARD IS WHAT COUNTS. Prove the row's statement (the work); the ties are given (YtedmbiadbofaoaaDoorTie.lean); close each card by the builder's one call (the guide's Derived/Test/ToyasCard.lean, 'card_holds'). Laid BY PROGRAM, IN A SANDBOX (cutbox-door.mjs). By AI agents, Wed Nov 11 2026. No macro, syntax, notation, axiom, sorry.
-/
import Derived.Test.YtedmbiadbofaoaaDoorRows
import GoSem.ClaimSeven
namespace Go.Proofs.YtedmbiadbofaoaaDoor
namespace Rows

/-- THE TIED CARD OF 'almonrylaw03.InstDecodes'. -/
def instDecodesCard : Claim7 := { stood := { row := instDecodesRow, standIns := [], harness := (true, "2cb07f9a8da797d5fdcd8e3dd017f0f5c02f947858af43f4f707152b1fcc91c1"), looks := false }, kinds := [], alts := [], laidByText := true, laidKinds := [.data, .data, .data, .data, .data, .data, .data, .data, .data, .data, .data, .data, .data, .data, .data, .data, .data], laidTests := true, laidLooks := .later }
def InstDecodesCardSaid : Prop := Claim7.holds Tryd.pinned (.plain (OpenSpec.ofChange instDecodesSpec)) instDecodesCard

/-- THE TIED CARD OF 'almonrylaw03.InstChecks'. -/
def instChecksCard : Claim7 := { stood := { row := instChecksRow, standIns := [], harness := (true, "2cb07f9a8da797d5fdcd8e3dd017f0f5c02f947858af43f4f707152b1fcc91c1"), looks := false }, kinds := [], alts := [], laidByText := true, laidKinds := [.data, .data, .data, .data, .data, .data, .data, .data, .data, .data, .data, .data, .data, .data, .data, .data, .data], laidTests := true, laidLooks := .later }
def InstChecksCardSaid : Prop := Claim7.holds Tryd.pinned (.plain (OpenSpec.ofChange instChecksSpec)) instChecksCard

/-- THE TIED CARD OF 'almonrylaw03.InstKnown'. -/
def instKnownCard : Claim7 := { stood := { row := instKnownRow, standIns := [], harness := (true, "2cb07f9a8da797d5fdcd8e3dd017f0f5c02f947858af43f4f707152b1fcc91c1"), looks := false }, kinds := [], alts := [], laidByText := true, laidKinds := [.data, .data, .data, .data, .data, .data, .data, .data, .data, .data, .data, .data, .data, .data, .data, .data, .data], laidTests := true, laidLooks := .later }
def InstKnownCardSaid : Prop := Claim7.holds Tryd.pinned (.plain (OpenSpec.ofChange instKnownSpec)) instKnownCard

/-- THE TIED CARD OF 'almonrylaw03.InstOne'. -/
def instOneCard : Claim7 := { stood := { row := instOneRow, standIns := [], harness := (true, "2cb07f9a8da797d5fdcd8e3dd017f0f5c02f947858af43f4f707152b1fcc91c1"), looks := false }, kinds := [], alts := [], laidByText := true, laidKinds := [.data, .data, .data, .data, .data, .data, .data, .data, .data, .data, .data, .data, .data, .data, .data, .data, .data], laidTests := true, laidLooks := .later }
def InstOneCardSaid : Prop := Claim7.holds Tryd.pinned (.plain (OpenSpec.ofChange instOneSpec)) instOneCard

/-- THE TIED CARD OF 'almonrylaw03.InstSame'. -/
def instSameCard : Claim7 := { stood := { row := instSameRow, standIns := [], harness := (true, "2cb07f9a8da797d5fdcd8e3dd017f0f5c02f947858af43f4f707152b1fcc91c1"), looks := false }, kinds := [], alts := [], laidByText := true, laidKinds := [.data, .data, .data, .data, .data, .data, .data, .data, .data, .data, .data, .data, .data, .data, .data, .data, .data], laidTests := true, laidLooks := .later }
def InstSameCardSaid : Prop := Claim7.holds Tryd.pinned (.plain (OpenSpec.ofChange instSameSpec)) instSameCard

/-- THE TIED CARD OF 'almonrylaw03.InstClasses'. -/
def instClassesCard : Claim7 := { stood := { row := instClassesRow, standIns := [], harness := (true, "2cb07f9a8da797d5fdcd8e3dd017f0f5c02f947858af43f4f707152b1fcc91c1"), looks := false }, kinds := [], alts := [], laidByText := true, laidKinds := [.data, .data, .data, .data, .data, .data, .data, .data, .data, .data, .data, .data, .data, .data, .data, .data, .data], laidTests := true, laidLooks := .later }
def InstClassesCardSaid : Prop := Claim7.holds Tryd.pinned (.plain (OpenSpec.ofChange instClassesSpec)) instClassesCard

/-- THE SECOND FORM's CARD OF 'almonrylaw03.InstDecodes'. -/
def instDecodesUptoCard : Claim7 := { stood := { row := instDecodesUptoRow, standIns := [], harness := (true, "2cb07f9a8da797d5fdcd8e3dd017f0f5c02f947858af43f4f707152b1fcc91c1"), looks := false }, kinds := [], alts := [], laidByText := true, laidKinds := [.data, .data, .data, .data, .data, .data, .data, .data, .data, .data, .data, .data, .data, .data, .data, .data, .data], laidTests := true, laidLooks := .later }
def InstDecodesUptoCardSaid : Prop := Claim7.holds Tryd.pinned (.plain (OpenSpec.upto instDecodesSpec)) instDecodesUptoCard

/-- THE SECOND FORM's CARD OF 'almonrylaw03.InstChecks'. -/
def instChecksUptoCard : Claim7 := { stood := { row := instChecksUptoRow, standIns := [], harness := (true, "2cb07f9a8da797d5fdcd8e3dd017f0f5c02f947858af43f4f707152b1fcc91c1"), looks := false }, kinds := [], alts := [], laidByText := true, laidKinds := [.data, .data, .data, .data, .data, .data, .data, .data, .data, .data, .data, .data, .data, .data, .data, .data, .data], laidTests := true, laidLooks := .later }
def InstChecksUptoCardSaid : Prop := Claim7.holds Tryd.pinned (.plain (OpenSpec.upto instChecksSpec)) instChecksUptoCard

/-- THE SECOND FORM's CARD OF 'almonrylaw03.InstKnown'. -/
def instKnownUptoCard : Claim7 := { stood := { row := instKnownUptoRow, standIns := [], harness := (true, "2cb07f9a8da797d5fdcd8e3dd017f0f5c02f947858af43f4f707152b1fcc91c1"), looks := false }, kinds := [], alts := [], laidByText := true, laidKinds := [.data, .data, .data, .data, .data, .data, .data, .data, .data, .data, .data, .data, .data, .data, .data, .data, .data], laidTests := true, laidLooks := .later }
def InstKnownUptoCardSaid : Prop := Claim7.holds Tryd.pinned (.plain (OpenSpec.upto instKnownSpec)) instKnownUptoCard

/-- THE SECOND FORM's CARD OF 'almonrylaw03.InstOne'. -/
def instOneUptoCard : Claim7 := { stood := { row := instOneUptoRow, standIns := [], harness := (true, "2cb07f9a8da797d5fdcd8e3dd017f0f5c02f947858af43f4f707152b1fcc91c1"), looks := false }, kinds := [], alts := [], laidByText := true, laidKinds := [.data, .data, .data, .data, .data, .data, .data, .data, .data, .data, .data, .data, .data, .data, .data, .data, .data], laidTests := true, laidLooks := .later }
def InstOneUptoCardSaid : Prop := Claim7.holds Tryd.pinned (.plain (OpenSpec.upto instOneSpec)) instOneUptoCard

/-- THE SECOND FORM's CARD OF 'almonrylaw03.InstSame'. -/
def instSameUptoCard : Claim7 := { stood := { row := instSameUptoRow, standIns := [], harness := (true, "2cb07f9a8da797d5fdcd8e3dd017f0f5c02f947858af43f4f707152b1fcc91c1"), looks := false }, kinds := [], alts := [], laidByText := true, laidKinds := [.data, .data, .data, .data, .data, .data, .data, .data, .data, .data, .data, .data, .data, .data, .data, .data, .data], laidTests := true, laidLooks := .later }
def InstSameUptoCardSaid : Prop := Claim7.holds Tryd.pinned (.plain (OpenSpec.upto instSameSpec)) instSameUptoCard

/-- THE SECOND FORM's CARD OF 'almonrylaw03.InstClasses'. -/
def instClassesUptoCard : Claim7 := { stood := { row := instClassesUptoRow, standIns := [], harness := (true, "2cb07f9a8da797d5fdcd8e3dd017f0f5c02f947858af43f4f707152b1fcc91c1"), looks := false }, kinds := [], alts := [], laidByText := true, laidKinds := [.data, .data, .data, .data, .data, .data, .data, .data, .data, .data, .data, .data, .data, .data, .data, .data, .data], laidTests := true, laidLooks := .later }
def InstClassesUptoCardSaid : Prop := Claim7.holds Tryd.pinned (.plain (OpenSpec.upto instClassesSpec)) instClassesUptoCard
end Rows
end Go.Proofs.YtedmbiadbofaoaaDoor
