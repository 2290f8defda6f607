/-
  No cell of these rows narrows 'for every input' (looked for: loops, veiled, ifaces, maps, wideKeys, modest, calm, conditions, laid).
  DERIVED. THE GIVEN ROWS OF THIS SEAT. 5 by the template 'for every input the law returns true; each argument reads behind the call as it read before'; 0 by the template 'total and deterministic' (their statements: YthphkcgmpffdjaaTotals.lean).
  GIVEN WITH THE SEED: the statements are not yours to turn. If you find one false, say at which input.
  Laid BY PROGRAM, IN A SANDBOX (cutbox-rows.mjs): the forced cells as the released guide's own fill.sh prints them over the translation f901861677c369c1… (all of the seat's roots in one cut). By AI agents, Wed Nov 11 2026. No macro, syntax, notation, axiom, sorry.
-/
import Derived.Test.YthphkcgmpffdjaaChecked
import GoSem.Claim
import GoSem.ClaimJoined
import GoSem.ClaimMapViews
import Derived.JoinedTies
import Derived.KernelRfl
namespace Go.Proofs.Ythphkcgmpffdjaa
/- THE CELL 'sum', in the pinned program and in every row, IS THE sha256 OF THE DUMP (.gsa) THAT YthphkcgmpffdjaaProg.lean LOADS. Nothing in Lean hashes anything: it is a label: what it is worth is what the hold of that sum in a sandbox is worth. -/
noncomputable def Try.pinned : Pinned := { name := "ythphkcgmpffdjaa", sum := "f901861677c369c1ce61d9fe76a5eebec3820744bc2cb50a21009d5a258dea70", checked := Try.checked }
namespace Rows
def none {H : Type} : Left H := { results := [], args := [] }

/-- 'almonrylaw21.PortioPlays': WHATEVER THE INPUT: true; the input reads as it did. -/
def portioPlaysSpec : ChangeSpec := { name := "portioPlays", fn := fun _ => fun
  | [d1, d2] => { results := [.lit (.bool true)], args := [d1, d2] }
  | _ => none }
def portioPlaysRow : OpenClaim := { program := "ythphkcgmpffdjaa", sum := "f901861677c369c1ce61d9fe76a5eebec3820744bc2cb50a21009d5a258dea70", func := "almonry/almonrylaw21.PortioPlays", spec := "portioPlays", unfollowed := true, recurses := true, apart := false }
def PortioPlaysSaid : Prop := portioPlaysRow.holds Try.pinned (OpenSpec.ofChange portioPlaysSpec)

/-- ITS FALSE NEIGHBOUR: 'it returns false'. Refute it at one input. -/
def portioPlaysWrong : ChangeSpec := { name := "portioPlays", fn := fun _ => fun
  | [d1, d2] => { results := [.lit (.bool false)], args := [d1, d2] }
  | _ => none }
def PortioPlaysWrongFalsely : Prop := portioPlaysRow.holds Try.pinned (OpenSpec.ofChange portioPlaysWrong)

/-- 'almonrylaw21.PortioKnown': WHATEVER THE INPUT: true; the input reads as it did. -/
def portioKnownSpec : ChangeSpec := { name := "portioKnown", fn := fun _ => fun
  | [] => { results := [.lit (.bool true)], args := [] }
  | _ => none }
def portioKnownRow : OpenClaim := { program := "ythphkcgmpffdjaa", sum := "f901861677c369c1ce61d9fe76a5eebec3820744bc2cb50a21009d5a258dea70", func := "almonry/almonrylaw21.PortioKnown", spec := "portioKnown", unfollowed := true, recurses := true, apart := false }
def PortioKnownSaid : Prop := portioKnownRow.holds Try.pinned (OpenSpec.ofChange portioKnownSpec)

/-- ITS FALSE NEIGHBOUR: 'it returns false'. Refute it at one input. -/
def portioKnownWrong : ChangeSpec := { name := "portioKnown", fn := fun _ => fun
  | [] => { results := [.lit (.bool false)], args := [] }
  | _ => none }
def PortioKnownWrongFalsely : Prop := portioKnownRow.holds Try.pinned (OpenSpec.ofChange portioKnownWrong)

/-- 'almonrylaw21.PortioSends': WHATEVER THE INPUT: true; the input reads as it did. -/
def portioSendsSpec : ChangeSpec := { name := "portioSends", fn := fun _ => fun
  | [d1, d2] => { results := [.lit (.bool true)], args := [d1, d2] }
  | _ => none }
def portioSendsRow : OpenClaim := { program := "ythphkcgmpffdjaa", sum := "f901861677c369c1ce61d9fe76a5eebec3820744bc2cb50a21009d5a258dea70", func := "almonry/almonrylaw21.PortioSends", spec := "portioSends", unfollowed := true, recurses := true, apart := false }
def PortioSendsSaid : Prop := portioSendsRow.holds Try.pinned (OpenSpec.ofChange portioSendsSpec)

/-- ITS FALSE NEIGHBOUR: 'it returns false'. Refute it at one input. -/
def portioSendsWrong : ChangeSpec := { name := "portioSends", fn := fun _ => fun
  | [d1, d2] => { results := [.lit (.bool false)], args := [d1, d2] }
  | _ => none }
def PortioSendsWrongFalsely : Prop := portioSendsRow.holds Try.pinned (OpenSpec.ofChange portioSendsWrong)

/-- 'almonrylaw21.PortioApart': WHATEVER THE INPUT: true; the input reads as it did. -/
def portioApartSpec : ChangeSpec := { name := "portioApart", fn := fun _ => fun
  | [d1, d2] => { results := [.lit (.bool true)], args := [d1, d2] }
  | _ => none }
def portioApartRow : OpenClaim := { program := "ythphkcgmpffdjaa", sum := "f901861677c369c1ce61d9fe76a5eebec3820744bc2cb50a21009d5a258dea70", func := "almonry/almonrylaw21.PortioApart", spec := "portioApart", unfollowed := true, recurses := true, apart := false }
def PortioApartSaid : Prop := portioApartRow.holds Try.pinned (OpenSpec.ofChange portioApartSpec)

/-- ITS FALSE NEIGHBOUR: 'it returns false'. Refute it at one input. -/
def portioApartWrong : ChangeSpec := { name := "portioApart", fn := fun _ => fun
  | [d1, d2] => { results := [.lit (.bool false)], args := [d1, d2] }
  | _ => none }
def PortioApartWrongFalsely : Prop := portioApartRow.holds Try.pinned (OpenSpec.ofChange portioApartWrong)

/-- 'almonrylaw21.PortioPasses': WHATEVER THE INPUT: true; the input reads as it did. -/
def portioPassesSpec : ChangeSpec := { name := "portioPasses", fn := fun _ => fun
  | [d1, d2, d3] => { results := [.lit (.bool true)], args := [d1, d2, d3] }
  | _ => none }
def portioPassesRow : OpenClaim := { program := "ythphkcgmpffdjaa", sum := "f901861677c369c1ce61d9fe76a5eebec3820744bc2cb50a21009d5a258dea70", func := "almonry/almonrylaw21.PortioPasses", spec := "portioPasses", unfollowed := true, recurses := true, apart := false }
def PortioPassesSaid : Prop := portioPassesRow.holds Try.pinned (OpenSpec.ofChange portioPassesSpec)

/-- ITS FALSE NEIGHBOUR: 'it returns false'. Refute it at one input. -/
def portioPassesWrong : ChangeSpec := { name := "portioPasses", fn := fun _ => fun
  | [d1, d2, d3] => { results := [.lit (.bool false)], args := [d1, d2, d3] }
  | _ => none }
def PortioPassesWrongFalsely : Prop := portioPassesRow.holds Try.pinned (OpenSpec.ofChange portioPassesWrong)

/- THE SECOND FORM. 'bulk': how many values and letters a reading holds, each counted each time it is reached (what is shared counts as often as it is met; a slice's spare places count too). A statement '..UptoSaid' is the law's where the arguments, and the package variables that the reading takes, are together of bulk at most 1048576: NARROWER than '..Said'. Prove '..Said' where nothing that the law and all that it calls make is longer than what came in: it says more and counts as full. Else prove '..UptoSaid'. A law counts once. -/
mutual
def uptoBulk {H : Type} : DataW H → Nat
  | .lit (.string bytes) => bytes.length + 1
  | .lit _ => 1
  | .nil => 1
  | .ptr d => uptoBulk d + 1
  | .slice elems spare => uptoBulkAll elems + uptoBulkAll spare + 1
  | .agg parts => uptoBulkAll parts + 1
  | .iface _ d => uptoBulk d + 1
  | .map entries => uptoBulkEntries entries + 1
  | .held _ => 1
def uptoBulkAll {H : Type} : List (DataW H) → Nat
  | [] => 0
  | d :: r => uptoBulk d + uptoBulkAll r
def uptoBulkEntries {H : Type} : List (Lit × DataW H) → Nat
  | [] => 0
  | x :: r => uptoBulkEntry x + uptoBulkEntries r
def uptoBulkEntry {H : Type} : Lit × DataW H → Nat
  | (.string bytes, d) => bytes.length + uptoBulk d + 1
  | (_, d) => uptoBulk d + 1
 end
def uptoSmall : (H : Type) → List (DataW H) → Bool := fun _ ds => decide (uptoBulkAll ds ≤ 1048576)
def OpenSpec.upto (s : _root_.Go.ChangeSpec) : _root_.Go.OpenSpec := { _root_.Go.OpenSpec.ofChange s with cond := some uptoSmall }

/-- 'almonrylaw21.PortioPlays', WHERE WHAT IT READS IS OF BULK AT MOST 1048576: true; the input reads as it did. -/
def portioPlaysUptoRow : OpenClaim := { program := "ythphkcgmpffdjaa", sum := "f901861677c369c1ce61d9fe76a5eebec3820744bc2cb50a21009d5a258dea70", func := "almonry/almonrylaw21.PortioPlays", spec := "portioPlays", unfollowed := true, recurses := true, apart := false, narrowed := true }
def PortioPlaysUptoSaid : Prop := portioPlaysUptoRow.holds Try.pinned (OpenSpec.upto portioPlaysSpec)

/-- 'almonrylaw21.PortioKnown', WHERE WHAT IT READS IS OF BULK AT MOST 1048576: true; the input reads as it did. -/
def portioKnownUptoRow : OpenClaim := { program := "ythphkcgmpffdjaa", sum := "f901861677c369c1ce61d9fe76a5eebec3820744bc2cb50a21009d5a258dea70", func := "almonry/almonrylaw21.PortioKnown", spec := "portioKnown", unfollowed := true, recurses := true, apart := false, narrowed := true }
def PortioKnownUptoSaid : Prop := portioKnownUptoRow.holds Try.pinned (OpenSpec.upto portioKnownSpec)

/-- 'almonrylaw21.PortioSends', WHERE WHAT IT READS IS OF BULK AT MOST 1048576: true; the input reads as it did. -/
def portioSendsUptoRow : OpenClaim := { program := "ythphkcgmpffdjaa", sum := "f901861677c369c1ce61d9fe76a5eebec3820744bc2cb50a21009d5a258dea70", func := "almonry/almonrylaw21.PortioSends", spec := "portioSends", unfollowed := true, recurses := true, apart := false, narrowed := true }
def PortioSendsUptoSaid : Prop := portioSendsUptoRow.holds Try.pinned (OpenSpec.upto portioSendsSpec)

/-- 'almonrylaw21.PortioApart', WHERE WHAT IT READS IS OF BULK AT MOST 1048576: true; the input reads as it did. -/
def portioApartUptoRow : OpenClaim := { program := "ythphkcgmpffdjaa", sum := "f901861677c369c1ce61d9fe76a5eebec3820744bc2cb50a21009d5a258dea70", func := "almonry/almonrylaw21.PortioApart", spec := "portioApart", unfollowed := true, recurses := true, apart := false, narrowed := true }
def PortioApartUptoSaid : Prop := portioApartUptoRow.holds Try.pinned (OpenSpec.upto portioApartSpec)

/-- 'almonrylaw21.PortioPasses', WHERE WHAT IT READS IS OF BULK AT MOST 1048576: true; the input reads as it did. -/
def portioPassesUptoRow : OpenClaim := { program := "ythphkcgmpffdjaa", sum := "f901861677c369c1ce61d9fe76a5eebec3820744bc2cb50a21009d5a258dea70", func := "almonry/almonrylaw21.PortioPasses", spec := "portioPasses", unfollowed := true, recurses := true, apart := false, narrowed := true }
def PortioPassesUptoSaid : Prop := portioPassesUptoRow.holds Try.pinned (OpenSpec.upto portioPassesSpec)

end Rows
end Go.Proofs.Ythphkcgmpffdjaa
