/-
  NARROWER THAN 'FOR EVERY INPUT', by the rows' own cells (each row's printed sentence says how): InstChecks: laid · InstSame: laid.
  DERIVED. THE GIVEN ROWS OF THIS SEAT. 2 by the template 'for every input the law returns true; each argument reads behind the call as it read before'; 0 by the template 'total and deterministic' (their statements: YtjlfojjkdeflpaaDoorTotals.lean).
  GIVEN WITH THE SEED: the statements are not yours to turn. If you find one false, say at which input.
  Laid BY PROGRAM, IN A SANDBOX (cutbox-rows.mjs): the forced cells as the released guide's own fill.sh prints them over the translation e27c14ccf354ccde… (all of the seat's roots in one cut). By AI agents, Wed Nov 11 2026. No macro, syntax, notation, axiom, sorry.
-/
import Derived.Test.YtjlfojjkdeflpaaDoorChecked
import GoSem.Claim
import GoSem.ClaimJoined
import GoSem.ClaimMapViews
import Derived.JoinedTies
import Derived.KernelRfl
namespace Go.Proofs.YtjlfojjkdeflpaaDoor
/- THE CELL 'sum', in the pinned program and in every row, IS THE sha256 OF THE DUMP (.gsa) THAT YtjlfojjkdeflpaaDoorProg.lean LOADS. Nothing in Lean hashes anything: it is a label: what it is worth is what the hold of that sum in a sandbox is worth. -/
noncomputable def Tryd.pinned : Pinned := { name := "ytjlfojjkdeflpaadoor", sum := "e27c14ccf354ccdea35e8a3852d0f039ea45288be48ec53b2ab18ca037abecb1", checked := Tryd.checked }
namespace Rows
def none {H : Type} : Left H := { results := [], args := [] }

/- WHAT THE LISTED PACKAGE-LEVEL VARIABLES READ AS WHEN THE CALL BEGINS. Each datum BY PROGRAM (the guide's laid-datum.mjs) off the statement by which the dump's own 'gosem.cut.vars' lays the variable. In a bare row this is a premise. The card (YtjlfojjkdeflpaaDoorCards.lean) ties it to the program's text. -/
def laid_almonry_inst_branches {H : Type} : DataW H := .agg [.lit (.int .u8 5), .lit (.int .u8 6), .lit (.int .u8 0), .lit (.int .u8 0), .lit (.int .u8 7), .lit (.int .u8 8), .lit (.int .u8 9), .lit (.int .u8 10)]
def laid_almonry_inst_loads {H : Type} : DataW H := .agg [.lit (.int .u8 11), .lit (.int .u8 12), .lit (.int .u8 13), .lit (.int .u8 14), .lit (.int .u8 15), .lit (.int .u8 16), .lit (.int .u8 17), .lit (.int .u8 0)]
def laid_almonry_inst_stores {H : Type} : DataW H := .agg [.lit (.int .u8 18), .lit (.int .u8 19), .lit (.int .u8 20), .lit (.int .u8 21), .lit (.int .u8 0), .lit (.int .u8 0), .lit (.int .u8 0), .lit (.int .u8 0)]
def laid_almonry_inst_numbered {H : Type} : DataW H := .agg [.lit (.int .u8 22), .lit (.int .u8 0), .lit (.int .u8 23), .lit (.int .u8 24), .lit (.int .u8 25), .lit (.int .u8 0), .lit (.int .u8 26), .lit (.int .u8 27)]
def laid_almonry_inst_shifts {H : Type} : DataW H := .agg [.lit (.int .u8 0), .lit (.int .u8 28), .lit (.int .u8 0), .lit (.int .u8 0), .lit (.int .u8 0), .lit (.int .u8 29), .lit (.int .u8 0), .lit (.int .u8 0)]
def laid_almonry_inst_shiftsSigned {H : Type} : DataW H := .agg [.lit (.int .u8 0), .lit (.int .u8 0), .lit (.int .u8 0), .lit (.int .u8 0), .lit (.int .u8 0), .lit (.int .u8 30), .lit (.int .u8 0), .lit (.int .u8 0)]
def laid_almonry_inst_registers {H : Type} : DataW H := .agg [.lit (.int .u8 31), .lit (.int .u8 33), .lit (.int .u8 34), .lit (.int .u8 35), .lit (.int .u8 36), .lit (.int .u8 37), .lit (.int .u8 39), .lit (.int .u8 40)]
def laid_almonry_inst_contrary {H : Type} : DataW H := .agg [.lit (.int .u8 32), .lit (.int .u8 0), .lit (.int .u8 0), .lit (.int .u8 0), .lit (.int .u8 0), .lit (.int .u8 38), .lit (.int .u8 0), .lit (.int .u8 0)]
def laid_almonry_inst_products {H : Type} : DataW H := .agg [.lit (.int .u8 54), .lit (.int .u8 55), .lit (.int .u8 56), .lit (.int .u8 57), .lit (.int .u8 58), .lit (.int .u8 59), .lit (.int .u8 60), .lit (.int .u8 61)]
def laid_almonry_inst_wordShifts {H : Type} : DataW H := .agg [.lit (.int .u8 0), .lit (.int .u8 42), .lit (.int .u8 0), .lit (.int .u8 0), .lit (.int .u8 0), .lit (.int .u8 43), .lit (.int .u8 0), .lit (.int .u8 0)]
def laid_almonry_inst_wordSigned {H : Type} : DataW H := .agg [.lit (.int .u8 0), .lit (.int .u8 0), .lit (.int .u8 0), .lit (.int .u8 0), .lit (.int .u8 0), .lit (.int .u8 44), .lit (.int .u8 0), .lit (.int .u8 0)]
def laid_almonry_inst_words {H : Type} : DataW H := .agg [.lit (.int .u8 45), .lit (.int .u8 47), .lit (.int .u8 0), .lit (.int .u8 0), .lit (.int .u8 0), .lit (.int .u8 48), .lit (.int .u8 0), .lit (.int .u8 0)]
def laid_almonry_inst_wordsContrary {H : Type} : DataW H := .agg [.lit (.int .u8 46), .lit (.int .u8 0), .lit (.int .u8 0), .lit (.int .u8 0), .lit (.int .u8 0), .lit (.int .u8 49), .lit (.int .u8 0), .lit (.int .u8 0)]
def laid_almonry_inst_wordProducts {H : Type} : DataW H := .agg [.lit (.int .u8 62), .lit (.int .u8 0), .lit (.int .u8 0), .lit (.int .u8 0), .lit (.int .u8 63), .lit (.int .u8 64), .lit (.int .u8 65), .lit (.int .u8 66)]
def laid_almonry_inst_fences {H : Type} : DataW H := .agg [.lit (.int .u8 50), .lit (.int .u8 51), .lit (.int .u8 0), .lit (.int .u8 0), .lit (.int .u8 0), .lit (.int .u8 0), .lit (.int .u8 0), .lit (.int .u8 0)]
def laid_almonry_inst_csrs {H : Type} : DataW H := .agg [.lit (.int .u8 0), .lit (.int .u8 89), .lit (.int .u8 90), .lit (.int .u8 91), .lit (.int .u8 0), .lit (.int .u8 92), .lit (.int .u8 93), .lit (.int .u8 94)]
def laid_almonry_inst_atomics {H : Type} : DataW H := .agg [.lit (.int .u8 70), .lit (.int .u8 69), .lit (.int .u8 67), .lit (.int .u8 68), .lit (.int .u8 71), .lit (.int .u8 0), .lit (.int .u8 0), .lit (.int .u8 0), .lit (.int .u8 73), .lit (.int .u8 0), .lit (.int .u8 0), .lit (.int .u8 0), .lit (.int .u8 72), .lit (.int .u8 0), .lit (.int .u8 0), .lit (.int .u8 0), .lit (.int .u8 74), .lit (.int .u8 0), .lit (.int .u8 0), .lit (.int .u8 0), .lit (.int .u8 75), .lit (.int .u8 0), .lit (.int .u8 0), .lit (.int .u8 0), .lit (.int .u8 76), .lit (.int .u8 0), .lit (.int .u8 0), .lit (.int .u8 0), .lit (.int .u8 77), .lit (.int .u8 0), .lit (.int .u8 0), .lit (.int .u8 0)]

/-- 'almonrylaw03.InstChecks': WHATEVER THE INPUT: true; the input reads as it did. -/
def instChecksSpec : ChangeSpec := { name := "instChecks", fn := fun _ => fun
  | [d] => { results := [.lit (.bool true)], args := [d] }
  | _ => none }
def instChecksRow : OpenClaim := { program := "ytjlfojjkdeflpaadoor", sum := "e27c14ccf354ccdea35e8a3852d0f039ea45288be48ec53b2ab18ca037abecb1", func := "almonry/almonrylaw03.InstChecks", spec := "instChecks", unfollowed := true, recurses := true, named := ["almonry/inst.branches", "almonry/inst.loads", "almonry/inst.stores", "almonry/inst.fences", "almonry/inst.numbered", "almonry/inst.shifts", "almonry/inst.shiftsSigned", "almonry/inst.registers", "almonry/inst.products", "almonry/inst.contrary", "almonry/inst.wordShifts", "almonry/inst.wordSigned", "almonry/inst.words", "almonry/inst.wordProducts", "almonry/inst.wordsContrary", "almonry/inst.csrs", "almonry/inst.atomics"], apart := false, laid := [("almonry/inst.branches", laid_almonry_inst_branches), ("almonry/inst.loads", laid_almonry_inst_loads), ("almonry/inst.stores", laid_almonry_inst_stores), ("almonry/inst.numbered", laid_almonry_inst_numbered), ("almonry/inst.shifts", laid_almonry_inst_shifts), ("almonry/inst.shiftsSigned", laid_almonry_inst_shiftsSigned), ("almonry/inst.registers", laid_almonry_inst_registers), ("almonry/inst.contrary", laid_almonry_inst_contrary), ("almonry/inst.products", laid_almonry_inst_products), ("almonry/inst.wordShifts", laid_almonry_inst_wordShifts), ("almonry/inst.wordSigned", laid_almonry_inst_wordSigned), ("almonry/inst.words", laid_almonry_inst_words), ("almonry/inst.wordsContrary", laid_almonry_inst_wordsContrary), ("almonry/inst.wordProducts", laid_almonry_inst_wordProducts), ("almonry/inst.fences", laid_almonry_inst_fences), ("almonry/inst.csrs", laid_almonry_inst_csrs), ("almonry/inst.atomics", laid_almonry_inst_atomics)] }
def InstChecksSaid : Prop := instChecksRow.holds Tryd.pinned (OpenSpec.ofChange instChecksSpec)

/-- ITS FALSE NEIGHBOUR: 'it returns false'. Refute it at one input. -/
def instChecksWrong : ChangeSpec := { name := "instChecks", fn := fun _ => fun
  | [d] => { results := [.lit (.bool false)], args := [d] }
  | _ => none }
def InstChecksWrongFalsely : Prop := instChecksRow.holds Tryd.pinned (OpenSpec.ofChange instChecksWrong)

/-- 'almonrylaw03.InstSame': WHATEVER THE INPUT: true; the input reads as it did. -/
def instSameSpec : ChangeSpec := { name := "instSame", fn := fun _ => fun
  | [d1, d2] => { results := [.lit (.bool true)], args := [d1, d2] }
  | _ => none }
def instSameRow : OpenClaim := { program := "ytjlfojjkdeflpaadoor", sum := "e27c14ccf354ccdea35e8a3852d0f039ea45288be48ec53b2ab18ca037abecb1", func := "almonry/almonrylaw03.InstSame", spec := "instSame", unfollowed := true, recurses := true, named := ["almonry/inst.branches", "almonry/inst.loads", "almonry/inst.stores", "almonry/inst.fences", "almonry/inst.numbered", "almonry/inst.shifts", "almonry/inst.shiftsSigned", "almonry/inst.registers", "almonry/inst.products", "almonry/inst.contrary", "almonry/inst.wordShifts", "almonry/inst.wordSigned", "almonry/inst.words", "almonry/inst.wordProducts", "almonry/inst.wordsContrary", "almonry/inst.csrs", "almonry/inst.atomics"], apart := false, laid := [("almonry/inst.branches", laid_almonry_inst_branches), ("almonry/inst.loads", laid_almonry_inst_loads), ("almonry/inst.stores", laid_almonry_inst_stores), ("almonry/inst.numbered", laid_almonry_inst_numbered), ("almonry/inst.shifts", laid_almonry_inst_shifts), ("almonry/inst.shiftsSigned", laid_almonry_inst_shiftsSigned), ("almonry/inst.registers", laid_almonry_inst_registers), ("almonry/inst.contrary", laid_almonry_inst_contrary), ("almonry/inst.products", laid_almonry_inst_products), ("almonry/inst.wordShifts", laid_almonry_inst_wordShifts), ("almonry/inst.wordSigned", laid_almonry_inst_wordSigned), ("almonry/inst.words", laid_almonry_inst_words), ("almonry/inst.wordsContrary", laid_almonry_inst_wordsContrary), ("almonry/inst.wordProducts", laid_almonry_inst_wordProducts), ("almonry/inst.fences", laid_almonry_inst_fences), ("almonry/inst.csrs", laid_almonry_inst_csrs), ("almonry/inst.atomics", laid_almonry_inst_atomics)] }
def InstSameSaid : Prop := instSameRow.holds Tryd.pinned (OpenSpec.ofChange instSameSpec)

/-- ITS FALSE NEIGHBOUR: 'it returns false'. Refute it at one input. -/
def instSameWrong : ChangeSpec := { name := "instSame", fn := fun _ => fun
  | [d1, d2] => { results := [.lit (.bool false)], args := [d1, d2] }
  | _ => none }
def InstSameWrongFalsely : Prop := instSameRow.holds Tryd.pinned (OpenSpec.ofChange instSameWrong)

/- THE SECOND FORM. 'bulk': how many values and letters a reading holds, each counted each time it is reached (what is shared counts as often as it is met; a slice's spare places count too). A statement '..UptoSaid' is the law's where the arguments, and the package variables that the reading takes, are together of bulk at most 1048576: NARROWER than '..Said'. Prove '..Said' where nothing that the law and all that it calls make is longer than what came in: it says more and counts as full. Else prove '..UptoSaid'. A law counts once. -/
mutual
def uptoBulk {H : Type} : DataW H → Nat
  | .lit (.string bytes) => bytes.length + 1
  | .lit _ => 1
  | .nil => 1
  | .ptr d => uptoBulk d + 1
  | .slice elems spare => uptoBulkAll elems + uptoBulkAll spare + 1
  | .agg parts => uptoBulkAll parts + 1
  | .iface _ d => uptoBulk d + 1
  | .map entries => uptoBulkEntries entries + 1
  | .held _ => 1
def uptoBulkAll {H : Type} : List (DataW H) → Nat
  | [] => 0
  | d :: r => uptoBulk d + uptoBulkAll r
def uptoBulkEntries {H : Type} : List (Lit × DataW H) → Nat
  | [] => 0
  | x :: r => uptoBulkEntry x + uptoBulkEntries r
def uptoBulkEntry {H : Type} : Lit × DataW H → Nat
  | (.string bytes, d) => bytes.length + uptoBulk d + 1
  | (_, d) => uptoBulk d + 1
 end
def uptoSmall : (H : Type) → List (DataW H) → Bool := fun _ ds => decide (uptoBulkAll ds ≤ 1048576)
def OpenSpec.upto (s : _root_.Go.ChangeSpec) : _root_.Go.OpenSpec := { _root_.Go.OpenSpec.ofChange s with cond := some uptoSmall }

/-- 'almonrylaw03.InstChecks', WHERE WHAT IT READS IS OF BULK AT MOST 1048576: true; the input reads as it did. -/
def instChecksUptoRow : OpenClaim := { program := "ytjlfojjkdeflpaadoor", sum := "e27c14ccf354ccdea35e8a3852d0f039ea45288be48ec53b2ab18ca037abecb1", func := "almonry/almonrylaw03.InstChecks", spec := "instChecks", unfollowed := true, recurses := true, named := ["almonry/inst.branches", "almonry/inst.loads", "almonry/inst.stores", "almonry/inst.fences", "almonry/inst.numbered", "almonry/inst.shifts", "almonry/inst.shiftsSigned", "almonry/inst.registers", "almonry/inst.products", "almonry/inst.contrary", "almonry/inst.wordShifts", "almonry/inst.wordSigned", "almonry/inst.words", "almonry/inst.wordProducts", "almonry/inst.wordsContrary", "almonry/inst.csrs", "almonry/inst.atomics"], apart := false, laid := [("almonry/inst.branches", laid_almonry_inst_branches), ("almonry/inst.loads", laid_almonry_inst_loads), ("almonry/inst.stores", laid_almonry_inst_stores), ("almonry/inst.numbered", laid_almonry_inst_numbered), ("almonry/inst.shifts", laid_almonry_inst_shifts), ("almonry/inst.shiftsSigned", laid_almonry_inst_shiftsSigned), ("almonry/inst.registers", laid_almonry_inst_registers), ("almonry/inst.contrary", laid_almonry_inst_contrary), ("almonry/inst.products", laid_almonry_inst_products), ("almonry/inst.wordShifts", laid_almonry_inst_wordShifts), ("almonry/inst.wordSigned", laid_almonry_inst_wordSigned), ("almonry/inst.words", laid_almonry_inst_words), ("almonry/inst.wordsContrary", laid_almonry_inst_wordsContrary), ("almonry/inst.wordProducts", laid_almonry_inst_wordProducts), ("almonry/inst.fences", laid_almonry_inst_fences), ("almonry/inst.csrs", laid_almonry_inst_csrs), ("almonry/inst.atomics", laid_almonry_inst_atomics)], narrowed := true }
def InstChecksUptoSaid : Prop := instChecksUptoRow.holds Tryd.pinned (OpenSpec.upto instChecksSpec)

/-- 'almonrylaw03.InstSame', WHERE WHAT IT READS IS OF BULK AT MOST 1048576: true; the input reads as it did. -/
def instSameUptoRow : OpenClaim := { program := "ytjlfojjkdeflpaadoor", sum := "e27c14ccf354ccdea35e8a3852d0f039ea45288be48ec53b2ab18ca037abecb1", func := "almonry/almonrylaw03.InstSame", spec := "instSame", unfollowed := true, recurses := true, named := ["almonry/inst.branches", "almonry/inst.loads", "almonry/inst.stores", "almonry/inst.fences", "almonry/inst.numbered", "almonry/inst.shifts", "almonry/inst.shiftsSigned", "almonry/inst.registers", "almonry/inst.products", "almonry/inst.contrary", "almonry/inst.wordShifts", "almonry/inst.wordSigned", "almonry/inst.words", "almonry/inst.wordProducts", "almonry/inst.wordsContrary", "almonry/inst.csrs", "almonry/inst.atomics"], apart := false, laid := [("almonry/inst.branches", laid_almonry_inst_branches), ("almonry/inst.loads", laid_almonry_inst_loads), ("almonry/inst.stores", laid_almonry_inst_stores), ("almonry/inst.numbered", laid_almonry_inst_numbered), ("almonry/inst.shifts", laid_almonry_inst_shifts), ("almonry/inst.shiftsSigned", laid_almonry_inst_shiftsSigned), ("almonry/inst.registers", laid_almonry_inst_registers), ("almonry/inst.contrary", laid_almonry_inst_contrary), ("almonry/inst.products", laid_almonry_inst_products), ("almonry/inst.wordShifts", laid_almonry_inst_wordShifts), ("almonry/inst.wordSigned", laid_almonry_inst_wordSigned), ("almonry/inst.words", laid_almonry_inst_words), ("almonry/inst.wordsContrary", laid_almonry_inst_wordsContrary), ("almonry/inst.wordProducts", laid_almonry_inst_wordProducts), ("almonry/inst.fences", laid_almonry_inst_fences), ("almonry/inst.csrs", laid_almonry_inst_csrs), ("almonry/inst.atomics", laid_almonry_inst_atomics)], narrowed := true }
def InstSameUptoSaid : Prop := instSameUptoRow.holds Tryd.pinned (OpenSpec.upto instSameSpec)

end Rows
end Go.Proofs.YtjlfojjkdeflpaaDoor
