/-
  DERIVED. GIVEN WITH THE SEED: THE PROGRAM's TIES (one call each: nine closed facts by the kernel) AND EACH ROW's TIE, after the 31st guide's Derived/Test/Toyas{Tie, Card}.lean. No idea stands in it: it is a product of the set-up. Laid BY PROGRAM, IN A SANDBOX (cutbox-door.mjs). By AI agents, Wed Nov 11 2026. No macro, syntax, notation, axiom, sorry.
-/
import Derived.Test.YtjlfojjkdeflpaaDoorRows
import Derived.LaidByTextLater
import Derived.SevenTiedAt
import Derived.LaidSub
import Derived.LaidOnce
namespace Go.Proofs.YtjlfojjkdeflpaaDoor
open Go
set_option maxRecDepth 100000
theorem seatTie1 : Tryd.prog.laidByTextLater [("almonry/inst.branches", Rows.laid_almonry_inst_branches), ("almonry/inst.loads", Rows.laid_almonry_inst_loads), ("almonry/inst.stores", Rows.laid_almonry_inst_stores), ("almonry/inst.numbered", Rows.laid_almonry_inst_numbered), ("almonry/inst.shifts", Rows.laid_almonry_inst_shifts), ("almonry/inst.shiftsSigned", Rows.laid_almonry_inst_shiftsSigned), ("almonry/inst.registers", Rows.laid_almonry_inst_registers), ("almonry/inst.contrary", Rows.laid_almonry_inst_contrary), ("almonry/inst.products", Rows.laid_almonry_inst_products), ("almonry/inst.wordShifts", Rows.laid_almonry_inst_wordShifts), ("almonry/inst.wordSigned", Rows.laid_almonry_inst_wordSigned), ("almonry/inst.words", Rows.laid_almonry_inst_words), ("almonry/inst.wordsContrary", Rows.laid_almonry_inst_wordsContrary), ("almonry/inst.wordProducts", Rows.laid_almonry_inst_wordProducts), ("almonry/inst.fences", Rows.laid_almonry_inst_fences), ("almonry/inst.csrs", Rows.laid_almonry_inst_csrs), ("almonry/inst.atomics", Rows.laid_almonry_inst_atomics)] [.data, .data, .data, .data, .data, .data, .data, .data, .data, .data, .data, .data, .data, .data, .data, .data, .data] true :=
  Program.laidByTextLater_by_one 94 8 33 (by kernel_rfl) (by kernel_rfl) (by kernel_rfl) (by kernel_rfl) (by kernel_rfl) (by kernel_rfl) (fun _ _ => by kernel_rfl)
theorem noOwnUnsafe : Tryd.pinned.checked.prog.headLifts.contains "ownunsafe" = false := by kernel_rfl
theorem tie : Tryd.prog.laidByTextLater [("almonry/inst.branches", Rows.laid_almonry_inst_branches), ("almonry/inst.loads", Rows.laid_almonry_inst_loads), ("almonry/inst.stores", Rows.laid_almonry_inst_stores), ("almonry/inst.numbered", Rows.laid_almonry_inst_numbered), ("almonry/inst.shifts", Rows.laid_almonry_inst_shifts), ("almonry/inst.shiftsSigned", Rows.laid_almonry_inst_shiftsSigned), ("almonry/inst.registers", Rows.laid_almonry_inst_registers), ("almonry/inst.contrary", Rows.laid_almonry_inst_contrary), ("almonry/inst.products", Rows.laid_almonry_inst_products), ("almonry/inst.wordShifts", Rows.laid_almonry_inst_wordShifts), ("almonry/inst.wordSigned", Rows.laid_almonry_inst_wordSigned), ("almonry/inst.words", Rows.laid_almonry_inst_words), ("almonry/inst.wordsContrary", Rows.laid_almonry_inst_wordsContrary), ("almonry/inst.wordProducts", Rows.laid_almonry_inst_wordProducts), ("almonry/inst.fences", Rows.laid_almonry_inst_fences), ("almonry/inst.csrs", Rows.laid_almonry_inst_csrs), ("almonry/inst.atomics", Rows.laid_almonry_inst_atomics)] [.data, .data, .data, .data, .data, .data, .data, .data, .data, .data, .data, .data, .data, .data, .data, .data, .data] true :=
  Program.laidByTextLater.sub seatTie1 ["almonry/inst.branches", "almonry/inst.loads", "almonry/inst.stores", "almonry/inst.numbered", "almonry/inst.shifts", "almonry/inst.shiftsSigned", "almonry/inst.registers", "almonry/inst.contrary", "almonry/inst.products", "almonry/inst.wordShifts", "almonry/inst.wordSigned", "almonry/inst.words", "almonry/inst.wordsContrary", "almonry/inst.wordProducts", "almonry/inst.fences", "almonry/inst.csrs", "almonry/inst.atomics"] (by kernel_rfl) (by kernel_rfl)
theorem instChecks_row_tie : Rows.instChecksRow.laidByTextAt .later Tryd.pinned [.data, .data, .data, .data, .data, .data, .data, .data, .data, .data, .data, .data, .data, .data, .data, .data, .data] true :=
  OpenClaim.laidByTextAt_later rfl rfl tie noOwnUnsafe
theorem instSame_row_tie : Rows.instSameRow.laidByTextAt .later Tryd.pinned [.data, .data, .data, .data, .data, .data, .data, .data, .data, .data, .data, .data, .data, .data, .data, .data, .data] true :=
  OpenClaim.laidByTextAt_later rfl rfl tie noOwnUnsafe
theorem instChecksUpto_row_tie : Rows.instChecksUptoRow.laidByTextAt .later Tryd.pinned [.data, .data, .data, .data, .data, .data, .data, .data, .data, .data, .data, .data, .data, .data, .data, .data, .data] true :=
  OpenClaim.laidByTextAt_later rfl rfl tie noOwnUnsafe
theorem instSameUpto_row_tie : Rows.instSameUptoRow.laidByTextAt .later Tryd.pinned [.data, .data, .data, .data, .data, .data, .data, .data, .data, .data, .data, .data, .data, .data, .data, .data, .data] true :=
  OpenClaim.laidByTextAt_later rfl rfl tie noOwnUnsafe
end Go.Proofs.YtjlfojjkdeflpaaDoor
