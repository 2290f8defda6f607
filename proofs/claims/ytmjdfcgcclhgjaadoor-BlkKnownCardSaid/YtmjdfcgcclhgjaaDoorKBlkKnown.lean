/- BlkKnown: the law answers true: read by the reader, in every order that Go leaves open; the card. -/
import Derived.Test.YtmjdfcgcclhgjaaDoorSv
import Derived.Test.YtmjdfcgcclhgjaaDoorTBlkKnown
import Derived.Test.YtmjdfcgcclhgjaaDoorSy
import Derived.Test.YtmjdfcgcclhgjaaDoorCards
import Derived.Test.YtmjdfcgcclhgjaaDoorTie
import Derived.LaidMore
import Derived.MakeChecks
import Derived.SevenTiedAt
set_option linter.unusedVariables false
set_option linter.unusedSimpArgs false
namespace Go.Proofs.YtmjdfcgcclhgjaaDoor
open Go.ChangeShapes Go.WideShapes Go.ChangeAt Go.RowKit

open Sx (tabs)

theorem Tryd.own : ownKnob Tryd.prog.godebug = none := by kernel_rfl

set_option maxRecDepth 100000 in
theorem read_law : Sx.yes (Sx.ev Tryd.prog (Sx.tabGlob tabs) Sx.base 300 30 [] 3 [] (Sx.stTab tabs [])) = true := by kernel_rfl

theorem law_any (w : World) (hw : Sx.TabsOk tabs w) : Calls Tryd.prog 3 #[] w fun e w' => e = .returned (.bool true) ∧ Below w.heap.size w w' :=
  Sx.calls_yes_tab Sx.base_ok (by kernel_rfl) (by kernel_rfl) (by kernel_rfl) (args := []) trivial read_law (fun _ => 0) (fun _ => undef) (fun _ _ h => by cases h) w hw

/-- What start-up laid is what the reader was told. -/
theorem tabs_ok {w : World} (h : laidMetH Tryd.prog Rows.blkKnownRow.laid w) : Sx.TabsOk tabs w := by
  rw [MakeChecks.laidMetH_plain _ _ _ (by kernel_rfl)] at h
  intro t ht
  simp only [Sx.tabs, List.mem_cons, List.not_mem_nil, or_false] at ht
  rcases ht with rfl | rfl | rfl
  · exact Sx.tab_of_laid h (name := "math/bits.deBruijn32tab") (by simp [Rows.blkKnownRow, Rows.laid_math_bits_deBruijn32tab]) (by kernel_rfl) rfl rfl rfl (by kernel_rfl) (by kernel_rfl)
  · exact Sx.tab_of_laid h (name := "math/bits.deBruijn64tab") (by simp [Rows.blkKnownRow, Rows.laid_math_bits_deBruijn64tab]) (by kernel_rfl) rfl rfl rfl (by kernel_rfl) (by kernel_rfl)
  · exact Sx.tab_of_laid h (name := "internal/strconv.uint64pow10") (by simp [Rows.blkKnownRow, Rows.laid_internal_strconv_uint64pow10]) (by kernel_rfl) rfl rfl rfl (by kernel_rfl) (by kernel_rfl)


/-- The heap that start-up leaves meets the condition. -/
theorem door_met (H : Type) (os : Os) (args : Array Value) : laidMetH Tryd.prog Rows.blkKnownRow.laid ((World.doorLaid Tryd.prog 400 os).forCall (fun _ _ => 0) ⟨#[], args, []⟩).memory :=
  laidMetH_of_parts3 (fuel := 8) (laidMet_of_run' 8 (by kernel_rfl) (by kernel_rfl)) (by kernel_rfl) (by kernel_rfl)

set_option maxRecDepth 100000 in
theorem law_lifted (os : Os) (started : os.Started) (H : Type) (enc : TypeId × Value → H) :
    ReturnsInHanded {} Tryd.checked os 3 .any (fun w args => (Rows.blkKnownSpec.pre enc Tryd.prog Tryd.f3 [] false w args ∧ laidMetH Tryd.prog Rows.blkKnownRow.laid w) ∧ sizedMet enc Tryd.prog Tryd.f3 (OpenSpec.ofChange Rows.blkKnownSpec) false w args)
      (Rows.blkKnownSpec.post enc Tryd.prog Tryd.f3 false true false false) := by
  refine returnsInHanded_of_change_and (C := Tryd.checked) (X := fun w _ => laidMetH Tryd.prog Rows.blkKnownRow.laid w) (fun _ _ _ hh h => h.of_heap hh) Tryd.own started (by kernel_rfl) Tryd.func3
    (ChangeSpec.witness_shaped (enc := enc) (C := Tryd.checked) (os := os) (X := fun w _ => laidMetH Tryd.prog Rows.blkKnownRow.laid w) false (World.doorLaid Tryd.prog 400 os) #[] 8 rfl (World.shaped_of_RefB (by kernel_rfl) (by kernel_rfl)) (by kernel_rfl) (by kernel_rfl) (by kernel_rfl) (door_met H os _)) ?_
  intro W base args ds gs before hval0 hW _ _ hL _
  have hW' := hW
  obtain ⟨p, q, hA0, hV, rfl, hfz, hnd⟩ := hW
  have hA : DataW.TrodAll enc Tryd.prog W 0 (fun _ => true) true Tryd.f3.params.toList args.toList ds p := hA0
  rw [Tryd.params3] at hA
  obtain ⟨hargs, rfl, rfl⟩ := trodAll_nil hA
  obtain rfl : args = #[] := by cases args; simp_all
  obtain ⟨rfl, rfl⟩ := trodVars_none hV
  clear hA0 hval0
  refine (law_any W (tabs_ok hL)).mono fun e W' ⟨he, bel⟩ => ?_
  subst he
  exact ⟨_, rfl, _, _, _, [], _, [], hW', trodAll_mk1 (shut_bool Tryd.underlying4 _), trodAll_mk0, rfl, bel.frame _, fun h => by cases h⟩

theorem law_over : Rows.blkKnownRow.holds Tryd.pinned (OpenSpec.ofChange Rows.blkKnownSpec) :=
  OpenClaim.holds_of_wide 3 Tryd.f3 rfl rfl rfl rfl rfl rfl rfl ⟨rfl, rfl, rfl, rfl, rfl⟩ rfl rfl rfl rfl rfl (by kernel_rfl) Tryd.func3 (by kernel_rfl)
    (of_decide_eq_true (by kernel_rfl)) (by unfold Func.isWrapper; first | (rw [if_pos (by decide +kernel)]; kernel_rfl) | (rw [if_neg (by decide +kernel)]; exact ⟨rfl, rfl⟩))
    (fun os started H enc _ => law_lifted os started H enc)

theorem blkKnown_holds : Rows.BlkKnownCardSaid :=
  Claim7.holds_tied_plain_at .later [] [.data, .data, .data] true (true, "eb2cf407863b12a1ea1af1c1b1b26d3f34494ab90056d67349a4c2bba89a853e") false
    law_over (fun _ h => by cases h) (by kernel_rfl) (fun _ h => by cases h) blkKnown_row_tie rfl ⟨rfl, rfl⟩ (by kernel_rfl) rfl
    (fun f fn hf hfn => by
      obtain rfl : f = 3 := Option.some.inj ((show Tryd.prog.funcNamed "almonry/almonrylaw16.BlkKnown" = some 3 by kernel_rfl).symm.trans hf) |>.symm
      obtain rfl : fn = Tryd.f3 := (Option.some.inj (Tryd.func3.symm.trans hfn)).symm
      exact ⟨by kernel_rfl, fun j t ht => by
        rw [Tryd.params3] at ht
        simp at ht⟩)
    (by kernel_rfl)
end Go.Proofs.YtmjdfcgcclhgjaaDoor
