/- InstClasses: the law answers true: read by the reader, in every order that Go leaves open; the card. -/
import Derived.Test.YtedmbiadbofaoaaDoorUInstClasses
import Derived.Test.YtedmbiadbofaoaaDoorCards
import Derived.Test.YtedmbiadbofaoaaDoorTie
import Derived.LaidMore
import Derived.MakeChecks
import Derived.SevenTiedAt
namespace Go.Proofs.YtedmbiadbofaoaaDoor
open Go.ChangeShapes Go.WideShapes Go.ChangeAt Go.RowKit

open Sx (tabs)

theorem Tryd.own : ownKnob Tryd.prog.godebug = none := by kernel_rfl

theorem tabGlob_lt {ts : List Sx.Tab} : ∀ g i, Sx.tabGlob ts g = some i → i < ts.length := fun g i h => by
  obtain ⟨t, _, h2, _⟩ := Sx.idxOf_get h
  rw [Nat.sub_zero] at h2
  exact (List.getElem?_eq_some_iff.1 h2).1
theorem law_any (w : World) (hw : Sx.TabsOk tabs w) : Calls Tryd.prog 8 #[] w fun e w' => e = .returned (.bool true) ∧ Below w.heap.size w w' :=
  Sx.law_of_places (w0 := w) (Sx.ev_ok (Sx.noBase_ok _ _) (by kernel_rfl) _) (by kernel_rfl) Tryd.func8 (show Tryd.f8.body = some Sx.lawBody from rfl) tabGlob_lt (by intro q hq; cases hq) Sx.places0_yes Sx.places0_paths Sx.start0_yes (e := Sx.envTab tabs (fun _ => 0) (fun _ => undef)) (by simp [Sx.V.okL]) (Sx.gokTab (by decide) _ _) (Sx.repTab (by decide) (by kernel_rfl) _ _ hw) (fun c t h => by cases h)

/-- What start-up laid is what the reader was told. -/
theorem tabs_ok {w : World} (h : laidMetH Tryd.prog Rows.instClassesRow.laid w) : Sx.TabsOk tabs w := by
  rw [MakeChecks.laidMetH_plain _ _ _ (by kernel_rfl)] at h
  intro t ht
  simp only [tabs, List.mem_cons, List.not_mem_nil, or_false] at ht
  rcases ht with rfl | rfl | rfl | rfl | rfl | rfl | rfl | rfl | rfl | rfl | rfl | rfl | rfl | rfl | rfl | rfl | rfl
  · exact Sx.tab_of_laid h (name := "almonry/inst.branches") (by simp [Rows.instClassesRow, Rows.laid_almonry_inst_branches]) (by kernel_rfl) rfl rfl rfl (by kernel_rfl) (by kernel_rfl)
  · exact Sx.tab_of_laid h (name := "almonry/inst.loads") (by simp [Rows.instClassesRow, Rows.laid_almonry_inst_loads]) (by kernel_rfl) rfl rfl rfl (by kernel_rfl) (by kernel_rfl)
  · exact Sx.tab_of_laid h (name := "almonry/inst.stores") (by simp [Rows.instClassesRow, Rows.laid_almonry_inst_stores]) (by kernel_rfl) rfl rfl rfl (by kernel_rfl) (by kernel_rfl)
  · exact Sx.tab_of_laid h (name := "almonry/inst.numbered") (by simp [Rows.instClassesRow, Rows.laid_almonry_inst_numbered]) (by kernel_rfl) rfl rfl rfl (by kernel_rfl) (by kernel_rfl)
  · exact Sx.tab_of_laid h (name := "almonry/inst.shifts") (by simp [Rows.instClassesRow, Rows.laid_almonry_inst_shifts]) (by kernel_rfl) rfl rfl rfl (by kernel_rfl) (by kernel_rfl)
  · exact Sx.tab_of_laid h (name := "almonry/inst.shiftsSigned") (by simp [Rows.instClassesRow, Rows.laid_almonry_inst_shiftsSigned]) (by kernel_rfl) rfl rfl rfl (by kernel_rfl) (by kernel_rfl)
  · exact Sx.tab_of_laid h (name := "almonry/inst.registers") (by simp [Rows.instClassesRow, Rows.laid_almonry_inst_registers]) (by kernel_rfl) rfl rfl rfl (by kernel_rfl) (by kernel_rfl)
  · exact Sx.tab_of_laid h (name := "almonry/inst.contrary") (by simp [Rows.instClassesRow, Rows.laid_almonry_inst_contrary]) (by kernel_rfl) rfl rfl rfl (by kernel_rfl) (by kernel_rfl)
  · exact Sx.tab_of_laid h (name := "almonry/inst.products") (by simp [Rows.instClassesRow, Rows.laid_almonry_inst_products]) (by kernel_rfl) rfl rfl rfl (by kernel_rfl) (by kernel_rfl)
  · exact Sx.tab_of_laid h (name := "almonry/inst.wordShifts") (by simp [Rows.instClassesRow, Rows.laid_almonry_inst_wordShifts]) (by kernel_rfl) rfl rfl rfl (by kernel_rfl) (by kernel_rfl)
  · exact Sx.tab_of_laid h (name := "almonry/inst.wordSigned") (by simp [Rows.instClassesRow, Rows.laid_almonry_inst_wordSigned]) (by kernel_rfl) rfl rfl rfl (by kernel_rfl) (by kernel_rfl)
  · exact Sx.tab_of_laid h (name := "almonry/inst.words") (by simp [Rows.instClassesRow, Rows.laid_almonry_inst_words]) (by kernel_rfl) rfl rfl rfl (by kernel_rfl) (by kernel_rfl)
  · exact Sx.tab_of_laid h (name := "almonry/inst.wordsContrary") (by simp [Rows.instClassesRow, Rows.laid_almonry_inst_wordsContrary]) (by kernel_rfl) rfl rfl rfl (by kernel_rfl) (by kernel_rfl)
  · exact Sx.tab_of_laid h (name := "almonry/inst.wordProducts") (by simp [Rows.instClassesRow, Rows.laid_almonry_inst_wordProducts]) (by kernel_rfl) rfl rfl rfl (by kernel_rfl) (by kernel_rfl)
  · exact Sx.tab_of_laid h (name := "almonry/inst.fences") (by simp [Rows.instClassesRow, Rows.laid_almonry_inst_fences]) (by kernel_rfl) rfl rfl rfl (by kernel_rfl) (by kernel_rfl)
  · exact Sx.tab_of_laid h (name := "almonry/inst.csrs") (by simp [Rows.instClassesRow, Rows.laid_almonry_inst_csrs]) (by kernel_rfl) rfl rfl rfl (by kernel_rfl) (by kernel_rfl)
  · exact Sx.tab_of_laid h (name := "almonry/inst.atomics") (by simp [Rows.instClassesRow, Rows.laid_almonry_inst_atomics]) (by kernel_rfl) rfl rfl rfl (by kernel_rfl) (by kernel_rfl)


/-- The heap that start-up leaves meets the condition. -/
theorem door_met (H : Type) (os : Os) (args : Array Value) : laidMetH Tryd.prog Rows.instClassesRow.laid ((World.doorLaid Tryd.prog 400 os).forCall (fun _ _ => 0) ⟨#[], args, []⟩).memory :=
  laidMetH_of_parts3 (fuel := 8) (laidMet_of_run' 8 (by kernel_rfl) (by kernel_rfl)) (by kernel_rfl) (by kernel_rfl)

set_option maxRecDepth 100000 in
theorem law_lifted (os : Os) (started : os.Started) (H : Type) (enc : TypeId × Value → H) :
    ReturnsInHanded {} Tryd.checked os 8 .any (fun w args => (Rows.instClassesSpec.pre enc Tryd.prog Tryd.f8 [] false w args ∧ laidMetH Tryd.prog Rows.instClassesRow.laid w) ∧ sizedMet enc Tryd.prog Tryd.f8 (OpenSpec.ofChange Rows.instClassesSpec) false w args)
      (Rows.instClassesSpec.post enc Tryd.prog Tryd.f8 false true false false) := by
  refine returnsInHanded_of_change_and (C := Tryd.checked) (X := fun w _ => laidMetH Tryd.prog Rows.instClassesRow.laid w) (fun _ _ _ hh h => h.of_heap hh) Tryd.own started (by kernel_rfl) Tryd.func8
    (ChangeSpec.witness_shaped (enc := enc) (C := Tryd.checked) (os := os) (X := fun w _ => laidMetH Tryd.prog Rows.instClassesRow.laid w) false (World.doorLaid Tryd.prog 400 os) #[] 8 rfl (World.shaped_of_RefB (by kernel_rfl) (by kernel_rfl)) (by kernel_rfl) (by kernel_rfl) (by kernel_rfl) (door_met H os _)) ?_
  intro W base args ds gs before hval0 hW _ _ hL _
  have hW' := hW
  obtain ⟨p, q, hA0, hV, rfl, hfz, hnd⟩ := hW
  have hA : DataW.TrodAll enc Tryd.prog W 0 (fun _ => true) true Tryd.f8.params.toList args.toList ds p := hA0
  rw [Tryd.params8] at hA
  obtain ⟨hargs, rfl, rfl⟩ := trodAll_nil hA
  obtain rfl : args = #[] := by cases args; simp_all
  obtain ⟨rfl, rfl⟩ := trodVars_none hV
  clear hA0 hval0
  refine (law_any W (tabs_ok hL)).mono fun e W' ⟨he, bel⟩ => ?_
  subst he
  exact ⟨_, rfl, _, _, _, [], _, [], hW', trodAll_mk1 (shut_bool Tryd.underlying4 _), trodAll_mk0, rfl, bel.frame _, fun h => by cases h⟩

theorem law_over : Rows.instClassesRow.holds Tryd.pinned (OpenSpec.ofChange Rows.instClassesSpec) :=
  OpenClaim.holds_of_wide 8 Tryd.f8 rfl rfl rfl rfl rfl rfl rfl ⟨rfl, rfl, rfl, rfl, rfl⟩ rfl rfl rfl rfl rfl (by kernel_rfl) Tryd.func8 (by kernel_rfl)
    (of_decide_eq_true (by kernel_rfl)) (by unfold Func.isWrapper; first | (rw [if_pos (by decide +kernel)]; kernel_rfl) | (rw [if_neg (by decide +kernel)]; exact ⟨rfl, rfl⟩))
    (fun os started H enc _ => law_lifted os started H enc)

theorem instClasses_holds : Rows.InstClassesCardSaid :=
  Claim7.holds_tied_plain_at .later [] [.data, .data, .data, .data, .data, .data, .data, .data, .data, .data, .data, .data, .data, .data, .data, .data, .data] true (true, "2cb07f9a8da797d5fdcd8e3dd017f0f5c02f947858af43f4f707152b1fcc91c1") false
    law_over (fun _ h => by cases h) (by kernel_rfl) (fun _ h => by cases h) instClasses_row_tie rfl ⟨rfl, rfl⟩ (by kernel_rfl) rfl
    (fun f fn hf hfn => by
      obtain rfl : f = 8 := Option.some.inj ((show Tryd.prog.funcNamed "almonry/almonrylaw03.InstClasses" = some 8 by kernel_rfl).symm.trans hf) |>.symm
      obtain rfl : fn = Tryd.f8 := (Option.some.inj (Tryd.func8.symm.trans hfn)).symm
      exact ⟨by kernel_rfl, fun j t ht => by
        rw [Tryd.params8] at ht
        simp at ht⟩)
    (by kernel_rfl)
end Go.Proofs.YtedmbiadbofaoaaDoor
