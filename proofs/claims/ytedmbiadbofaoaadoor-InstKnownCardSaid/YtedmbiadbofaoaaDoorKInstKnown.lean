/- InstKnown: the law answers true: read by the reader, in every order that Go leaves open; the card. -/
import Derived.Test.YtedmbiadbofaoaaDoorSv
import Derived.Test.YtedmbiadbofaoaaDoorSy
import Derived.Test.YtedmbiadbofaoaaDoorCards
import Derived.Test.YtedmbiadbofaoaaDoorTie
import Derived.LaidMore
import Derived.MakeChecks
import Derived.SevenTiedAt
namespace Go.Proofs.YtedmbiadbofaoaaDoor
open Go.ChangeShapes Go.WideShapes Go.ChangeAt Go.RowKit

def tabs : List Sx.Tab := [{ g := 0, k := .u8, ns := [5, 6, 0, 0, 7, 8, 9, 10] },
  { g := 1, k := .u8, ns := [11, 12, 13, 14, 15, 16, 17, 0] },
  { g := 2, k := .u8, ns := [18, 19, 20, 21, 0, 0, 0, 0] },
  { g := 4, k := .u8, ns := [22, 0, 23, 24, 25, 0, 26, 27] },
  { g := 5, k := .u8, ns := [0, 28, 0, 0, 0, 29, 0, 0] },
  { g := 6, k := .u8, ns := [0, 0, 0, 0, 0, 30, 0, 0] },
  { g := 7, k := .u8, ns := [31, 33, 34, 35, 36, 37, 39, 40] },
  { g := 9, k := .u8, ns := [32, 0, 0, 0, 0, 38, 0, 0] },
  { g := 8, k := .u8, ns := [54, 55, 56, 57, 58, 59, 60, 61] },
  { g := 10, k := .u8, ns := [0, 42, 0, 0, 0, 43, 0, 0] },
  { g := 11, k := .u8, ns := [0, 0, 0, 0, 0, 44, 0, 0] },
  { g := 12, k := .u8, ns := [45, 47, 0, 0, 0, 48, 0, 0] },
  { g := 14, k := .u8, ns := [46, 0, 0, 0, 0, 49, 0, 0] },
  { g := 13, k := .u8, ns := [62, 0, 0, 0, 63, 64, 65, 66] },
  { g := 3, k := .u8, ns := [50, 51, 0, 0, 0, 0, 0, 0] },
  { g := 15, k := .u8, ns := [0, 89, 90, 91, 0, 92, 93, 94] },
  { g := 16, k := .u8, ns := [70, 69, 67, 68, 71, 0, 0, 0, 73, 0, 0, 0, 72, 0, 0, 0, 74, 0, 0, 0, 75, 0, 0, 0, 76, 0, 0, 0, 77, 0, 0, 0] }]

theorem Tryd.own : ownKnob Tryd.prog.godebug = none := by kernel_rfl

set_option maxRecDepth 100000 in
theorem read_law : Sx.yes (Sx.ev Tryd.prog (Sx.tabGlob tabs) Sx.noBase 200 30 5 [] (Sx.stTab tabs [])) = true := by kernel_rfl

theorem law_any (w : World) (hw : Sx.TabsOk tabs w) : Calls Tryd.prog 5 #[] w fun e w' => e = .returned (.bool true) ∧ Below w.heap.size w w' :=
  Sx.calls_yes_tab (Sx.noBase_ok _ _) (by kernel_rfl) (by kernel_rfl) (by kernel_rfl) (args := []) trivial read_law (fun _ => 0) (fun _ => undef) (fun _ _ h => by cases h) w hw

/-- What start-up laid is what the reader was told. -/
theorem tabs_ok {w : World} (h : laidMetH Tryd.prog Rows.instKnownRow.laid w) : Sx.TabsOk tabs w := by
  rw [MakeChecks.laidMetH_plain _ _ _ (by kernel_rfl)] at h
  intro t ht
  simp only [tabs, List.mem_cons, List.not_mem_nil, or_false] at ht
  rcases ht with rfl | rfl | rfl | rfl | rfl | rfl | rfl | rfl | rfl | rfl | rfl | rfl | rfl | rfl | rfl | rfl | rfl
  · exact Sx.tab_of_laid h (name := "almonry/inst.branches") (by simp [Rows.instKnownRow, Rows.laid_almonry_inst_branches]) (by kernel_rfl) rfl rfl rfl (by kernel_rfl) (by kernel_rfl)
  · exact Sx.tab_of_laid h (name := "almonry/inst.loads") (by simp [Rows.instKnownRow, Rows.laid_almonry_inst_loads]) (by kernel_rfl) rfl rfl rfl (by kernel_rfl) (by kernel_rfl)
  · exact Sx.tab_of_laid h (name := "almonry/inst.stores") (by simp [Rows.instKnownRow, Rows.laid_almonry_inst_stores]) (by kernel_rfl) rfl rfl rfl (by kernel_rfl) (by kernel_rfl)
  · exact Sx.tab_of_laid h (name := "almonry/inst.numbered") (by simp [Rows.instKnownRow, Rows.laid_almonry_inst_numbered]) (by kernel_rfl) rfl rfl rfl (by kernel_rfl) (by kernel_rfl)
  · exact Sx.tab_of_laid h (name := "almonry/inst.shifts") (by simp [Rows.instKnownRow, Rows.laid_almonry_inst_shifts]) (by kernel_rfl) rfl rfl rfl (by kernel_rfl) (by kernel_rfl)
  · exact Sx.tab_of_laid h (name := "almonry/inst.shiftsSigned") (by simp [Rows.instKnownRow, Rows.laid_almonry_inst_shiftsSigned]) (by kernel_rfl) rfl rfl rfl (by kernel_rfl) (by kernel_rfl)
  · exact Sx.tab_of_laid h (name := "almonry/inst.registers") (by simp [Rows.instKnownRow, Rows.laid_almonry_inst_registers]) (by kernel_rfl) rfl rfl rfl (by kernel_rfl) (by kernel_rfl)
  · exact Sx.tab_of_laid h (name := "almonry/inst.contrary") (by simp [Rows.instKnownRow, Rows.laid_almonry_inst_contrary]) (by kernel_rfl) rfl rfl rfl (by kernel_rfl) (by kernel_rfl)
  · exact Sx.tab_of_laid h (name := "almonry/inst.products") (by simp [Rows.instKnownRow, Rows.laid_almonry_inst_products]) (by kernel_rfl) rfl rfl rfl (by kernel_rfl) (by kernel_rfl)
  · exact Sx.tab_of_laid h (name := "almonry/inst.wordShifts") (by simp [Rows.instKnownRow, Rows.laid_almonry_inst_wordShifts]) (by kernel_rfl) rfl rfl rfl (by kernel_rfl) (by kernel_rfl)
  · exact Sx.tab_of_laid h (name := "almonry/inst.wordSigned") (by simp [Rows.instKnownRow, Rows.laid_almonry_inst_wordSigned]) (by kernel_rfl) rfl rfl rfl (by kernel_rfl) (by kernel_rfl)
  · exact Sx.tab_of_laid h (name := "almonry/inst.words") (by simp [Rows.instKnownRow, Rows.laid_almonry_inst_words]) (by kernel_rfl) rfl rfl rfl (by kernel_rfl) (by kernel_rfl)
  · exact Sx.tab_of_laid h (name := "almonry/inst.wordsContrary") (by simp [Rows.instKnownRow, Rows.laid_almonry_inst_wordsContrary]) (by kernel_rfl) rfl rfl rfl (by kernel_rfl) (by kernel_rfl)
  · exact Sx.tab_of_laid h (name := "almonry/inst.wordProducts") (by simp [Rows.instKnownRow, Rows.laid_almonry_inst_wordProducts]) (by kernel_rfl) rfl rfl rfl (by kernel_rfl) (by kernel_rfl)
  · exact Sx.tab_of_laid h (name := "almonry/inst.fences") (by simp [Rows.instKnownRow, Rows.laid_almonry_inst_fences]) (by kernel_rfl) rfl rfl rfl (by kernel_rfl) (by kernel_rfl)
  · exact Sx.tab_of_laid h (name := "almonry/inst.csrs") (by simp [Rows.instKnownRow, Rows.laid_almonry_inst_csrs]) (by kernel_rfl) rfl rfl rfl (by kernel_rfl) (by kernel_rfl)
  · exact Sx.tab_of_laid h (name := "almonry/inst.atomics") (by simp [Rows.instKnownRow, Rows.laid_almonry_inst_atomics]) (by kernel_rfl) rfl rfl rfl (by kernel_rfl) (by kernel_rfl)


/-- The heap that start-up leaves meets the condition. -/
theorem door_met (H : Type) (os : Os) (args : Array Value) : laidMetH Tryd.prog Rows.instKnownRow.laid ((World.doorLaid Tryd.prog 400 os).forCall (fun _ _ => 0) ⟨#[], args, []⟩).memory :=
  laidMetH_of_parts3 (fuel := 8) (laidMet_of_run' 8 (by kernel_rfl) (by kernel_rfl)) (by kernel_rfl) (by kernel_rfl)

set_option maxRecDepth 100000 in
theorem law_lifted (os : Os) (started : os.Started) (H : Type) (enc : TypeId × Value → H) :
    ReturnsInHanded {} Tryd.checked os 5 .any (fun w args => (Rows.instKnownSpec.pre enc Tryd.prog Tryd.f5 [] false w args ∧ laidMetH Tryd.prog Rows.instKnownRow.laid w) ∧ sizedMet enc Tryd.prog Tryd.f5 (OpenSpec.ofChange Rows.instKnownSpec) false w args)
      (Rows.instKnownSpec.post enc Tryd.prog Tryd.f5 false true false false) := by
  refine returnsInHanded_of_change_and (C := Tryd.checked) (X := fun w _ => laidMetH Tryd.prog Rows.instKnownRow.laid w) (fun _ _ _ hh h => h.of_heap hh) Tryd.own started (by kernel_rfl) Tryd.func5
    (ChangeSpec.witness_shaped (enc := enc) (C := Tryd.checked) (os := os) (X := fun w _ => laidMetH Tryd.prog Rows.instKnownRow.laid w) false (World.doorLaid Tryd.prog 400 os) #[] 8 rfl (World.shaped_of_RefB (by kernel_rfl) (by kernel_rfl)) (by kernel_rfl) (by kernel_rfl) (by kernel_rfl) (door_met H os _)) ?_
  intro W base args ds gs before hval0 hW _ _ hL _
  have hW' := hW
  obtain ⟨p, q, hA0, hV, rfl, hfz, hnd⟩ := hW
  have hA : DataW.TrodAll enc Tryd.prog W 0 (fun _ => true) true Tryd.f5.params.toList args.toList ds p := hA0
  rw [Tryd.params5] at hA
  obtain ⟨hargs, rfl, rfl⟩ := trodAll_nil hA
  obtain rfl : args = #[] := by cases args; simp_all
  obtain ⟨rfl, rfl⟩ := trodVars_none hV
  clear hA0 hval0
  refine (law_any W (tabs_ok hL)).mono fun e W' ⟨he, bel⟩ => ?_
  subst he
  exact ⟨_, rfl, _, _, _, [], _, [], hW', trodAll_mk1 (shut_bool Tryd.underlying4 _), trodAll_mk0, rfl, bel.frame _, fun h => by cases h⟩

theorem law_over : Rows.instKnownRow.holds Tryd.pinned (OpenSpec.ofChange Rows.instKnownSpec) :=
  OpenClaim.holds_of_wide 5 Tryd.f5 rfl rfl rfl rfl rfl rfl rfl ⟨rfl, rfl, rfl, rfl, rfl⟩ rfl rfl rfl rfl rfl (by kernel_rfl) Tryd.func5 (by kernel_rfl)
    (of_decide_eq_true (by kernel_rfl)) (by unfold Func.isWrapper; first | (rw [if_pos (by decide +kernel)]; kernel_rfl) | (rw [if_neg (by decide +kernel)]; exact ⟨rfl, rfl⟩))
    (fun os started H enc _ => law_lifted os started H enc)

theorem instKnown_holds : Rows.InstKnownCardSaid :=
  Claim7.holds_tied_plain_at .later [] [.data, .data, .data, .data, .data, .data, .data, .data, .data, .data, .data, .data, .data, .data, .data, .data, .data] true (true, "2cb07f9a8da797d5fdcd8e3dd017f0f5c02f947858af43f4f707152b1fcc91c1") false
    law_over (fun _ h => by cases h) (by kernel_rfl) (fun _ h => by cases h) instKnown_row_tie rfl ⟨rfl, rfl⟩ (by kernel_rfl) rfl
    (fun f fn hf hfn => by
      obtain rfl : f = 5 := Option.some.inj ((show Tryd.prog.funcNamed "almonry/almonrylaw03.InstKnown" = some 5 by kernel_rfl).symm.trans hf) |>.symm
      obtain rfl : fn = Tryd.f5 := (Option.some.inj (Tryd.func5.symm.trans hfn)).symm
      exact ⟨by kernel_rfl, fun j t ht => by
        rw [Tryd.params5] at ht
        simp at ht⟩)
    (by kernel_rfl)
end Go.Proofs.YtedmbiadbofaoaaDoor
