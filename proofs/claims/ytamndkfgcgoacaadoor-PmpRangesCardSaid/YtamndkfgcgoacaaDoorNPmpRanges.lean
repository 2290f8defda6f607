/- PmpRanges: of all arguments, the law answers true: read by the reader, in every order that Go leaves open. -/
import Derived.Test.YtamndkfgcgoacaaDoorUPmpRangesF
import Derived.Test.YtamndkfgcgoacaaDoorCards
import Derived.Test.YtamndkfgcgoacaaDoorTie
import Derived.LaidMore
import Derived.MakeChecks
import Derived.SevenTiedAt
set_option linter.unusedVariables false
set_option linter.unusedSimpArgs false
set_option linter.unusedVariables false
set_option linter.unusedSimpArgs false
namespace Go.Proofs.YtamndkfgcgoacaaDoor
open Go.ChangeShapes Go.WideShapes Go.ChangeAt Go.RowKit

open Sx (tabs)

theorem Tryd.laidOut : laidOutB Tryd.prog = true := by kernel_rfl
theorem Tryd.own : ownKnob Tryd.prog.godebug = none := by kernel_rfl

theorem okw_list {P : Program} {W : World} {r : Reach} {b0 : Nat} {ts : Array TypeId} {vs : Array Value} (h : ∀ (j : Nat) t v, ts[j]? = some t → vs[j]? = some v → Value.okWide P W r b0 t v) :
    ∀ (j : Nat) t v, ts.toList[j]? = some t → vs.toList[j]? = some v → Value.okWide P W r b0 t v := fun j t v a b => h j t v (by simpa using a) (by simpa using b)
theorem args_ok : Sx.V.okL (Sx.stTab Sx.tabs []).hp (Sx.psV Sx.lawPs 0) := by simp [Sx.psV, Sx.lawPs, Sx.V.okL, Sx.V.ok, Sx.cellV, Sx.cellsV]
set_option maxRecDepth 100000 in
theorem law_any {H : Type} {enc : TypeId × Value → H} {W : World} {base b0 : Nat} {r : Reach} {sp : Nat → Bool} {held : Bool} {args : Array Value} {ds : List (DataW H)} {ps : List MemPlace} (hw : Sx.TabsOk Sx.tabs W)
    (hA : DataW.TrodAll enc Tryd.prog W base sp held Tryd.f3.params.toList args.toList ds ps) (hval : ∀ (j : Nat) t v, Tryd.f3.params[j]? = some t → args[j]? = some v → Value.okWide Tryd.prog W r b0 t v) :
    Calls Tryd.prog 3 args W fun e w' => e = .returned (.bool true) ∧ Below W.heap.size W w' := by
  have hargs := Sx.open_args (Sx.envTab Sx.tabs (Sx.intsOf Sx.lawPs args.toList []) (fun _ => undef)) (l := Sx.lawPs) (i := 0) (g := []) (by kernel_rfl) hA (okw_list hval)
    (by intro j v n u h; exfalso; revert h; simp [Sx.lawPs]; rcases j with _ | _ | _ | _ <;> simp) (Nat.le_of_ble_eq_true (by kernel_rfl)) (fun j _ => by rw [Nat.zero_add]; rfl)
  have fin : ∀ e : Sx.Env, Sx.V.denL e (Sx.psV Sx.lawPs 0) = args.toList → Calls Tryd.prog 3 (Sx.V.denL e (Sx.psV Sx.lawPs 0)).toArray W (fun e w' => e = .returned (.bool true) ∧ Below W.heap.size W w') → Calls Tryd.prog 3 args W fun e w' => e = .returned (.bool true) ∧ Below W.heap.size W w' := fun e h1 h2 => by
    rw [h1] at h2; simpa using h2
  refine fin _ hargs ?_
  exact (fun hpc => Sx.law_of_places (w0 := W) (Sx.ev_ok Sx.base_ok (by kernel_rfl) _) (by kernel_rfl) Tryd.func3 (show Tryd.f3.body = some Sx.lawBody from rfl) Sx.tabGlob_lt Sx.exc0_no Sx.places0_yes Sx.places0_paths Sx.start0_yes args_ok (Sx.gokTab (by decide) _ _) (Sx.repTab (by decide) (by kernel_rfl) _ _ hw) hpc) (fun c t h => by cases h)

/-- What start-up laid is what the reader was told. -/
theorem tabs_ok {w : World} (h : laidMetH Tryd.prog Rows.pmpRangesRow.laid w) : Sx.TabsOk tabs w := by
  rw [MakeChecks.laidMetH_plain _ _ _ (by kernel_rfl)] at h
  intro t ht
  simp only [tabs, List.mem_cons, List.not_mem_nil, or_false] at ht
  rcases ht with rfl
  · exact Sx.tab_of_laid h (name := "math/bits.deBruijn64tab") (by simp [Rows.pmpRangesRow, Rows.laid_math_bits_deBruijn64tab]) (by kernel_rfl) rfl rfl rfl (by kernel_rfl) (by kernel_rfl)


/-- The heap that start-up leaves meets the condition. -/
theorem door_met (H : Type) (os : Os) (args : Array Value) : laidMetH Tryd.prog Rows.pmpRangesRow.laid ((World.doorLaid Tryd.prog 400 os).forCall (fun _ _ => 0) ⟨#[], args, []⟩).memory :=
  laidMetH_of_parts3 (fuel := 8) (laidMet_of_run' 8 (by kernel_rfl) (by kernel_rfl)) (by kernel_rfl) (by kernel_rfl)

set_option maxRecDepth 100000 in
theorem law_lifted (os : Os) (started : os.Started) (H : Type) (enc : TypeId × Value → H) :
    ReturnsInHanded {} Tryd.checked os 3 .any (fun w args => (Rows.pmpRangesSpec.pre enc Tryd.prog Tryd.f3 [] false w args ∧ laidMetH Tryd.prog Rows.pmpRangesRow.laid w) ∧ sizedMet enc Tryd.prog Tryd.f3 (OpenSpec.ofChange Rows.pmpRangesSpec) false w args)
      (Rows.pmpRangesSpec.post enc Tryd.prog Tryd.f3 false true false false) := by
  refine returnsInHanded_of_change_and (C := Tryd.checked) (X := fun w _ => laidMetH Tryd.prog Rows.pmpRangesRow.laid w) (fun _ _ _ hh h => h.of_heap hh) Tryd.own started (by kernel_rfl) Tryd.func3
    (ChangeSpec.witness_shaped (enc := enc) (C := Tryd.checked) (os := os) (X := fun w _ => laidMetH Tryd.prog Rows.pmpRangesRow.laid w) false (World.doorLaid Tryd.prog 400 os) #[.int .u64 0, .agg #[.int .u64 0, .int .u64 0, .int .u64 0, .int .u64 0, .int .u64 0, .int .u64 0, .int .u64 0, .int .u64 0], .int .i64 0] 8 rfl (World.shaped_of_RefB (by kernel_rfl) (by kernel_rfl)) (by kernel_rfl) (by kernel_rfl) (by kernel_rfl) (door_met H os _)) ?_
  intro W base args ds gs before hval0 hW _ _ hL _
  have hW' := hW
  obtain ⟨p, q, hA0, hV, rfl, hfz, hnd⟩ := hW
  have hA : DataW.TrodAll enc Tryd.prog W 0 (fun _ => true) true Tryd.f3.params.toList args.toList ds p := hA0
  have hval : ∀ (j : Nat) t v, Tryd.f3.params[j]? = some t → args[j]? = some v → Value.okWide Tryd.prog W .any base t v := hval0
  obtain ⟨rfl, rfl⟩ := trodVars_none hV
  have hA2 := hA
  rw [Tryd.params3] at hA2
  obtain ⟨_, _, d0, ds0, p0, q0, _, rfl, rfl, _, r0⟩ := trodAll_cons hA2
  obtain ⟨_, _, d1, ds1, p1, q1, _, rfl, rfl, _, r1⟩ := trodAll_cons r0
  obtain ⟨_, _, d2, ds2, p2, q2, _, rfl, rfl, _, r2⟩ := trodAll_cons r1
  obtain ⟨_, rfl, rfl⟩ := trodAll_nil r2
  refine (law_any (tabs_ok hL) hA hval).mono fun e W' ⟨he, bel⟩ => ?_
  subst he
  exact ⟨_, rfl, _, _, _, [], _, [], hW', trodAll_mk1 (shut_bool Tryd.underlying4 _), Sx.trodAll_below Tryd.laidOut bel (by kernel_rfl) hA, rfl, bel.frame _, fun h => by cases h⟩

theorem law_over : Rows.pmpRangesRow.holds Tryd.pinned (OpenSpec.ofChange Rows.pmpRangesSpec) :=
  OpenClaim.holds_of_wide 3 Tryd.f3 rfl rfl rfl rfl rfl rfl rfl ⟨rfl, rfl, rfl, rfl, rfl⟩ rfl rfl rfl rfl rfl (by kernel_rfl) Tryd.func3 (by kernel_rfl)
    (of_decide_eq_true (by kernel_rfl)) (by unfold Func.isWrapper; first | (rw [if_pos (by decide +kernel)]; kernel_rfl) | (rw [if_neg (by decide +kernel)]; exact ⟨rfl, rfl⟩))
    (fun os started H enc _ => law_lifted os started H enc)

theorem pmpRanges_holds : Rows.PmpRangesCardSaid :=
  Claim7.holds_tied_plain_at .later [] [.data] true (true, "66879bd350912e3aead5c2a8b5a805ef1a31c7e861a524a200bf0033055087c5") false
    law_over (fun _ h => by cases h) (by kernel_rfl) (fun _ h => by cases h) pmpRanges_row_tie rfl ⟨rfl, rfl⟩ (by kernel_rfl) rfl
    (fun f fn hf hfn => by
      obtain rfl : f = 3 := Option.some.inj ((show Tryd.prog.funcNamed "almonry/almonrylaw09.PmpRanges" = some 3 by kernel_rfl).symm.trans hf) |>.symm
      obtain rfl : fn = Tryd.f3 := (Option.some.inj (Tryd.func3.symm.trans hfn)).symm
      exact ⟨by kernel_rfl, fun j t ht => by
        rw [Tryd.params3] at ht
        rcases j with _ | _ | _ | _ <;> simp at ht <;> (subst ht; kernel_rfl)⟩)
    (by kernel_rfl)
end Go.Proofs.YtamndkfgcgoacaaDoor
