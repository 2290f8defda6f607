/- PmpSizes: of all arguments, the law answers true: read by the reader, in every order that Go leaves open. -/
import Derived.Test.YtamndkfgcgoacaaDoorUPmpSizesP0
import Derived.Test.YtamndkfgcgoacaaDoorUPmpSizesP1
import Derived.Test.YtamndkfgcgoacaaDoorUPmpSizesP2
import Derived.Test.YtamndkfgcgoacaaDoorUPmpSizesP3
import Derived.Test.YtamndkfgcgoacaaDoorUPmpSizesP4
import Derived.Test.YtamndkfgcgoacaaDoorUPmpSizesP5
import Derived.Test.YtamndkfgcgoacaaDoorUPmpSizesP6
import Derived.Test.YtamndkfgcgoacaaDoorUPmpSizesP7
import Derived.Test.YtamndkfgcgoacaaDoorUPmpSizesP8
import Derived.Test.YtamndkfgcgoacaaDoorUPmpSizesP9
import Derived.Test.YtamndkfgcgoacaaDoorUPmpSizesP10
import Derived.Test.YtamndkfgcgoacaaDoorCards
import Derived.Test.YtamndkfgcgoacaaDoorTie
import Derived.LaidMore
import Derived.MakeChecks
import Derived.SevenTiedAt
set_option linter.unusedVariables false
set_option linter.unusedSimpArgs false
set_option linter.unusedVariables false
set_option linter.unusedSimpArgs false
namespace Go.Proofs.YtamndkfgcgoacaaDoor
open Go.ChangeShapes Go.WideShapes Go.ChangeAt Go.RowKit

open Sx (tabs)

theorem Tryd.laidOut : laidOutB Tryd.prog = true := by kernel_rfl
theorem Tryd.own : ownKnob Tryd.prog.godebug = none := by kernel_rfl

theorem okw_list {P : Program} {W : World} {r : Reach} {b0 : Nat} {ts : Array TypeId} {vs : Array Value} (h : ∀ (j : Nat) t v, ts[j]? = some t → vs[j]? = some v → Value.okWide P W r b0 t v) :
    ∀ (j : Nat) t v, ts.toList[j]? = some t → vs.toList[j]? = some v → Value.okWide P W r b0 t v := fun j t v a b => h j t v (by simpa using a) (by simpa using b)
theorem args_ok : Sx.V.okL (Sx.stTab Sx.tabs []).hp (Sx.psV Sx.lawPs 0) := by simp [Sx.psV, Sx.lawPs, Sx.V.okL, Sx.V.ok, Sx.cellV, Sx.cellsV]
set_option maxRecDepth 100000 in
theorem law_any {H : Type} {enc : TypeId × Value → H} {W : World} {base b0 : Nat} {r : Reach} {sp : Nat → Bool} {held : Bool} {args : Array Value} {ds : List (DataW H)} {ps : List MemPlace} (hw : Sx.TabsOk Sx.tabs W)
    (hA : DataW.TrodAll enc Tryd.prog W base sp held Tryd.f6.params.toList args.toList ds ps) (hval : ∀ (j : Nat) t v, Tryd.f6.params[j]? = some t → args[j]? = some v → Value.okWide Tryd.prog W r b0 t v) :
    Calls Tryd.prog 6 args W fun e w' => e = .returned (.bool true) ∧ Below W.heap.size W w' := by
  have hargs := Sx.open_args (Sx.envTab Sx.tabs (Sx.intsOf Sx.lawPs args.toList []) (fun _ => undef)) (l := Sx.lawPs) (i := 0) (g := []) (by kernel_rfl) hA (okw_list hval)
    (by intro j v n u h; exfalso; revert h; simp [Sx.lawPs]; rcases j with _ | _ | _ | _ <;> simp) (Nat.le_of_ble_eq_true (by kernel_rfl)) (fun j _ => by rw [Nat.zero_add]; rfl)
  have fin : ∀ e : Sx.Env, Sx.V.denL e (Sx.psV Sx.lawPs 0) = args.toList → Calls Tryd.prog 6 (Sx.V.denL e (Sx.psV Sx.lawPs 0)).toArray W (fun e w' => e = .returned (.bool true) ∧ Below W.heap.size W w') → Calls Tryd.prog 6 args W fun e w' => e = .returned (.bool true) ∧ Below W.heap.size W w' := fun e h1 h2 => by
    rw [h1] at h2; simpa using h2
  refine fin _ hargs ?_
  have leaf : ∀ pc : Sx.Pc, Sx.lawStart pc = true → Sx.Holds (Sx.envTab Sx.tabs (Sx.intsOf Sx.lawPs args.toList []) (fun _ => undef)).int pc → Calls Tryd.prog 6 (Sx.V.denL (Sx.envTab Sx.tabs (Sx.intsOf Sx.lawPs args.toList []) (fun _ => undef)) (Sx.psV Sx.lawPs 0)).toArray W (fun e w' => e = .returned (.bool true) ∧ Below W.heap.size W w') := fun pc hs hpc =>
    Sx.law_of_places (w0 := W) (Sx.ev_ok Sx.base_ok (by kernel_rfl) _) (by kernel_rfl) Tryd.func6 (show Tryd.f6.body = some Sx.lawBody from rfl) Sx.tabGlob_lt Sx.excE_no Sx.placesE_yes Sx.placesE_paths hs args_ok (Sx.gokTab (by decide) _ _) (Sx.repTab (by decide) (by kernel_rfl) _ _ hw) hpc
  exact (Sx.by_case Sx.q1
    (Sx.by_case Sx.q0
    (Sx.by_case Sx.q2
    (Sx.by_case Sx.q3
    (Sx.by_case Sx.q4
    (Sx.by_case Sx.q5
    (Sx.by_case Sx.q6
    (Sx.by_case Sx.q7
    (Sx.by_case Sx.q8
    (Sx.by_case Sx.q9
    (Sx.by_case Sx.q10
    (Sx.by_case Sx.q11
    (Sx.by_case Sx.q12
    (Sx.by_case Sx.q13
    (leaf Sx.lawPc13 Sx.start13_yes)
    (leaf Sx.lawPc12 Sx.start12_yes))
    (leaf Sx.lawPc11 Sx.start11_yes))
    (leaf Sx.lawPc10 Sx.start10_yes))
    (leaf Sx.lawPc9 Sx.start9_yes))
    (leaf Sx.lawPc8 Sx.start8_yes))
    (leaf Sx.lawPc7 Sx.start7_yes))
    (leaf Sx.lawPc6 Sx.start6_yes))
    (leaf Sx.lawPc5 Sx.start5_yes))
    (leaf Sx.lawPc4 Sx.start4_yes))
    (leaf Sx.lawPc3 Sx.start3_yes))
    (leaf Sx.lawPc2 Sx.start2_yes))
    (leaf Sx.lawPc1 Sx.start1_yes))
    (leaf Sx.lawPc0 Sx.start0_yes))
    (Sx.by_case Sx.q15
    (Sx.by_case Sx.q14
    (Sx.by_case Sx.q16
    (Sx.by_case Sx.q17
    (Sx.by_case Sx.q18
    (Sx.by_case Sx.q19
    (Sx.by_case Sx.q20
    (Sx.by_case Sx.q21
    (Sx.by_case Sx.q22
    (Sx.by_case Sx.q23
    (Sx.by_case Sx.q24
    (Sx.by_case Sx.q25
    (Sx.by_case Sx.q26
    (Sx.by_case Sx.q27
    (leaf Sx.lawPc27 Sx.start27_yes)
    (leaf Sx.lawPc26 Sx.start26_yes))
    (leaf Sx.lawPc25 Sx.start25_yes))
    (leaf Sx.lawPc24 Sx.start24_yes))
    (leaf Sx.lawPc23 Sx.start23_yes))
    (leaf Sx.lawPc22 Sx.start22_yes))
    (leaf Sx.lawPc21 Sx.start21_yes))
    (leaf Sx.lawPc20 Sx.start20_yes))
    (leaf Sx.lawPc19 Sx.start19_yes))
    (leaf Sx.lawPc18 Sx.start18_yes))
    (leaf Sx.lawPc17 Sx.start17_yes))
    (leaf Sx.lawPc16 Sx.start16_yes))
    (leaf Sx.lawPc15 Sx.start15_yes))
    (leaf Sx.lawPc14 Sx.start14_yes))
    (Sx.by_case Sx.q29
    (Sx.by_case Sx.q28
    (Sx.by_case Sx.q30
    (Sx.by_case Sx.q31
    (Sx.by_case Sx.q32
    (Sx.by_case Sx.q33
    (Sx.by_case Sx.q34
    (Sx.by_case Sx.q35
    (Sx.by_case Sx.q36
    (Sx.by_case Sx.q37
    (Sx.by_case Sx.q38
    (Sx.by_case Sx.q39
    (Sx.by_case Sx.q40
    (Sx.by_case Sx.q41
    (leaf Sx.lawPc41 Sx.start41_yes)
    (leaf Sx.lawPc40 Sx.start40_yes))
    (leaf Sx.lawPc39 Sx.start39_yes))
    (leaf Sx.lawPc38 Sx.start38_yes))
    (leaf Sx.lawPc37 Sx.start37_yes))
    (leaf Sx.lawPc36 Sx.start36_yes))
    (leaf Sx.lawPc35 Sx.start35_yes))
    (leaf Sx.lawPc34 Sx.start34_yes))
    (leaf Sx.lawPc33 Sx.start33_yes))
    (leaf Sx.lawPc32 Sx.start32_yes))
    (leaf Sx.lawPc31 Sx.start31_yes))
    (leaf Sx.lawPc30 Sx.start30_yes))
    (leaf Sx.lawPc29 Sx.start29_yes))
    (leaf Sx.lawPc28 Sx.start28_yes))
    (Sx.by_case Sx.q43
    (Sx.by_case Sx.q42
    (Sx.by_case Sx.q44
    (Sx.by_case Sx.q45
    (Sx.by_case Sx.q46
    (Sx.by_case Sx.q47
    (Sx.by_case Sx.q48
    (Sx.by_case Sx.q49
    (Sx.by_case Sx.q50
    (Sx.by_case Sx.q51
    (Sx.by_case Sx.q52
    (Sx.by_case Sx.q53
    (Sx.by_case Sx.q54
    (Sx.by_case Sx.q55
    (leaf Sx.lawPc55 Sx.start55_yes)
    (leaf Sx.lawPc54 Sx.start54_yes))
    (leaf Sx.lawPc53 Sx.start53_yes))
    (leaf Sx.lawPc52 Sx.start52_yes))
    (leaf Sx.lawPc51 Sx.start51_yes))
    (leaf Sx.lawPc50 Sx.start50_yes))
    (leaf Sx.lawPc49 Sx.start49_yes))
    (leaf Sx.lawPc48 Sx.start48_yes))
    (leaf Sx.lawPc47 Sx.start47_yes))
    (leaf Sx.lawPc46 Sx.start46_yes))
    (leaf Sx.lawPc45 Sx.start45_yes))
    (leaf Sx.lawPc44 Sx.start44_yes))
    (leaf Sx.lawPc43 Sx.start43_yes))
    (leaf Sx.lawPc42 Sx.start42_yes))
    (Sx.by_case Sx.q57
    (Sx.by_case Sx.q56
    (Sx.by_case Sx.q58
    (Sx.by_case Sx.q59
    (Sx.by_case Sx.q60
    (Sx.by_case Sx.q61
    (Sx.by_case Sx.q62
    (Sx.by_case Sx.q63
    (Sx.by_case Sx.q64
    (Sx.by_case Sx.q65
    (Sx.by_case Sx.q66
    (Sx.by_case Sx.q67
    (Sx.by_case Sx.q68
    (Sx.by_case Sx.q69
    (leaf Sx.lawPc69 Sx.start69_yes)
    (leaf Sx.lawPc68 Sx.start68_yes))
    (leaf Sx.lawPc67 Sx.start67_yes))
    (leaf Sx.lawPc66 Sx.start66_yes))
    (leaf Sx.lawPc65 Sx.start65_yes))
    (leaf Sx.lawPc64 Sx.start64_yes))
    (leaf Sx.lawPc63 Sx.start63_yes))
    (leaf Sx.lawPc62 Sx.start62_yes))
    (leaf Sx.lawPc61 Sx.start61_yes))
    (leaf Sx.lawPc60 Sx.start60_yes))
    (leaf Sx.lawPc59 Sx.start59_yes))
    (leaf Sx.lawPc58 Sx.start58_yes))
    (leaf Sx.lawPc57 Sx.start57_yes))
    (leaf Sx.lawPc56 Sx.start56_yes))
    (Sx.by_case Sx.q71
    (Sx.by_case Sx.q70
    (Sx.by_case Sx.q72
    (Sx.by_case Sx.q73
    (Sx.by_case Sx.q74
    (Sx.by_case Sx.q75
    (Sx.by_case Sx.q76
    (Sx.by_case Sx.q77
    (Sx.by_case Sx.q78
    (Sx.by_case Sx.q79
    (Sx.by_case Sx.q80
    (Sx.by_case Sx.q81
    (Sx.by_case Sx.q82
    (Sx.by_case Sx.q83
    (leaf Sx.lawPc83 Sx.start83_yes)
    (leaf Sx.lawPc82 Sx.start82_yes))
    (leaf Sx.lawPc81 Sx.start81_yes))
    (leaf Sx.lawPc80 Sx.start80_yes))
    (leaf Sx.lawPc79 Sx.start79_yes))
    (leaf Sx.lawPc78 Sx.start78_yes))
    (leaf Sx.lawPc77 Sx.start77_yes))
    (leaf Sx.lawPc76 Sx.start76_yes))
    (leaf Sx.lawPc75 Sx.start75_yes))
    (leaf Sx.lawPc74 Sx.start74_yes))
    (leaf Sx.lawPc73 Sx.start73_yes))
    (leaf Sx.lawPc72 Sx.start72_yes))
    (leaf Sx.lawPc71 Sx.start71_yes))
    (leaf Sx.lawPc70 Sx.start70_yes))
    (Sx.by_case Sx.q85
    (Sx.by_case Sx.q84
    (Sx.by_case Sx.q86
    (Sx.by_case Sx.q87
    (Sx.by_case Sx.q88
    (Sx.by_case Sx.q89
    (Sx.by_case Sx.q90
    (Sx.by_case Sx.q91
    (Sx.by_case Sx.q92
    (Sx.by_case Sx.q93
    (Sx.by_case Sx.q94
    (Sx.by_case Sx.q95
    (Sx.by_case Sx.q96
    (Sx.by_case Sx.q97
    (leaf Sx.lawPc97 Sx.start97_yes)
    (leaf Sx.lawPc96 Sx.start96_yes))
    (leaf Sx.lawPc95 Sx.start95_yes))
    (leaf Sx.lawPc94 Sx.start94_yes))
    (leaf Sx.lawPc93 Sx.start93_yes))
    (leaf Sx.lawPc92 Sx.start92_yes))
    (leaf Sx.lawPc91 Sx.start91_yes))
    (leaf Sx.lawPc90 Sx.start90_yes))
    (leaf Sx.lawPc89 Sx.start89_yes))
    (leaf Sx.lawPc88 Sx.start88_yes))
    (leaf Sx.lawPc87 Sx.start87_yes))
    (leaf Sx.lawPc86 Sx.start86_yes))
    (leaf Sx.lawPc85 Sx.start85_yes))
    (leaf Sx.lawPc84 Sx.start84_yes))
    (Sx.by_case Sx.q99
    (Sx.by_case Sx.q98
    (Sx.by_case Sx.q100
    (Sx.by_case Sx.q101
    (Sx.by_case Sx.q102
    (Sx.by_case Sx.q103
    (Sx.by_case Sx.q104
    (Sx.by_case Sx.q105
    (Sx.by_case Sx.q106
    (Sx.by_case Sx.q107
    (Sx.by_case Sx.q108
    (Sx.by_case Sx.q109
    (Sx.by_case Sx.q110
    (Sx.by_case Sx.q111
    (leaf Sx.lawPc111 Sx.start111_yes)
    (leaf Sx.lawPc110 Sx.start110_yes))
    (leaf Sx.lawPc109 Sx.start109_yes))
    (leaf Sx.lawPc108 Sx.start108_yes))
    (leaf Sx.lawPc107 Sx.start107_yes))
    (leaf Sx.lawPc106 Sx.start106_yes))
    (leaf Sx.lawPc105 Sx.start105_yes))
    (leaf Sx.lawPc104 Sx.start104_yes))
    (leaf Sx.lawPc103 Sx.start103_yes))
    (leaf Sx.lawPc102 Sx.start102_yes))
    (leaf Sx.lawPc101 Sx.start101_yes))
    (leaf Sx.lawPc100 Sx.start100_yes))
    (leaf Sx.lawPc99 Sx.start99_yes))
    (leaf Sx.lawPc98 Sx.start98_yes))
    (fun hpc => (Sx.x112_no _ hpc).elim))))))))) (fun c t h => by cases h)

/-- What start-up laid is what the reader was told. -/
theorem tabs_ok {w : World} (h : laidMetH Tryd.prog Rows.pmpSizesRow.laid w) : Sx.TabsOk tabs w := by
  rw [MakeChecks.laidMetH_plain _ _ _ (by kernel_rfl)] at h
  intro t ht
  simp only [tabs, List.mem_cons, List.not_mem_nil, or_false] at ht
  rcases ht with rfl
  · exact Sx.tab_of_laid h (name := "math/bits.deBruijn64tab") (by simp [Rows.pmpSizesRow, Rows.laid_math_bits_deBruijn64tab]) (by kernel_rfl) rfl rfl rfl (by kernel_rfl) (by kernel_rfl)


/-- The heap that start-up leaves meets the condition. -/
theorem door_met (H : Type) (os : Os) (args : Array Value) : laidMetH Tryd.prog Rows.pmpSizesRow.laid ((World.doorLaid Tryd.prog 400 os).forCall (fun _ _ => 0) ⟨#[], args, []⟩).memory :=
  laidMetH_of_parts3 (fuel := 8) (laidMet_of_run' 8 (by kernel_rfl) (by kernel_rfl)) (by kernel_rfl) (by kernel_rfl)

set_option maxRecDepth 100000 in
theorem law_lifted (os : Os) (started : os.Started) (H : Type) (enc : TypeId × Value → H) :
    ReturnsInHanded {} Tryd.checked os 6 .any (fun w args => (Rows.pmpSizesSpec.pre enc Tryd.prog Tryd.f6 [] false w args ∧ laidMetH Tryd.prog Rows.pmpSizesRow.laid w) ∧ sizedMet enc Tryd.prog Tryd.f6 (OpenSpec.ofChange Rows.pmpSizesSpec) false w args)
      (Rows.pmpSizesSpec.post enc Tryd.prog Tryd.f6 false true false false) := by
  refine returnsInHanded_of_change_and (C := Tryd.checked) (X := fun w _ => laidMetH Tryd.prog Rows.pmpSizesRow.laid w) (fun _ _ _ hh h => h.of_heap hh) Tryd.own started (by kernel_rfl) Tryd.func6
    (ChangeSpec.witness_shaped (enc := enc) (C := Tryd.checked) (os := os) (X := fun w _ => laidMetH Tryd.prog Rows.pmpSizesRow.laid w) false (World.doorLaid Tryd.prog 400 os) #[.int .u64 0, .agg #[.int .u64 0, .int .u64 0, .int .u64 0, .int .u64 0, .int .u64 0, .int .u64 0, .int .u64 0, .int .u64 0], .int .u8 0] 8 rfl (World.shaped_of_RefB (by kernel_rfl) (by kernel_rfl)) (by kernel_rfl) (by kernel_rfl) (by kernel_rfl) (door_met H os _)) ?_
  intro W base args ds gs before hval0 hW _ _ hL _
  have hW' := hW
  obtain ⟨p, q, hA0, hV, rfl, hfz, hnd⟩ := hW
  have hA : DataW.TrodAll enc Tryd.prog W 0 (fun _ => true) true Tryd.f6.params.toList args.toList ds p := hA0
  have hval : ∀ (j : Nat) t v, Tryd.f6.params[j]? = some t → args[j]? = some v → Value.okWide Tryd.prog W .any base t v := hval0
  obtain ⟨rfl, rfl⟩ := trodVars_none hV
  have hA2 := hA
  rw [Tryd.params6] at hA2
  obtain ⟨_, _, d0, ds0, p0, q0, _, rfl, rfl, _, r0⟩ := trodAll_cons hA2
  obtain ⟨_, _, d1, ds1, p1, q1, _, rfl, rfl, _, r1⟩ := trodAll_cons r0
  obtain ⟨_, _, d2, ds2, p2, q2, _, rfl, rfl, _, r2⟩ := trodAll_cons r1
  obtain ⟨_, rfl, rfl⟩ := trodAll_nil r2
  refine (law_any (tabs_ok hL) hA hval).mono fun e W' ⟨he, bel⟩ => ?_
  subst he
  exact ⟨_, rfl, _, _, _, [], _, [], hW', trodAll_mk1 (shut_bool Tryd.underlying4 _), Sx.trodAll_below Tryd.laidOut bel (by kernel_rfl) hA, rfl, bel.frame _, fun h => by cases h⟩

theorem law_over : Rows.pmpSizesRow.holds Tryd.pinned (OpenSpec.ofChange Rows.pmpSizesSpec) :=
  OpenClaim.holds_of_wide 6 Tryd.f6 rfl rfl rfl rfl rfl rfl rfl ⟨rfl, rfl, rfl, rfl, rfl⟩ rfl rfl rfl rfl rfl (by kernel_rfl) Tryd.func6 (by kernel_rfl)
    (of_decide_eq_true (by kernel_rfl)) (by unfold Func.isWrapper; first | (rw [if_pos (by decide +kernel)]; kernel_rfl) | (rw [if_neg (by decide +kernel)]; exact ⟨rfl, rfl⟩))
    (fun os started H enc _ => law_lifted os started H enc)

theorem pmpSizes_holds : Rows.PmpSizesCardSaid :=
  Claim7.holds_tied_plain_at .later [] [.data] true (true, "66879bd350912e3aead5c2a8b5a805ef1a31c7e861a524a200bf0033055087c5") false
    law_over (fun _ h => by cases h) (by kernel_rfl) (fun _ h => by cases h) pmpSizes_row_tie rfl ⟨rfl, rfl⟩ (by kernel_rfl) rfl
    (fun f fn hf hfn => by
      obtain rfl : f = 6 := Option.some.inj ((show Tryd.prog.funcNamed "almonry/almonrylaw09.PmpSizes" = some 6 by kernel_rfl).symm.trans hf) |>.symm
      obtain rfl : fn = Tryd.f6 := (Option.some.inj (Tryd.func6.symm.trans hfn)).symm
      exact ⟨by kernel_rfl, fun j t ht => by
        rw [Tryd.params6] at ht
        rcases j with _ | _ | _ | _ <;> simp at ht <;> (subst ht; kernel_rfl)⟩)
    (by kernel_rfl)
end Go.Proofs.YtamndkfgcgoacaaDoor
