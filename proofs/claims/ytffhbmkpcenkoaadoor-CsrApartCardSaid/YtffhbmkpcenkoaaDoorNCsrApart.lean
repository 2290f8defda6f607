/- CsrApart: of all arguments, the law answers true: read by the reader, in every order that Go leaves open. -/
import Derived.Test.YtffhbmkpcenkoaaDoorUCsrApartG0
import Derived.Test.YtffhbmkpcenkoaaDoorUCsrApartG1
import Derived.Test.YtffhbmkpcenkoaaDoorUCsrApartP0
import Derived.Test.YtffhbmkpcenkoaaDoorUCsrApartP1
import Derived.Test.YtffhbmkpcenkoaaDoorUCsrApartP2
import Derived.Test.YtffhbmkpcenkoaaDoorUCsrApartP3
import Derived.Test.YtffhbmkpcenkoaaDoorUCsrApartP4
import Derived.Test.YtffhbmkpcenkoaaDoorUCsrApartP5
import Derived.Test.YtffhbmkpcenkoaaDoorUCsrApartP6
import Derived.Test.YtffhbmkpcenkoaaDoorUCsrApartP7
import Derived.Test.YtffhbmkpcenkoaaDoorUCsrApartP8
import Derived.Test.YtffhbmkpcenkoaaDoorUCsrApartP9
import Derived.Test.YtffhbmkpcenkoaaDoorUCsrApartP10
import Derived.Test.YtffhbmkpcenkoaaDoorUCsrApartP11
import Derived.Test.YtffhbmkpcenkoaaDoorCards
import Derived.Test.YtffhbmkpcenkoaaDoorTie
import Derived.LaidMore
import Derived.MakeChecks
import Derived.SevenTiedAt
set_option linter.unusedVariables false
set_option linter.unusedSimpArgs false
set_option linter.unusedVariables false
set_option linter.unusedSimpArgs false
namespace Go.Proofs.YtffhbmkpcenkoaaDoor
open Go.ChangeShapes Go.WideShapes Go.ChangeAt Go.RowKit

open Sx (tabs)

theorem Tryd.laidOut : laidOutB Tryd.prog = true := by kernel_rfl
theorem Tryd.own : ownKnob Tryd.prog.godebug = none := by kernel_rfl

theorem okw_list {P : Program} {W : World} {r : Reach} {b0 : Nat} {ts : Array TypeId} {vs : Array Value} (h : ∀ (j : Nat) t v, ts[j]? = some t → vs[j]? = some v → Value.okWide P W r b0 t v) :
    ∀ (j : Nat) t v, ts.toList[j]? = some t → vs.toList[j]? = some v → Value.okWide P W r b0 t v := fun j t v a b => h j t v (by simpa using a) (by simpa using b)
theorem args_ok : Sx.V.okL (Sx.stTab Sx.tabs []).hp (Sx.psV Sx.lawPs 0) := by simp [Sx.psV, Sx.lawPs, Sx.V.okL, Sx.V.ok, Sx.cellV, Sx.cellsV]
set_option maxRecDepth 100000 in
theorem law_any {H : Type} {enc : TypeId × Value → H} {W : World} {base b0 : Nat} {r : Reach} {sp : Nat → Bool} {held : Bool} {args : Array Value} {ds : List (DataW H)} {ps : List MemPlace} (hw : Sx.TabsOk Sx.tabs W)
    (hA : DataW.TrodAll enc Tryd.prog W base sp held Tryd.f5.params.toList args.toList ds ps) (hval : ∀ (j : Nat) t v, Tryd.f5.params[j]? = some t → args[j]? = some v → Value.okWide Tryd.prog W r b0 t v) :
    Calls Tryd.prog 5 args W fun e w' => e = .returned (.bool true) ∧ Below W.heap.size W w' := by
  have hargs := Sx.open_args (Sx.envTab Sx.tabs (Sx.intsOf Sx.lawPs args.toList []) (fun _ => undef)) (l := Sx.lawPs) (i := 0) (g := []) (by kernel_rfl) hA (okw_list hval)
    (by intro j v n u h; exfalso; revert h; simp [Sx.lawPs]; rcases j with _ | _ | _ | _ <;> simp) (Nat.le_of_ble_eq_true (by kernel_rfl)) (fun j _ => by rw [Nat.zero_add]; rfl)
  have fin : ∀ e : Sx.Env, Sx.V.denL e (Sx.psV Sx.lawPs 0) = args.toList → Calls Tryd.prog 5 (Sx.V.denL e (Sx.psV Sx.lawPs 0)).toArray W (fun e w' => e = .returned (.bool true) ∧ Below W.heap.size W w') → Calls Tryd.prog 5 args W fun e w' => e = .returned (.bool true) ∧ Below W.heap.size W w' := fun e h1 h2 => by
    rw [h1] at h2; simpa using h2
  refine fin _ hargs ?_
  have leaf0 : ∀ pc : Sx.Pc, Sx.lawStart0 pc = true → Sx.Holds (Sx.envTab Sx.tabs (Sx.intsOf Sx.lawPs args.toList []) (fun _ => undef)).int pc → Calls Tryd.prog 5 (Sx.V.denL (Sx.envTab Sx.tabs (Sx.intsOf Sx.lawPs args.toList []) (fun _ => undef)) (Sx.psV Sx.lawPs 0)).toArray W (fun e w' => e = .returned (.bool true) ∧ Below W.heap.size W w') := fun pc hs hpc =>
    Sx.law_of_places (w0 := W) (Sx.ev_ok Sx.base_ok (by kernel_rfl) _) (by kernel_rfl) Tryd.func5 (show Tryd.f5.body = some Sx.lawBody from rfl) Sx.tabGlob_lt Sx.excE_no Sx.placesG0_yes Sx.placesG0_paths hs args_ok (Sx.gokTab (by decide) _ _) (Sx.repTab (by decide) (by kernel_rfl) _ _ hw) hpc
  have leaf1 : ∀ pc : Sx.Pc, Sx.lawStart1 pc = true → Sx.Holds (Sx.envTab Sx.tabs (Sx.intsOf Sx.lawPs args.toList []) (fun _ => undef)).int pc → Calls Tryd.prog 5 (Sx.V.denL (Sx.envTab Sx.tabs (Sx.intsOf Sx.lawPs args.toList []) (fun _ => undef)) (Sx.psV Sx.lawPs 0)).toArray W (fun e w' => e = .returned (.bool true) ∧ Below W.heap.size W w') := fun pc hs hpc =>
    Sx.law_of_places (w0 := W) (Sx.ev_ok Sx.base_ok (by kernel_rfl) _) (by kernel_rfl) Tryd.func5 (show Tryd.f5.body = some Sx.lawBody from rfl) Sx.tabGlob_lt Sx.excE_no Sx.placesG1_yes Sx.placesG1_paths hs args_ok (Sx.gokTab (by decide) _ _) (Sx.repTab (by decide) (by kernel_rfl) _ _ hw) hpc
  have leaf2 : ∀ pc : Sx.Pc, Sx.lawStart2 pc = true → Sx.Holds (Sx.envTab Sx.tabs (Sx.intsOf Sx.lawPs args.toList []) (fun _ => undef)).int pc → Calls Tryd.prog 5 (Sx.V.denL (Sx.envTab Sx.tabs (Sx.intsOf Sx.lawPs args.toList []) (fun _ => undef)) (Sx.psV Sx.lawPs 0)).toArray W (fun e w' => e = .returned (.bool true) ∧ Below W.heap.size W w') := fun pc hs hpc =>
    Sx.law_of_places (w0 := W) (Sx.ev_ok Sx.base_ok (by kernel_rfl) _) (by kernel_rfl) Tryd.func5 (show Tryd.f5.body = some Sx.lawBody from rfl) Sx.tabGlob_lt Sx.excE_no Sx.placesG2_yes Sx.placesG2_paths hs args_ok (Sx.gokTab (by decide) _ _) (Sx.repTab (by decide) (by kernel_rfl) _ _ hw) hpc
  have leaf3 : ∀ pc : Sx.Pc, Sx.lawStart3 pc = true → Sx.Holds (Sx.envTab Sx.tabs (Sx.intsOf Sx.lawPs args.toList []) (fun _ => undef)).int pc → Calls Tryd.prog 5 (Sx.V.denL (Sx.envTab Sx.tabs (Sx.intsOf Sx.lawPs args.toList []) (fun _ => undef)) (Sx.psV Sx.lawPs 0)).toArray W (fun e w' => e = .returned (.bool true) ∧ Below W.heap.size W w') := fun pc hs hpc =>
    Sx.law_of_places (w0 := W) (Sx.ev_ok Sx.base_ok (by kernel_rfl) _) (by kernel_rfl) Tryd.func5 (show Tryd.f5.body = some Sx.lawBody from rfl) Sx.tabGlob_lt Sx.excE_no Sx.placesG3_yes Sx.placesG3_paths hs args_ok (Sx.gokTab (by decide) _ _) (Sx.repTab (by decide) (by kernel_rfl) _ _ hw) hpc
  have leaf4 : ∀ pc : Sx.Pc, Sx.lawStart4 pc = true → Sx.Holds (Sx.envTab Sx.tabs (Sx.intsOf Sx.lawPs args.toList []) (fun _ => undef)).int pc → Calls Tryd.prog 5 (Sx.V.denL (Sx.envTab Sx.tabs (Sx.intsOf Sx.lawPs args.toList []) (fun _ => undef)) (Sx.psV Sx.lawPs 0)).toArray W (fun e w' => e = .returned (.bool true) ∧ Below W.heap.size W w') := fun pc hs hpc =>
    Sx.law_of_places (w0 := W) (Sx.ev_ok Sx.base_ok (by kernel_rfl) _) (by kernel_rfl) Tryd.func5 (show Tryd.f5.body = some Sx.lawBody from rfl) Sx.tabGlob_lt Sx.excE_no Sx.placesG4_yes Sx.placesG4_paths hs args_ok (Sx.gokTab (by decide) _ _) (Sx.repTab (by decide) (by kernel_rfl) _ _ hw) hpc
  have leaf5 : ∀ pc : Sx.Pc, Sx.lawStart5 pc = true → Sx.Holds (Sx.envTab Sx.tabs (Sx.intsOf Sx.lawPs args.toList []) (fun _ => undef)).int pc → Calls Tryd.prog 5 (Sx.V.denL (Sx.envTab Sx.tabs (Sx.intsOf Sx.lawPs args.toList []) (fun _ => undef)) (Sx.psV Sx.lawPs 0)).toArray W (fun e w' => e = .returned (.bool true) ∧ Below W.heap.size W w') := fun pc hs hpc =>
    Sx.law_of_places (w0 := W) (Sx.ev_ok Sx.base_ok (by kernel_rfl) _) (by kernel_rfl) Tryd.func5 (show Tryd.f5.body = some Sx.lawBody from rfl) Sx.tabGlob_lt Sx.excE_no Sx.placesG5_yes Sx.placesG5_paths hs args_ok (Sx.gokTab (by decide) _ _) (Sx.repTab (by decide) (by kernel_rfl) _ _ hw) hpc
  have leaf6 : ∀ pc : Sx.Pc, Sx.lawStart6 pc = true → Sx.Holds (Sx.envTab Sx.tabs (Sx.intsOf Sx.lawPs args.toList []) (fun _ => undef)).int pc → Calls Tryd.prog 5 (Sx.V.denL (Sx.envTab Sx.tabs (Sx.intsOf Sx.lawPs args.toList []) (fun _ => undef)) (Sx.psV Sx.lawPs 0)).toArray W (fun e w' => e = .returned (.bool true) ∧ Below W.heap.size W w') := fun pc hs hpc =>
    Sx.law_of_places (w0 := W) (Sx.ev_ok Sx.base_ok (by kernel_rfl) _) (by kernel_rfl) Tryd.func5 (show Tryd.f5.body = some Sx.lawBody from rfl) Sx.tabGlob_lt Sx.excE_no Sx.placesG6_yes Sx.placesG6_paths hs args_ok (Sx.gokTab (by decide) _ _) (Sx.repTab (by decide) (by kernel_rfl) _ _ hw) hpc
  have leaf7 : ∀ pc : Sx.Pc, Sx.lawStart7 pc = true → Sx.Holds (Sx.envTab Sx.tabs (Sx.intsOf Sx.lawPs args.toList []) (fun _ => undef)).int pc → Calls Tryd.prog 5 (Sx.V.denL (Sx.envTab Sx.tabs (Sx.intsOf Sx.lawPs args.toList []) (fun _ => undef)) (Sx.psV Sx.lawPs 0)).toArray W (fun e w' => e = .returned (.bool true) ∧ Below W.heap.size W w') := fun pc hs hpc =>
    Sx.law_of_places (w0 := W) (Sx.ev_ok Sx.base_ok (by kernel_rfl) _) (by kernel_rfl) Tryd.func5 (show Tryd.f5.body = some Sx.lawBody from rfl) Sx.tabGlob_lt Sx.excE_no Sx.placesG7_yes Sx.placesG7_paths hs args_ok (Sx.gokTab (by decide) _ _) (Sx.repTab (by decide) (by kernel_rfl) _ _ hw) hpc
  exact (Sx.by_case Sx.q6
    (Sx.by_case Sx.q5
    (Sx.by_case Sx.q4
    (Sx.by_case Sx.q3
    (Sx.by_case Sx.q2
    (Sx.by_case Sx.q1
    (Sx.by_case Sx.q0
    (leaf0 Sx.lawPc0 Sx.start0_yes)
    (leaf1 Sx.lawPc1 Sx.start1_yes))
    (Sx.by_case Sx.q7
    (leaf2 Sx.lawPc2 Sx.start2_yes)
    (leaf3 Sx.lawPc3 Sx.start3_yes)))
    (Sx.by_case Sx.q9
    (Sx.by_case Sx.q8
    (leaf4 Sx.lawPc4 Sx.start4_yes)
    (leaf5 Sx.lawPc5 Sx.start5_yes))
    (Sx.by_case Sx.q10
    (leaf6 Sx.lawPc6 Sx.start6_yes)
    (leaf7 Sx.lawPc7 Sx.start7_yes))))
    (Sx.by_case Sx.q11
    (Sx.by_case Sx.q2
    (Sx.by_case Sx.q1
    (Sx.by_case Sx.q0
    (leaf0 Sx.lawPc8 Sx.start8_yes)
    (leaf1 Sx.lawPc9 Sx.start9_yes))
    (Sx.by_case Sx.q7
    (leaf2 Sx.lawPc10 Sx.start10_yes)
    (leaf3 Sx.lawPc11 Sx.start11_yes)))
    (Sx.by_case Sx.q9
    (Sx.by_case Sx.q8
    (leaf4 Sx.lawPc12 Sx.start12_yes)
    (leaf5 Sx.lawPc13 Sx.start13_yes))
    (Sx.by_case Sx.q10
    (leaf6 Sx.lawPc14 Sx.start14_yes)
    (leaf7 Sx.lawPc15 Sx.start15_yes))))
    (fun hpc => (Sx.x16_no _ hpc).elim)))
    (Sx.by_case Sx.q12
    (Sx.by_case Sx.q2
    (Sx.by_case Sx.q1
    (Sx.by_case Sx.q0
    (leaf0 Sx.lawPc17 Sx.start17_yes)
    (leaf1 Sx.lawPc18 Sx.start18_yes))
    (Sx.by_case Sx.q7
    (leaf2 Sx.lawPc19 Sx.start19_yes)
    (leaf3 Sx.lawPc20 Sx.start20_yes)))
    (Sx.by_case Sx.q9
    (Sx.by_case Sx.q8
    (leaf4 Sx.lawPc21 Sx.start21_yes)
    (leaf5 Sx.lawPc22 Sx.start22_yes))
    (Sx.by_case Sx.q10
    (leaf6 Sx.lawPc23 Sx.start23_yes)
    (leaf7 Sx.lawPc24 Sx.start24_yes))))
    (Sx.by_case Sx.q14
    (Sx.by_case Sx.q13
    (Sx.by_case Sx.q2
    (Sx.by_case Sx.q1
    (Sx.by_case Sx.q0
    (leaf0 Sx.lawPc25 Sx.start25_yes)
    (leaf1 Sx.lawPc26 Sx.start26_yes))
    (Sx.by_case Sx.q7
    (leaf2 Sx.lawPc27 Sx.start27_yes)
    (leaf3 Sx.lawPc28 Sx.start28_yes)))
    (Sx.by_case Sx.q9
    (Sx.by_case Sx.q8
    (leaf4 Sx.lawPc29 Sx.start29_yes)
    (leaf5 Sx.lawPc30 Sx.start30_yes))
    (Sx.by_case Sx.q10
    (leaf6 Sx.lawPc31 Sx.start31_yes)
    (leaf7 Sx.lawPc32 Sx.start32_yes))))
    (Sx.by_case Sx.q15
    (Sx.by_case Sx.q2
    (Sx.by_case Sx.q1
    (Sx.by_case Sx.q0
    (leaf0 Sx.lawPc33 Sx.start33_yes)
    (leaf1 Sx.lawPc34 Sx.start34_yes))
    (Sx.by_case Sx.q7
    (leaf2 Sx.lawPc35 Sx.start35_yes)
    (leaf3 Sx.lawPc36 Sx.start36_yes)))
    (Sx.by_case Sx.q9
    (Sx.by_case Sx.q8
    (leaf4 Sx.lawPc37 Sx.start37_yes)
    (leaf5 Sx.lawPc38 Sx.start38_yes))
    (Sx.by_case Sx.q10
    (leaf6 Sx.lawPc39 Sx.start39_yes)
    (leaf7 Sx.lawPc40 Sx.start40_yes))))
    (Sx.by_case Sx.q16
    (Sx.by_case Sx.q2
    (Sx.by_case Sx.q1
    (Sx.by_case Sx.q0
    (leaf0 Sx.lawPc41 Sx.start41_yes)
    (leaf1 Sx.lawPc42 Sx.start42_yes))
    (Sx.by_case Sx.q7
    (leaf2 Sx.lawPc43 Sx.start43_yes)
    (leaf3 Sx.lawPc44 Sx.start44_yes)))
    (Sx.by_case Sx.q9
    (Sx.by_case Sx.q8
    (leaf4 Sx.lawPc45 Sx.start45_yes)
    (leaf5 Sx.lawPc46 Sx.start46_yes))
    (Sx.by_case Sx.q10
    (leaf6 Sx.lawPc47 Sx.start47_yes)
    (leaf7 Sx.lawPc48 Sx.start48_yes))))
    (fun hpc => (Sx.x49_no _ hpc).elim))))
    (Sx.by_case Sx.q2
    (Sx.by_case Sx.q1
    (Sx.by_case Sx.q0
    (leaf0 Sx.lawPc50 Sx.start50_yes)
    (leaf1 Sx.lawPc51 Sx.start51_yes))
    (Sx.by_case Sx.q7
    (leaf2 Sx.lawPc52 Sx.start52_yes)
    (leaf3 Sx.lawPc53 Sx.start53_yes)))
    (Sx.by_case Sx.q9
    (Sx.by_case Sx.q8
    (leaf4 Sx.lawPc54 Sx.start54_yes)
    (leaf5 Sx.lawPc55 Sx.start55_yes))
    (Sx.by_case Sx.q10
    (leaf6 Sx.lawPc56 Sx.start56_yes)
    (leaf7 Sx.lawPc57 Sx.start57_yes)))))))
    (Sx.by_case Sx.q19
    (Sx.by_case Sx.q18
    (Sx.by_case Sx.q17
    (Sx.by_case Sx.q2
    (Sx.by_case Sx.q1
    (Sx.by_case Sx.q0
    (leaf0 Sx.lawPc58 Sx.start58_yes)
    (leaf1 Sx.lawPc59 Sx.start59_yes))
    (Sx.by_case Sx.q7
    (leaf2 Sx.lawPc60 Sx.start60_yes)
    (leaf3 Sx.lawPc61 Sx.start61_yes)))
    (Sx.by_case Sx.q9
    (Sx.by_case Sx.q8
    (leaf4 Sx.lawPc62 Sx.start62_yes)
    (leaf5 Sx.lawPc63 Sx.start63_yes))
    (Sx.by_case Sx.q10
    (leaf6 Sx.lawPc64 Sx.start64_yes)
    (leaf7 Sx.lawPc65 Sx.start65_yes))))
    (Sx.by_case Sx.q20
    (Sx.by_case Sx.q2
    (Sx.by_case Sx.q1
    (Sx.by_case Sx.q0
    (leaf0 Sx.lawPc66 Sx.start66_yes)
    (leaf1 Sx.lawPc67 Sx.start67_yes))
    (Sx.by_case Sx.q7
    (leaf2 Sx.lawPc68 Sx.start68_yes)
    (leaf3 Sx.lawPc69 Sx.start69_yes)))
    (Sx.by_case Sx.q9
    (Sx.by_case Sx.q8
    (leaf4 Sx.lawPc70 Sx.start70_yes)
    (leaf5 Sx.lawPc71 Sx.start71_yes))
    (Sx.by_case Sx.q10
    (leaf6 Sx.lawPc72 Sx.start72_yes)
    (leaf7 Sx.lawPc73 Sx.start73_yes))))
    (Sx.by_case Sx.q21
    (Sx.by_case Sx.q2
    (Sx.by_case Sx.q1
    (Sx.by_case Sx.q0
    (leaf0 Sx.lawPc74 Sx.start74_yes)
    (leaf1 Sx.lawPc75 Sx.start75_yes))
    (Sx.by_case Sx.q7
    (leaf2 Sx.lawPc76 Sx.start76_yes)
    (leaf3 Sx.lawPc77 Sx.start77_yes)))
    (Sx.by_case Sx.q9
    (Sx.by_case Sx.q8
    (leaf4 Sx.lawPc78 Sx.start78_yes)
    (leaf5 Sx.lawPc79 Sx.start79_yes))
    (Sx.by_case Sx.q10
    (leaf6 Sx.lawPc80 Sx.start80_yes)
    (leaf7 Sx.lawPc81 Sx.start81_yes))))
    (Sx.by_case Sx.q22
    (Sx.by_case Sx.q2
    (Sx.by_case Sx.q1
    (Sx.by_case Sx.q0
    (leaf0 Sx.lawPc82 Sx.start82_yes)
    (leaf1 Sx.lawPc83 Sx.start83_yes))
    (Sx.by_case Sx.q7
    (leaf2 Sx.lawPc84 Sx.start84_yes)
    (leaf3 Sx.lawPc85 Sx.start85_yes)))
    (Sx.by_case Sx.q9
    (Sx.by_case Sx.q8
    (leaf4 Sx.lawPc86 Sx.start86_yes)
    (leaf5 Sx.lawPc87 Sx.start87_yes))
    (Sx.by_case Sx.q10
    (leaf6 Sx.lawPc88 Sx.start88_yes)
    (leaf7 Sx.lawPc89 Sx.start89_yes))))
    (Sx.by_case Sx.q23
    (Sx.by_case Sx.q2
    (Sx.by_case Sx.q1
    (Sx.by_case Sx.q0
    (leaf0 Sx.lawPc90 Sx.start90_yes)
    (leaf1 Sx.lawPc91 Sx.start91_yes))
    (Sx.by_case Sx.q7
    (leaf2 Sx.lawPc92 Sx.start92_yes)
    (leaf3 Sx.lawPc93 Sx.start93_yes)))
    (Sx.by_case Sx.q9
    (Sx.by_case Sx.q8
    (leaf4 Sx.lawPc94 Sx.start94_yes)
    (leaf5 Sx.lawPc95 Sx.start95_yes))
    (Sx.by_case Sx.q10
    (leaf6 Sx.lawPc96 Sx.start96_yes)
    (leaf7 Sx.lawPc97 Sx.start97_yes))))
    (fun hpc => (Sx.x98_no _ hpc).elim))))))
    (Sx.by_case Sx.q24
    (Sx.by_case Sx.q2
    (Sx.by_case Sx.q1
    (Sx.by_case Sx.q0
    (leaf0 Sx.lawPc99 Sx.start99_yes)
    (leaf1 Sx.lawPc100 Sx.start100_yes))
    (Sx.by_case Sx.q7
    (leaf2 Sx.lawPc101 Sx.start101_yes)
    (leaf3 Sx.lawPc102 Sx.start102_yes)))
    (Sx.by_case Sx.q9
    (Sx.by_case Sx.q8
    (leaf4 Sx.lawPc103 Sx.start103_yes)
    (leaf5 Sx.lawPc104 Sx.start104_yes))
    (Sx.by_case Sx.q10
    (leaf6 Sx.lawPc105 Sx.start105_yes)
    (leaf7 Sx.lawPc106 Sx.start106_yes))))
    (Sx.by_case Sx.q25
    (Sx.by_case Sx.q2
    (Sx.by_case Sx.q1
    (Sx.by_case Sx.q0
    (leaf0 Sx.lawPc107 Sx.start107_yes)
    (leaf1 Sx.lawPc108 Sx.start108_yes))
    (Sx.by_case Sx.q7
    (leaf2 Sx.lawPc109 Sx.start109_yes)
    (leaf3 Sx.lawPc110 Sx.start110_yes)))
    (Sx.by_case Sx.q9
    (Sx.by_case Sx.q8
    (leaf4 Sx.lawPc111 Sx.start111_yes)
    (leaf5 Sx.lawPc112 Sx.start112_yes))
    (Sx.by_case Sx.q10
    (leaf6 Sx.lawPc113 Sx.start113_yes)
    (leaf7 Sx.lawPc114 Sx.start114_yes))))
    (fun hpc => (Sx.x115_no _ hpc).elim))))
    (Sx.by_case Sx.q26
    (Sx.by_case Sx.q2
    (Sx.by_case Sx.q1
    (Sx.by_case Sx.q0
    (leaf0 Sx.lawPc116 Sx.start116_yes)
    (leaf1 Sx.lawPc117 Sx.start117_yes))
    (Sx.by_case Sx.q7
    (leaf2 Sx.lawPc118 Sx.start118_yes)
    (leaf3 Sx.lawPc119 Sx.start119_yes)))
    (Sx.by_case Sx.q9
    (Sx.by_case Sx.q8
    (leaf4 Sx.lawPc120 Sx.start120_yes)
    (leaf5 Sx.lawPc121 Sx.start121_yes))
    (Sx.by_case Sx.q10
    (leaf6 Sx.lawPc122 Sx.start122_yes)
    (leaf7 Sx.lawPc123 Sx.start123_yes))))
    (Sx.by_case Sx.q28
    (Sx.by_case Sx.q27
    (Sx.by_case Sx.q2
    (Sx.by_case Sx.q1
    (Sx.by_case Sx.q0
    (leaf0 Sx.lawPc124 Sx.start124_yes)
    (leaf1 Sx.lawPc125 Sx.start125_yes))
    (Sx.by_case Sx.q7
    (leaf2 Sx.lawPc126 Sx.start126_yes)
    (leaf3 Sx.lawPc127 Sx.start127_yes)))
    (Sx.by_case Sx.q9
    (Sx.by_case Sx.q8
    (leaf4 Sx.lawPc128 Sx.start128_yes)
    (leaf5 Sx.lawPc129 Sx.start129_yes))
    (Sx.by_case Sx.q10
    (leaf6 Sx.lawPc130 Sx.start130_yes)
    (leaf7 Sx.lawPc131 Sx.start131_yes))))
    (Sx.by_case Sx.q29
    (Sx.by_case Sx.q2
    (Sx.by_case Sx.q1
    (Sx.by_case Sx.q0
    (leaf0 Sx.lawPc132 Sx.start132_yes)
    (leaf1 Sx.lawPc133 Sx.start133_yes))
    (Sx.by_case Sx.q7
    (leaf2 Sx.lawPc134 Sx.start134_yes)
    (leaf3 Sx.lawPc135 Sx.start135_yes)))
    (Sx.by_case Sx.q9
    (Sx.by_case Sx.q8
    (leaf4 Sx.lawPc136 Sx.start136_yes)
    (leaf5 Sx.lawPc137 Sx.start137_yes))
    (Sx.by_case Sx.q10
    (leaf6 Sx.lawPc138 Sx.start138_yes)
    (leaf7 Sx.lawPc139 Sx.start139_yes))))
    (Sx.by_case Sx.q30
    (Sx.by_case Sx.q2
    (Sx.by_case Sx.q1
    (Sx.by_case Sx.q0
    (leaf0 Sx.lawPc140 Sx.start140_yes)
    (leaf1 Sx.lawPc141 Sx.start141_yes))
    (Sx.by_case Sx.q7
    (leaf2 Sx.lawPc142 Sx.start142_yes)
    (leaf3 Sx.lawPc143 Sx.start143_yes)))
    (Sx.by_case Sx.q9
    (Sx.by_case Sx.q8
    (leaf4 Sx.lawPc144 Sx.start144_yes)
    (leaf5 Sx.lawPc145 Sx.start145_yes))
    (Sx.by_case Sx.q10
    (leaf6 Sx.lawPc146 Sx.start146_yes)
    (leaf7 Sx.lawPc147 Sx.start147_yes))))
    (Sx.by_case Sx.q31
    (Sx.by_case Sx.q2
    (Sx.by_case Sx.q1
    (Sx.by_case Sx.q0
    (leaf0 Sx.lawPc148 Sx.start148_yes)
    (leaf1 Sx.lawPc149 Sx.start149_yes))
    (Sx.by_case Sx.q7
    (leaf2 Sx.lawPc150 Sx.start150_yes)
    (leaf3 Sx.lawPc151 Sx.start151_yes)))
    (Sx.by_case Sx.q9
    (Sx.by_case Sx.q8
    (leaf4 Sx.lawPc152 Sx.start152_yes)
    (leaf5 Sx.lawPc153 Sx.start153_yes))
    (Sx.by_case Sx.q10
    (leaf6 Sx.lawPc154 Sx.start154_yes)
    (leaf7 Sx.lawPc155 Sx.start155_yes))))
    (Sx.by_case Sx.q32
    (Sx.by_case Sx.q2
    (Sx.by_case Sx.q1
    (Sx.by_case Sx.q0
    (leaf0 Sx.lawPc156 Sx.start156_yes)
    (leaf1 Sx.lawPc157 Sx.start157_yes))
    (Sx.by_case Sx.q7
    (leaf2 Sx.lawPc158 Sx.start158_yes)
    (leaf3 Sx.lawPc159 Sx.start159_yes)))
    (Sx.by_case Sx.q9
    (Sx.by_case Sx.q8
    (leaf4 Sx.lawPc160 Sx.start160_yes)
    (leaf5 Sx.lawPc161 Sx.start161_yes))
    (Sx.by_case Sx.q10
    (leaf6 Sx.lawPc162 Sx.start162_yes)
    (leaf7 Sx.lawPc163 Sx.start163_yes))))
    (Sx.by_case Sx.q33
    (Sx.by_case Sx.q2
    (Sx.by_case Sx.q1
    (Sx.by_case Sx.q0
    (leaf0 Sx.lawPc164 Sx.start164_yes)
    (leaf1 Sx.lawPc165 Sx.start165_yes))
    (Sx.by_case Sx.q7
    (leaf2 Sx.lawPc166 Sx.start166_yes)
    (leaf3 Sx.lawPc167 Sx.start167_yes)))
    (Sx.by_case Sx.q9
    (Sx.by_case Sx.q8
    (leaf4 Sx.lawPc168 Sx.start168_yes)
    (leaf5 Sx.lawPc169 Sx.start169_yes))
    (Sx.by_case Sx.q10
    (leaf6 Sx.lawPc170 Sx.start170_yes)
    (leaf7 Sx.lawPc171 Sx.start171_yes))))
    (Sx.by_case Sx.q34
    (Sx.by_case Sx.q2
    (Sx.by_case Sx.q1
    (Sx.by_case Sx.q0
    (leaf0 Sx.lawPc172 Sx.start172_yes)
    (leaf1 Sx.lawPc173 Sx.start173_yes))
    (Sx.by_case Sx.q7
    (leaf2 Sx.lawPc174 Sx.start174_yes)
    (leaf3 Sx.lawPc175 Sx.start175_yes)))
    (Sx.by_case Sx.q9
    (Sx.by_case Sx.q8
    (leaf4 Sx.lawPc176 Sx.start176_yes)
    (leaf5 Sx.lawPc177 Sx.start177_yes))
    (Sx.by_case Sx.q10
    (leaf6 Sx.lawPc178 Sx.start178_yes)
    (leaf7 Sx.lawPc179 Sx.start179_yes))))
    (fun hpc => (Sx.x180_no _ hpc).elim))))))))
    (Sx.by_case Sx.q2
    (Sx.by_case Sx.q1
    (Sx.by_case Sx.q0
    (leaf0 Sx.lawPc181 Sx.start181_yes)
    (leaf1 Sx.lawPc182 Sx.start182_yes))
    (Sx.by_case Sx.q7
    (leaf2 Sx.lawPc183 Sx.start183_yes)
    (leaf3 Sx.lawPc184 Sx.start184_yes)))
    (Sx.by_case Sx.q9
    (Sx.by_case Sx.q8
    (leaf4 Sx.lawPc185 Sx.start185_yes)
    (leaf5 Sx.lawPc186 Sx.start186_yes))
    (Sx.by_case Sx.q10
    (leaf6 Sx.lawPc187 Sx.start187_yes)
    (leaf7 Sx.lawPc188 Sx.start188_yes))))))))
    (Sx.by_case Sx.q38
    (Sx.by_case Sx.q37
    (Sx.by_case Sx.q36
    (Sx.by_case Sx.q35
    (Sx.by_case Sx.q2
    (Sx.by_case Sx.q1
    (Sx.by_case Sx.q0
    (leaf0 Sx.lawPc189 Sx.start189_yes)
    (leaf1 Sx.lawPc190 Sx.start190_yes))
    (Sx.by_case Sx.q7
    (leaf2 Sx.lawPc191 Sx.start191_yes)
    (leaf3 Sx.lawPc192 Sx.start192_yes)))
    (Sx.by_case Sx.q9
    (Sx.by_case Sx.q8
    (leaf4 Sx.lawPc193 Sx.start193_yes)
    (leaf5 Sx.lawPc194 Sx.start194_yes))
    (Sx.by_case Sx.q10
    (leaf6 Sx.lawPc195 Sx.start195_yes)
    (leaf7 Sx.lawPc196 Sx.start196_yes))))
    (Sx.by_case Sx.q39
    (Sx.by_case Sx.q2
    (Sx.by_case Sx.q1
    (Sx.by_case Sx.q0
    (leaf0 Sx.lawPc197 Sx.start197_yes)
    (leaf1 Sx.lawPc198 Sx.start198_yes))
    (Sx.by_case Sx.q7
    (leaf2 Sx.lawPc199 Sx.start199_yes)
    (leaf3 Sx.lawPc200 Sx.start200_yes)))
    (Sx.by_case Sx.q9
    (Sx.by_case Sx.q8
    (leaf4 Sx.lawPc201 Sx.start201_yes)
    (leaf5 Sx.lawPc202 Sx.start202_yes))
    (Sx.by_case Sx.q10
    (leaf6 Sx.lawPc203 Sx.start203_yes)
    (leaf7 Sx.lawPc204 Sx.start204_yes))))
    (Sx.by_case Sx.q40
    (Sx.by_case Sx.q2
    (Sx.by_case Sx.q1
    (Sx.by_case Sx.q0
    (leaf0 Sx.lawPc205 Sx.start205_yes)
    (leaf1 Sx.lawPc206 Sx.start206_yes))
    (Sx.by_case Sx.q7
    (leaf2 Sx.lawPc207 Sx.start207_yes)
    (leaf3 Sx.lawPc208 Sx.start208_yes)))
    (Sx.by_case Sx.q9
    (Sx.by_case Sx.q8
    (leaf4 Sx.lawPc209 Sx.start209_yes)
    (leaf5 Sx.lawPc210 Sx.start210_yes))
    (Sx.by_case Sx.q10
    (leaf6 Sx.lawPc211 Sx.start211_yes)
    (leaf7 Sx.lawPc212 Sx.start212_yes))))
    (Sx.by_case Sx.q41
    (Sx.by_case Sx.q2
    (Sx.by_case Sx.q1
    (Sx.by_case Sx.q0
    (leaf0 Sx.lawPc213 Sx.start213_yes)
    (leaf1 Sx.lawPc214 Sx.start214_yes))
    (Sx.by_case Sx.q7
    (leaf2 Sx.lawPc215 Sx.start215_yes)
    (leaf3 Sx.lawPc216 Sx.start216_yes)))
    (Sx.by_case Sx.q9
    (Sx.by_case Sx.q8
    (leaf4 Sx.lawPc217 Sx.start217_yes)
    (leaf5 Sx.lawPc218 Sx.start218_yes))
    (Sx.by_case Sx.q10
    (leaf6 Sx.lawPc219 Sx.start219_yes)
    (leaf7 Sx.lawPc220 Sx.start220_yes))))
    (Sx.by_case Sx.q42
    (Sx.by_case Sx.q2
    (Sx.by_case Sx.q1
    (Sx.by_case Sx.q0
    (leaf0 Sx.lawPc221 Sx.start221_yes)
    (leaf1 Sx.lawPc222 Sx.start222_yes))
    (Sx.by_case Sx.q7
    (leaf2 Sx.lawPc223 Sx.start223_yes)
    (leaf3 Sx.lawPc224 Sx.start224_yes)))
    (Sx.by_case Sx.q9
    (Sx.by_case Sx.q8
    (leaf4 Sx.lawPc225 Sx.start225_yes)
    (leaf5 Sx.lawPc226 Sx.start226_yes))
    (Sx.by_case Sx.q10
    (leaf6 Sx.lawPc227 Sx.start227_yes)
    (leaf7 Sx.lawPc228 Sx.start228_yes))))
    (fun hpc => (Sx.x229_no _ hpc).elim))))))
    (Sx.by_case Sx.q43
    (Sx.by_case Sx.q2
    (Sx.by_case Sx.q1
    (Sx.by_case Sx.q0
    (leaf0 Sx.lawPc230 Sx.start230_yes)
    (leaf1 Sx.lawPc231 Sx.start231_yes))
    (Sx.by_case Sx.q7
    (leaf2 Sx.lawPc232 Sx.start232_yes)
    (leaf3 Sx.lawPc233 Sx.start233_yes)))
    (Sx.by_case Sx.q9
    (Sx.by_case Sx.q8
    (leaf4 Sx.lawPc234 Sx.start234_yes)
    (leaf5 Sx.lawPc235 Sx.start235_yes))
    (Sx.by_case Sx.q10
    (leaf6 Sx.lawPc236 Sx.start236_yes)
    (leaf7 Sx.lawPc237 Sx.start237_yes))))
    (Sx.by_case Sx.q44
    (Sx.by_case Sx.q2
    (Sx.by_case Sx.q1
    (Sx.by_case Sx.q0
    (leaf0 Sx.lawPc238 Sx.start238_yes)
    (leaf1 Sx.lawPc239 Sx.start239_yes))
    (Sx.by_case Sx.q7
    (leaf2 Sx.lawPc240 Sx.start240_yes)
    (leaf3 Sx.lawPc241 Sx.start241_yes)))
    (Sx.by_case Sx.q9
    (Sx.by_case Sx.q8
    (leaf4 Sx.lawPc242 Sx.start242_yes)
    (leaf5 Sx.lawPc243 Sx.start243_yes))
    (Sx.by_case Sx.q10
    (leaf6 Sx.lawPc244 Sx.start244_yes)
    (leaf7 Sx.lawPc245 Sx.start245_yes))))
    (fun hpc => (Sx.x246_no _ hpc).elim))))
    (Sx.by_case Sx.q45
    (Sx.by_case Sx.q2
    (Sx.by_case Sx.q1
    (Sx.by_case Sx.q0
    (leaf0 Sx.lawPc247 Sx.start247_yes)
    (leaf1 Sx.lawPc248 Sx.start248_yes))
    (Sx.by_case Sx.q7
    (leaf2 Sx.lawPc249 Sx.start249_yes)
    (leaf3 Sx.lawPc250 Sx.start250_yes)))
    (Sx.by_case Sx.q9
    (Sx.by_case Sx.q8
    (leaf4 Sx.lawPc251 Sx.start251_yes)
    (leaf5 Sx.lawPc252 Sx.start252_yes))
    (Sx.by_case Sx.q10
    (leaf6 Sx.lawPc253 Sx.start253_yes)
    (leaf7 Sx.lawPc254 Sx.start254_yes))))
    (Sx.by_case Sx.q47
    (Sx.by_case Sx.q46
    (Sx.by_case Sx.q2
    (Sx.by_case Sx.q1
    (Sx.by_case Sx.q0
    (leaf0 Sx.lawPc255 Sx.start255_yes)
    (leaf1 Sx.lawPc256 Sx.start256_yes))
    (Sx.by_case Sx.q7
    (leaf2 Sx.lawPc257 Sx.start257_yes)
    (leaf3 Sx.lawPc258 Sx.start258_yes)))
    (Sx.by_case Sx.q9
    (Sx.by_case Sx.q8
    (leaf4 Sx.lawPc259 Sx.start259_yes)
    (leaf5 Sx.lawPc260 Sx.start260_yes))
    (Sx.by_case Sx.q10
    (leaf6 Sx.lawPc261 Sx.start261_yes)
    (leaf7 Sx.lawPc262 Sx.start262_yes))))
    (Sx.by_case Sx.q48
    (Sx.by_case Sx.q2
    (Sx.by_case Sx.q1
    (Sx.by_case Sx.q0
    (leaf0 Sx.lawPc263 Sx.start263_yes)
    (leaf1 Sx.lawPc264 Sx.start264_yes))
    (Sx.by_case Sx.q7
    (leaf2 Sx.lawPc265 Sx.start265_yes)
    (leaf3 Sx.lawPc266 Sx.start266_yes)))
    (Sx.by_case Sx.q9
    (Sx.by_case Sx.q8
    (leaf4 Sx.lawPc267 Sx.start267_yes)
    (leaf5 Sx.lawPc268 Sx.start268_yes))
    (Sx.by_case Sx.q10
    (leaf6 Sx.lawPc269 Sx.start269_yes)
    (leaf7 Sx.lawPc270 Sx.start270_yes))))
    (Sx.by_case Sx.q49
    (Sx.by_case Sx.q2
    (Sx.by_case Sx.q1
    (Sx.by_case Sx.q0
    (leaf0 Sx.lawPc271 Sx.start271_yes)
    (leaf1 Sx.lawPc272 Sx.start272_yes))
    (Sx.by_case Sx.q7
    (leaf2 Sx.lawPc273 Sx.start273_yes)
    (leaf3 Sx.lawPc274 Sx.start274_yes)))
    (Sx.by_case Sx.q9
    (Sx.by_case Sx.q8
    (leaf4 Sx.lawPc275 Sx.start275_yes)
    (leaf5 Sx.lawPc276 Sx.start276_yes))
    (Sx.by_case Sx.q10
    (leaf6 Sx.lawPc277 Sx.start277_yes)
    (leaf7 Sx.lawPc278 Sx.start278_yes))))
    (Sx.by_case Sx.q50
    (Sx.by_case Sx.q2
    (Sx.by_case Sx.q1
    (Sx.by_case Sx.q0
    (leaf0 Sx.lawPc279 Sx.start279_yes)
    (leaf1 Sx.lawPc280 Sx.start280_yes))
    (Sx.by_case Sx.q7
    (leaf2 Sx.lawPc281 Sx.start281_yes)
    (leaf3 Sx.lawPc282 Sx.start282_yes)))
    (Sx.by_case Sx.q9
    (Sx.by_case Sx.q8
    (leaf4 Sx.lawPc283 Sx.start283_yes)
    (leaf5 Sx.lawPc284 Sx.start284_yes))
    (Sx.by_case Sx.q10
    (leaf6 Sx.lawPc285 Sx.start285_yes)
    (leaf7 Sx.lawPc286 Sx.start286_yes))))
    (Sx.by_case Sx.q51
    (Sx.by_case Sx.q2
    (Sx.by_case Sx.q1
    (Sx.by_case Sx.q0
    (leaf0 Sx.lawPc287 Sx.start287_yes)
    (leaf1 Sx.lawPc288 Sx.start288_yes))
    (Sx.by_case Sx.q7
    (leaf2 Sx.lawPc289 Sx.start289_yes)
    (leaf3 Sx.lawPc290 Sx.start290_yes)))
    (Sx.by_case Sx.q9
    (Sx.by_case Sx.q8
    (leaf4 Sx.lawPc291 Sx.start291_yes)
    (leaf5 Sx.lawPc292 Sx.start292_yes))
    (Sx.by_case Sx.q10
    (leaf6 Sx.lawPc293 Sx.start293_yes)
    (leaf7 Sx.lawPc294 Sx.start294_yes))))
    (Sx.by_case Sx.q52
    (Sx.by_case Sx.q2
    (Sx.by_case Sx.q1
    (Sx.by_case Sx.q0
    (leaf0 Sx.lawPc295 Sx.start295_yes)
    (leaf1 Sx.lawPc296 Sx.start296_yes))
    (Sx.by_case Sx.q7
    (leaf2 Sx.lawPc297 Sx.start297_yes)
    (leaf3 Sx.lawPc298 Sx.start298_yes)))
    (Sx.by_case Sx.q9
    (Sx.by_case Sx.q8
    (leaf4 Sx.lawPc299 Sx.start299_yes)
    (leaf5 Sx.lawPc300 Sx.start300_yes))
    (Sx.by_case Sx.q10
    (leaf6 Sx.lawPc301 Sx.start301_yes)
    (leaf7 Sx.lawPc302 Sx.start302_yes))))
    (Sx.by_case Sx.q53
    (Sx.by_case Sx.q2
    (Sx.by_case Sx.q1
    (Sx.by_case Sx.q0
    (leaf0 Sx.lawPc303 Sx.start303_yes)
    (leaf1 Sx.lawPc304 Sx.start304_yes))
    (Sx.by_case Sx.q7
    (leaf2 Sx.lawPc305 Sx.start305_yes)
    (leaf3 Sx.lawPc306 Sx.start306_yes)))
    (Sx.by_case Sx.q9
    (Sx.by_case Sx.q8
    (leaf4 Sx.lawPc307 Sx.start307_yes)
    (leaf5 Sx.lawPc308 Sx.start308_yes))
    (Sx.by_case Sx.q10
    (leaf6 Sx.lawPc309 Sx.start309_yes)
    (leaf7 Sx.lawPc310 Sx.start310_yes))))
    (Sx.by_case Sx.q54
    (Sx.by_case Sx.q2
    (Sx.by_case Sx.q1
    (Sx.by_case Sx.q0
    (leaf0 Sx.lawPc311 Sx.start311_yes)
    (leaf1 Sx.lawPc312 Sx.start312_yes))
    (Sx.by_case Sx.q7
    (leaf2 Sx.lawPc313 Sx.start313_yes)
    (leaf3 Sx.lawPc314 Sx.start314_yes)))
    (Sx.by_case Sx.q9
    (Sx.by_case Sx.q8
    (leaf4 Sx.lawPc315 Sx.start315_yes)
    (leaf5 Sx.lawPc316 Sx.start316_yes))
    (Sx.by_case Sx.q10
    (leaf6 Sx.lawPc317 Sx.start317_yes)
    (leaf7 Sx.lawPc318 Sx.start318_yes))))
    (fun hpc => (Sx.x319_no _ hpc).elim)))))))))
    (Sx.by_case Sx.q2
    (Sx.by_case Sx.q1
    (Sx.by_case Sx.q0
    (leaf0 Sx.lawPc320 Sx.start320_yes)
    (leaf1 Sx.lawPc321 Sx.start321_yes))
    (Sx.by_case Sx.q7
    (leaf2 Sx.lawPc322 Sx.start322_yes)
    (leaf3 Sx.lawPc323 Sx.start323_yes)))
    (Sx.by_case Sx.q9
    (Sx.by_case Sx.q8
    (leaf4 Sx.lawPc324 Sx.start324_yes)
    (leaf5 Sx.lawPc325 Sx.start325_yes))
    (Sx.by_case Sx.q10
    (leaf6 Sx.lawPc326 Sx.start326_yes)
    (leaf7 Sx.lawPc327 Sx.start327_yes)))))))
    (Sx.by_case Sx.q57
    (Sx.by_case Sx.q56
    (Sx.by_case Sx.q55
    (Sx.by_case Sx.q2
    (Sx.by_case Sx.q1
    (Sx.by_case Sx.q0
    (leaf0 Sx.lawPc328 Sx.start328_yes)
    (leaf1 Sx.lawPc329 Sx.start329_yes))
    (Sx.by_case Sx.q7
    (leaf2 Sx.lawPc330 Sx.start330_yes)
    (leaf3 Sx.lawPc331 Sx.start331_yes)))
    (Sx.by_case Sx.q9
    (Sx.by_case Sx.q8
    (leaf4 Sx.lawPc332 Sx.start332_yes)
    (leaf5 Sx.lawPc333 Sx.start333_yes))
    (Sx.by_case Sx.q10
    (leaf6 Sx.lawPc334 Sx.start334_yes)
    (leaf7 Sx.lawPc335 Sx.start335_yes))))
    (Sx.by_case Sx.q58
    (Sx.by_case Sx.q2
    (Sx.by_case Sx.q1
    (Sx.by_case Sx.q0
    (leaf0 Sx.lawPc336 Sx.start336_yes)
    (leaf1 Sx.lawPc337 Sx.start337_yes))
    (Sx.by_case Sx.q7
    (leaf2 Sx.lawPc338 Sx.start338_yes)
    (leaf3 Sx.lawPc339 Sx.start339_yes)))
    (Sx.by_case Sx.q9
    (Sx.by_case Sx.q8
    (leaf4 Sx.lawPc340 Sx.start340_yes)
    (leaf5 Sx.lawPc341 Sx.start341_yes))
    (Sx.by_case Sx.q10
    (leaf6 Sx.lawPc342 Sx.start342_yes)
    (leaf7 Sx.lawPc343 Sx.start343_yes))))
    (Sx.by_case Sx.q2
    (Sx.by_case Sx.q1
    (Sx.by_case Sx.q0
    (leaf0 Sx.lawPc344 Sx.start344_yes)
    (leaf1 Sx.lawPc345 Sx.start345_yes))
    (Sx.by_case Sx.q7
    (leaf2 Sx.lawPc346 Sx.start346_yes)
    (leaf3 Sx.lawPc347 Sx.start347_yes)))
    (Sx.by_case Sx.q9
    (Sx.by_case Sx.q8
    (leaf4 Sx.lawPc348 Sx.start348_yes)
    (leaf5 Sx.lawPc349 Sx.start349_yes))
    (Sx.by_case Sx.q10
    (leaf6 Sx.lawPc350 Sx.start350_yes)
    (leaf7 Sx.lawPc351 Sx.start351_yes))))))
    (Sx.by_case Sx.q59
    (Sx.by_case Sx.q2
    (Sx.by_case Sx.q1
    (Sx.by_case Sx.q0
    (leaf0 Sx.lawPc352 Sx.start352_yes)
    (leaf1 Sx.lawPc353 Sx.start353_yes))
    (Sx.by_case Sx.q7
    (leaf2 Sx.lawPc354 Sx.start354_yes)
    (leaf3 Sx.lawPc355 Sx.start355_yes)))
    (Sx.by_case Sx.q9
    (Sx.by_case Sx.q8
    (leaf4 Sx.lawPc356 Sx.start356_yes)
    (leaf5 Sx.lawPc357 Sx.start357_yes))
    (Sx.by_case Sx.q10
    (leaf6 Sx.lawPc358 Sx.start358_yes)
    (leaf7 Sx.lawPc359 Sx.start359_yes))))
    (Sx.by_case Sx.q60
    (Sx.by_case Sx.q2
    (Sx.by_case Sx.q1
    (Sx.by_case Sx.q0
    (leaf0 Sx.lawPc360 Sx.start360_yes)
    (leaf1 Sx.lawPc361 Sx.start361_yes))
    (Sx.by_case Sx.q7
    (leaf2 Sx.lawPc362 Sx.start362_yes)
    (leaf3 Sx.lawPc363 Sx.start363_yes)))
    (Sx.by_case Sx.q9
    (Sx.by_case Sx.q8
    (leaf4 Sx.lawPc364 Sx.start364_yes)
    (leaf5 Sx.lawPc365 Sx.start365_yes))
    (Sx.by_case Sx.q10
    (leaf6 Sx.lawPc366 Sx.start366_yes)
    (leaf7 Sx.lawPc367 Sx.start367_yes))))
    (Sx.by_case Sx.q61
    (Sx.by_case Sx.q2
    (Sx.by_case Sx.q1
    (Sx.by_case Sx.q0
    (leaf0 Sx.lawPc368 Sx.start368_yes)
    (leaf1 Sx.lawPc369 Sx.start369_yes))
    (Sx.by_case Sx.q7
    (leaf2 Sx.lawPc370 Sx.start370_yes)
    (leaf3 Sx.lawPc371 Sx.start371_yes)))
    (Sx.by_case Sx.q9
    (Sx.by_case Sx.q8
    (leaf4 Sx.lawPc372 Sx.start372_yes)
    (leaf5 Sx.lawPc373 Sx.start373_yes))
    (Sx.by_case Sx.q10
    (leaf6 Sx.lawPc374 Sx.start374_yes)
    (leaf7 Sx.lawPc375 Sx.start375_yes))))
    (Sx.by_case Sx.q62
    (Sx.by_case Sx.q2
    (Sx.by_case Sx.q1
    (Sx.by_case Sx.q0
    (leaf0 Sx.lawPc376 Sx.start376_yes)
    (leaf1 Sx.lawPc377 Sx.start377_yes))
    (Sx.by_case Sx.q7
    (leaf2 Sx.lawPc378 Sx.start378_yes)
    (leaf3 Sx.lawPc379 Sx.start379_yes)))
    (Sx.by_case Sx.q9
    (Sx.by_case Sx.q8
    (leaf4 Sx.lawPc380 Sx.start380_yes)
    (leaf5 Sx.lawPc381 Sx.start381_yes))
    (Sx.by_case Sx.q10
    (leaf6 Sx.lawPc382 Sx.start382_yes)
    (leaf7 Sx.lawPc383 Sx.start383_yes))))
    (fun hpc => (Sx.x384_no _ hpc).elim))))))
    (Sx.by_case Sx.q63
    (Sx.by_case Sx.q2
    (Sx.by_case Sx.q1
    (Sx.by_case Sx.q0
    (leaf0 Sx.lawPc385 Sx.start385_yes)
    (leaf1 Sx.lawPc386 Sx.start386_yes))
    (Sx.by_case Sx.q7
    (leaf2 Sx.lawPc387 Sx.start387_yes)
    (leaf3 Sx.lawPc388 Sx.start388_yes)))
    (Sx.by_case Sx.q9
    (Sx.by_case Sx.q8
    (leaf4 Sx.lawPc389 Sx.start389_yes)
    (leaf5 Sx.lawPc390 Sx.start390_yes))
    (Sx.by_case Sx.q10
    (leaf6 Sx.lawPc391 Sx.start391_yes)
    (leaf7 Sx.lawPc392 Sx.start392_yes))))
    (Sx.by_case Sx.q65
    (Sx.by_case Sx.q64
    (Sx.by_case Sx.q2
    (Sx.by_case Sx.q1
    (Sx.by_case Sx.q0
    (leaf0 Sx.lawPc393 Sx.start393_yes)
    (leaf1 Sx.lawPc394 Sx.start394_yes))
    (Sx.by_case Sx.q7
    (leaf2 Sx.lawPc395 Sx.start395_yes)
    (leaf3 Sx.lawPc396 Sx.start396_yes)))
    (Sx.by_case Sx.q9
    (Sx.by_case Sx.q8
    (leaf4 Sx.lawPc397 Sx.start397_yes)
    (leaf5 Sx.lawPc398 Sx.start398_yes))
    (Sx.by_case Sx.q10
    (leaf6 Sx.lawPc399 Sx.start399_yes)
    (leaf7 Sx.lawPc400 Sx.start400_yes))))
    (Sx.by_case Sx.q66
    (Sx.by_case Sx.q2
    (Sx.by_case Sx.q1
    (Sx.by_case Sx.q0
    (leaf0 Sx.lawPc401 Sx.start401_yes)
    (leaf1 Sx.lawPc402 Sx.start402_yes))
    (Sx.by_case Sx.q7
    (leaf2 Sx.lawPc403 Sx.start403_yes)
    (leaf3 Sx.lawPc404 Sx.start404_yes)))
    (Sx.by_case Sx.q9
    (Sx.by_case Sx.q8
    (leaf4 Sx.lawPc405 Sx.start405_yes)
    (leaf5 Sx.lawPc406 Sx.start406_yes))
    (Sx.by_case Sx.q10
    (leaf6 Sx.lawPc407 Sx.start407_yes)
    (leaf7 Sx.lawPc408 Sx.start408_yes))))
    (Sx.by_case Sx.q67
    (Sx.by_case Sx.q2
    (Sx.by_case Sx.q1
    (Sx.by_case Sx.q0
    (leaf0 Sx.lawPc409 Sx.start409_yes)
    (leaf1 Sx.lawPc410 Sx.start410_yes))
    (Sx.by_case Sx.q7
    (leaf2 Sx.lawPc411 Sx.start411_yes)
    (leaf3 Sx.lawPc412 Sx.start412_yes)))
    (Sx.by_case Sx.q9
    (Sx.by_case Sx.q8
    (leaf4 Sx.lawPc413 Sx.start413_yes)
    (leaf5 Sx.lawPc414 Sx.start414_yes))
    (Sx.by_case Sx.q10
    (leaf6 Sx.lawPc415 Sx.start415_yes)
    (leaf7 Sx.lawPc416 Sx.start416_yes))))
    (Sx.by_case Sx.q68
    (Sx.by_case Sx.q2
    (Sx.by_case Sx.q1
    (Sx.by_case Sx.q0
    (leaf0 Sx.lawPc417 Sx.start417_yes)
    (leaf1 Sx.lawPc418 Sx.start418_yes))
    (Sx.by_case Sx.q7
    (leaf2 Sx.lawPc419 Sx.start419_yes)
    (leaf3 Sx.lawPc420 Sx.start420_yes)))
    (Sx.by_case Sx.q9
    (Sx.by_case Sx.q8
    (leaf4 Sx.lawPc421 Sx.start421_yes)
    (leaf5 Sx.lawPc422 Sx.start422_yes))
    (Sx.by_case Sx.q10
    (leaf6 Sx.lawPc423 Sx.start423_yes)
    (leaf7 Sx.lawPc424 Sx.start424_yes))))
    (fun hpc => (Sx.x425_no _ hpc).elim)))))
    (Sx.by_case Sx.q2
    (Sx.by_case Sx.q1
    (Sx.by_case Sx.q0
    (leaf0 Sx.lawPc426 Sx.start426_yes)
    (leaf1 Sx.lawPc427 Sx.start427_yes))
    (Sx.by_case Sx.q7
    (leaf2 Sx.lawPc428 Sx.start428_yes)
    (leaf3 Sx.lawPc429 Sx.start429_yes)))
    (Sx.by_case Sx.q9
    (Sx.by_case Sx.q8
    (leaf4 Sx.lawPc430 Sx.start430_yes)
    (leaf5 Sx.lawPc431 Sx.start431_yes))
    (Sx.by_case Sx.q10
    (leaf6 Sx.lawPc432 Sx.start432_yes)
    (leaf7 Sx.lawPc433 Sx.start433_yes))))))))) (fun c t h => by cases h)

/-- What start-up laid is what the reader was told. -/
theorem tabs_ok {w : World} (h : laidMetH Tryd.prog Rows.csrApartRow.laid w) : Sx.TabsOk tabs w := by
  rw [MakeChecks.laidMetH_plain _ _ _ (by kernel_rfl)] at h
  intro t ht
  simp only [tabs, List.mem_cons, List.not_mem_nil, or_false] at ht
  rcases ht with rfl | rfl | rfl
  · exact Sx.tab_of_laid h (name := "math/bits.deBruijn32tab") (by simp [Rows.csrApartRow, Rows.laid_math_bits_deBruijn32tab]) (by kernel_rfl) rfl rfl rfl (by kernel_rfl) (by kernel_rfl)
  · exact Sx.tab_of_laid h (name := "math/bits.deBruijn64tab") (by simp [Rows.csrApartRow, Rows.laid_math_bits_deBruijn64tab]) (by kernel_rfl) rfl rfl rfl (by kernel_rfl) (by kernel_rfl)
  · exact Sx.tab_of_laid h (name := "internal/strconv.uint64pow10") (by simp [Rows.csrApartRow, Rows.laid_internal_strconv_uint64pow10]) (by kernel_rfl) rfl rfl rfl (by kernel_rfl) (by kernel_rfl)


/-- The heap that start-up leaves meets the condition. -/
theorem door_met (H : Type) (os : Os) (args : Array Value) : laidMetH Tryd.prog Rows.csrApartRow.laid ((World.doorLaid Tryd.prog 400 os).forCall (fun _ _ => 0) ⟨#[], args, []⟩).memory :=
  laidMetH_of_parts3 (fuel := 8) (laidMet_of_run' 8 (by kernel_rfl) (by kernel_rfl)) (by kernel_rfl) (by kernel_rfl)

set_option maxRecDepth 100000 in
theorem law_lifted (os : Os) (started : os.Started) (H : Type) (enc : TypeId × Value → H) :
    ReturnsInHanded {} Tryd.checked os 5 .any (fun w args => (Rows.csrApartSpec.pre enc Tryd.prog Tryd.f5 [] false w args ∧ laidMetH Tryd.prog Rows.csrApartRow.laid w) ∧ sizedMet enc Tryd.prog Tryd.f5 (OpenSpec.ofChange Rows.csrApartSpec) false w args)
      (Rows.csrApartSpec.post enc Tryd.prog Tryd.f5 false true false false) := by
  refine returnsInHanded_of_change_and (C := Tryd.checked) (X := fun w _ => laidMetH Tryd.prog Rows.csrApartRow.laid w) (fun _ _ _ hh h => h.of_heap hh) Tryd.own started (by kernel_rfl) Tryd.func5
    (ChangeSpec.witness_shaped (enc := enc) (C := Tryd.checked) (os := os) (X := fun w _ => laidMetH Tryd.prog Rows.csrApartRow.laid w) false (World.doorLaid Tryd.prog 400 os) #[.agg #[.int .u64 0, .int .u64 0, .int .u64 0, .int .u64 0, .int .u64 0, .int .u64 0, .int .u64 0, .int .u64 0, .int .u64 0, .int .u64 0, .int .u64 0, .int .u64 0, .int .u64 0, .int .u64 0, .int .u64 0, .int .u64 0, .int .u64 0, .int .u64 0, .int .u64 0, .int .u64 0, .int .u64 0, .int .u64 0, .int .u64 0, .int .u64 0, .int .u64 0, .int .u64 0, .int .u64 0, .int .u64 0, .int .u64 0, .int .u64 0, .int .u64 0], .agg #[.int .u16 0, .int .u8 0, .int .u64 0, .int .u64 0], .int .u16 0] 8 rfl (World.shaped_of_RefB (by kernel_rfl) (by kernel_rfl)) (by kernel_rfl) (by kernel_rfl) (by kernel_rfl) (door_met H os _)) ?_
  intro W base args ds gs before hval0 hW _ _ hL _
  have hW' := hW
  obtain ⟨p, q, hA0, hV, rfl, hfz, hnd⟩ := hW
  have hA : DataW.TrodAll enc Tryd.prog W 0 (fun _ => true) true Tryd.f5.params.toList args.toList ds p := hA0
  have hval : ∀ (j : Nat) t v, Tryd.f5.params[j]? = some t → args[j]? = some v → Value.okWide Tryd.prog W .any base t v := hval0
  obtain ⟨rfl, rfl⟩ := trodVars_none hV
  have hA2 := hA
  rw [Tryd.params5] at hA2
  obtain ⟨_, _, d0, ds0, p0, q0, _, rfl, rfl, _, r0⟩ := trodAll_cons hA2
  obtain ⟨_, _, d1, ds1, p1, q1, _, rfl, rfl, _, r1⟩ := trodAll_cons r0
  obtain ⟨_, _, d2, ds2, p2, q2, _, rfl, rfl, _, r2⟩ := trodAll_cons r1
  obtain ⟨_, rfl, rfl⟩ := trodAll_nil r2
  refine (law_any (tabs_ok hL) hA hval).mono fun e W' ⟨he, bel⟩ => ?_
  subst he
  exact ⟨_, rfl, _, _, _, [], _, [], hW', trodAll_mk1 (shut_bool Tryd.underlying4 _), Sx.trodAll_below Tryd.laidOut bel (by kernel_rfl) hA, rfl, bel.frame _, fun h => by cases h⟩

theorem law_over : Rows.csrApartRow.holds Tryd.pinned (OpenSpec.ofChange Rows.csrApartSpec) :=
  OpenClaim.holds_of_wide 5 Tryd.f5 rfl rfl rfl rfl rfl rfl rfl ⟨rfl, rfl, rfl, rfl, rfl⟩ rfl rfl rfl rfl rfl (by kernel_rfl) Tryd.func5 (by kernel_rfl)
    (of_decide_eq_true (by kernel_rfl)) (by unfold Func.isWrapper; first | (rw [if_pos (by decide +kernel)]; kernel_rfl) | (rw [if_neg (by decide +kernel)]; exact ⟨rfl, rfl⟩))
    (fun os started H enc _ => law_lifted os started H enc)

theorem csrApart_holds : Rows.CsrApartCardSaid :=
  Claim7.holds_tied_plain_at .later [] [.data, .data, .data] true (true, "066aec303f79ba2859023aede90ee4c7f0abf2985082f71697615aabd8d936fc") false
    law_over (fun _ h => by cases h) (by kernel_rfl) (fun _ h => by cases h) csrApart_row_tie rfl ⟨rfl, rfl⟩ (by kernel_rfl) rfl
    (fun f fn hf hfn => by
      obtain rfl : f = 5 := Option.some.inj ((show Tryd.prog.funcNamed "almonry/almonrylaw08.CsrApart" = some 5 by kernel_rfl).symm.trans hf) |>.symm
      obtain rfl : fn = Tryd.f5 := (Option.some.inj (Tryd.func5.symm.trans hfn)).symm
      exact ⟨by kernel_rfl, fun j t ht => by
        rw [Tryd.params5] at ht
        rcases j with _ | _ | _ | _ <;> simp at ht <;> (subst ht; kernel_rfl)⟩)
    (by kernel_rfl)
end Go.Proofs.YtffhbmkpcenkoaaDoor
