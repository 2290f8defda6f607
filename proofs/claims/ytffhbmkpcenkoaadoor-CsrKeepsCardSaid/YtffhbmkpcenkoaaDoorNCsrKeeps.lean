/- CsrKeeps: of all arguments, the law answers true: read by the reader, in every order that Go leaves open. -/
import Derived.Test.YtffhbmkpcenkoaaDoorUCsrKeepsP0
import Derived.Test.YtffhbmkpcenkoaaDoorUCsrKeepsP1
import Derived.Test.YtffhbmkpcenkoaaDoorUCsrKeepsP2
import Derived.Test.YtffhbmkpcenkoaaDoorUCsrKeepsP3
import Derived.Test.YtffhbmkpcenkoaaDoorUCsrKeepsP4
import Derived.Test.YtffhbmkpcenkoaaDoorUCsrKeepsP5
import Derived.Test.YtffhbmkpcenkoaaDoorCards
import Derived.Test.YtffhbmkpcenkoaaDoorTie
import Derived.LaidMore
import Derived.MakeChecks
import Derived.SevenTiedAt
set_option linter.unusedVariables false
set_option linter.unusedSimpArgs false
set_option linter.unusedVariables false
set_option linter.unusedSimpArgs false
namespace Go.Proofs.YtffhbmkpcenkoaaDoor
open Go.ChangeShapes Go.WideShapes Go.ChangeAt Go.RowKit

open Sx (tabs)

theorem Tryd.laidOut : laidOutB Tryd.prog = true := by kernel_rfl
theorem Tryd.own : ownKnob Tryd.prog.godebug = none := by kernel_rfl

theorem okw_list {P : Program} {W : World} {r : Reach} {b0 : Nat} {ts : Array TypeId} {vs : Array Value} (h : ∀ (j : Nat) t v, ts[j]? = some t → vs[j]? = some v → Value.okWide P W r b0 t v) :
    ∀ (j : Nat) t v, ts.toList[j]? = some t → vs.toList[j]? = some v → Value.okWide P W r b0 t v := fun j t v a b => h j t v (by simpa using a) (by simpa using b)
theorem args_ok : Sx.V.okL (Sx.stTab Sx.tabs []).hp (Sx.psV Sx.lawPs 0) := by simp [Sx.psV, Sx.lawPs, Sx.V.okL, Sx.V.ok, Sx.cellV, Sx.cellsV]
set_option maxRecDepth 100000 in
theorem law_any {H : Type} {enc : TypeId × Value → H} {W : World} {base b0 : Nat} {r : Reach} {sp : Nat → Bool} {held : Bool} {args : Array Value} {ds : List (DataW H)} {ps : List MemPlace} (hw : Sx.TabsOk Sx.tabs W)
    (hA : DataW.TrodAll enc Tryd.prog W base sp held Tryd.f4.params.toList args.toList ds ps) (hval : ∀ (j : Nat) t v, Tryd.f4.params[j]? = some t → args[j]? = some v → Value.okWide Tryd.prog W r b0 t v) :
    Calls Tryd.prog 4 args W fun e w' => e = .returned (.bool true) ∧ Below W.heap.size W w' := by
  have hargs := Sx.open_args (Sx.envTab Sx.tabs (Sx.intsOf Sx.lawPs args.toList []) (fun _ => undef)) (l := Sx.lawPs) (i := 0) (g := []) (by kernel_rfl) hA (okw_list hval)
    (by intro j v n u h; exfalso; revert h; simp [Sx.lawPs]; rcases j with _ | _ | _ <;> simp) (Nat.le_of_ble_eq_true (by kernel_rfl)) (fun j _ => by rw [Nat.zero_add]; rfl)
  have fin : ∀ e : Sx.Env, Sx.V.denL e (Sx.psV Sx.lawPs 0) = args.toList → Calls Tryd.prog 4 (Sx.V.denL e (Sx.psV Sx.lawPs 0)).toArray W (fun e w' => e = .returned (.bool true) ∧ Below W.heap.size W w') → Calls Tryd.prog 4 args W fun e w' => e = .returned (.bool true) ∧ Below W.heap.size W w' := fun e h1 h2 => by
    rw [h1] at h2; simpa using h2
  refine fin _ hargs ?_
  exact (Sx.by_case (.lt (.var 31 0 65535) (.lit 832))
    (Sx.by_case (.lt (.var 31 0 65535) (.lit 320))
    (Sx.by_case (.lt (.var 31 0 65535) (.lit 257))
    (Sx.by_case (.lt (.var 31 0 65535) (.lit 256))
    (fun hpc => Sx.law_of_places (w0 := W) (Sx.ev_ok Sx.baseK_ok (by kernel_rfl) _) (by kernel_rfl) Tryd.func4 (show Tryd.f4.body = some Sx.lawBody from rfl) Sx.tabGlob_lt Sx.exc0_no Sx.places0_yes Sx.places0_paths Sx.start0_yes args_ok (Sx.gokTab (by decide) _ _) (Sx.repTab (by decide) (by kernel_rfl) _ _ hw) hpc)
    (Sx.by_case (.eq (.var 31 0 65535) (.lit 256))
    (fun hpc => Sx.law_of_places (w0 := W) (Sx.ev_ok Sx.baseK_ok (by kernel_rfl) _) (by kernel_rfl) Tryd.func4 (show Tryd.f4.body = some Sx.lawBody from rfl) Sx.tabGlob_lt Sx.exc1_no Sx.places1_yes Sx.places1_paths Sx.start1_yes args_ok (Sx.gokTab (by decide) _ _) (Sx.repTab (by decide) (by kernel_rfl) _ _ hw) hpc)
    (fun hpc => (Sx.x2_no _ hpc).elim)))
    (Sx.by_case (.lt (.var 31 0 65535) (.lit 260))
    (fun hpc => Sx.law_of_places (w0 := W) (Sx.ev_ok Sx.baseK_ok (by kernel_rfl) _) (by kernel_rfl) Tryd.func4 (show Tryd.f4.body = some Sx.lawBody from rfl) Sx.tabGlob_lt Sx.exc3_no Sx.places3_yes Sx.places3_paths Sx.start3_yes args_ok (Sx.gokTab (by decide) _ _) (Sx.repTab (by decide) (by kernel_rfl) _ _ hw) hpc)
    (Sx.by_case (.lt (.var 31 0 65535) (.lit 263))
    (Sx.by_case (.eq (.var 31 0 65535) (.lit 260))
    (fun hpc => Sx.law_of_places (w0 := W) (Sx.ev_ok Sx.baseK_ok (by kernel_rfl) _) (by kernel_rfl) Tryd.func4 (show Tryd.f4.body = some Sx.lawBody from rfl) Sx.tabGlob_lt Sx.exc4_no Sx.places4_yes Sx.places4_paths Sx.start4_yes args_ok (Sx.gokTab (by decide) _ _) (Sx.repTab (by decide) (by kernel_rfl) _ _ hw) hpc)
    (Sx.by_case (.eq (.var 31 0 65535) (.lit 261))
    (fun hpc => Sx.law_of_places (w0 := W) (Sx.ev_ok Sx.baseK_ok (by kernel_rfl) _) (by kernel_rfl) Tryd.func4 (show Tryd.f4.body = some Sx.lawBody from rfl) Sx.tabGlob_lt Sx.exc5_no Sx.places5_yes Sx.places5_paths Sx.start5_yes args_ok (Sx.gokTab (by decide) _ _) (Sx.repTab (by decide) (by kernel_rfl) _ _ hw) hpc)
    (Sx.by_case (.eq (.var 31 0 65535) (.lit 262))
    (fun hpc => Sx.law_of_places (w0 := W) (Sx.ev_ok Sx.baseK_ok (by kernel_rfl) _) (by kernel_rfl) Tryd.func4 (show Tryd.f4.body = some Sx.lawBody from rfl) Sx.tabGlob_lt Sx.exc6_no Sx.places6_yes Sx.places6_paths Sx.start6_yes args_ok (Sx.gokTab (by decide) _ _) (Sx.repTab (by decide) (by kernel_rfl) _ _ hw) hpc)
    (fun hpc => (Sx.x7_no _ hpc).elim))))
    (fun hpc => Sx.law_of_places (w0 := W) (Sx.ev_ok Sx.baseK_ok (by kernel_rfl) _) (by kernel_rfl) Tryd.func4 (show Tryd.f4.body = some Sx.lawBody from rfl) Sx.tabGlob_lt Sx.exc8_no Sx.places8_yes Sx.places8_paths Sx.start8_yes args_ok (Sx.gokTab (by decide) _ _) (Sx.repTab (by decide) (by kernel_rfl) _ _ hw) hpc))))
    (Sx.by_case (.lt (.var 31 0 65535) (.lit 385))
    (Sx.by_case (.lt (.var 31 0 65535) (.lit 325))
    (Sx.by_case (.eq (.var 31 0 65535) (.lit 320))
    (fun hpc => Sx.law_of_places (w0 := W) (Sx.ev_ok Sx.baseK_ok (by kernel_rfl) _) (by kernel_rfl) Tryd.func4 (show Tryd.f4.body = some Sx.lawBody from rfl) Sx.tabGlob_lt Sx.exc9_no Sx.places9_yes Sx.places9_paths Sx.start9_yes args_ok (Sx.gokTab (by decide) _ _) (Sx.repTab (by decide) (by kernel_rfl) _ _ hw) hpc)
    (Sx.by_case (.eq (.var 31 0 65535) (.lit 321))
    (fun hpc => Sx.law_of_places (w0 := W) (Sx.ev_ok Sx.baseK_ok (by kernel_rfl) _) (by kernel_rfl) Tryd.func4 (show Tryd.f4.body = some Sx.lawBody from rfl) Sx.tabGlob_lt Sx.exc10_no Sx.places10_yes Sx.places10_paths Sx.start10_yes args_ok (Sx.gokTab (by decide) _ _) (Sx.repTab (by decide) (by kernel_rfl) _ _ hw) hpc)
    (Sx.by_case (.eq (.var 31 0 65535) (.lit 322))
    (fun hpc => Sx.law_of_places (w0 := W) (Sx.ev_ok Sx.baseK_ok (by kernel_rfl) _) (by kernel_rfl) Tryd.func4 (show Tryd.f4.body = some Sx.lawBody from rfl) Sx.tabGlob_lt Sx.exc11_no Sx.places11_yes Sx.places11_paths Sx.start11_yes args_ok (Sx.gokTab (by decide) _ _) (Sx.repTab (by decide) (by kernel_rfl) _ _ hw) hpc)
    (Sx.by_case (.eq (.var 31 0 65535) (.lit 323))
    (fun hpc => Sx.law_of_places (w0 := W) (Sx.ev_ok Sx.baseK_ok (by kernel_rfl) _) (by kernel_rfl) Tryd.func4 (show Tryd.f4.body = some Sx.lawBody from rfl) Sx.tabGlob_lt Sx.exc12_no Sx.places12_yes Sx.places12_paths Sx.start12_yes args_ok (Sx.gokTab (by decide) _ _) (Sx.repTab (by decide) (by kernel_rfl) _ _ hw) hpc)
    (Sx.by_case (.eq (.var 31 0 65535) (.lit 324))
    (fun hpc => Sx.law_of_places (w0 := W) (Sx.ev_ok Sx.baseK_ok (by kernel_rfl) _) (by kernel_rfl) Tryd.func4 (show Tryd.f4.body = some Sx.lawBody from rfl) Sx.tabGlob_lt Sx.exc13_no Sx.places13_yes Sx.places13_paths Sx.start13_yes args_ok (Sx.gokTab (by decide) _ _) (Sx.repTab (by decide) (by kernel_rfl) _ _ hw) hpc)
    (fun hpc => (Sx.x14_no _ hpc).elim))))))
    (Sx.by_case (.lt (.var 31 0 65535) (.lit 384))
    (fun hpc => Sx.law_of_places (w0 := W) (Sx.ev_ok Sx.baseK_ok (by kernel_rfl) _) (by kernel_rfl) Tryd.func4 (show Tryd.f4.body = some Sx.lawBody from rfl) Sx.tabGlob_lt Sx.exc15_no Sx.places15_yes Sx.places15_paths Sx.start15_yes args_ok (Sx.gokTab (by decide) _ _) (Sx.repTab (by decide) (by kernel_rfl) _ _ hw) hpc)
    (Sx.by_case (.eq (.var 31 0 65535) (.lit 384))
    (fun hpc => Sx.law_of_places (w0 := W) (Sx.ev_ok Sx.baseK_ok (by kernel_rfl) _) (by kernel_rfl) Tryd.func4 (show Tryd.f4.body = some Sx.lawBody from rfl) Sx.tabGlob_lt Sx.exc16_no Sx.places16_yes Sx.places16_paths Sx.start16_yes args_ok (Sx.gokTab (by decide) _ _) (Sx.repTab (by decide) (by kernel_rfl) _ _ hw) hpc)
    (fun hpc => (Sx.x17_no _ hpc).elim))))
    (Sx.by_case (.lt (.var 31 0 65535) (.lit 768))
    (fun hpc => Sx.law_of_places (w0 := W) (Sx.ev_ok Sx.baseK_ok (by kernel_rfl) _) (by kernel_rfl) Tryd.func4 (show Tryd.f4.body = some Sx.lawBody from rfl) Sx.tabGlob_lt Sx.exc18_no Sx.places18_yes Sx.places18_paths Sx.start18_yes args_ok (Sx.gokTab (by decide) _ _) (Sx.repTab (by decide) (by kernel_rfl) _ _ hw) hpc)
    (Sx.by_case (.lt (.var 31 0 65535) (.lit 775))
    (Sx.by_case (.eq (.var 31 0 65535) (.lit 768))
    (fun hpc => Sx.law_of_places (w0 := W) (Sx.ev_ok Sx.baseK_ok (by kernel_rfl) _) (by kernel_rfl) Tryd.func4 (show Tryd.f4.body = some Sx.lawBody from rfl) Sx.tabGlob_lt Sx.exc19_no Sx.places19_yes Sx.places19_paths Sx.start19_yes args_ok (Sx.gokTab (by decide) _ _) (Sx.repTab (by decide) (by kernel_rfl) _ _ hw) hpc)
    (Sx.by_case (.eq (.var 31 0 65535) (.lit 769))
    (fun hpc => Sx.law_of_places (w0 := W) (Sx.ev_ok Sx.baseK_ok (by kernel_rfl) _) (by kernel_rfl) Tryd.func4 (show Tryd.f4.body = some Sx.lawBody from rfl) Sx.tabGlob_lt Sx.exc20_no Sx.places20_yes Sx.places20_paths Sx.start20_yes args_ok (Sx.gokTab (by decide) _ _) (Sx.repTab (by decide) (by kernel_rfl) _ _ hw) hpc)
    (Sx.by_case (.eq (.var 31 0 65535) (.lit 770))
    (fun hpc => Sx.law_of_places (w0 := W) (Sx.ev_ok Sx.baseK_ok (by kernel_rfl) _) (by kernel_rfl) Tryd.func4 (show Tryd.f4.body = some Sx.lawBody from rfl) Sx.tabGlob_lt Sx.exc21_no Sx.places21_yes Sx.places21_paths Sx.start21_yes args_ok (Sx.gokTab (by decide) _ _) (Sx.repTab (by decide) (by kernel_rfl) _ _ hw) hpc)
    (Sx.by_case (.eq (.var 31 0 65535) (.lit 771))
    (fun hpc => Sx.law_of_places (w0 := W) (Sx.ev_ok Sx.baseK_ok (by kernel_rfl) _) (by kernel_rfl) Tryd.func4 (show Tryd.f4.body = some Sx.lawBody from rfl) Sx.tabGlob_lt Sx.exc22_no Sx.places22_yes Sx.places22_paths Sx.start22_yes args_ok (Sx.gokTab (by decide) _ _) (Sx.repTab (by decide) (by kernel_rfl) _ _ hw) hpc)
    (Sx.by_case (.eq (.var 31 0 65535) (.lit 772))
    (fun hpc => Sx.law_of_places (w0 := W) (Sx.ev_ok Sx.baseK_ok (by kernel_rfl) _) (by kernel_rfl) Tryd.func4 (show Tryd.f4.body = some Sx.lawBody from rfl) Sx.tabGlob_lt Sx.exc23_no Sx.places23_yes Sx.places23_paths Sx.start23_yes args_ok (Sx.gokTab (by decide) _ _) (Sx.repTab (by decide) (by kernel_rfl) _ _ hw) hpc)
    (Sx.by_case (.eq (.var 31 0 65535) (.lit 773))
    (fun hpc => Sx.law_of_places (w0 := W) (Sx.ev_ok Sx.baseK_ok (by kernel_rfl) _) (by kernel_rfl) Tryd.func4 (show Tryd.f4.body = some Sx.lawBody from rfl) Sx.tabGlob_lt Sx.exc24_no Sx.places24_yes Sx.places24_paths Sx.start24_yes args_ok (Sx.gokTab (by decide) _ _) (Sx.repTab (by decide) (by kernel_rfl) _ _ hw) hpc)
    (Sx.by_case (.eq (.var 31 0 65535) (.lit 774))
    (fun hpc => Sx.law_of_places (w0 := W) (Sx.ev_ok Sx.baseK_ok (by kernel_rfl) _) (by kernel_rfl) Tryd.func4 (show Tryd.f4.body = some Sx.lawBody from rfl) Sx.tabGlob_lt Sx.exc25_no Sx.places25_yes Sx.places25_paths Sx.start25_yes args_ok (Sx.gokTab (by decide) _ _) (Sx.repTab (by decide) (by kernel_rfl) _ _ hw) hpc)
    (fun hpc => (Sx.x26_no _ hpc).elim))))))))
    (fun hpc => Sx.law_of_places (w0 := W) (Sx.ev_ok Sx.baseK_ok (by kernel_rfl) _) (by kernel_rfl) Tryd.func4 (show Tryd.f4.body = some Sx.lawBody from rfl) Sx.tabGlob_lt Sx.exc27_no Sx.places27_yes Sx.places27_paths Sx.start27_yes args_ok (Sx.gokTab (by decide) _ _) (Sx.repTab (by decide) (by kernel_rfl) _ _ hw) hpc)))))
    (Sx.by_case (.lt (.var 31 0 65535) (.lit 2816))
    (Sx.by_case (.lt (.var 31 0 65535) (.lit 929))
    (Sx.by_case (.lt (.var 31 0 65535) (.lit 837))
    (Sx.by_case (.eq (.var 31 0 65535) (.lit 832))
    (fun hpc => Sx.law_of_places (w0 := W) (Sx.ev_ok Sx.baseK_ok (by kernel_rfl) _) (by kernel_rfl) Tryd.func4 (show Tryd.f4.body = some Sx.lawBody from rfl) Sx.tabGlob_lt Sx.exc28_no Sx.places28_yes Sx.places28_paths Sx.start28_yes args_ok (Sx.gokTab (by decide) _ _) (Sx.repTab (by decide) (by kernel_rfl) _ _ hw) hpc)
    (Sx.by_case (.eq (.var 31 0 65535) (.lit 833))
    (fun hpc => Sx.law_of_places (w0 := W) (Sx.ev_ok Sx.baseK_ok (by kernel_rfl) _) (by kernel_rfl) Tryd.func4 (show Tryd.f4.body = some Sx.lawBody from rfl) Sx.tabGlob_lt Sx.exc29_no Sx.places29_yes Sx.places29_paths Sx.start29_yes args_ok (Sx.gokTab (by decide) _ _) (Sx.repTab (by decide) (by kernel_rfl) _ _ hw) hpc)
    (Sx.by_case (.eq (.var 31 0 65535) (.lit 834))
    (fun hpc => Sx.law_of_places (w0 := W) (Sx.ev_ok Sx.baseK_ok (by kernel_rfl) _) (by kernel_rfl) Tryd.func4 (show Tryd.f4.body = some Sx.lawBody from rfl) Sx.tabGlob_lt Sx.exc30_no Sx.places30_yes Sx.places30_paths Sx.start30_yes args_ok (Sx.gokTab (by decide) _ _) (Sx.repTab (by decide) (by kernel_rfl) _ _ hw) hpc)
    (Sx.by_case (.eq (.var 31 0 65535) (.lit 835))
    (fun hpc => Sx.law_of_places (w0 := W) (Sx.ev_ok Sx.baseK_ok (by kernel_rfl) _) (by kernel_rfl) Tryd.func4 (show Tryd.f4.body = some Sx.lawBody from rfl) Sx.tabGlob_lt Sx.exc31_no Sx.places31_yes Sx.places31_paths Sx.start31_yes args_ok (Sx.gokTab (by decide) _ _) (Sx.repTab (by decide) (by kernel_rfl) _ _ hw) hpc)
    (Sx.by_case (.eq (.var 31 0 65535) (.lit 836))
    (fun hpc => Sx.law_of_places (w0 := W) (Sx.ev_ok Sx.baseK_ok (by kernel_rfl) _) (by kernel_rfl) Tryd.func4 (show Tryd.f4.body = some Sx.lawBody from rfl) Sx.tabGlob_lt Sx.exc32_no Sx.places32_yes Sx.places32_paths Sx.start32_yes args_ok (Sx.gokTab (by decide) _ _) (Sx.repTab (by decide) (by kernel_rfl) _ _ hw) hpc)
    (fun hpc => (Sx.x33_no _ hpc).elim))))))
    (Sx.by_case (.lt (.var 31 0 65535) (.lit 928))
    (fun hpc => Sx.law_of_places (w0 := W) (Sx.ev_ok Sx.baseK_ok (by kernel_rfl) _) (by kernel_rfl) Tryd.func4 (show Tryd.f4.body = some Sx.lawBody from rfl) Sx.tabGlob_lt Sx.exc34_no Sx.places34_yes Sx.places34_paths Sx.start34_yes args_ok (Sx.gokTab (by decide) _ _) (Sx.repTab (by decide) (by kernel_rfl) _ _ hw) hpc)
    (Sx.by_case (.eq (.var 31 0 65535) (.lit 928))
    (Sx.by_case (.eq (.var 32 0 255) (.lit 0))
    (fun hpc => Sx.law_of_places (w0 := W) (Sx.ev_ok Sx.baseK_ok (by kernel_rfl) _) (by kernel_rfl) Tryd.func4 (show Tryd.f4.body = some Sx.lawBody from rfl) Sx.tabGlob_lt Sx.exc35_no Sx.places35_yes Sx.places35_paths Sx.start35_yes args_ok (Sx.gokTab (by decide) _ _) (Sx.repTab (by decide) (by kernel_rfl) _ _ hw) hpc)
    (Sx.by_case (.eq (.var 32 0 255) (.lit 1))
    (fun hpc => Sx.law_of_places (w0 := W) (Sx.ev_ok Sx.baseK_ok (by kernel_rfl) _) (by kernel_rfl) Tryd.func4 (show Tryd.f4.body = some Sx.lawBody from rfl) Sx.tabGlob_lt Sx.exc36_no Sx.places36_yes Sx.places36_paths Sx.start36_yes args_ok (Sx.gokTab (by decide) _ _) (Sx.repTab (by decide) (by kernel_rfl) _ _ hw) hpc)
    (Sx.by_case (.eq (.var 32 0 255) (.lit 2))
    (fun hpc => Sx.law_of_places (w0 := W) (Sx.ev_ok Sx.baseK_ok (by kernel_rfl) _) (by kernel_rfl) Tryd.func4 (show Tryd.f4.body = some Sx.lawBody from rfl) Sx.tabGlob_lt Sx.exc37_no Sx.places37_yes Sx.places37_paths Sx.start37_yes args_ok (Sx.gokTab (by decide) _ _) (Sx.repTab (by decide) (by kernel_rfl) _ _ hw) hpc)
    (Sx.by_case (.eq (.var 32 0 255) (.lit 3))
    (fun hpc => Sx.law_of_places (w0 := W) (Sx.ev_ok Sx.baseK_ok (by kernel_rfl) _) (by kernel_rfl) Tryd.func4 (show Tryd.f4.body = some Sx.lawBody from rfl) Sx.tabGlob_lt Sx.exc38_no Sx.places38_yes Sx.places38_paths Sx.start38_yes args_ok (Sx.gokTab (by decide) _ _) (Sx.repTab (by decide) (by kernel_rfl) _ _ hw) hpc)
    (fun hpc => Sx.law_of_places (w0 := W) (Sx.ev_ok Sx.baseK_ok (by kernel_rfl) _) (by kernel_rfl) Tryd.func4 (show Tryd.f4.body = some Sx.lawBody from rfl) Sx.tabGlob_lt Sx.exc39_no Sx.places39_yes Sx.places39_paths Sx.start39_yes args_ok (Sx.gokTab (by decide) _ _) (Sx.repTab (by decide) (by kernel_rfl) _ _ hw) hpc)))))
    (fun hpc => (Sx.x40_no _ hpc).elim))))
    (Sx.by_case (.lt (.var 31 0 65535) (.lit 944))
    (fun hpc => Sx.law_of_places (w0 := W) (Sx.ev_ok Sx.baseK_ok (by kernel_rfl) _) (by kernel_rfl) Tryd.func4 (show Tryd.f4.body = some Sx.lawBody from rfl) Sx.tabGlob_lt Sx.exc41_no Sx.places41_yes Sx.places41_paths Sx.start41_yes args_ok (Sx.gokTab (by decide) _ _) (Sx.repTab (by decide) (by kernel_rfl) _ _ hw) hpc)
    (Sx.by_case (.lt (.var 31 0 65535) (.lit 952))
    (Sx.by_case (.eq (.var 31 0 65535) (.lit 944))
    (fun hpc => Sx.law_of_places (w0 := W) (Sx.ev_ok Sx.baseK_ok (by kernel_rfl) _) (by kernel_rfl) Tryd.func4 (show Tryd.f4.body = some Sx.lawBody from rfl) Sx.tabGlob_lt Sx.exc42_no Sx.places42_yes Sx.places42_paths Sx.start42_yes args_ok (Sx.gokTab (by decide) _ _) (Sx.repTab (by decide) (by kernel_rfl) _ _ hw) hpc)
    (Sx.by_case (.eq (.var 31 0 65535) (.lit 945))
    (fun hpc => Sx.law_of_places (w0 := W) (Sx.ev_ok Sx.baseK_ok (by kernel_rfl) _) (by kernel_rfl) Tryd.func4 (show Tryd.f4.body = some Sx.lawBody from rfl) Sx.tabGlob_lt Sx.exc43_no Sx.places43_yes Sx.places43_paths Sx.start43_yes args_ok (Sx.gokTab (by decide) _ _) (Sx.repTab (by decide) (by kernel_rfl) _ _ hw) hpc)
    (Sx.by_case (.eq (.var 31 0 65535) (.lit 946))
    (fun hpc => Sx.law_of_places (w0 := W) (Sx.ev_ok Sx.baseK_ok (by kernel_rfl) _) (by kernel_rfl) Tryd.func4 (show Tryd.f4.body = some Sx.lawBody from rfl) Sx.tabGlob_lt Sx.exc44_no Sx.places44_yes Sx.places44_paths Sx.start44_yes args_ok (Sx.gokTab (by decide) _ _) (Sx.repTab (by decide) (by kernel_rfl) _ _ hw) hpc)
    (Sx.by_case (.eq (.var 31 0 65535) (.lit 947))
    (fun hpc => Sx.law_of_places (w0 := W) (Sx.ev_ok Sx.baseK_ok (by kernel_rfl) _) (by kernel_rfl) Tryd.func4 (show Tryd.f4.body = some Sx.lawBody from rfl) Sx.tabGlob_lt Sx.exc45_no Sx.places45_yes Sx.places45_paths Sx.start45_yes args_ok (Sx.gokTab (by decide) _ _) (Sx.repTab (by decide) (by kernel_rfl) _ _ hw) hpc)
    (Sx.by_case (.eq (.var 31 0 65535) (.lit 948))
    (fun hpc => Sx.law_of_places (w0 := W) (Sx.ev_ok Sx.baseK_ok (by kernel_rfl) _) (by kernel_rfl) Tryd.func4 (show Tryd.f4.body = some Sx.lawBody from rfl) Sx.tabGlob_lt Sx.exc46_no Sx.places46_yes Sx.places46_paths Sx.start46_yes args_ok (Sx.gokTab (by decide) _ _) (Sx.repTab (by decide) (by kernel_rfl) _ _ hw) hpc)
    (Sx.by_case (.eq (.var 31 0 65535) (.lit 949))
    (fun hpc => Sx.law_of_places (w0 := W) (Sx.ev_ok Sx.baseK_ok (by kernel_rfl) _) (by kernel_rfl) Tryd.func4 (show Tryd.f4.body = some Sx.lawBody from rfl) Sx.tabGlob_lt Sx.exc47_no Sx.places47_yes Sx.places47_paths Sx.start47_yes args_ok (Sx.gokTab (by decide) _ _) (Sx.repTab (by decide) (by kernel_rfl) _ _ hw) hpc)
    (Sx.by_case (.eq (.var 31 0 65535) (.lit 950))
    (fun hpc => Sx.law_of_places (w0 := W) (Sx.ev_ok Sx.baseK_ok (by kernel_rfl) _) (by kernel_rfl) Tryd.func4 (show Tryd.f4.body = some Sx.lawBody from rfl) Sx.tabGlob_lt Sx.exc48_no Sx.places48_yes Sx.places48_paths Sx.start48_yes args_ok (Sx.gokTab (by decide) _ _) (Sx.repTab (by decide) (by kernel_rfl) _ _ hw) hpc)
    (Sx.by_case (.eq (.var 31 0 65535) (.lit 951))
    (fun hpc => Sx.law_of_places (w0 := W) (Sx.ev_ok Sx.baseK_ok (by kernel_rfl) _) (by kernel_rfl) Tryd.func4 (show Tryd.f4.body = some Sx.lawBody from rfl) Sx.tabGlob_lt Sx.exc49_no Sx.places49_yes Sx.places49_paths Sx.start49_yes args_ok (Sx.gokTab (by decide) _ _) (Sx.repTab (by decide) (by kernel_rfl) _ _ hw) hpc)
    (fun hpc => (Sx.x50_no _ hpc).elim)))))))))
    (fun hpc => Sx.law_of_places (w0 := W) (Sx.ev_ok Sx.baseK_ok (by kernel_rfl) _) (by kernel_rfl) Tryd.func4 (show Tryd.f4.body = some Sx.lawBody from rfl) Sx.tabGlob_lt Sx.exc51_no Sx.places51_yes Sx.places51_paths Sx.start51_yes args_ok (Sx.gokTab (by decide) _ _) (Sx.repTab (by decide) (by kernel_rfl) _ _ hw) hpc))))
    (Sx.by_case (.lt (.var 31 0 65535) (.lit 3075))
    (Sx.by_case (.lt (.var 31 0 65535) (.lit 2819))
    (Sx.by_case (.eq (.var 31 0 65535) (.lit 2816))
    (fun hpc => Sx.law_of_places (w0 := W) (Sx.ev_ok Sx.baseK_ok (by kernel_rfl) _) (by kernel_rfl) Tryd.func4 (show Tryd.f4.body = some Sx.lawBody from rfl) Sx.tabGlob_lt Sx.exc52_no Sx.places52_yes Sx.places52_paths Sx.start52_yes args_ok (Sx.gokTab (by decide) _ _) (Sx.repTab (by decide) (by kernel_rfl) _ _ hw) hpc)
    (Sx.by_case (.eq (.var 31 0 65535) (.lit 2818))
    (fun hpc => Sx.law_of_places (w0 := W) (Sx.ev_ok Sx.baseK_ok (by kernel_rfl) _) (by kernel_rfl) Tryd.func4 (show Tryd.f4.body = some Sx.lawBody from rfl) Sx.tabGlob_lt Sx.exc53_no Sx.places53_yes Sx.places53_paths Sx.start53_yes args_ok (Sx.gokTab (by decide) _ _) (Sx.repTab (by decide) (by kernel_rfl) _ _ hw) hpc)
    (fun hpc => Sx.law_of_places (w0 := W) (Sx.ev_ok Sx.baseK_ok (by kernel_rfl) _) (by kernel_rfl) Tryd.func4 (show Tryd.f4.body = some Sx.lawBody from rfl) Sx.tabGlob_lt Sx.exc54_no Sx.places54_yes Sx.places54_paths Sx.start54_yes args_ok (Sx.gokTab (by decide) _ _) (Sx.repTab (by decide) (by kernel_rfl) _ _ hw) hpc)))
    (Sx.by_case (.lt (.var 31 0 65535) (.lit 3072))
    (fun hpc => Sx.law_of_places (w0 := W) (Sx.ev_ok Sx.baseK_ok (by kernel_rfl) _) (by kernel_rfl) Tryd.func4 (show Tryd.f4.body = some Sx.lawBody from rfl) Sx.tabGlob_lt Sx.exc55_no Sx.places55_yes Sx.places55_paths Sx.start55_yes args_ok (Sx.gokTab (by decide) _ _) (Sx.repTab (by decide) (by kernel_rfl) _ _ hw) hpc)
    (Sx.by_case (.eq (.var 31 0 65535) (.lit 3072))
    (fun hpc => Sx.law_of_places (w0 := W) (Sx.ev_ok Sx.baseK_ok (by kernel_rfl) _) (by kernel_rfl) Tryd.func4 (show Tryd.f4.body = some Sx.lawBody from rfl) Sx.tabGlob_lt Sx.exc56_no Sx.places56_yes Sx.places56_paths Sx.start56_yes args_ok (Sx.gokTab (by decide) _ _) (Sx.repTab (by decide) (by kernel_rfl) _ _ hw) hpc)
    (Sx.by_case (.eq (.var 31 0 65535) (.lit 3073))
    (fun hpc => Sx.law_of_places (w0 := W) (Sx.ev_ok Sx.baseK_ok (by kernel_rfl) _) (by kernel_rfl) Tryd.func4 (show Tryd.f4.body = some Sx.lawBody from rfl) Sx.tabGlob_lt Sx.exc57_no Sx.places57_yes Sx.places57_paths Sx.start57_yes args_ok (Sx.gokTab (by decide) _ _) (Sx.repTab (by decide) (by kernel_rfl) _ _ hw) hpc)
    (Sx.by_case (.eq (.var 31 0 65535) (.lit 3074))
    (fun hpc => Sx.law_of_places (w0 := W) (Sx.ev_ok Sx.baseK_ok (by kernel_rfl) _) (by kernel_rfl) Tryd.func4 (show Tryd.f4.body = some Sx.lawBody from rfl) Sx.tabGlob_lt Sx.exc58_no Sx.places58_yes Sx.places58_paths Sx.start58_yes args_ok (Sx.gokTab (by decide) _ _) (Sx.repTab (by decide) (by kernel_rfl) _ _ hw) hpc)
    (fun hpc => (Sx.x59_no _ hpc).elim))))))
    (Sx.by_case (.lt (.var 31 0 65535) (.lit 3857))
    (fun hpc => Sx.law_of_places (w0 := W) (Sx.ev_ok Sx.baseK_ok (by kernel_rfl) _) (by kernel_rfl) Tryd.func4 (show Tryd.f4.body = some Sx.lawBody from rfl) Sx.tabGlob_lt Sx.exc60_no Sx.places60_yes Sx.places60_paths Sx.start60_yes args_ok (Sx.gokTab (by decide) _ _) (Sx.repTab (by decide) (by kernel_rfl) _ _ hw) hpc)
    (Sx.by_case (.lt (.var 31 0 65535) (.lit 3861))
    (Sx.by_case (.eq (.var 31 0 65535) (.lit 3857))
    (fun hpc => Sx.law_of_places (w0 := W) (Sx.ev_ok Sx.baseK_ok (by kernel_rfl) _) (by kernel_rfl) Tryd.func4 (show Tryd.f4.body = some Sx.lawBody from rfl) Sx.tabGlob_lt Sx.exc61_no Sx.places61_yes Sx.places61_paths Sx.start61_yes args_ok (Sx.gokTab (by decide) _ _) (Sx.repTab (by decide) (by kernel_rfl) _ _ hw) hpc)
    (Sx.by_case (.eq (.var 31 0 65535) (.lit 3858))
    (fun hpc => Sx.law_of_places (w0 := W) (Sx.ev_ok Sx.baseK_ok (by kernel_rfl) _) (by kernel_rfl) Tryd.func4 (show Tryd.f4.body = some Sx.lawBody from rfl) Sx.tabGlob_lt Sx.exc62_no Sx.places62_yes Sx.places62_paths Sx.start62_yes args_ok (Sx.gokTab (by decide) _ _) (Sx.repTab (by decide) (by kernel_rfl) _ _ hw) hpc)
    (Sx.by_case (.eq (.var 31 0 65535) (.lit 3859))
    (fun hpc => Sx.law_of_places (w0 := W) (Sx.ev_ok Sx.baseK_ok (by kernel_rfl) _) (by kernel_rfl) Tryd.func4 (show Tryd.f4.body = some Sx.lawBody from rfl) Sx.tabGlob_lt Sx.exc63_no Sx.places63_yes Sx.places63_paths Sx.start63_yes args_ok (Sx.gokTab (by decide) _ _) (Sx.repTab (by decide) (by kernel_rfl) _ _ hw) hpc)
    (Sx.by_case (.eq (.var 31 0 65535) (.lit 3860))
    (fun hpc => Sx.law_of_places (w0 := W) (Sx.ev_ok Sx.baseK_ok (by kernel_rfl) _) (by kernel_rfl) Tryd.func4 (show Tryd.f4.body = some Sx.lawBody from rfl) Sx.tabGlob_lt Sx.exc64_no Sx.places64_yes Sx.places64_paths Sx.start64_yes args_ok (Sx.gokTab (by decide) _ _) (Sx.repTab (by decide) (by kernel_rfl) _ _ hw) hpc)
    (fun hpc => (Sx.x65_no _ hpc).elim)))))
    (fun hpc => Sx.law_of_places (w0 := W) (Sx.ev_ok Sx.baseK_ok (by kernel_rfl) _) (by kernel_rfl) Tryd.func4 (show Tryd.f4.body = some Sx.lawBody from rfl) Sx.tabGlob_lt Sx.exc66_no Sx.places66_yes Sx.places66_paths Sx.start66_yes args_ok (Sx.gokTab (by decide) _ _) (Sx.repTab (by decide) (by kernel_rfl) _ _ hw) hpc)))))) (fun c t h => by cases h)

/-- What start-up laid is what the reader was told. -/
theorem tabs_ok {w : World} (h : laidMetH Tryd.prog Rows.csrKeepsRow.laid w) : Sx.TabsOk tabs w := by
  rw [MakeChecks.laidMetH_plain _ _ _ (by kernel_rfl)] at h
  intro t ht
  simp only [tabs, List.mem_cons, List.not_mem_nil, or_false] at ht
  rcases ht with rfl | rfl | rfl
  · exact Sx.tab_of_laid h (name := "math/bits.deBruijn32tab") (by simp [Rows.csrKeepsRow, Rows.laid_math_bits_deBruijn32tab]) (by kernel_rfl) rfl rfl rfl (by kernel_rfl) (by kernel_rfl)
  · exact Sx.tab_of_laid h (name := "math/bits.deBruijn64tab") (by simp [Rows.csrKeepsRow, Rows.laid_math_bits_deBruijn64tab]) (by kernel_rfl) rfl rfl rfl (by kernel_rfl) (by kernel_rfl)
  · exact Sx.tab_of_laid h (name := "internal/strconv.uint64pow10") (by simp [Rows.csrKeepsRow, Rows.laid_internal_strconv_uint64pow10]) (by kernel_rfl) rfl rfl rfl (by kernel_rfl) (by kernel_rfl)


/-- The heap that start-up leaves meets the condition. -/
theorem door_met (H : Type) (os : Os) (args : Array Value) : laidMetH Tryd.prog Rows.csrKeepsRow.laid ((World.doorLaid Tryd.prog 400 os).forCall (fun _ _ => 0) ⟨#[], args, []⟩).memory :=
  laidMetH_of_parts3 (fuel := 8) (laidMet_of_run' 8 (by kernel_rfl) (by kernel_rfl)) (by kernel_rfl) (by kernel_rfl)

set_option maxRecDepth 100000 in
theorem law_lifted (os : Os) (started : os.Started) (H : Type) (enc : TypeId × Value → H) :
    ReturnsInHanded {} Tryd.checked os 4 .any (fun w args => (Rows.csrKeepsSpec.pre enc Tryd.prog Tryd.f4 [] false w args ∧ laidMetH Tryd.prog Rows.csrKeepsRow.laid w) ∧ sizedMet enc Tryd.prog Tryd.f4 (OpenSpec.ofChange Rows.csrKeepsSpec) false w args)
      (Rows.csrKeepsSpec.post enc Tryd.prog Tryd.f4 false true false false) := by
  refine returnsInHanded_of_change_and (C := Tryd.checked) (X := fun w _ => laidMetH Tryd.prog Rows.csrKeepsRow.laid w) (fun _ _ _ hh h => h.of_heap hh) Tryd.own started (by kernel_rfl) Tryd.func4
    (ChangeSpec.witness_shaped (enc := enc) (C := Tryd.checked) (os := os) (X := fun w _ => laidMetH Tryd.prog Rows.csrKeepsRow.laid w) false (World.doorLaid Tryd.prog 400 os) #[.agg #[.int .u64 0, .int .u64 0, .int .u64 0, .int .u64 0, .int .u64 0, .int .u64 0, .int .u64 0, .int .u64 0, .int .u64 0, .int .u64 0, .int .u64 0, .int .u64 0, .int .u64 0, .int .u64 0, .int .u64 0, .int .u64 0, .int .u64 0, .int .u64 0, .int .u64 0, .int .u64 0, .int .u64 0, .int .u64 0, .int .u64 0, .int .u64 0, .int .u64 0, .int .u64 0, .int .u64 0, .int .u64 0, .int .u64 0, .int .u64 0, .int .u64 0], .agg #[.int .u16 0, .int .u8 0, .int .u64 0, .int .u64 0]] 8 rfl (World.shaped_of_RefB (by kernel_rfl) (by kernel_rfl)) (by kernel_rfl) (by kernel_rfl) (by kernel_rfl) (door_met H os _)) ?_
  intro W base args ds gs before hval0 hW _ _ hL _
  have hW' := hW
  obtain ⟨p, q, hA0, hV, rfl, hfz, hnd⟩ := hW
  have hA : DataW.TrodAll enc Tryd.prog W 0 (fun _ => true) true Tryd.f4.params.toList args.toList ds p := hA0
  have hval : ∀ (j : Nat) t v, Tryd.f4.params[j]? = some t → args[j]? = some v → Value.okWide Tryd.prog W .any base t v := hval0
  obtain ⟨rfl, rfl⟩ := trodVars_none hV
  have hA2 := hA
  rw [Tryd.params4] at hA2
  obtain ⟨_, _, d0, ds0, p0, q0, _, rfl, rfl, _, r0⟩ := trodAll_cons hA2
  obtain ⟨_, _, d1, ds1, p1, q1, _, rfl, rfl, _, r1⟩ := trodAll_cons r0
  obtain ⟨_, rfl, rfl⟩ := trodAll_nil r1
  refine (law_any (tabs_ok hL) hA hval).mono fun e W' ⟨he, bel⟩ => ?_
  subst he
  exact ⟨_, rfl, _, _, _, [], _, [], hW', trodAll_mk1 (shut_bool Tryd.underlying4 _), Sx.trodAll_below Tryd.laidOut bel (by kernel_rfl) hA, rfl, bel.frame _, fun h => by cases h⟩

theorem law_over : Rows.csrKeepsRow.holds Tryd.pinned (OpenSpec.ofChange Rows.csrKeepsSpec) :=
  OpenClaim.holds_of_wide 4 Tryd.f4 rfl rfl rfl rfl rfl rfl rfl ⟨rfl, rfl, rfl, rfl, rfl⟩ rfl rfl rfl rfl rfl (by kernel_rfl) Tryd.func4 (by kernel_rfl)
    (of_decide_eq_true (by kernel_rfl)) (by unfold Func.isWrapper; first | (rw [if_pos (by decide +kernel)]; kernel_rfl) | (rw [if_neg (by decide +kernel)]; exact ⟨rfl, rfl⟩))
    (fun os started H enc _ => law_lifted os started H enc)

theorem csrKeeps_holds : Rows.CsrKeepsCardSaid :=
  Claim7.holds_tied_plain_at .later [] [.data, .data, .data] true (true, "066aec303f79ba2859023aede90ee4c7f0abf2985082f71697615aabd8d936fc") false
    law_over (fun _ h => by cases h) (by kernel_rfl) (fun _ h => by cases h) csrKeeps_row_tie rfl ⟨rfl, rfl⟩ (by kernel_rfl) rfl
    (fun f fn hf hfn => by
      obtain rfl : f = 4 := Option.some.inj ((show Tryd.prog.funcNamed "almonry/almonrylaw08.CsrKeeps" = some 4 by kernel_rfl).symm.trans hf) |>.symm
      obtain rfl : fn = Tryd.f4 := (Option.some.inj (Tryd.func4.symm.trans hfn)).symm
      exact ⟨by kernel_rfl, fun j t ht => by
        rw [Tryd.params4] at ht
        rcases j with _ | _ | _ <;> simp at ht <;> (subst ht; kernel_rfl)⟩)
    (by kernel_rfl)
end Go.Proofs.YtffhbmkpcenkoaaDoor
