/- InstDecodes: of all arguments, the law answers true: read by the reader, in every order that Go leaves open. -/
import Derived.Test.YtedmbiadbofaoaaDoorUInstDecodesP0
import Derived.Test.YtedmbiadbofaoaaDoorUInstDecodesP1
import Derived.Test.YtedmbiadbofaoaaDoorUInstDecodesP2
import Derived.Test.YtedmbiadbofaoaaDoorUInstDecodesP3
import Derived.Test.YtedmbiadbofaoaaDoorUInstDecodesP4
import Derived.Test.YtedmbiadbofaoaaDoorUInstDecodesP5
import Derived.Test.YtedmbiadbofaoaaDoorCards
import Derived.Test.YtedmbiadbofaoaaDoorTie
import Derived.LaidMore
import Derived.MakeChecks
import Derived.SevenTiedAt
namespace Go.Proofs.YtedmbiadbofaoaaDoor
open Go.ChangeShapes Go.WideShapes Go.ChangeAt Go.RowKit

open Sx (tabs)

theorem Tryd.laidOut : laidOutB Tryd.prog = true := by kernel_rfl
theorem Tryd.own : ownKnob Tryd.prog.godebug = none := by kernel_rfl

theorem args_ok : Sx.V.okL (Sx.stTab Sx.tabs []).hp (Sx.psV Sx.lawPs 0) := by simp [Sx.psV, Sx.lawPs, Sx.V.okL, Sx.V.ok, Sx.cellV, Sx.cellsV]
theorem law_any {H : Type} {enc : TypeId × Value → H} {W : World} {base b0 : Nat} {r : Reach} {sp : Nat → Bool} {held : Bool} {args : Array Value} {ds : List (DataW H)} {ps : List MemPlace} (hw : Sx.TabsOk Sx.tabs W)
    (hA : DataW.TrodAll enc Tryd.prog W base sp held Tryd.f3.params.toList args.toList ds ps) (hval : ∀ (j : Nat) t v, Tryd.f3.params[j]? = some t → args[j]? = some v → Value.okWide Tryd.prog W r b0 t v) :
    Calls Tryd.prog 3 args W fun e w' => e = .returned (.bool true) ∧ Below W.heap.size W w' := by
  have hargs := Sx.open_args (Sx.envTab Sx.tabs (Sx.intsOf Sx.lawPs args.toList []) (fun _ => undef)) (l := Sx.lawPs) (i := 0) (g := []) (by kernel_rfl) hA (fun j t v a b => hval j t v (by simpa using a) (by simpa using b))
    (by intro j v n u h; exfalso; revert h; simp [Sx.lawPs]; rcases j with _ | _ <;> simp) (by decide) (fun j _ => by rw [Nat.zero_add]; rfl)
  have fin : ∀ e : Sx.Env, Sx.V.denL e (Sx.psV Sx.lawPs 0) = args.toList → Calls Tryd.prog 3 (Sx.V.denL e (Sx.psV Sx.lawPs 0)).toArray W (fun e w' => e = .returned (.bool true) ∧ Below W.heap.size W w') → Calls Tryd.prog 3 args W fun e w' => e = .returned (.bool true) ∧ Below W.heap.size W w' := fun e h1 h2 => by
    rw [h1] at h2; simpa using h2
  refine fin _ hargs ?_
  exact (Sx.by_case (.eq (.ar .and .u32 (.var 0 0 4294967295) (.lit 127)) (.lit 55))
    (fun hpc => Sx.law_of_places (w0 := W) (Sx.ev_ok Sx.base_ok (by kernel_rfl) _) (by kernel_rfl) Tryd.func3 (show Tryd.f3.body = some Sx.lawBody from rfl) Sx.tabGlob_lt Sx.exc0_no Sx.places0_yes Sx.places0_paths Sx.start0_yes args_ok (Sx.gokTab (by decide) _ _) (Sx.repTab (by decide) (by kernel_rfl) _ _ hw) hpc)
    (Sx.by_case (.eq (.ar .and .u32 (.var 0 0 4294967295) (.lit 127)) (.lit 23))
    (fun hpc => Sx.law_of_places (w0 := W) (Sx.ev_ok Sx.base_ok (by kernel_rfl) _) (by kernel_rfl) Tryd.func3 (show Tryd.f3.body = some Sx.lawBody from rfl) Sx.tabGlob_lt Sx.exc1_no Sx.places1_yes Sx.places1_paths Sx.start1_yes args_ok (Sx.gokTab (by decide) _ _) (Sx.repTab (by decide) (by kernel_rfl) _ _ hw) hpc)
    (Sx.by_case (.eq (.ar .and .u32 (.var 0 0 4294967295) (.lit 127)) (.lit 111))
    (fun hpc => Sx.law_of_places (w0 := W) (Sx.ev_ok Sx.base_ok (by kernel_rfl) _) (by kernel_rfl) Tryd.func3 (show Tryd.f3.body = some Sx.lawBody from rfl) Sx.tabGlob_lt Sx.exc2_no Sx.places2_yes Sx.places2_paths Sx.start2_yes args_ok (Sx.gokTab (by decide) _ _) (Sx.repTab (by decide) (by kernel_rfl) _ _ hw) hpc)
    (Sx.by_case (.eq (.ar .and .u32 (.var 0 0 4294967295) (.lit 127)) (.lit 103))
    (fun hpc => Sx.law_of_places (w0 := W) (Sx.ev_ok Sx.base_ok (by kernel_rfl) _) (by kernel_rfl) Tryd.func3 (show Tryd.f3.body = some Sx.lawBody from rfl) Sx.tabGlob_lt Sx.exc3_no Sx.places3_yes Sx.places3_paths Sx.start3_yes args_ok (Sx.gokTab (by decide) _ _) (Sx.repTab (by decide) (by kernel_rfl) _ _ hw) hpc)
    (Sx.by_case (.eq (.ar .and .u32 (.var 0 0 4294967295) (.lit 127)) (.lit 99))
    (Sx.by_case (.eq (.ar .and .u32 (.ar .shr .u32 (.var 0 0 4294967295) (.lit 12)) (.lit 7)) (.lit 0))
    (fun hpc => Sx.law_of_places (w0 := W) (Sx.ev_ok Sx.base_ok (by kernel_rfl) _) (by kernel_rfl) Tryd.func3 (show Tryd.f3.body = some Sx.lawBody from rfl) Sx.tabGlob_lt Sx.exc4_no Sx.places4_yes Sx.places4_paths Sx.start4_yes args_ok (Sx.gokTab (by decide) _ _) (Sx.repTab (by decide) (by kernel_rfl) _ _ hw) hpc)
    (Sx.by_case (.eq (.ar .and .u32 (.ar .shr .u32 (.var 0 0 4294967295) (.lit 12)) (.lit 7)) (.lit 1))
    (fun hpc => Sx.law_of_places (w0 := W) (Sx.ev_ok Sx.base_ok (by kernel_rfl) _) (by kernel_rfl) Tryd.func3 (show Tryd.f3.body = some Sx.lawBody from rfl) Sx.tabGlob_lt Sx.exc5_no Sx.places5_yes Sx.places5_paths Sx.start5_yes args_ok (Sx.gokTab (by decide) _ _) (Sx.repTab (by decide) (by kernel_rfl) _ _ hw) hpc)
    (Sx.by_case (.eq (.ar .and .u32 (.ar .shr .u32 (.var 0 0 4294967295) (.lit 12)) (.lit 7)) (.lit 2))
    (fun hpc => Sx.law_of_places (w0 := W) (Sx.ev_ok Sx.base_ok (by kernel_rfl) _) (by kernel_rfl) Tryd.func3 (show Tryd.f3.body = some Sx.lawBody from rfl) Sx.tabGlob_lt Sx.exc6_no Sx.places6_yes Sx.places6_paths Sx.start6_yes args_ok (Sx.gokTab (by decide) _ _) (Sx.repTab (by decide) (by kernel_rfl) _ _ hw) hpc)
    (Sx.by_case (.eq (.ar .and .u32 (.ar .shr .u32 (.var 0 0 4294967295) (.lit 12)) (.lit 7)) (.lit 3))
    (fun hpc => Sx.law_of_places (w0 := W) (Sx.ev_ok Sx.base_ok (by kernel_rfl) _) (by kernel_rfl) Tryd.func3 (show Tryd.f3.body = some Sx.lawBody from rfl) Sx.tabGlob_lt Sx.exc7_no Sx.places7_yes Sx.places7_paths Sx.start7_yes args_ok (Sx.gokTab (by decide) _ _) (Sx.repTab (by decide) (by kernel_rfl) _ _ hw) hpc)
    (fun hpc => Sx.law_of_places (w0 := W) (Sx.ev_ok Sx.base_ok (by kernel_rfl) _) (by kernel_rfl) Tryd.func3 (show Tryd.f3.body = some Sx.lawBody from rfl) Sx.tabGlob_lt Sx.exc8_no Sx.places8_yes Sx.places8_paths Sx.start8_yes args_ok (Sx.gokTab (by decide) _ _) (Sx.repTab (by decide) (by kernel_rfl) _ _ hw) hpc)))))
    (Sx.by_case (.eq (.ar .and .u32 (.var 0 0 4294967295) (.lit 127)) (.lit 3))
    (Sx.by_case (.eq (.ar .and .u32 (.ar .shr .u32 (.var 0 0 4294967295) (.lit 12)) (.lit 7)) (.lit 0))
    (fun hpc => Sx.law_of_places (w0 := W) (Sx.ev_ok Sx.base_ok (by kernel_rfl) _) (by kernel_rfl) Tryd.func3 (show Tryd.f3.body = some Sx.lawBody from rfl) Sx.tabGlob_lt Sx.exc9_no Sx.places9_yes Sx.places9_paths Sx.start9_yes args_ok (Sx.gokTab (by decide) _ _) (Sx.repTab (by decide) (by kernel_rfl) _ _ hw) hpc)
    (Sx.by_case (.eq (.ar .and .u32 (.ar .shr .u32 (.var 0 0 4294967295) (.lit 12)) (.lit 7)) (.lit 1))
    (fun hpc => Sx.law_of_places (w0 := W) (Sx.ev_ok Sx.base_ok (by kernel_rfl) _) (by kernel_rfl) Tryd.func3 (show Tryd.f3.body = some Sx.lawBody from rfl) Sx.tabGlob_lt Sx.exc10_no Sx.places10_yes Sx.places10_paths Sx.start10_yes args_ok (Sx.gokTab (by decide) _ _) (Sx.repTab (by decide) (by kernel_rfl) _ _ hw) hpc)
    (Sx.by_case (.eq (.ar .and .u32 (.ar .shr .u32 (.var 0 0 4294967295) (.lit 12)) (.lit 7)) (.lit 2))
    (fun hpc => Sx.law_of_places (w0 := W) (Sx.ev_ok Sx.base_ok (by kernel_rfl) _) (by kernel_rfl) Tryd.func3 (show Tryd.f3.body = some Sx.lawBody from rfl) Sx.tabGlob_lt Sx.exc11_no Sx.places11_yes Sx.places11_paths Sx.start11_yes args_ok (Sx.gokTab (by decide) _ _) (Sx.repTab (by decide) (by kernel_rfl) _ _ hw) hpc)
    (Sx.by_case (.eq (.ar .and .u32 (.ar .shr .u32 (.var 0 0 4294967295) (.lit 12)) (.lit 7)) (.lit 3))
    (fun hpc => Sx.law_of_places (w0 := W) (Sx.ev_ok Sx.base_ok (by kernel_rfl) _) (by kernel_rfl) Tryd.func3 (show Tryd.f3.body = some Sx.lawBody from rfl) Sx.tabGlob_lt Sx.exc12_no Sx.places12_yes Sx.places12_paths Sx.start12_yes args_ok (Sx.gokTab (by decide) _ _) (Sx.repTab (by decide) (by kernel_rfl) _ _ hw) hpc)
    (fun hpc => Sx.law_of_places (w0 := W) (Sx.ev_ok Sx.base_ok (by kernel_rfl) _) (by kernel_rfl) Tryd.func3 (show Tryd.f3.body = some Sx.lawBody from rfl) Sx.tabGlob_lt Sx.exc13_no Sx.places13_yes Sx.places13_paths Sx.start13_yes args_ok (Sx.gokTab (by decide) _ _) (Sx.repTab (by decide) (by kernel_rfl) _ _ hw) hpc)))))
    (Sx.by_case (.eq (.ar .and .u32 (.var 0 0 4294967295) (.lit 127)) (.lit 35))
    (Sx.by_case (.eq (.ar .and .u32 (.ar .shr .u32 (.var 0 0 4294967295) (.lit 12)) (.lit 7)) (.lit 0))
    (fun hpc => Sx.law_of_places (w0 := W) (Sx.ev_ok Sx.base_ok (by kernel_rfl) _) (by kernel_rfl) Tryd.func3 (show Tryd.f3.body = some Sx.lawBody from rfl) Sx.tabGlob_lt Sx.exc14_no Sx.places14_yes Sx.places14_paths Sx.start14_yes args_ok (Sx.gokTab (by decide) _ _) (Sx.repTab (by decide) (by kernel_rfl) _ _ hw) hpc)
    (Sx.by_case (.eq (.ar .and .u32 (.ar .shr .u32 (.var 0 0 4294967295) (.lit 12)) (.lit 7)) (.lit 1))
    (fun hpc => Sx.law_of_places (w0 := W) (Sx.ev_ok Sx.base_ok (by kernel_rfl) _) (by kernel_rfl) Tryd.func3 (show Tryd.f3.body = some Sx.lawBody from rfl) Sx.tabGlob_lt Sx.exc15_no Sx.places15_yes Sx.places15_paths Sx.start15_yes args_ok (Sx.gokTab (by decide) _ _) (Sx.repTab (by decide) (by kernel_rfl) _ _ hw) hpc)
    (fun hpc => Sx.law_of_places (w0 := W) (Sx.ev_ok Sx.base_ok (by kernel_rfl) _) (by kernel_rfl) Tryd.func3 (show Tryd.f3.body = some Sx.lawBody from rfl) Sx.tabGlob_lt Sx.exc16_no Sx.places16_yes Sx.places16_paths Sx.start16_yes args_ok (Sx.gokTab (by decide) _ _) (Sx.repTab (by decide) (by kernel_rfl) _ _ hw) hpc)))
    (Sx.by_case (.eq (.ar .and .u32 (.var 0 0 4294967295) (.lit 127)) (.lit 19))
    (Sx.by_case (.eq (.ar .and .u32 (.ar .shr .u32 (.var 0 0 4294967295) (.lit 12)) (.lit 7)) (.lit 0))
    (fun hpc => Sx.law_of_places (w0 := W) (Sx.ev_ok Sx.base_ok (by kernel_rfl) _) (by kernel_rfl) Tryd.func3 (show Tryd.f3.body = some Sx.lawBody from rfl) Sx.tabGlob_lt Sx.exc17_no Sx.places17_yes Sx.places17_paths Sx.start17_yes args_ok (Sx.gokTab (by decide) _ _) (Sx.repTab (by decide) (by kernel_rfl) _ _ hw) hpc)
    (Sx.by_case (.eq (.ar .and .u32 (.ar .shr .u32 (.var 0 0 4294967295) (.lit 12)) (.lit 7)) (.lit 1))
    (fun hpc => Sx.law_of_places (w0 := W) (Sx.ev_ok Sx.base_ok (by kernel_rfl) _) (by kernel_rfl) Tryd.func3 (show Tryd.f3.body = some Sx.lawBody from rfl) Sx.tabGlob_lt Sx.exc18_no Sx.places18_yes Sx.places18_paths Sx.start18_yes args_ok (Sx.gokTab (by decide) _ _) (Sx.repTab (by decide) (by kernel_rfl) _ _ hw) hpc)
    (Sx.by_case (.eq (.ar .and .u32 (.ar .shr .u32 (.var 0 0 4294967295) (.lit 12)) (.lit 7)) (.lit 2))
    (fun hpc => Sx.law_of_places (w0 := W) (Sx.ev_ok Sx.base_ok (by kernel_rfl) _) (by kernel_rfl) Tryd.func3 (show Tryd.f3.body = some Sx.lawBody from rfl) Sx.tabGlob_lt Sx.exc19_no Sx.places19_yes Sx.places19_paths Sx.start19_yes args_ok (Sx.gokTab (by decide) _ _) (Sx.repTab (by decide) (by kernel_rfl) _ _ hw) hpc)
    (Sx.by_case (.eq (.ar .and .u32 (.ar .shr .u32 (.var 0 0 4294967295) (.lit 12)) (.lit 7)) (.lit 3))
    (fun hpc => Sx.law_of_places (w0 := W) (Sx.ev_ok Sx.base_ok (by kernel_rfl) _) (by kernel_rfl) Tryd.func3 (show Tryd.f3.body = some Sx.lawBody from rfl) Sx.tabGlob_lt Sx.exc20_no Sx.places20_yes Sx.places20_paths Sx.start20_yes args_ok (Sx.gokTab (by decide) _ _) (Sx.repTab (by decide) (by kernel_rfl) _ _ hw) hpc)
    (Sx.by_case (.eq (.ar .and .u32 (.ar .shr .u32 (.var 0 0 4294967295) (.lit 12)) (.lit 7)) (.lit 4))
    (fun hpc => Sx.law_of_places (w0 := W) (Sx.ev_ok Sx.base_ok (by kernel_rfl) _) (by kernel_rfl) Tryd.func3 (show Tryd.f3.body = some Sx.lawBody from rfl) Sx.tabGlob_lt Sx.exc21_no Sx.places21_yes Sx.places21_paths Sx.start21_yes args_ok (Sx.gokTab (by decide) _ _) (Sx.repTab (by decide) (by kernel_rfl) _ _ hw) hpc)
    (fun hpc => Sx.law_of_places (w0 := W) (Sx.ev_ok Sx.base_ok (by kernel_rfl) _) (by kernel_rfl) Tryd.func3 (show Tryd.f3.body = some Sx.lawBody from rfl) Sx.tabGlob_lt Sx.exc22_no Sx.places22_yes Sx.places22_paths Sx.start22_yes args_ok (Sx.gokTab (by decide) _ _) (Sx.repTab (by decide) (by kernel_rfl) _ _ hw) hpc))))))
    (Sx.by_case (.eq (.ar .and .u32 (.var 0 0 4294967295) (.lit 127)) (.lit 51))
    (Sx.by_case (.eq (.ar .shr .u32 (.var 0 0 4294967295) (.lit 25)) (.lit 0))
    (fun hpc => Sx.law_of_places (w0 := W) (Sx.ev_ok Sx.base_ok (by kernel_rfl) _) (by kernel_rfl) Tryd.func3 (show Tryd.f3.body = some Sx.lawBody from rfl) Sx.tabGlob_lt Sx.exc23_no Sx.places23_yes Sx.places23_paths Sx.start23_yes args_ok (Sx.gokTab (by decide) _ _) (Sx.repTab (by decide) (by kernel_rfl) _ _ hw) hpc)
    (Sx.by_case (.eq (.ar .shr .u32 (.var 0 0 4294967295) (.lit 25)) (.lit 1))
    (fun hpc => Sx.law_of_places (w0 := W) (Sx.ev_ok Sx.base_ok (by kernel_rfl) _) (by kernel_rfl) Tryd.func3 (show Tryd.f3.body = some Sx.lawBody from rfl) Sx.tabGlob_lt Sx.exc24_no Sx.places24_yes Sx.places24_paths Sx.start24_yes args_ok (Sx.gokTab (by decide) _ _) (Sx.repTab (by decide) (by kernel_rfl) _ _ hw) hpc)
    (Sx.by_case (.eq (.ar .shr .u32 (.var 0 0 4294967295) (.lit 25)) (.lit 32))
    (fun hpc => Sx.law_of_places (w0 := W) (Sx.ev_ok Sx.base_ok (by kernel_rfl) _) (by kernel_rfl) Tryd.func3 (show Tryd.f3.body = some Sx.lawBody from rfl) Sx.tabGlob_lt Sx.exc25_no Sx.places25_yes Sx.places25_paths Sx.start25_yes args_ok (Sx.gokTab (by decide) _ _) (Sx.repTab (by decide) (by kernel_rfl) _ _ hw) hpc)
    (fun hpc => Sx.law_of_places (w0 := W) (Sx.ev_ok Sx.base_ok (by kernel_rfl) _) (by kernel_rfl) Tryd.func3 (show Tryd.f3.body = some Sx.lawBody from rfl) Sx.tabGlob_lt Sx.exc26_no Sx.places26_yes Sx.places26_paths Sx.start26_yes args_ok (Sx.gokTab (by decide) _ _) (Sx.repTab (by decide) (by kernel_rfl) _ _ hw) hpc))))
    (Sx.by_case (.eq (.ar .and .u32 (.var 0 0 4294967295) (.lit 127)) (.lit 27))
    (Sx.by_case (.eq (.ar .and .u32 (.ar .shr .u32 (.var 0 0 4294967295) (.lit 12)) (.lit 7)) (.lit 0))
    (fun hpc => Sx.law_of_places (w0 := W) (Sx.ev_ok Sx.base_ok (by kernel_rfl) _) (by kernel_rfl) Tryd.func3 (show Tryd.f3.body = some Sx.lawBody from rfl) Sx.tabGlob_lt Sx.exc27_no Sx.places27_yes Sx.places27_paths Sx.start27_yes args_ok (Sx.gokTab (by decide) _ _) (Sx.repTab (by decide) (by kernel_rfl) _ _ hw) hpc)
    (Sx.by_case (.eq (.ar .shr .u32 (.var 0 0 4294967295) (.lit 25)) (.lit 0))
    (fun hpc => Sx.law_of_places (w0 := W) (Sx.ev_ok Sx.base_ok (by kernel_rfl) _) (by kernel_rfl) Tryd.func3 (show Tryd.f3.body = some Sx.lawBody from rfl) Sx.tabGlob_lt Sx.exc28_no Sx.places28_yes Sx.places28_paths Sx.start28_yes args_ok (Sx.gokTab (by decide) _ _) (Sx.repTab (by decide) (by kernel_rfl) _ _ hw) hpc)
    (fun hpc => Sx.law_of_places (w0 := W) (Sx.ev_ok Sx.base_ok (by kernel_rfl) _) (by kernel_rfl) Tryd.func3 (show Tryd.f3.body = some Sx.lawBody from rfl) Sx.tabGlob_lt Sx.exc29_no Sx.places29_yes Sx.places29_paths Sx.start29_yes args_ok (Sx.gokTab (by decide) _ _) (Sx.repTab (by decide) (by kernel_rfl) _ _ hw) hpc)))
    (Sx.by_case (.eq (.ar .and .u32 (.var 0 0 4294967295) (.lit 127)) (.lit 59))
    (Sx.by_case (.eq (.ar .shr .u32 (.var 0 0 4294967295) (.lit 25)) (.lit 0))
    (fun hpc => Sx.law_of_places (w0 := W) (Sx.ev_ok Sx.base_ok (by kernel_rfl) _) (by kernel_rfl) Tryd.func3 (show Tryd.f3.body = some Sx.lawBody from rfl) Sx.tabGlob_lt Sx.exc30_no Sx.places30_yes Sx.places30_paths Sx.start30_yes args_ok (Sx.gokTab (by decide) _ _) (Sx.repTab (by decide) (by kernel_rfl) _ _ hw) hpc)
    (Sx.by_case (.eq (.ar .shr .u32 (.var 0 0 4294967295) (.lit 25)) (.lit 1))
    (fun hpc => Sx.law_of_places (w0 := W) (Sx.ev_ok Sx.base_ok (by kernel_rfl) _) (by kernel_rfl) Tryd.func3 (show Tryd.f3.body = some Sx.lawBody from rfl) Sx.tabGlob_lt Sx.exc31_no Sx.places31_yes Sx.places31_paths Sx.start31_yes args_ok (Sx.gokTab (by decide) _ _) (Sx.repTab (by decide) (by kernel_rfl) _ _ hw) hpc)
    (Sx.by_case (.eq (.ar .shr .u32 (.var 0 0 4294967295) (.lit 25)) (.lit 32))
    (fun hpc => Sx.law_of_places (w0 := W) (Sx.ev_ok Sx.base_ok (by kernel_rfl) _) (by kernel_rfl) Tryd.func3 (show Tryd.f3.body = some Sx.lawBody from rfl) Sx.tabGlob_lt Sx.exc32_no Sx.places32_yes Sx.places32_paths Sx.start32_yes args_ok (Sx.gokTab (by decide) _ _) (Sx.repTab (by decide) (by kernel_rfl) _ _ hw) hpc)
    (fun hpc => Sx.law_of_places (w0 := W) (Sx.ev_ok Sx.base_ok (by kernel_rfl) _) (by kernel_rfl) Tryd.func3 (show Tryd.f3.body = some Sx.lawBody from rfl) Sx.tabGlob_lt Sx.exc33_no Sx.places33_yes Sx.places33_paths Sx.start33_yes args_ok (Sx.gokTab (by decide) _ _) (Sx.repTab (by decide) (by kernel_rfl) _ _ hw) hpc))))
    (Sx.by_case (.eq (.ar .and .u32 (.var 0 0 4294967295) (.lit 127)) (.lit 15))
    (fun hpc => Sx.law_of_places (w0 := W) (Sx.ev_ok Sx.base_ok (by kernel_rfl) _) (by kernel_rfl) Tryd.func3 (show Tryd.f3.body = some Sx.lawBody from rfl) Sx.tabGlob_lt Sx.exc34_no Sx.places34_yes Sx.places34_paths Sx.start34_yes args_ok (Sx.gokTab (by decide) _ _) (Sx.repTab (by decide) (by kernel_rfl) _ _ hw) hpc)
    (Sx.by_case (.eq (.ar .and .u32 (.var 0 0 4294967295) (.lit 127)) (.lit 115))
    (Sx.by_case (.eq (.var 0 0 4294967295) (.lit 115))
    (fun hpc => Sx.law_of_places (w0 := W) (Sx.ev_ok Sx.base_ok (by kernel_rfl) _) (by kernel_rfl) Tryd.func3 (show Tryd.f3.body = some Sx.lawBody from rfl) Sx.tabGlob_lt Sx.exc35_no Sx.places35_yes Sx.places35_paths Sx.start35_yes args_ok (Sx.gokTab (by decide) _ _) (Sx.repTab (by decide) (by kernel_rfl) _ _ hw) hpc)
    (Sx.by_case (.eq (.var 0 0 4294967295) (.lit 1048691))
    (fun hpc => Sx.law_of_places (w0 := W) (Sx.ev_ok Sx.base_ok (by kernel_rfl) _) (by kernel_rfl) Tryd.func3 (show Tryd.f3.body = some Sx.lawBody from rfl) Sx.tabGlob_lt Sx.exc36_no Sx.places36_yes Sx.places36_paths Sx.start36_yes args_ok (Sx.gokTab (by decide) _ _) (Sx.repTab (by decide) (by kernel_rfl) _ _ hw) hpc)
    (Sx.by_case (.eq (.var 0 0 4294967295) (.lit 270532723))
    (fun hpc => Sx.law_of_places (w0 := W) (Sx.ev_ok Sx.base_ok (by kernel_rfl) _) (by kernel_rfl) Tryd.func3 (show Tryd.f3.body = some Sx.lawBody from rfl) Sx.tabGlob_lt Sx.exc37_no Sx.places37_yes Sx.places37_paths Sx.start37_yes args_ok (Sx.gokTab (by decide) _ _) (Sx.repTab (by decide) (by kernel_rfl) _ _ hw) hpc)
    (Sx.by_case (.eq (.var 0 0 4294967295) (.lit 273678451))
    (fun hpc => Sx.law_of_places (w0 := W) (Sx.ev_ok Sx.base_ok (by kernel_rfl) _) (by kernel_rfl) Tryd.func3 (show Tryd.f3.body = some Sx.lawBody from rfl) Sx.tabGlob_lt Sx.exc38_no Sx.places38_yes Sx.places38_paths Sx.start38_yes args_ok (Sx.gokTab (by decide) _ _) (Sx.repTab (by decide) (by kernel_rfl) _ _ hw) hpc)
    (Sx.by_case (.eq (.var 0 0 4294967295) (.lit 807403635))
    (fun hpc => Sx.law_of_places (w0 := W) (Sx.ev_ok Sx.base_ok (by kernel_rfl) _) (by kernel_rfl) Tryd.func3 (show Tryd.f3.body = some Sx.lawBody from rfl) Sx.tabGlob_lt Sx.exc39_no Sx.places39_yes Sx.places39_paths Sx.start39_yes args_ok (Sx.gokTab (by decide) _ _) (Sx.repTab (by decide) (by kernel_rfl) _ _ hw) hpc)
    (Sx.by_case (.eq (.ar .and .u32 (.ar .shr .u32 (.var 0 0 4294967295) (.lit 12)) (.lit 7)) (.lit 0))
    (fun hpc => Sx.law_of_places (w0 := W) (Sx.ev_ok Sx.base_ok (by kernel_rfl) _) (by kernel_rfl) Tryd.func3 (show Tryd.f3.body = some Sx.lawBody from rfl) Sx.tabGlob_lt Sx.exc40_no Sx.places40_yes Sx.places40_paths Sx.start40_yes args_ok (Sx.gokTab (by decide) _ _) (Sx.repTab (by decide) (by kernel_rfl) _ _ hw) hpc)
    (fun hpc => Sx.law_of_places (w0 := W) (Sx.ev_ok Sx.base_ok (by kernel_rfl) _) (by kernel_rfl) Tryd.func3 (show Tryd.f3.body = some Sx.lawBody from rfl) Sx.tabGlob_lt Sx.exc41_no Sx.places41_yes Sx.places41_paths Sx.start41_yes args_ok (Sx.gokTab (by decide) _ _) (Sx.repTab (by decide) (by kernel_rfl) _ _ hw) hpc)))))))
    (Sx.by_case (.eq (.ar .and .u32 (.var 0 0 4294967295) (.lit 127)) (.lit 47))
    (Sx.by_case (.eq (.ar .shr .u32 (.var 0 0 4294967295) (.lit 27)) (.lit 0))
    (fun hpc => Sx.law_of_places (w0 := W) (Sx.ev_ok Sx.base_ok (by kernel_rfl) _) (by kernel_rfl) Tryd.func3 (show Tryd.f3.body = some Sx.lawBody from rfl) Sx.tabGlob_lt Sx.exc42_no Sx.places42_yes Sx.places42_paths Sx.start42_yes args_ok (Sx.gokTab (by decide) _ _) (Sx.repTab (by decide) (by kernel_rfl) _ _ hw) hpc)
    (Sx.by_case (.eq (.ar .shr .u32 (.var 0 0 4294967295) (.lit 27)) (.lit 1))
    (fun hpc => Sx.law_of_places (w0 := W) (Sx.ev_ok Sx.base_ok (by kernel_rfl) _) (by kernel_rfl) Tryd.func3 (show Tryd.f3.body = some Sx.lawBody from rfl) Sx.tabGlob_lt Sx.exc43_no Sx.places43_yes Sx.places43_paths Sx.start43_yes args_ok (Sx.gokTab (by decide) _ _) (Sx.repTab (by decide) (by kernel_rfl) _ _ hw) hpc)
    (Sx.by_case (.eq (.ar .shr .u32 (.var 0 0 4294967295) (.lit 27)) (.lit 2))
    (fun hpc => Sx.law_of_places (w0 := W) (Sx.ev_ok Sx.base_ok (by kernel_rfl) _) (by kernel_rfl) Tryd.func3 (show Tryd.f3.body = some Sx.lawBody from rfl) Sx.tabGlob_lt Sx.exc44_no Sx.places44_yes Sx.places44_paths Sx.start44_yes args_ok (Sx.gokTab (by decide) _ _) (Sx.repTab (by decide) (by kernel_rfl) _ _ hw) hpc)
    (Sx.by_case (.eq (.ar .shr .u32 (.var 0 0 4294967295) (.lit 27)) (.lit 3))
    (fun hpc => Sx.law_of_places (w0 := W) (Sx.ev_ok Sx.base_ok (by kernel_rfl) _) (by kernel_rfl) Tryd.func3 (show Tryd.f3.body = some Sx.lawBody from rfl) Sx.tabGlob_lt Sx.exc45_no Sx.places45_yes Sx.places45_paths Sx.start45_yes args_ok (Sx.gokTab (by decide) _ _) (Sx.repTab (by decide) (by kernel_rfl) _ _ hw) hpc)
    (Sx.by_case (.eq (.ar .shr .u32 (.var 0 0 4294967295) (.lit 27)) (.lit 4))
    (fun hpc => Sx.law_of_places (w0 := W) (Sx.ev_ok Sx.base_ok (by kernel_rfl) _) (by kernel_rfl) Tryd.func3 (show Tryd.f3.body = some Sx.lawBody from rfl) Sx.tabGlob_lt Sx.exc46_no Sx.places46_yes Sx.places46_paths Sx.start46_yes args_ok (Sx.gokTab (by decide) _ _) (Sx.repTab (by decide) (by kernel_rfl) _ _ hw) hpc)
    (Sx.by_case (.eq (.ar .shr .u32 (.var 0 0 4294967295) (.lit 27)) (.lit 5))
    (fun hpc => Sx.law_of_places (w0 := W) (Sx.ev_ok Sx.base_ok (by kernel_rfl) _) (by kernel_rfl) Tryd.func3 (show Tryd.f3.body = some Sx.lawBody from rfl) Sx.tabGlob_lt Sx.exc47_no Sx.places47_yes Sx.places47_paths Sx.start47_yes args_ok (Sx.gokTab (by decide) _ _) (Sx.repTab (by decide) (by kernel_rfl) _ _ hw) hpc)
    (Sx.by_case (.eq (.ar .shr .u32 (.var 0 0 4294967295) (.lit 27)) (.lit 6))
    (fun hpc => Sx.law_of_places (w0 := W) (Sx.ev_ok Sx.base_ok (by kernel_rfl) _) (by kernel_rfl) Tryd.func3 (show Tryd.f3.body = some Sx.lawBody from rfl) Sx.tabGlob_lt Sx.exc48_no Sx.places48_yes Sx.places48_paths Sx.start48_yes args_ok (Sx.gokTab (by decide) _ _) (Sx.repTab (by decide) (by kernel_rfl) _ _ hw) hpc)
    (Sx.by_case (.eq (.ar .shr .u32 (.var 0 0 4294967295) (.lit 27)) (.lit 7))
    (fun hpc => Sx.law_of_places (w0 := W) (Sx.ev_ok Sx.base_ok (by kernel_rfl) _) (by kernel_rfl) Tryd.func3 (show Tryd.f3.body = some Sx.lawBody from rfl) Sx.tabGlob_lt Sx.exc49_no Sx.places49_yes Sx.places49_paths Sx.start49_yes args_ok (Sx.gokTab (by decide) _ _) (Sx.repTab (by decide) (by kernel_rfl) _ _ hw) hpc)
    (Sx.by_case (.eq (.ar .shr .u32 (.var 0 0 4294967295) (.lit 27)) (.lit 8))
    (fun hpc => Sx.law_of_places (w0 := W) (Sx.ev_ok Sx.base_ok (by kernel_rfl) _) (by kernel_rfl) Tryd.func3 (show Tryd.f3.body = some Sx.lawBody from rfl) Sx.tabGlob_lt Sx.exc50_no Sx.places50_yes Sx.places50_paths Sx.start50_yes args_ok (Sx.gokTab (by decide) _ _) (Sx.repTab (by decide) (by kernel_rfl) _ _ hw) hpc)
    (Sx.by_case (.eq (.ar .shr .u32 (.var 0 0 4294967295) (.lit 27)) (.lit 9))
    (fun hpc => Sx.law_of_places (w0 := W) (Sx.ev_ok Sx.base_ok (by kernel_rfl) _) (by kernel_rfl) Tryd.func3 (show Tryd.f3.body = some Sx.lawBody from rfl) Sx.tabGlob_lt Sx.exc51_no Sx.places51_yes Sx.places51_paths Sx.start51_yes args_ok (Sx.gokTab (by decide) _ _) (Sx.repTab (by decide) (by kernel_rfl) _ _ hw) hpc)
    (Sx.by_case (.eq (.ar .shr .u32 (.var 0 0 4294967295) (.lit 27)) (.lit 10))
    (fun hpc => Sx.law_of_places (w0 := W) (Sx.ev_ok Sx.base_ok (by kernel_rfl) _) (by kernel_rfl) Tryd.func3 (show Tryd.f3.body = some Sx.lawBody from rfl) Sx.tabGlob_lt Sx.exc52_no Sx.places52_yes Sx.places52_paths Sx.start52_yes args_ok (Sx.gokTab (by decide) _ _) (Sx.repTab (by decide) (by kernel_rfl) _ _ hw) hpc)
    (Sx.by_case (.eq (.ar .shr .u32 (.var 0 0 4294967295) (.lit 27)) (.lit 11))
    (fun hpc => Sx.law_of_places (w0 := W) (Sx.ev_ok Sx.base_ok (by kernel_rfl) _) (by kernel_rfl) Tryd.func3 (show Tryd.f3.body = some Sx.lawBody from rfl) Sx.tabGlob_lt Sx.exc53_no Sx.places53_yes Sx.places53_paths Sx.start53_yes args_ok (Sx.gokTab (by decide) _ _) (Sx.repTab (by decide) (by kernel_rfl) _ _ hw) hpc)
    (Sx.by_case (.eq (.ar .shr .u32 (.var 0 0 4294967295) (.lit 27)) (.lit 12))
    (fun hpc => Sx.law_of_places (w0 := W) (Sx.ev_ok Sx.base_ok (by kernel_rfl) _) (by kernel_rfl) Tryd.func3 (show Tryd.f3.body = some Sx.lawBody from rfl) Sx.tabGlob_lt Sx.exc54_no Sx.places54_yes Sx.places54_paths Sx.start54_yes args_ok (Sx.gokTab (by decide) _ _) (Sx.repTab (by decide) (by kernel_rfl) _ _ hw) hpc)
    (Sx.by_case (.eq (.ar .shr .u32 (.var 0 0 4294967295) (.lit 27)) (.lit 13))
    (fun hpc => Sx.law_of_places (w0 := W) (Sx.ev_ok Sx.base_ok (by kernel_rfl) _) (by kernel_rfl) Tryd.func3 (show Tryd.f3.body = some Sx.lawBody from rfl) Sx.tabGlob_lt Sx.exc55_no Sx.places55_yes Sx.places55_paths Sx.start55_yes args_ok (Sx.gokTab (by decide) _ _) (Sx.repTab (by decide) (by kernel_rfl) _ _ hw) hpc)
    (Sx.by_case (.eq (.ar .shr .u32 (.var 0 0 4294967295) (.lit 27)) (.lit 14))
    (fun hpc => Sx.law_of_places (w0 := W) (Sx.ev_ok Sx.base_ok (by kernel_rfl) _) (by kernel_rfl) Tryd.func3 (show Tryd.f3.body = some Sx.lawBody from rfl) Sx.tabGlob_lt Sx.exc56_no Sx.places56_yes Sx.places56_paths Sx.start56_yes args_ok (Sx.gokTab (by decide) _ _) (Sx.repTab (by decide) (by kernel_rfl) _ _ hw) hpc)
    (Sx.by_case (.eq (.ar .shr .u32 (.var 0 0 4294967295) (.lit 27)) (.lit 15))
    (fun hpc => Sx.law_of_places (w0 := W) (Sx.ev_ok Sx.base_ok (by kernel_rfl) _) (by kernel_rfl) Tryd.func3 (show Tryd.f3.body = some Sx.lawBody from rfl) Sx.tabGlob_lt Sx.exc57_no Sx.places57_yes Sx.places57_paths Sx.start57_yes args_ok (Sx.gokTab (by decide) _ _) (Sx.repTab (by decide) (by kernel_rfl) _ _ hw) hpc)
    (Sx.by_case (.eq (.ar .shr .u32 (.var 0 0 4294967295) (.lit 27)) (.lit 16))
    (fun hpc => Sx.law_of_places (w0 := W) (Sx.ev_ok Sx.base_ok (by kernel_rfl) _) (by kernel_rfl) Tryd.func3 (show Tryd.f3.body = some Sx.lawBody from rfl) Sx.tabGlob_lt Sx.exc58_no Sx.places58_yes Sx.places58_paths Sx.start58_yes args_ok (Sx.gokTab (by decide) _ _) (Sx.repTab (by decide) (by kernel_rfl) _ _ hw) hpc)
    (Sx.by_case (.eq (.ar .shr .u32 (.var 0 0 4294967295) (.lit 27)) (.lit 17))
    (fun hpc => Sx.law_of_places (w0 := W) (Sx.ev_ok Sx.base_ok (by kernel_rfl) _) (by kernel_rfl) Tryd.func3 (show Tryd.f3.body = some Sx.lawBody from rfl) Sx.tabGlob_lt Sx.exc59_no Sx.places59_yes Sx.places59_paths Sx.start59_yes args_ok (Sx.gokTab (by decide) _ _) (Sx.repTab (by decide) (by kernel_rfl) _ _ hw) hpc)
    (Sx.by_case (.eq (.ar .shr .u32 (.var 0 0 4294967295) (.lit 27)) (.lit 18))
    (fun hpc => Sx.law_of_places (w0 := W) (Sx.ev_ok Sx.base_ok (by kernel_rfl) _) (by kernel_rfl) Tryd.func3 (show Tryd.f3.body = some Sx.lawBody from rfl) Sx.tabGlob_lt Sx.exc60_no Sx.places60_yes Sx.places60_paths Sx.start60_yes args_ok (Sx.gokTab (by decide) _ _) (Sx.repTab (by decide) (by kernel_rfl) _ _ hw) hpc)
    (Sx.by_case (.eq (.ar .shr .u32 (.var 0 0 4294967295) (.lit 27)) (.lit 19))
    (fun hpc => Sx.law_of_places (w0 := W) (Sx.ev_ok Sx.base_ok (by kernel_rfl) _) (by kernel_rfl) Tryd.func3 (show Tryd.f3.body = some Sx.lawBody from rfl) Sx.tabGlob_lt Sx.exc61_no Sx.places61_yes Sx.places61_paths Sx.start61_yes args_ok (Sx.gokTab (by decide) _ _) (Sx.repTab (by decide) (by kernel_rfl) _ _ hw) hpc)
    (Sx.by_case (.eq (.ar .shr .u32 (.var 0 0 4294967295) (.lit 27)) (.lit 20))
    (fun hpc => Sx.law_of_places (w0 := W) (Sx.ev_ok Sx.base_ok (by kernel_rfl) _) (by kernel_rfl) Tryd.func3 (show Tryd.f3.body = some Sx.lawBody from rfl) Sx.tabGlob_lt Sx.exc62_no Sx.places62_yes Sx.places62_paths Sx.start62_yes args_ok (Sx.gokTab (by decide) _ _) (Sx.repTab (by decide) (by kernel_rfl) _ _ hw) hpc)
    (Sx.by_case (.eq (.ar .shr .u32 (.var 0 0 4294967295) (.lit 27)) (.lit 21))
    (fun hpc => Sx.law_of_places (w0 := W) (Sx.ev_ok Sx.base_ok (by kernel_rfl) _) (by kernel_rfl) Tryd.func3 (show Tryd.f3.body = some Sx.lawBody from rfl) Sx.tabGlob_lt Sx.exc63_no Sx.places63_yes Sx.places63_paths Sx.start63_yes args_ok (Sx.gokTab (by decide) _ _) (Sx.repTab (by decide) (by kernel_rfl) _ _ hw) hpc)
    (Sx.by_case (.eq (.ar .shr .u32 (.var 0 0 4294967295) (.lit 27)) (.lit 22))
    (fun hpc => Sx.law_of_places (w0 := W) (Sx.ev_ok Sx.base_ok (by kernel_rfl) _) (by kernel_rfl) Tryd.func3 (show Tryd.f3.body = some Sx.lawBody from rfl) Sx.tabGlob_lt Sx.exc64_no Sx.places64_yes Sx.places64_paths Sx.start64_yes args_ok (Sx.gokTab (by decide) _ _) (Sx.repTab (by decide) (by kernel_rfl) _ _ hw) hpc)
    (Sx.by_case (.eq (.ar .shr .u32 (.var 0 0 4294967295) (.lit 27)) (.lit 23))
    (fun hpc => Sx.law_of_places (w0 := W) (Sx.ev_ok Sx.base_ok (by kernel_rfl) _) (by kernel_rfl) Tryd.func3 (show Tryd.f3.body = some Sx.lawBody from rfl) Sx.tabGlob_lt Sx.exc65_no Sx.places65_yes Sx.places65_paths Sx.start65_yes args_ok (Sx.gokTab (by decide) _ _) (Sx.repTab (by decide) (by kernel_rfl) _ _ hw) hpc)
    (Sx.by_case (.eq (.ar .shr .u32 (.var 0 0 4294967295) (.lit 27)) (.lit 24))
    (fun hpc => Sx.law_of_places (w0 := W) (Sx.ev_ok Sx.base_ok (by kernel_rfl) _) (by kernel_rfl) Tryd.func3 (show Tryd.f3.body = some Sx.lawBody from rfl) Sx.tabGlob_lt Sx.exc66_no Sx.places66_yes Sx.places66_paths Sx.start66_yes args_ok (Sx.gokTab (by decide) _ _) (Sx.repTab (by decide) (by kernel_rfl) _ _ hw) hpc)
    (Sx.by_case (.eq (.ar .shr .u32 (.var 0 0 4294967295) (.lit 27)) (.lit 25))
    (fun hpc => Sx.law_of_places (w0 := W) (Sx.ev_ok Sx.base_ok (by kernel_rfl) _) (by kernel_rfl) Tryd.func3 (show Tryd.f3.body = some Sx.lawBody from rfl) Sx.tabGlob_lt Sx.exc67_no Sx.places67_yes Sx.places67_paths Sx.start67_yes args_ok (Sx.gokTab (by decide) _ _) (Sx.repTab (by decide) (by kernel_rfl) _ _ hw) hpc)
    (fun hpc => Sx.law_of_places (w0 := W) (Sx.ev_ok Sx.base_ok (by kernel_rfl) _) (by kernel_rfl) Tryd.func3 (show Tryd.f3.body = some Sx.lawBody from rfl) Sx.tabGlob_lt Sx.exc68_no Sx.places68_yes Sx.places68_paths Sx.start68_yes args_ok (Sx.gokTab (by decide) _ _) (Sx.repTab (by decide) (by kernel_rfl) _ _ hw) hpc)))))))))))))))))))))))))))
    (fun hpc => Sx.law_of_places (w0 := W) (Sx.ev_ok Sx.base_ok (by kernel_rfl) _) (by kernel_rfl) Tryd.func3 (show Tryd.f3.body = some Sx.lawBody from rfl) Sx.tabGlob_lt Sx.exc69_no Sx.places69_yes Sx.places69_paths Sx.start69_yes args_ok (Sx.gokTab (by decide) _ _) (Sx.repTab (by decide) (by kernel_rfl) _ _ hw) hpc))))))))))))))) (fun c t h => by cases h)

/-- What start-up laid is what the reader was told. -/
theorem tabs_ok {w : World} (h : laidMetH Tryd.prog Rows.instDecodesRow.laid w) : Sx.TabsOk tabs w := by
  rw [MakeChecks.laidMetH_plain _ _ _ (by kernel_rfl)] at h
  intro t ht
  simp only [tabs, List.mem_cons, List.not_mem_nil, or_false] at ht
  rcases ht with rfl | rfl | rfl | rfl | rfl | rfl | rfl | rfl | rfl | rfl | rfl | rfl | rfl | rfl | rfl | rfl | rfl
  · exact Sx.tab_of_laid h (name := "almonry/inst.branches") (by simp [Rows.instDecodesRow, Rows.laid_almonry_inst_branches]) (by kernel_rfl) rfl rfl rfl (by kernel_rfl) (by kernel_rfl)
  · exact Sx.tab_of_laid h (name := "almonry/inst.loads") (by simp [Rows.instDecodesRow, Rows.laid_almonry_inst_loads]) (by kernel_rfl) rfl rfl rfl (by kernel_rfl) (by kernel_rfl)
  · exact Sx.tab_of_laid h (name := "almonry/inst.stores") (by simp [Rows.instDecodesRow, Rows.laid_almonry_inst_stores]) (by kernel_rfl) rfl rfl rfl (by kernel_rfl) (by kernel_rfl)
  · exact Sx.tab_of_laid h (name := "almonry/inst.numbered") (by simp [Rows.instDecodesRow, Rows.laid_almonry_inst_numbered]) (by kernel_rfl) rfl rfl rfl (by kernel_rfl) (by kernel_rfl)
  · exact Sx.tab_of_laid h (name := "almonry/inst.shifts") (by simp [Rows.instDecodesRow, Rows.laid_almonry_inst_shifts]) (by kernel_rfl) rfl rfl rfl (by kernel_rfl) (by kernel_rfl)
  · exact Sx.tab_of_laid h (name := "almonry/inst.shiftsSigned") (by simp [Rows.instDecodesRow, Rows.laid_almonry_inst_shiftsSigned]) (by kernel_rfl) rfl rfl rfl (by kernel_rfl) (by kernel_rfl)
  · exact Sx.tab_of_laid h (name := "almonry/inst.registers") (by simp [Rows.instDecodesRow, Rows.laid_almonry_inst_registers]) (by kernel_rfl) rfl rfl rfl (by kernel_rfl) (by kernel_rfl)
  · exact Sx.tab_of_laid h (name := "almonry/inst.contrary") (by simp [Rows.instDecodesRow, Rows.laid_almonry_inst_contrary]) (by kernel_rfl) rfl rfl rfl (by kernel_rfl) (by kernel_rfl)
  · exact Sx.tab_of_laid h (name := "almonry/inst.products") (by simp [Rows.instDecodesRow, Rows.laid_almonry_inst_products]) (by kernel_rfl) rfl rfl rfl (by kernel_rfl) (by kernel_rfl)
  · exact Sx.tab_of_laid h (name := "almonry/inst.wordShifts") (by simp [Rows.instDecodesRow, Rows.laid_almonry_inst_wordShifts]) (by kernel_rfl) rfl rfl rfl (by kernel_rfl) (by kernel_rfl)
  · exact Sx.tab_of_laid h (name := "almonry/inst.wordSigned") (by simp [Rows.instDecodesRow, Rows.laid_almonry_inst_wordSigned]) (by kernel_rfl) rfl rfl rfl (by kernel_rfl) (by kernel_rfl)
  · exact Sx.tab_of_laid h (name := "almonry/inst.words") (by simp [Rows.instDecodesRow, Rows.laid_almonry_inst_words]) (by kernel_rfl) rfl rfl rfl (by kernel_rfl) (by kernel_rfl)
  · exact Sx.tab_of_laid h (name := "almonry/inst.wordsContrary") (by simp [Rows.instDecodesRow, Rows.laid_almonry_inst_wordsContrary]) (by kernel_rfl) rfl rfl rfl (by kernel_rfl) (by kernel_rfl)
  · exact Sx.tab_of_laid h (name := "almonry/inst.wordProducts") (by simp [Rows.instDecodesRow, Rows.laid_almonry_inst_wordProducts]) (by kernel_rfl) rfl rfl rfl (by kernel_rfl) (by kernel_rfl)
  · exact Sx.tab_of_laid h (name := "almonry/inst.fences") (by simp [Rows.instDecodesRow, Rows.laid_almonry_inst_fences]) (by kernel_rfl) rfl rfl rfl (by kernel_rfl) (by kernel_rfl)
  · exact Sx.tab_of_laid h (name := "almonry/inst.csrs") (by simp [Rows.instDecodesRow, Rows.laid_almonry_inst_csrs]) (by kernel_rfl) rfl rfl rfl (by kernel_rfl) (by kernel_rfl)
  · exact Sx.tab_of_laid h (name := "almonry/inst.atomics") (by simp [Rows.instDecodesRow, Rows.laid_almonry_inst_atomics]) (by kernel_rfl) rfl rfl rfl (by kernel_rfl) (by kernel_rfl)


/-- The heap that start-up leaves meets the condition. -/
theorem door_met (H : Type) (os : Os) (args : Array Value) : laidMetH Tryd.prog Rows.instDecodesRow.laid ((World.doorLaid Tryd.prog 400 os).forCall (fun _ _ => 0) ⟨#[], args, []⟩).memory :=
  laidMetH_of_parts3 (fuel := 8) (laidMet_of_run' 8 (by kernel_rfl) (by kernel_rfl)) (by kernel_rfl) (by kernel_rfl)

set_option maxRecDepth 100000 in
theorem law_lifted (os : Os) (started : os.Started) (H : Type) (enc : TypeId × Value → H) :
    ReturnsInHanded {} Tryd.checked os 3 .any (fun w args => (Rows.instDecodesSpec.pre enc Tryd.prog Tryd.f3 [] false w args ∧ laidMetH Tryd.prog Rows.instDecodesRow.laid w) ∧ sizedMet enc Tryd.prog Tryd.f3 (OpenSpec.ofChange Rows.instDecodesSpec) false w args)
      (Rows.instDecodesSpec.post enc Tryd.prog Tryd.f3 false true false false) := by
  refine returnsInHanded_of_change_and (C := Tryd.checked) (X := fun w _ => laidMetH Tryd.prog Rows.instDecodesRow.laid w) (fun _ _ _ hh h => h.of_heap hh) Tryd.own started (by kernel_rfl) Tryd.func3
    (ChangeSpec.witness_shaped (enc := enc) (C := Tryd.checked) (os := os) (X := fun w _ => laidMetH Tryd.prog Rows.instDecodesRow.laid w) false (World.doorLaid Tryd.prog 400 os) #[.int .u32 0] 8 rfl (World.shaped_of_RefB (by kernel_rfl) (by kernel_rfl)) (by kernel_rfl) (by kernel_rfl) (by kernel_rfl) (door_met H os _)) ?_
  intro W base args ds gs before hval0 hW _ _ hL _
  have hW' := hW
  obtain ⟨p, q, hA0, hV, rfl, hfz, hnd⟩ := hW
  have hA : DataW.TrodAll enc Tryd.prog W 0 (fun _ => true) true Tryd.f3.params.toList args.toList ds p := hA0
  have hval : ∀ (j : Nat) t v, Tryd.f3.params[j]? = some t → args[j]? = some v → Value.okWide Tryd.prog W .any base t v := hval0
  obtain ⟨rfl, rfl⟩ := trodVars_none hV
  have hA2 := hA
  rw [Tryd.params3] at hA2
  obtain ⟨_, _, d0, ds0, p0, q0, _, rfl, rfl, _, r0⟩ := trodAll_cons hA2
  obtain ⟨_, rfl, rfl⟩ := trodAll_nil r0
  refine (law_any (tabs_ok hL) hA hval).mono fun e W' ⟨he, bel⟩ => ?_
  subst he
  exact ⟨_, rfl, _, _, _, [], _, [], hW', trodAll_mk1 (shut_bool Tryd.underlying4 _), Sx.trodAll_below Tryd.laidOut bel (by kernel_rfl) hA, rfl, bel.frame _, fun h => by cases h⟩

theorem law_over : Rows.instDecodesRow.holds Tryd.pinned (OpenSpec.ofChange Rows.instDecodesSpec) :=
  OpenClaim.holds_of_wide 3 Tryd.f3 rfl rfl rfl rfl rfl rfl rfl ⟨rfl, rfl, rfl, rfl, rfl⟩ rfl rfl rfl rfl rfl (by kernel_rfl) Tryd.func3 (by kernel_rfl)
    (of_decide_eq_true (by kernel_rfl)) (by unfold Func.isWrapper; first | (rw [if_pos (by decide +kernel)]; kernel_rfl) | (rw [if_neg (by decide +kernel)]; exact ⟨rfl, rfl⟩))
    (fun os started H enc _ => law_lifted os started H enc)

theorem instDecodes_holds : Rows.InstDecodesCardSaid :=
  Claim7.holds_tied_plain_at .later [] [.data, .data, .data, .data, .data, .data, .data, .data, .data, .data, .data, .data, .data, .data, .data, .data, .data] true (true, "2cb07f9a8da797d5fdcd8e3dd017f0f5c02f947858af43f4f707152b1fcc91c1") false
    law_over (fun _ h => by cases h) (by kernel_rfl) (fun _ h => by cases h) instDecodes_row_tie rfl ⟨rfl, rfl⟩ (by kernel_rfl) rfl
    (fun f fn hf hfn => by
      obtain rfl : f = 3 := Option.some.inj ((show Tryd.prog.funcNamed "almonry/almonrylaw03.InstDecodes" = some 3 by kernel_rfl).symm.trans hf) |>.symm
      obtain rfl : fn = Tryd.f3 := (Option.some.inj (Tryd.func3.symm.trans hfn)).symm
      exact ⟨by kernel_rfl, fun j t ht => by
        rw [Tryd.params3] at ht
        rcases j with _ | _ <;> simp at ht <;> (subst ht; kernel_rfl)⟩)
    (by kernel_rfl)
end Go.Proofs.YtedmbiadbofaoaaDoor
