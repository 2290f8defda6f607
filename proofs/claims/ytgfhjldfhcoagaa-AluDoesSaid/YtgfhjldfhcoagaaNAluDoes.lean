/- AluDoes: of all arguments, the law answers true: read by the reader, in every order that Go leaves open. -/
import Derived.Test.YtgfhjldfhcoagaaEAluDoes
set_option linter.unusedVariables false
set_option linter.unusedSimpArgs false
namespace Go.Proofs.Ytgfhjldfhcoagaa
open Go.ChangeShapes Go.WideShapes Go.ChangeAt Go.RowKit

theorem Try.own : ownKnob Try.prog.godebug = none := by kernel_rfl
theorem Try.laidOut : laidOutB Try.prog = true := by kernel_rfl

theorem okw_list {P : Program} {W : World} {r : Reach} {b0 : Nat} {ts : Array TypeId} {vs : Array Value} (h : ∀ (j : Nat) t v, ts[j]? = some t → vs[j]? = some v → Value.okWide P W r b0 t v) :
    ∀ (j : Nat) t v, ts.toList[j]? = some t → vs.toList[j]? = some v → Value.okWide P W r b0 t v := fun j t v a b => h j t v (by simpa using a) (by simpa using b)
theorem args_ok : Sx.V.okL (({ nxt := 0, hp := .nil, pc := [] } : Sx.St)).hp (Sx.psV Sx.lawPs 0) := by simp [Sx.psV, Sx.lawPs, Sx.V.okL, Sx.V.ok, Sx.cellV, Sx.cellsV]
set_option maxRecDepth 100000 in
theorem law_any {H : Type} {enc : TypeId × Value → H} {W : World} {base b0 : Nat} {r : Reach} {sp : Nat → Bool} {held : Bool} {args : Array Value} {ds : List (DataW H)} {ps : List MemPlace}
    (hA : DataW.TrodAll enc Try.prog W base sp held Try.f3.params.toList args.toList ds ps) (hval : ∀ (j : Nat) t v, Try.f3.params[j]? = some t → args[j]? = some v → Value.okWide Try.prog W r b0 t v) :
    Calls Try.prog 3 args W fun e w' => e = .returned (.bool true) ∧ Below W.heap.size W w' := by
  have hargs := Sx.open_args (Sx.env0 (Sx.intsOf Sx.lawPs args.toList []) (fun _ => undef)) (l := Sx.lawPs) (i := 0) (g := []) (by kernel_rfl) hA (okw_list hval)
    (by intro j v n u h; exfalso; revert h; simp [Sx.lawPs]; rcases j with _ | _ | _ | _ <;> simp) (Nat.le_of_ble_eq_true (by kernel_rfl)) (fun j _ => by rw [Nat.zero_add]; rfl)
  have fin : ∀ e : Sx.Env, Sx.V.denL e (Sx.psV Sx.lawPs 0) = args.toList → Calls Try.prog 3 (Sx.V.denL e (Sx.psV Sx.lawPs 0)).toArray W (fun e w' => e = .returned (.bool true) ∧ Below W.heap.size W w') → Calls Try.prog 3 args W fun e w' => e = .returned (.bool true) ∧ Below W.heap.size W w' := fun e h1 h2 => by
    rw [h1] at h2; simpa using h2
  refine fin _ hargs ?_
  exact (Sx.by_case (.lt (.var 0 0 255) (.lit 22))
    (fun hpc => Sx.law_of_places (w0 := W) (Sx.ev_ok Sx.base_ok (by kernel_rfl) _) (by kernel_rfl) Try.func3 (show Try.f3.body = some Sx.lawBody from rfl) Sx.noGlob_any Sx.exc0_no Sx.places0_yes Sx.places0_paths Sx.start0_yes args_ok Sx.gok_none (Sx.rep0 _ W) hpc)
    (Sx.by_case (.lt (.var 0 0 255) (.lit 36))
    (Sx.by_case (.eq (.var 0 0 255) (.lit 22))
    (fun hpc => Sx.law_of_places (w0 := W) (Sx.ev_ok Sx.base_ok (by kernel_rfl) _) (by kernel_rfl) Try.func3 (show Try.f3.body = some Sx.lawBody from rfl) Sx.noGlob_any Sx.exc1_no Sx.places1_yes Sx.places1_paths Sx.start1_yes args_ok Sx.gok_none (Sx.rep0 _ W) hpc)
    (Sx.by_case (.eq (.var 0 0 255) (.lit 23))
    (Sx.by_case (.lt (.var 1 0 18446744073709551615) (.lit 9223372036854775808))
    (Sx.by_case (.lt (.var 2 0 18446744073709551615) (.lit 9223372036854775808))
    (fun hpc => Sx.law_of_places (w0 := W) (Sx.ev_ok Sx.base_ok (by kernel_rfl) _) (by kernel_rfl) Try.func3 (show Try.f3.body = some Sx.lawBody from rfl) Sx.noGlob_any Sx.exc2_no Sx.places2_yes Sx.places2_paths Sx.start2_yes args_ok Sx.gok_none (Sx.rep0 _ W) hpc)
    (fun hpc => Sx.law_of_places (w0 := W) (Sx.ev_ok Sx.base_ok (by kernel_rfl) _) (by kernel_rfl) Try.func3 (show Try.f3.body = some Sx.lawBody from rfl) Sx.noGlob_any Sx.exc3_no Sx.places3_yes Sx.places3_paths Sx.start3_yes args_ok Sx.gok_none (Sx.rep0 _ W) hpc))
    (Sx.by_case (.lt (.var 2 0 18446744073709551615) (.lit 9223372036854775808))
    (fun hpc => Sx.law_of_places (w0 := W) (Sx.ev_ok Sx.base_ok (by kernel_rfl) _) (by kernel_rfl) Try.func3 (show Try.f3.body = some Sx.lawBody from rfl) Sx.noGlob_any Sx.exc4_no Sx.places4_yes Sx.places4_paths Sx.start4_yes args_ok Sx.gok_none (Sx.rep0 _ W) hpc)
    (fun hpc => Sx.law_of_places (w0 := W) (Sx.ev_ok Sx.base_ok (by kernel_rfl) _) (by kernel_rfl) Try.func3 (show Try.f3.body = some Sx.lawBody from rfl) Sx.noGlob_any Sx.exc5_no Sx.places5_yes Sx.places5_paths Sx.start5_yes args_ok Sx.gok_none (Sx.rep0 _ W) hpc)))
    (Sx.by_case (.eq (.var 0 0 255) (.lit 24))
    (fun hpc => Sx.law_of_places (w0 := W) (Sx.ev_ok Sx.base_ok (by kernel_rfl) _) (by kernel_rfl) Try.func3 (show Try.f3.body = some Sx.lawBody from rfl) Sx.noGlob_any Sx.exc6_no Sx.places6_yes Sx.places6_paths Sx.start6_yes args_ok Sx.gok_none (Sx.rep0 _ W) hpc)
    (Sx.by_case (.eq (.var 0 0 255) (.lit 25))
    (fun hpc => Sx.law_of_places (w0 := W) (Sx.ev_ok Sx.base_ok (by kernel_rfl) _) (by kernel_rfl) Try.func3 (show Try.f3.body = some Sx.lawBody from rfl) Sx.noGlob_any Sx.exc7_no Sx.places7_yes Sx.places7_paths Sx.start7_yes args_ok Sx.gok_none (Sx.rep0 _ W) hpc)
    (Sx.by_case (.eq (.var 0 0 255) (.lit 26))
    (fun hpc => Sx.law_of_places (w0 := W) (Sx.ev_ok Sx.base_ok (by kernel_rfl) _) (by kernel_rfl) Try.func3 (show Try.f3.body = some Sx.lawBody from rfl) Sx.noGlob_any Sx.exc8_no Sx.places8_yes Sx.places8_paths Sx.start8_yes args_ok Sx.gok_none (Sx.rep0 _ W) hpc)
    (Sx.by_case (.eq (.var 0 0 255) (.lit 27))
    (fun hpc => Sx.law_of_places (w0 := W) (Sx.ev_ok Sx.base_ok (by kernel_rfl) _) (by kernel_rfl) Try.func3 (show Try.f3.body = some Sx.lawBody from rfl) Sx.noGlob_any Sx.exc9_no Sx.places9_yes Sx.places9_paths Sx.start9_yes args_ok Sx.gok_none (Sx.rep0 _ W) hpc)
    (Sx.by_case (.eq (.var 0 0 255) (.lit 28))
    (fun hpc => Sx.law_of_places (w0 := W) (Sx.ev_ok Sx.base_ok (by kernel_rfl) _) (by kernel_rfl) Try.func3 (show Try.f3.body = some Sx.lawBody from rfl) Sx.noGlob_any Sx.exc10_no Sx.places10_yes Sx.places10_paths Sx.start10_yes args_ok Sx.gok_none (Sx.rep0 _ W) hpc)
    (Sx.by_case (.eq (.var 0 0 255) (.lit 29))
    (fun hpc => Sx.law_of_places (w0 := W) (Sx.ev_ok Sx.base_ok (by kernel_rfl) _) (by kernel_rfl) Try.func3 (show Try.f3.body = some Sx.lawBody from rfl) Sx.noGlob_any Sx.exc11_no Sx.places11_yes Sx.places11_paths Sx.start11_yes args_ok Sx.gok_none (Sx.rep0 _ W) hpc)
    (Sx.by_case (.eq (.var 0 0 255) (.lit 30))
    (fun hpc => Sx.law_of_places (w0 := W) (Sx.ev_ok Sx.base_ok (by kernel_rfl) _) (by kernel_rfl) Try.func3 (show Try.f3.body = some Sx.lawBody from rfl) Sx.noGlob_any Sx.exc12_no Sx.places12_yes Sx.places12_paths Sx.start12_yes args_ok Sx.gok_none (Sx.rep0 _ W) hpc)
    (Sx.by_case (.eq (.var 0 0 255) (.lit 31))
    (fun hpc => Sx.law_of_places (w0 := W) (Sx.ev_ok Sx.base_ok (by kernel_rfl) _) (by kernel_rfl) Try.func3 (show Try.f3.body = some Sx.lawBody from rfl) Sx.noGlob_any Sx.exc13_no Sx.places13_yes Sx.places13_paths Sx.start13_yes args_ok Sx.gok_none (Sx.rep0 _ W) hpc)
    (Sx.by_case (.eq (.var 0 0 255) (.lit 32))
    (fun hpc => Sx.law_of_places (w0 := W) (Sx.ev_ok Sx.base_ok (by kernel_rfl) _) (by kernel_rfl) Try.func3 (show Try.f3.body = some Sx.lawBody from rfl) Sx.noGlob_any Sx.exc14_no Sx.places14_yes Sx.places14_paths Sx.start14_yes args_ok Sx.gok_none (Sx.rep0 _ W) hpc)
    (Sx.by_case (.eq (.var 0 0 255) (.lit 33))
    (fun hpc => Sx.law_of_places (w0 := W) (Sx.ev_ok Sx.base_ok (by kernel_rfl) _) (by kernel_rfl) Try.func3 (show Try.f3.body = some Sx.lawBody from rfl) Sx.noGlob_any Sx.exc15_no Sx.places15_yes Sx.places15_paths Sx.start15_yes args_ok Sx.gok_none (Sx.rep0 _ W) hpc)
    (Sx.by_case (.eq (.var 0 0 255) (.lit 34))
    (Sx.by_case (.lt (.var 1 0 18446744073709551615) (.lit 9223372036854775808))
    (Sx.by_case (.lt (.var 2 0 18446744073709551615) (.lit 9223372036854775808))
    (fun hpc => Sx.law_of_places (w0 := W) (Sx.ev_ok Sx.base_ok (by kernel_rfl) _) (by kernel_rfl) Try.func3 (show Try.f3.body = some Sx.lawBody from rfl) Sx.noGlob_any Sx.exc16_no Sx.places16_yes Sx.places16_paths Sx.start16_yes args_ok Sx.gok_none (Sx.rep0 _ W) hpc)
    (fun hpc => Sx.law_of_places (w0 := W) (Sx.ev_ok Sx.base_ok (by kernel_rfl) _) (by kernel_rfl) Try.func3 (show Try.f3.body = some Sx.lawBody from rfl) Sx.noGlob_any Sx.exc17_no Sx.places17_yes Sx.places17_paths Sx.start17_yes args_ok Sx.gok_none (Sx.rep0 _ W) hpc))
    (Sx.by_case (.lt (.var 2 0 18446744073709551615) (.lit 9223372036854775808))
    (fun hpc => Sx.law_of_places (w0 := W) (Sx.ev_ok Sx.base_ok (by kernel_rfl) _) (by kernel_rfl) Try.func3 (show Try.f3.body = some Sx.lawBody from rfl) Sx.noGlob_any Sx.exc18_no Sx.places18_yes Sx.places18_paths Sx.start18_yes args_ok Sx.gok_none (Sx.rep0 _ W) hpc)
    (fun hpc => Sx.law_of_places (w0 := W) (Sx.ev_ok Sx.base_ok (by kernel_rfl) _) (by kernel_rfl) Try.func3 (show Try.f3.body = some Sx.lawBody from rfl) Sx.noGlob_any Sx.exc19_no Sx.places19_yes Sx.places19_paths Sx.start19_yes args_ok Sx.gok_none (Sx.rep0 _ W) hpc)))
    (Sx.by_case (.eq (.var 0 0 255) (.lit 35))
    (fun hpc => Sx.law_of_places (w0 := W) (Sx.ev_ok Sx.base_ok (by kernel_rfl) _) (by kernel_rfl) Try.func3 (show Try.f3.body = some Sx.lawBody from rfl) Sx.noGlob_any Sx.exc20_no Sx.places20_yes Sx.places20_paths Sx.start20_yes args_ok Sx.gok_none (Sx.rep0 _ W) hpc)
    (fun hpc => (Sx.x21_no _ hpc).elim)))))))))))))))
    (Sx.by_case (.lt (.var 0 0 255) (.lit 50))
    (Sx.by_case (.eq (.var 0 0 255) (.lit 36))
    (fun hpc => Sx.law_of_places (w0 := W) (Sx.ev_ok Sx.base_ok (by kernel_rfl) _) (by kernel_rfl) Try.func3 (show Try.f3.body = some Sx.lawBody from rfl) Sx.noGlob_any Sx.exc22_no Sx.places22_yes Sx.places22_paths Sx.start22_yes args_ok Sx.gok_none (Sx.rep0 _ W) hpc)
    (Sx.by_case (.eq (.var 0 0 255) (.lit 37))
    (fun hpc => Sx.law_of_places (w0 := W) (Sx.ev_ok Sx.base_ok (by kernel_rfl) _) (by kernel_rfl) Try.func3 (show Try.f3.body = some Sx.lawBody from rfl) Sx.noGlob_any Sx.exc23_no Sx.places23_yes Sx.places23_paths Sx.start23_yes args_ok Sx.gok_none (Sx.rep0 _ W) hpc)
    (Sx.by_case (.eq (.var 0 0 255) (.lit 38))
    (fun hpc => Sx.law_of_places (w0 := W) (Sx.ev_ok Sx.base_ok (by kernel_rfl) _) (by kernel_rfl) Try.func3 (show Try.f3.body = some Sx.lawBody from rfl) Sx.noGlob_any Sx.exc24_no Sx.places24_yes Sx.places24_paths Sx.start24_yes args_ok Sx.gok_none (Sx.rep0 _ W) hpc)
    (Sx.by_case (.eq (.var 0 0 255) (.lit 39))
    (fun hpc => Sx.law_of_places (w0 := W) (Sx.ev_ok Sx.base_ok (by kernel_rfl) _) (by kernel_rfl) Try.func3 (show Try.f3.body = some Sx.lawBody from rfl) Sx.noGlob_any Sx.exc25_no Sx.places25_yes Sx.places25_paths Sx.start25_yes args_ok Sx.gok_none (Sx.rep0 _ W) hpc)
    (Sx.by_case (.eq (.var 0 0 255) (.lit 40))
    (fun hpc => Sx.law_of_places (w0 := W) (Sx.ev_ok Sx.base_ok (by kernel_rfl) _) (by kernel_rfl) Try.func3 (show Try.f3.body = some Sx.lawBody from rfl) Sx.noGlob_any Sx.exc26_no Sx.places26_yes Sx.places26_paths Sx.start26_yes args_ok Sx.gok_none (Sx.rep0 _ W) hpc)
    (Sx.by_case (.eq (.var 0 0 255) (.lit 41))
    (fun hpc => Sx.law_of_places (w0 := W) (Sx.ev_ok Sx.base_ok (by kernel_rfl) _) (by kernel_rfl) Try.func3 (show Try.f3.body = some Sx.lawBody from rfl) Sx.noGlob_any Sx.exc27_no Sx.places27_yes Sx.places27_paths Sx.start27_yes args_ok Sx.gok_none (Sx.rep0 _ W) hpc)
    (Sx.by_case (.eq (.var 0 0 255) (.lit 42))
    (fun hpc => Sx.law_of_places (w0 := W) (Sx.ev_ok Sx.base_ok (by kernel_rfl) _) (by kernel_rfl) Try.func3 (show Try.f3.body = some Sx.lawBody from rfl) Sx.noGlob_any Sx.exc28_no Sx.places28_yes Sx.places28_paths Sx.start28_yes args_ok Sx.gok_none (Sx.rep0 _ W) hpc)
    (Sx.by_case (.eq (.var 0 0 255) (.lit 43))
    (fun hpc => Sx.law_of_places (w0 := W) (Sx.ev_ok Sx.base_ok (by kernel_rfl) _) (by kernel_rfl) Try.func3 (show Try.f3.body = some Sx.lawBody from rfl) Sx.noGlob_any Sx.exc29_no Sx.places29_yes Sx.places29_paths Sx.start29_yes args_ok Sx.gok_none (Sx.rep0 _ W) hpc)
    (Sx.by_case (.eq (.var 0 0 255) (.lit 44))
    (fun hpc => Sx.law_of_places (w0 := W) (Sx.ev_ok Sx.base_ok (by kernel_rfl) _) (by kernel_rfl) Try.func3 (show Try.f3.body = some Sx.lawBody from rfl) Sx.noGlob_any Sx.exc30_no Sx.places30_yes Sx.places30_paths Sx.start30_yes args_ok Sx.gok_none (Sx.rep0 _ W) hpc)
    (Sx.by_case (.eq (.var 0 0 255) (.lit 45))
    (fun hpc => Sx.law_of_places (w0 := W) (Sx.ev_ok Sx.base_ok (by kernel_rfl) _) (by kernel_rfl) Try.func3 (show Try.f3.body = some Sx.lawBody from rfl) Sx.noGlob_any Sx.exc31_no Sx.places31_yes Sx.places31_paths Sx.start31_yes args_ok Sx.gok_none (Sx.rep0 _ W) hpc)
    (Sx.by_case (.eq (.var 0 0 255) (.lit 46))
    (fun hpc => Sx.law_of_places (w0 := W) (Sx.ev_ok Sx.base_ok (by kernel_rfl) _) (by kernel_rfl) Try.func3 (show Try.f3.body = some Sx.lawBody from rfl) Sx.noGlob_any Sx.exc32_no Sx.places32_yes Sx.places32_paths Sx.start32_yes args_ok Sx.gok_none (Sx.rep0 _ W) hpc)
    (Sx.by_case (.eq (.var 0 0 255) (.lit 47))
    (fun hpc => Sx.law_of_places (w0 := W) (Sx.ev_ok Sx.base_ok (by kernel_rfl) _) (by kernel_rfl) Try.func3 (show Try.f3.body = some Sx.lawBody from rfl) Sx.noGlob_any Sx.exc33_no Sx.places33_yes Sx.places33_paths Sx.start33_yes args_ok Sx.gok_none (Sx.rep0 _ W) hpc)
    (Sx.by_case (.eq (.var 0 0 255) (.lit 48))
    (fun hpc => Sx.law_of_places (w0 := W) (Sx.ev_ok Sx.base_ok (by kernel_rfl) _) (by kernel_rfl) Try.func3 (show Try.f3.body = some Sx.lawBody from rfl) Sx.noGlob_any Sx.exc34_no Sx.places34_yes Sx.places34_paths Sx.start34_yes args_ok Sx.gok_none (Sx.rep0 _ W) hpc)
    (Sx.by_case (.eq (.var 0 0 255) (.lit 49))
    (fun hpc => Sx.law_of_places (w0 := W) (Sx.ev_ok Sx.base_ok (by kernel_rfl) _) (by kernel_rfl) Try.func3 (show Try.f3.body = some Sx.lawBody from rfl) Sx.noGlob_any Sx.exc35_no Sx.places35_yes Sx.places35_paths Sx.start35_yes args_ok Sx.gok_none (Sx.rep0 _ W) hpc)
    (fun hpc => (Sx.x36_no _ hpc).elim)))))))))))))))
    (Sx.by_case (.lt (.var 0 0 255) (.lit 54))
    (fun hpc => Sx.law_of_places (w0 := W) (Sx.ev_ok Sx.base_ok (by kernel_rfl) _) (by kernel_rfl) Try.func3 (show Try.f3.body = some Sx.lawBody from rfl) Sx.noGlob_any Sx.exc37_no Sx.places37_yes Sx.places37_paths Sx.start37_yes args_ok Sx.gok_none (Sx.rep0 _ W) hpc)
    (Sx.by_case (.lt (.var 0 0 255) (.lit 67))
    (Sx.by_case (.eq (.var 0 0 255) (.lit 54))
    (fun hpc => Sx.law_of_places (w0 := W) (Sx.ev_ok Sx.base_ok (by kernel_rfl) _) (by kernel_rfl) Try.func3 (show Try.f3.body = some Sx.lawBody from rfl) Sx.noGlob_any Sx.exc38_no Sx.places38_yes Sx.places38_paths Sx.start38_yes args_ok Sx.gok_none (Sx.rep0 _ W) hpc)
    (Sx.by_case (.eq (.var 0 0 255) (.lit 55))
    (Sx.by_case (.lt (.var 1 0 18446744073709551615) (.lit 9223372036854775808))
    (Sx.by_case (.lt (.var 2 0 18446744073709551615) (.lit 9223372036854775808))
    (fun hpc => Sx.law_of_places (w0 := W) (Sx.ev_ok Sx.base_ok (by kernel_rfl) _) (by kernel_rfl) Try.func3 (show Try.f3.body = some Sx.lawBody from rfl) Sx.noGlob_any Sx.exc39_no Sx.places39_yes Sx.places39_paths Sx.start39_yes args_ok Sx.gok_none (Sx.rep0 _ W) hpc)
    (fun hpc => Sx.law_of_places (w0 := W) (Sx.ev_ok Sx.base_ok (by kernel_rfl) _) (by kernel_rfl) Try.func3 (show Try.f3.body = some Sx.lawBody from rfl) Sx.noGlob_any Sx.exc40_no Sx.places40_yes Sx.places40_paths Sx.start40_yes args_ok Sx.gok_none (Sx.rep0 _ W) hpc))
    (Sx.by_case (.lt (.var 2 0 18446744073709551615) (.lit 9223372036854775808))
    (fun hpc => Sx.law_of_places (w0 := W) (Sx.ev_ok Sx.base_ok (by kernel_rfl) _) (by kernel_rfl) Try.func3 (show Try.f3.body = some Sx.lawBody from rfl) Sx.noGlob_any Sx.exc41_no Sx.places41_yes Sx.places41_paths Sx.start41_yes args_ok Sx.gok_none (Sx.rep0 _ W) hpc)
    (fun hpc => Sx.law_of_places (w0 := W) (Sx.ev_ok Sx.base_ok (by kernel_rfl) _) (by kernel_rfl) Try.func3 (show Try.f3.body = some Sx.lawBody from rfl) Sx.noGlob_any Sx.exc42_no Sx.places42_yes Sx.places42_paths Sx.start42_yes args_ok Sx.gok_none (Sx.rep0 _ W) hpc)))
    (Sx.by_case (.eq (.var 0 0 255) (.lit 56))
    (Sx.by_case (.lt (.var 1 0 18446744073709551615) (.lit 9223372036854775808))
    (Sx.by_case (.lt (.var 2 0 18446744073709551615) (.lit 9223372036854775808))
    (fun hpc => Sx.law_of_places (w0 := W) (Sx.ev_ok Sx.base_ok (by kernel_rfl) _) (by kernel_rfl) Try.func3 (show Try.f3.body = some Sx.lawBody from rfl) Sx.noGlob_any Sx.exc43_no Sx.places43_yes Sx.places43_paths Sx.start43_yes args_ok Sx.gok_none (Sx.rep0 _ W) hpc)
    (fun hpc => Sx.law_of_places (w0 := W) (Sx.ev_ok Sx.base_ok (by kernel_rfl) _) (by kernel_rfl) Try.func3 (show Try.f3.body = some Sx.lawBody from rfl) Sx.noGlob_any Sx.exc44_no Sx.places44_yes Sx.places44_paths Sx.start44_yes args_ok Sx.gok_none (Sx.rep0 _ W) hpc))
    (Sx.by_case (.lt (.var 2 0 18446744073709551615) (.lit 9223372036854775808))
    (fun hpc => Sx.law_of_places (w0 := W) (Sx.ev_ok Sx.base_ok (by kernel_rfl) _) (by kernel_rfl) Try.func3 (show Try.f3.body = some Sx.lawBody from rfl) Sx.noGlob_any Sx.exc45_no Sx.places45_yes Sx.places45_paths Sx.start45_yes args_ok Sx.gok_none (Sx.rep0 _ W) hpc)
    (fun hpc => Sx.law_of_places (w0 := W) (Sx.ev_ok Sx.base_ok (by kernel_rfl) _) (by kernel_rfl) Try.func3 (show Try.f3.body = some Sx.lawBody from rfl) Sx.noGlob_any Sx.exc46_no Sx.places46_yes Sx.places46_paths Sx.start46_yes args_ok Sx.gok_none (Sx.rep0 _ W) hpc)))
    (Sx.by_case (.eq (.var 0 0 255) (.lit 57))
    (fun hpc => Sx.law_of_places (w0 := W) (Sx.ev_ok Sx.base_ok (by kernel_rfl) _) (by kernel_rfl) Try.func3 (show Try.f3.body = some Sx.lawBody from rfl) Sx.noGlob_any Sx.exc47_no Sx.places47_yes Sx.places47_paths Sx.start47_yes args_ok Sx.gok_none (Sx.rep0 _ W) hpc)
    (Sx.by_case (.eq (.var 0 0 255) (.lit 58))
    (fun hpc => Sx.law_of_places (w0 := W) (Sx.ev_ok Sx.base_ok (by kernel_rfl) _) (by kernel_rfl) Try.func3 (show Try.f3.body = some Sx.lawBody from rfl) Sx.noGlob_any Sx.exc48_no Sx.places48_yes Sx.places48_paths Sx.start48_yes args_ok Sx.gok_none (Sx.rep0 _ W) hpc)
    (Sx.by_case (.eq (.var 0 0 255) (.lit 59))
    (fun hpc => Sx.law_of_places (w0 := W) (Sx.ev_ok Sx.base_ok (by kernel_rfl) _) (by kernel_rfl) Try.func3 (show Try.f3.body = some Sx.lawBody from rfl) Sx.noGlob_any Sx.exc49_no Sx.places49_yes Sx.places49_paths Sx.start49_yes args_ok Sx.gok_none (Sx.rep0 _ W) hpc)
    (Sx.by_case (.eq (.var 0 0 255) (.lit 60))
    (fun hpc => Sx.law_of_places (w0 := W) (Sx.ev_ok Sx.base_ok (by kernel_rfl) _) (by kernel_rfl) Try.func3 (show Try.f3.body = some Sx.lawBody from rfl) Sx.noGlob_any Sx.exc50_no Sx.places50_yes Sx.places50_paths Sx.start50_yes args_ok Sx.gok_none (Sx.rep0 _ W) hpc)
    (Sx.by_case (.eq (.var 0 0 255) (.lit 61))
    (fun hpc => Sx.law_of_places (w0 := W) (Sx.ev_ok Sx.base_ok (by kernel_rfl) _) (by kernel_rfl) Try.func3 (show Try.f3.body = some Sx.lawBody from rfl) Sx.noGlob_any Sx.exc51_no Sx.places51_yes Sx.places51_paths Sx.start51_yes args_ok Sx.gok_none (Sx.rep0 _ W) hpc)
    (Sx.by_case (.eq (.var 0 0 255) (.lit 62))
    (fun hpc => Sx.law_of_places (w0 := W) (Sx.ev_ok Sx.base_ok (by kernel_rfl) _) (by kernel_rfl) Try.func3 (show Try.f3.body = some Sx.lawBody from rfl) Sx.noGlob_any Sx.exc52_no Sx.places52_yes Sx.places52_paths Sx.start52_yes args_ok Sx.gok_none (Sx.rep0 _ W) hpc)
    (Sx.by_case (.eq (.var 0 0 255) (.lit 63))
    (fun hpc => Sx.law_of_places (w0 := W) (Sx.ev_ok Sx.base_ok (by kernel_rfl) _) (by kernel_rfl) Try.func3 (show Try.f3.body = some Sx.lawBody from rfl) Sx.noGlob_any Sx.exc53_no Sx.places53_yes Sx.places53_paths Sx.start53_yes args_ok Sx.gok_none (Sx.rep0 _ W) hpc)
    (Sx.by_case (.eq (.var 0 0 255) (.lit 64))
    (fun hpc => Sx.law_of_places (w0 := W) (Sx.ev_ok Sx.base_ok (by kernel_rfl) _) (by kernel_rfl) Try.func3 (show Try.f3.body = some Sx.lawBody from rfl) Sx.noGlob_any Sx.exc54_no Sx.places54_yes Sx.places54_paths Sx.start54_yes args_ok Sx.gok_none (Sx.rep0 _ W) hpc)
    (Sx.by_case (.eq (.var 0 0 255) (.lit 65))
    (fun hpc => Sx.law_of_places (w0 := W) (Sx.ev_ok Sx.base_ok (by kernel_rfl) _) (by kernel_rfl) Try.func3 (show Try.f3.body = some Sx.lawBody from rfl) Sx.noGlob_any Sx.exc55_no Sx.places55_yes Sx.places55_paths Sx.start55_yes args_ok Sx.gok_none (Sx.rep0 _ W) hpc)
    (Sx.by_case (.eq (.var 0 0 255) (.lit 66))
    (fun hpc => Sx.law_of_places (w0 := W) (Sx.ev_ok Sx.base_ok (by kernel_rfl) _) (by kernel_rfl) Try.func3 (show Try.f3.body = some Sx.lawBody from rfl) Sx.noGlob_any Sx.exc56_no Sx.places56_yes Sx.places56_paths Sx.start56_yes args_ok Sx.gok_none (Sx.rep0 _ W) hpc)
    (fun hpc => (Sx.x57_no _ hpc).elim))))))))))))))
    (fun hpc => Sx.law_of_places (w0 := W) (Sx.ev_ok Sx.base_ok (by kernel_rfl) _) (by kernel_rfl) Try.func3 (show Try.f3.body = some Sx.lawBody from rfl) Sx.noGlob_any Sx.exc58_no Sx.places58_yes Sx.places58_paths Sx.start58_yes args_ok Sx.gok_none (Sx.rep0 _ W) hpc)))))) (fun c t h => by cases h)

set_option maxRecDepth 100000 in
theorem law_lifted (os : Os) (started : os.Started) (H : Type) (enc : TypeId × Value → H) :
    ReturnsInHanded {} Try.checked os 3 .any (Rows.aluDoesSpec.pre6 enc Try.prog Try.f3 Rows.aluDoesRow.domain false) (Rows.aluDoesSpec.post enc Try.prog Try.f3 false true false false) := by
  refine returnsInHanded_of_change (C := Try.checked) Try.own started (by kernel_rfl) Try.func3
    (ChangeSpec.witness6 (enc := enc) (C := Try.checked) false ⟨#[], #[.int .u8 0, .int .u64 0, .int .u64 0], []⟩ 8 (by kernel_rfl) (by kernel_rfl) (by kernel_rfl) (by kernel_rfl)) ?_
  intro W base args ds gs before hval0 hW hcnd _
  have hW' := hW
  obtain ⟨p, q, hA0, hV, rfl, hfz, hnd⟩ := hW
  have hA : DataW.TrodAll enc Try.prog W 0 (fun _ => true) true Try.f3.params.toList args.toList ds p := hA0
  have hval : ∀ (j : Nat) t v, Try.f3.params[j]? = some t → args[j]? = some v → Value.okWide Try.prog W .any base t v := hval0
  obtain ⟨rfl, rfl⟩ := trodVars_none hV
  have hA2 := hA
  rw [Try.params3] at hA2
  obtain ⟨_, _, d0, ds0, p0, q0, _, rfl, rfl, _, r0⟩ := trodAll_cons hA2
  obtain ⟨_, _, d1, ds1, p1, q1, _, rfl, rfl, _, r1⟩ := trodAll_cons r0
  obtain ⟨_, _, d2, ds2, p2, q2, _, rfl, rfl, _, r2⟩ := trodAll_cons r1
  obtain ⟨_, rfl, rfl⟩ := trodAll_nil r2
  refine (law_any hA hval).mono fun e W' ⟨he, bel⟩ => ?_
  subst he
  exact ⟨_, rfl, _, _, _, [], _, [], hW', trodAll_mk1 (shut_bool Try.underlying4 _), Sx.trodAll_below Try.laidOut bel (by kernel_rfl) hA, rfl, bel.frame _, fun h => by cases h⟩

theorem law_over : Rows.aluDoesRow.holds Try.pinned (OpenSpec.ofChange Rows.aluDoesSpec) :=
  OpenClaim.holds_of_wide 3 Try.f3 rfl rfl rfl rfl rfl rfl rfl ⟨rfl, rfl, rfl, rfl, rfl⟩ rfl rfl rfl rfl rfl (by kernel_rfl) Try.func3 (by kernel_rfl)
    (of_decide_eq_true (by kernel_rfl)) (by unfold Func.isWrapper; first | (rw [if_pos (by decide +kernel)]; kernel_rfl) | (rw [if_neg (by decide +kernel)]; exact ⟨rfl, rfl⟩))
    (fun os started H enc _ => law_lifted os started H enc)

theorem aluDoes_holds : Rows.AluDoesSaid := law_over
end Go.Proofs.Ytgfhjldfhcoagaa
