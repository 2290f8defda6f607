/- RvcForms: of all arguments, the law answers true: read by the reader, in every order that Go leaves open. -/
import Derived.Test.YthdhleaigphgeaaURvcFormsP0
import Derived.Test.YthdhleaigphgeaaURvcFormsP1
import Derived.Test.YthdhleaigphgeaaURvcFormsP2
namespace Go.Proofs.Ythdhleaigphgeaa
open Go.ChangeShapes Go.WideShapes Go.ChangeAt Go.RowKit

theorem Try.own : ownKnob Try.prog.godebug = none := by kernel_rfl
theorem Try.laidOut : laidOutB Try.prog = true := by kernel_rfl

theorem args_ok : Sx.V.okL (({ nxt := 0, hp := .nil, pc := [] } : Sx.St)).hp (Sx.psV Sx.lawPs 0) := by simp [Sx.psV, Sx.lawPs, Sx.V.okL, Sx.V.ok, Sx.cellV, Sx.cellsV]
theorem law_any {H : Type} {enc : TypeId × Value → H} {W : World} {base b0 : Nat} {r : Reach} {sp : Nat → Bool} {held : Bool} {args : Array Value} {ds : List (DataW H)} {ps : List MemPlace}
    (hA : DataW.TrodAll enc Try.prog W base sp held Try.f5.params.toList args.toList ds ps) (hval : ∀ (j : Nat) t v, Try.f5.params[j]? = some t → args[j]? = some v → Value.okWide Try.prog W r b0 t v) :
    Calls Try.prog 5 args W fun e w' => e = .returned (.bool true) ∧ Below W.heap.size W w' := by
  have hargs := Sx.open_args (Sx.env0 (Sx.intsOf Sx.lawPs args.toList []) (fun _ => undef)) (l := Sx.lawPs) (i := 0) (g := []) (by kernel_rfl) hA (fun j t v a b => hval j t v (by simpa using a) (by simpa using b))
    (by intro j v n u h; exfalso; revert h; simp [Sx.lawPs]; rcases j with _ | _ <;> simp) (by decide) (fun j _ => by rw [Nat.zero_add]; rfl)
  have fin : ∀ e : Sx.Env, Sx.V.denL e (Sx.psV Sx.lawPs 0) = args.toList → Calls Try.prog 5 (Sx.V.denL e (Sx.psV Sx.lawPs 0)).toArray W (fun e w' => e = .returned (.bool true) ∧ Below W.heap.size W w') → Calls Try.prog 5 args W fun e w' => e = .returned (.bool true) ∧ Below W.heap.size W w' := fun e h1 h2 => by
    rw [h1] at h2; simpa using h2
  refine fin _ hargs ?_
  exact (Sx.by_case (.eq (.ar .and .u16 (.var 0 0 65535) (.lit 3)) (.lit 0))
    (Sx.by_case (.eq (.ar .shr .u16 (.var 0 0 65535) (.lit 13)) (.lit 0))
    (fun hpc => Sx.law_of_places (w0 := W) (Sx.ev_ok Sx.base_ok (by kernel_rfl) _) (by kernel_rfl) Try.func5 (show Try.f5.body = some Sx.lawBody from rfl) Sx.noGlob_any Sx.exc0_no Sx.places0_yes Sx.places0_paths Sx.start0_yes args_ok Sx.gok_none (Sx.rep0 _ W) hpc)
    (Sx.by_case (.eq (.ar .shr .u16 (.var 0 0 65535) (.lit 13)) (.lit 2))
    (fun hpc => Sx.law_of_places (w0 := W) (Sx.ev_ok Sx.base_ok (by kernel_rfl) _) (by kernel_rfl) Try.func5 (show Try.f5.body = some Sx.lawBody from rfl) Sx.noGlob_any Sx.exc1_no Sx.places1_yes Sx.places1_paths Sx.start1_yes args_ok Sx.gok_none (Sx.rep0 _ W) hpc)
    (fun hpc => Sx.law_of_places (w0 := W) (Sx.ev_ok Sx.base_ok (by kernel_rfl) _) (by kernel_rfl) Try.func5 (show Try.f5.body = some Sx.lawBody from rfl) Sx.noGlob_any Sx.exc2_no Sx.places2_yes Sx.places2_paths Sx.start2_yes args_ok Sx.gok_none (Sx.rep0 _ W) hpc)))
    (Sx.by_case (.eq (.ar .and .u16 (.var 0 0 65535) (.lit 3)) (.lit 1))
    (Sx.by_case (.lt (.ar .shr .u16 (.var 0 0 65535) (.lit 13)) (.lit 4))
    (Sx.by_case (.eq (.ar .shr .u16 (.var 0 0 65535) (.lit 13)) (.lit 0))
    (fun hpc => Sx.law_of_places (w0 := W) (Sx.ev_ok Sx.base_ok (by kernel_rfl) _) (by kernel_rfl) Try.func5 (show Try.f5.body = some Sx.lawBody from rfl) Sx.noGlob_any Sx.exc3_no Sx.places3_yes Sx.places3_paths Sx.start3_yes args_ok Sx.gok_none (Sx.rep0 _ W) hpc)
    (Sx.by_case (.eq (.ar .shr .u16 (.var 0 0 65535) (.lit 13)) (.lit 1))
    (fun hpc => Sx.law_of_places (w0 := W) (Sx.ev_ok Sx.base_ok (by kernel_rfl) _) (by kernel_rfl) Try.func5 (show Try.f5.body = some Sx.lawBody from rfl) Sx.noGlob_any Sx.exc4_no Sx.places4_yes Sx.places4_paths Sx.start4_yes args_ok Sx.gok_none (Sx.rep0 _ W) hpc)
    (Sx.by_case (.eq (.ar .shr .u16 (.var 0 0 65535) (.lit 13)) (.lit 2))
    (fun hpc => Sx.law_of_places (w0 := W) (Sx.ev_ok Sx.base_ok (by kernel_rfl) _) (by kernel_rfl) Try.func5 (show Try.f5.body = some Sx.lawBody from rfl) Sx.noGlob_any Sx.exc5_no Sx.places5_yes Sx.places5_paths Sx.start5_yes args_ok Sx.gok_none (Sx.rep0 _ W) hpc)
    (Sx.by_case (.eq (.ar .and .u16 (.var 0 0 65535) (.lit 61315)) (.lit 24833))
    (fun hpc => Sx.law_of_places (w0 := W) (Sx.ev_ok Sx.base_ok (by kernel_rfl) _) (by kernel_rfl) Try.func5 (show Try.f5.body = some Sx.lawBody from rfl) Sx.noGlob_any Sx.exc6_no Sx.places6_yes Sx.places6_paths Sx.start6_yes args_ok Sx.gok_none (Sx.rep0 _ W) hpc)
    (fun hpc => Sx.law_of_places (w0 := W) (Sx.ev_ok Sx.base_ok (by kernel_rfl) _) (by kernel_rfl) Try.func5 (show Try.f5.body = some Sx.lawBody from rfl) Sx.noGlob_any Sx.exc7_no Sx.places7_yes Sx.places7_paths Sx.start7_yes args_ok Sx.gok_none (Sx.rep0 _ W) hpc)))))
    (Sx.by_case (.eq (.ar .shr .u16 (.var 0 0 65535) (.lit 13)) (.lit 5))
    (fun hpc => Sx.law_of_places (w0 := W) (Sx.ev_ok Sx.base_ok (by kernel_rfl) _) (by kernel_rfl) Try.func5 (show Try.f5.body = some Sx.lawBody from rfl) Sx.noGlob_any Sx.exc8_no Sx.places8_yes Sx.places8_paths Sx.start8_yes args_ok Sx.gok_none (Sx.rep0 _ W) hpc)
    (Sx.by_case (.eq (.ar .shr .u16 (.var 0 0 65535) (.lit 13)) (.lit 6))
    (fun hpc => Sx.law_of_places (w0 := W) (Sx.ev_ok Sx.base_ok (by kernel_rfl) _) (by kernel_rfl) Try.func5 (show Try.f5.body = some Sx.lawBody from rfl) Sx.noGlob_any Sx.exc9_no Sx.places9_yes Sx.places9_paths Sx.start9_yes args_ok Sx.gok_none (Sx.rep0 _ W) hpc)
    (Sx.by_case (.eq (.ar .shr .u16 (.var 0 0 65535) (.lit 13)) (.lit 7))
    (fun hpc => Sx.law_of_places (w0 := W) (Sx.ev_ok Sx.base_ok (by kernel_rfl) _) (by kernel_rfl) Try.func5 (show Try.f5.body = some Sx.lawBody from rfl) Sx.noGlob_any Sx.exc10_no Sx.places10_yes Sx.places10_paths Sx.start10_yes args_ok Sx.gok_none (Sx.rep0 _ W) hpc)
    (Sx.by_case (.eq (.ar .and .u16 (.var 0 0 65535) (.lit 60419)) (.lit 32769))
    (fun hpc => Sx.law_of_places (w0 := W) (Sx.ev_ok Sx.base_ok (by kernel_rfl) _) (by kernel_rfl) Try.func5 (show Try.f5.body = some Sx.lawBody from rfl) Sx.noGlob_any Sx.exc11_no Sx.places11_yes Sx.places11_paths Sx.start11_yes args_ok Sx.gok_none (Sx.rep0 _ W) hpc)
    (Sx.by_case (.eq (.ar .and .u16 (.var 0 0 65535) (.lit 60419)) (.lit 33793))
    (fun hpc => Sx.law_of_places (w0 := W) (Sx.ev_ok Sx.base_ok (by kernel_rfl) _) (by kernel_rfl) Try.func5 (show Try.f5.body = some Sx.lawBody from rfl) Sx.noGlob_any Sx.exc12_no Sx.places12_yes Sx.places12_paths Sx.start12_yes args_ok Sx.gok_none (Sx.rep0 _ W) hpc)
    (Sx.by_case (.eq (.ar .and .u16 (.var 0 0 65535) (.lit 60419)) (.lit 34817))
    (fun hpc => Sx.law_of_places (w0 := W) (Sx.ev_ok Sx.base_ok (by kernel_rfl) _) (by kernel_rfl) Try.func5 (show Try.f5.body = some Sx.lawBody from rfl) Sx.noGlob_any Sx.exc13_no Sx.places13_yes Sx.places13_paths Sx.start13_yes args_ok Sx.gok_none (Sx.rep0 _ W) hpc)
    (Sx.by_case (.eq (.ar .and .u16 (.var 0 0 65535) (.lit 64611)) (.lit 35841))
    (fun hpc => Sx.law_of_places (w0 := W) (Sx.ev_ok Sx.base_ok (by kernel_rfl) _) (by kernel_rfl) Try.func5 (show Try.f5.body = some Sx.lawBody from rfl) Sx.noGlob_any Sx.exc14_no Sx.places14_yes Sx.places14_paths Sx.start14_yes args_ok Sx.gok_none (Sx.rep0 _ W) hpc)
    (Sx.by_case (.eq (.ar .and .u16 (.var 0 0 65535) (.lit 64611)) (.lit 35873))
    (fun hpc => Sx.law_of_places (w0 := W) (Sx.ev_ok Sx.base_ok (by kernel_rfl) _) (by kernel_rfl) Try.func5 (show Try.f5.body = some Sx.lawBody from rfl) Sx.noGlob_any Sx.exc15_no Sx.places15_yes Sx.places15_paths Sx.start15_yes args_ok Sx.gok_none (Sx.rep0 _ W) hpc)
    (Sx.by_case (.eq (.ar .and .u16 (.var 0 0 65535) (.lit 64611)) (.lit 35905))
    (fun hpc => Sx.law_of_places (w0 := W) (Sx.ev_ok Sx.base_ok (by kernel_rfl) _) (by kernel_rfl) Try.func5 (show Try.f5.body = some Sx.lawBody from rfl) Sx.noGlob_any Sx.exc16_no Sx.places16_yes Sx.places16_paths Sx.start16_yes args_ok Sx.gok_none (Sx.rep0 _ W) hpc)
    (fun hpc => Sx.law_of_places (w0 := W) (Sx.ev_ok Sx.base_ok (by kernel_rfl) _) (by kernel_rfl) Try.func5 (show Try.f5.body = some Sx.lawBody from rfl) Sx.noGlob_any Sx.exc17_no Sx.places17_yes Sx.places17_paths Sx.start17_yes args_ok Sx.gok_none (Sx.rep0 _ W) hpc)))))))))))
    (Sx.by_case (.eq (.ar .and .u16 (.var 0 0 65535) (.lit 3)) (.lit 2))
    (Sx.by_case (.eq (.ar .shr .u16 (.var 0 0 65535) (.lit 13)) (.lit 0))
    (fun hpc => Sx.law_of_places (w0 := W) (Sx.ev_ok Sx.base_ok (by kernel_rfl) _) (by kernel_rfl) Try.func5 (show Try.f5.body = some Sx.lawBody from rfl) Sx.noGlob_any Sx.exc18_no Sx.places18_yes Sx.places18_paths Sx.start18_yes args_ok Sx.gok_none (Sx.rep0 _ W) hpc)
    (Sx.by_case (.eq (.ar .shr .u16 (.var 0 0 65535) (.lit 13)) (.lit 2))
    (fun hpc => Sx.law_of_places (w0 := W) (Sx.ev_ok Sx.base_ok (by kernel_rfl) _) (by kernel_rfl) Try.func5 (show Try.f5.body = some Sx.lawBody from rfl) Sx.noGlob_any Sx.exc19_no Sx.places19_yes Sx.places19_paths Sx.start19_yes args_ok Sx.gok_none (Sx.rep0 _ W) hpc)
    (Sx.by_case (.eq (.ar .shr .u16 (.var 0 0 65535) (.lit 13)) (.lit 3))
    (fun hpc => Sx.law_of_places (w0 := W) (Sx.ev_ok Sx.base_ok (by kernel_rfl) _) (by kernel_rfl) Try.func5 (show Try.f5.body = some Sx.lawBody from rfl) Sx.noGlob_any Sx.exc20_no Sx.places20_yes Sx.places20_paths Sx.start20_yes args_ok Sx.gok_none (Sx.rep0 _ W) hpc)
    (Sx.by_case (.eq (.ar .shr .u16 (.var 0 0 65535) (.lit 13)) (.lit 4))
    (Sx.by_case (.eq (.ar .and .u16 (.var 0 0 65535) (.lit 61567)) (.lit 32770))
    (fun hpc => Sx.law_of_places (w0 := W) (Sx.ev_ok Sx.base_ok (by kernel_rfl) _) (by kernel_rfl) Try.func5 (show Try.f5.body = some Sx.lawBody from rfl) Sx.noGlob_any Sx.exc21_no Sx.places21_yes Sx.places21_paths Sx.start21_yes args_ok Sx.gok_none (Sx.rep0 _ W) hpc)
    (Sx.by_case (.eq (.ar .and .u16 (.var 0 0 65535) (.lit 61443)) (.lit 32770))
    (fun hpc => Sx.law_of_places (w0 := W) (Sx.ev_ok Sx.base_ok (by kernel_rfl) _) (by kernel_rfl) Try.func5 (show Try.f5.body = some Sx.lawBody from rfl) Sx.noGlob_any Sx.exc22_no Sx.places22_yes Sx.places22_paths Sx.start22_yes args_ok Sx.gok_none (Sx.rep0 _ W) hpc)
    (Sx.by_case (.eq (.var 0 0 65535) (.lit 36866))
    (fun hpc => Sx.law_of_places (w0 := W) (Sx.ev_ok Sx.base_ok (by kernel_rfl) _) (by kernel_rfl) Try.func5 (show Try.f5.body = some Sx.lawBody from rfl) Sx.noGlob_any Sx.exc23_no Sx.places23_yes Sx.places23_paths Sx.start23_yes args_ok Sx.gok_none (Sx.rep0 _ W) hpc)
    (fun hpc => Sx.law_of_places (w0 := W) (Sx.ev_ok Sx.base_ok (by kernel_rfl) _) (by kernel_rfl) Try.func5 (show Try.f5.body = some Sx.lawBody from rfl) Sx.noGlob_any Sx.exc24_no Sx.places24_yes Sx.places24_paths Sx.start24_yes args_ok Sx.gok_none (Sx.rep0 _ W) hpc))))
    (fun hpc => Sx.law_of_places (w0 := W) (Sx.ev_ok Sx.base_ok (by kernel_rfl) _) (by kernel_rfl) Try.func5 (show Try.f5.body = some Sx.lawBody from rfl) Sx.noGlob_any Sx.exc25_no Sx.places25_yes Sx.places25_paths Sx.start25_yes args_ok Sx.gok_none (Sx.rep0 _ W) hpc)))))
    (fun hpc => Sx.law_of_places (w0 := W) (Sx.ev_ok Sx.base_ok (by kernel_rfl) _) (by kernel_rfl) Try.func5 (show Try.f5.body = some Sx.lawBody from rfl) Sx.noGlob_any Sx.exc26_no Sx.places26_yes Sx.places26_paths Sx.start26_yes args_ok Sx.gok_none (Sx.rep0 _ W) hpc)))) (fun c t h => by cases h)

set_option maxRecDepth 100000 in
theorem law_lifted (os : Os) (started : os.Started) (H : Type) (enc : TypeId × Value → H) :
    ReturnsInHanded {} Try.checked os 5 .any (Rows.rvcFormsSpec.pre6 enc Try.prog Try.f5 Rows.rvcFormsRow.domain false) (Rows.rvcFormsSpec.post enc Try.prog Try.f5 false true false false) := by
  refine returnsInHanded_of_change (C := Try.checked) Try.own started (by kernel_rfl) Try.func5
    (ChangeSpec.witness6 (enc := enc) (C := Try.checked) false ⟨#[], #[.int .u16 0], []⟩ 8 (by kernel_rfl) (by kernel_rfl) (by kernel_rfl) (by kernel_rfl)) ?_
  intro W base args ds gs before hval0 hW hcnd _
  have hW' := hW
  obtain ⟨p, q, hA0, hV, rfl, hfz, hnd⟩ := hW
  have hA : DataW.TrodAll enc Try.prog W 0 (fun _ => true) true Try.f5.params.toList args.toList ds p := hA0
  have hval : ∀ (j : Nat) t v, Try.f5.params[j]? = some t → args[j]? = some v → Value.okWide Try.prog W .any base t v := hval0
  obtain ⟨rfl, rfl⟩ := trodVars_none hV
  have hA2 := hA
  rw [Try.params5] at hA2
  obtain ⟨_, _, d0, ds0, p0, q0, _, rfl, rfl, _, r0⟩ := trodAll_cons hA2
  obtain ⟨_, rfl, rfl⟩ := trodAll_nil r0
  refine (law_any hA hval).mono fun e W' ⟨he, bel⟩ => ?_
  subst he
  exact ⟨_, rfl, _, _, _, [], _, [], hW', trodAll_mk1 (shut_bool Try.underlying4 _), Sx.trodAll_below Try.laidOut bel (by kernel_rfl) hA, rfl, bel.frame _, fun h => by cases h⟩

theorem law_over : Rows.rvcFormsRow.holds Try.pinned (OpenSpec.ofChange Rows.rvcFormsSpec) :=
  OpenClaim.holds_of_wide 5 Try.f5 rfl rfl rfl rfl rfl rfl rfl ⟨rfl, rfl, rfl, rfl, rfl⟩ rfl rfl rfl rfl rfl (by kernel_rfl) Try.func5 (by kernel_rfl)
    (of_decide_eq_true (by kernel_rfl)) (by unfold Func.isWrapper; first | (rw [if_pos (by decide +kernel)]; kernel_rfl) | (rw [if_neg (by decide +kernel)]; exact ⟨rfl, rfl⟩))
    (fun os started H enc _ => law_lifted os started H enc)

theorem rvcForms_holds : Rows.RvcFormsSaid := law_over
end Go.Proofs.Ythdhleaigphgeaa
