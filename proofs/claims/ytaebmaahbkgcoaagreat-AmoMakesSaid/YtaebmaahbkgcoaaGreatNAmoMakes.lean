/- AmoMakes: of all arguments, the law answers true: read by the reader, in every order that Go leaves open. -/
import Derived.Test.YtaebmaahbkgcoaaGreatEAmoMakes
namespace Go.Proofs.YtaebmaahbkgcoaaGreat
open Go.ChangeShapes Go.WideShapes Go.ChangeAt Go.RowKit

theorem Tryz.own : ownKnob Tryz.prog.godebug = none := by kernel_rfl
theorem Tryz.laidOut : laidOutB Tryz.prog = true := by kernel_rfl

theorem okw_list {P : Program} {W : World} {r : Reach} {b0 : Nat} {ts : Array TypeId} {vs : Array Value} (h : ∀ (j : Nat) t v, ts[j]? = some t → vs[j]? = some v → Value.okWide P W r b0 t v) :
    ∀ (j : Nat) t v, ts.toList[j]? = some t → vs.toList[j]? = some v → Value.okWide P W r b0 t v := fun j t v a b => h j t v (by simpa using a) (by simpa using b)
theorem args_ok : Sx.V.okL (({ nxt := 0, hp := .nil, pc := [] } : Sx.St)).hp (Sx.psV Sx.lawPs 0) := by simp [Sx.psV, Sx.lawPs, Sx.V.okL, Sx.V.ok, Sx.cellV, Sx.cellsV]
set_option maxRecDepth 100000 in
theorem law_any {H : Type} {enc : TypeId × Value → H} {W : World} {base b0 : Nat} {r : Reach} {sp : Nat → Bool} {held : Bool} {args : Array Value} {ds : List (DataW H)} {ps : List MemPlace}
    (hA : DataW.TrodAll enc Tryz.prog W base sp held Tryz.f3.params.toList args.toList ds ps) (hval : ∀ (j : Nat) t v, Tryz.f3.params[j]? = some t → args[j]? = some v → Value.okWide Tryz.prog W r b0 t v) :
    Calls Tryz.prog 3 args W fun e w' => e = .returned (.bool true) ∧ Below W.heap.size W w' := by
  have hargs := Sx.open_args (Sx.env0 (Sx.intsOf Sx.lawPs args.toList []) (fun _ => undef)) (l := Sx.lawPs) (i := 0) (g := []) (by kernel_rfl) hA (okw_list hval)
    (by intro j v n u h; exfalso; revert h; simp [Sx.lawPs]; rcases j with _ | _ | _ | _ <;> simp) (Nat.le_of_ble_eq_true (by kernel_rfl)) (fun j _ => by rw [Nat.zero_add]; rfl)
  have fin : ∀ e : Sx.Env, Sx.V.denL e (Sx.psV Sx.lawPs 0) = args.toList → Calls Tryz.prog 3 (Sx.V.denL e (Sx.psV Sx.lawPs 0)).toArray W (fun e w' => e = .returned (.bool true) ∧ Below W.heap.size W w') → Calls Tryz.prog 3 args W fun e w' => e = .returned (.bool true) ∧ Below W.heap.size W w' := fun e h1 h2 => by
    rw [h1] at h2; simpa using h2
  refine fin _ hargs ?_
  exact (Sx.by_case (.lt (.var 0 0 255) (.lit 67))
    (fun hpc => Sx.law_of_places (w0 := W) (Sx.ev_ok Sx.base_ok (by kernel_rfl) _) (by kernel_rfl) Tryz.func3 (show Tryz.f3.body = some Sx.lawBody from rfl) Sx.noGlob_any Sx.exc0_no Sx.places0_yes Sx.places0_paths Sx.start0_yes args_ok Sx.gok_none (Sx.rep0 _ W) hpc)
    (Sx.by_case (.lt (.var 0 0 255) (.lit 89))
    (Sx.by_case (.lt (.var 0 0 255) (.lit 78))
    (Sx.by_case (.lt (.var 0 0 255) (.lit 72))
    (Sx.by_case (.lt (.var 0 0 255) (.lit 69))
    (Sx.by_case (.lt (.var 0 0 255) (.lit 68))
    (fun hpc => Sx.law_of_places (w0 := W) (Sx.ev_ok Sx.base_ok (by kernel_rfl) _) (by kernel_rfl) Tryz.func3 (show Tryz.f3.body = some Sx.lawBody from rfl) Sx.noGlob_any Sx.exc1_no Sx.places1_yes Sx.places1_paths Sx.start1_yes args_ok Sx.gok_none (Sx.rep0 _ W) hpc)
    (fun hpc => Sx.law_of_places (w0 := W) (Sx.ev_ok Sx.base_ok (by kernel_rfl) _) (by kernel_rfl) Tryz.func3 (show Tryz.f3.body = some Sx.lawBody from rfl) Sx.noGlob_any Sx.exc2_no Sx.places2_yes Sx.places2_paths Sx.start2_yes args_ok Sx.gok_none (Sx.rep0 _ W) hpc))
    (Sx.by_case (.lt (.var 0 0 255) (.lit 70))
    (fun hpc => Sx.law_of_places (w0 := W) (Sx.ev_ok Sx.base_ok (by kernel_rfl) _) (by kernel_rfl) Tryz.func3 (show Tryz.f3.body = some Sx.lawBody from rfl) Sx.noGlob_any Sx.exc3_no Sx.places3_yes Sx.places3_paths Sx.start3_yes args_ok Sx.gok_none (Sx.rep0 _ W) hpc)
    (Sx.by_case (.lt (.var 0 0 255) (.lit 71))
    (fun hpc => Sx.law_of_places (w0 := W) (Sx.ev_ok Sx.base_ok (by kernel_rfl) _) (by kernel_rfl) Tryz.func3 (show Tryz.f3.body = some Sx.lawBody from rfl) Sx.noGlob_any Sx.exc4_no Sx.places4_yes Sx.places4_paths Sx.start4_yes args_ok Sx.gok_none (Sx.rep0 _ W) hpc)
    (fun hpc => Sx.law_of_places (w0 := W) (Sx.ev_ok Sx.base_ok (by kernel_rfl) _) (by kernel_rfl) Tryz.func3 (show Tryz.f3.body = some Sx.lawBody from rfl) Sx.noGlob_any Sx.exc5_no Sx.places5_yes Sx.places5_paths Sx.start5_yes args_ok Sx.gok_none (Sx.rep0 _ W) hpc))))
    (Sx.by_case (.lt (.var 0 0 255) (.lit 75))
    (Sx.by_case (.lt (.var 0 0 255) (.lit 73))
    (fun hpc => Sx.law_of_places (w0 := W) (Sx.ev_ok Sx.base_ok (by kernel_rfl) _) (by kernel_rfl) Tryz.func3 (show Tryz.f3.body = some Sx.lawBody from rfl) Sx.noGlob_any Sx.exc6_no Sx.places6_yes Sx.places6_paths Sx.start6_yes args_ok Sx.gok_none (Sx.rep0 _ W) hpc)
    (Sx.by_case (.lt (.var 0 0 255) (.lit 74))
    (fun hpc => Sx.law_of_places (w0 := W) (Sx.ev_ok Sx.base_ok (by kernel_rfl) _) (by kernel_rfl) Tryz.func3 (show Tryz.f3.body = some Sx.lawBody from rfl) Sx.noGlob_any Sx.exc7_no Sx.places7_yes Sx.places7_paths Sx.start7_yes args_ok Sx.gok_none (Sx.rep0 _ W) hpc)
    (fun hpc => Sx.law_of_places (w0 := W) (Sx.ev_ok Sx.base_ok (by kernel_rfl) _) (by kernel_rfl) Tryz.func3 (show Tryz.f3.body = some Sx.lawBody from rfl) Sx.noGlob_any Sx.exc8_no Sx.places8_yes Sx.places8_paths Sx.start8_yes args_ok Sx.gok_none (Sx.rep0 _ W) hpc)))
    (Sx.by_case (.lt (.var 0 0 255) (.lit 76))
    (fun hpc => Sx.law_of_places (w0 := W) (Sx.ev_ok Sx.base_ok (by kernel_rfl) _) (by kernel_rfl) Tryz.func3 (show Tryz.f3.body = some Sx.lawBody from rfl) Sx.noGlob_any Sx.exc9_no Sx.places9_yes Sx.places9_paths Sx.start9_yes args_ok Sx.gok_none (Sx.rep0 _ W) hpc)
    (Sx.by_case (.lt (.var 0 0 255) (.lit 77))
    (fun hpc => Sx.law_of_places (w0 := W) (Sx.ev_ok Sx.base_ok (by kernel_rfl) _) (by kernel_rfl) Tryz.func3 (show Tryz.f3.body = some Sx.lawBody from rfl) Sx.noGlob_any Sx.exc10_no Sx.places10_yes Sx.places10_paths Sx.start10_yes args_ok Sx.gok_none (Sx.rep0 _ W) hpc)
    (fun hpc => Sx.law_of_places (w0 := W) (Sx.ev_ok Sx.base_ok (by kernel_rfl) _) (by kernel_rfl) Tryz.func3 (show Tryz.f3.body = some Sx.lawBody from rfl) Sx.noGlob_any Sx.exc11_no Sx.places11_yes Sx.places11_paths Sx.start11_yes args_ok Sx.gok_none (Sx.rep0 _ W) hpc)))))
    (Sx.by_case (.lt (.var 0 0 255) (.lit 83))
    (Sx.by_case (.lt (.var 0 0 255) (.lit 80))
    (Sx.by_case (.lt (.var 0 0 255) (.lit 79))
    (fun hpc => Sx.law_of_places (w0 := W) (Sx.ev_ok Sx.base_ok (by kernel_rfl) _) (by kernel_rfl) Tryz.func3 (show Tryz.f3.body = some Sx.lawBody from rfl) Sx.noGlob_any Sx.exc12_no Sx.places12_yes Sx.places12_paths Sx.start12_yes args_ok Sx.gok_none (Sx.rep0 _ W) hpc)
    (fun hpc => Sx.law_of_places (w0 := W) (Sx.ev_ok Sx.base_ok (by kernel_rfl) _) (by kernel_rfl) Tryz.func3 (show Tryz.f3.body = some Sx.lawBody from rfl) Sx.noGlob_any Sx.exc13_no Sx.places13_yes Sx.places13_paths Sx.start13_yes args_ok Sx.gok_none (Sx.rep0 _ W) hpc))
    (Sx.by_case (.lt (.var 0 0 255) (.lit 81))
    (fun hpc => Sx.law_of_places (w0 := W) (Sx.ev_ok Sx.base_ok (by kernel_rfl) _) (by kernel_rfl) Tryz.func3 (show Tryz.f3.body = some Sx.lawBody from rfl) Sx.noGlob_any Sx.exc14_no Sx.places14_yes Sx.places14_paths Sx.start14_yes args_ok Sx.gok_none (Sx.rep0 _ W) hpc)
    (Sx.by_case (.lt (.var 0 0 255) (.lit 82))
    (fun hpc => Sx.law_of_places (w0 := W) (Sx.ev_ok Sx.base_ok (by kernel_rfl) _) (by kernel_rfl) Tryz.func3 (show Tryz.f3.body = some Sx.lawBody from rfl) Sx.noGlob_any Sx.exc15_no Sx.places15_yes Sx.places15_paths Sx.start15_yes args_ok Sx.gok_none (Sx.rep0 _ W) hpc)
    (fun hpc => Sx.law_of_places (w0 := W) (Sx.ev_ok Sx.base_ok (by kernel_rfl) _) (by kernel_rfl) Tryz.func3 (show Tryz.f3.body = some Sx.lawBody from rfl) Sx.noGlob_any Sx.exc16_no Sx.places16_yes Sx.places16_paths Sx.start16_yes args_ok Sx.gok_none (Sx.rep0 _ W) hpc))))
    (Sx.by_case (.lt (.var 0 0 255) (.lit 86))
    (Sx.by_case (.lt (.var 0 0 255) (.lit 84))
    (fun hpc => Sx.law_of_places (w0 := W) (Sx.ev_ok Sx.base_ok (by kernel_rfl) _) (by kernel_rfl) Tryz.func3 (show Tryz.f3.body = some Sx.lawBody from rfl) Sx.noGlob_any Sx.exc17_no Sx.places17_yes Sx.places17_paths Sx.start17_yes args_ok Sx.gok_none (Sx.rep0 _ W) hpc)
    (Sx.by_case (.lt (.var 0 0 255) (.lit 85))
    (fun hpc => Sx.law_of_places (w0 := W) (Sx.ev_ok Sx.base_ok (by kernel_rfl) _) (by kernel_rfl) Tryz.func3 (show Tryz.f3.body = some Sx.lawBody from rfl) Sx.noGlob_any Sx.exc18_no Sx.places18_yes Sx.places18_paths Sx.start18_yes args_ok Sx.gok_none (Sx.rep0 _ W) hpc)
    (fun hpc => Sx.law_of_places (w0 := W) (Sx.ev_ok Sx.base_ok (by kernel_rfl) _) (by kernel_rfl) Tryz.func3 (show Tryz.f3.body = some Sx.lawBody from rfl) Sx.noGlob_any Sx.exc19_no Sx.places19_yes Sx.places19_paths Sx.start19_yes args_ok Sx.gok_none (Sx.rep0 _ W) hpc)))
    (Sx.by_case (.lt (.var 0 0 255) (.lit 87))
    (fun hpc => Sx.law_of_places (w0 := W) (Sx.ev_ok Sx.base_ok (by kernel_rfl) _) (by kernel_rfl) Tryz.func3 (show Tryz.f3.body = some Sx.lawBody from rfl) Sx.noGlob_any Sx.exc20_no Sx.places20_yes Sx.places20_paths Sx.start20_yes args_ok Sx.gok_none (Sx.rep0 _ W) hpc)
    (Sx.by_case (.lt (.var 0 0 255) (.lit 88))
    (fun hpc => Sx.law_of_places (w0 := W) (Sx.ev_ok Sx.base_ok (by kernel_rfl) _) (by kernel_rfl) Tryz.func3 (show Tryz.f3.body = some Sx.lawBody from rfl) Sx.noGlob_any Sx.exc21_no Sx.places21_yes Sx.places21_paths Sx.start21_yes args_ok Sx.gok_none (Sx.rep0 _ W) hpc)
    (fun hpc => Sx.law_of_places (w0 := W) (Sx.ev_ok Sx.base_ok (by kernel_rfl) _) (by kernel_rfl) Tryz.func3 (show Tryz.f3.body = some Sx.lawBody from rfl) Sx.noGlob_any Sx.exc22_no Sx.places22_yes Sx.places22_paths Sx.start22_yes args_ok Sx.gok_none (Sx.rep0 _ W) hpc))))))
    (fun hpc => Sx.law_of_places (w0 := W) (Sx.ev_ok Sx.base_ok (by kernel_rfl) _) (by kernel_rfl) Tryz.func3 (show Tryz.f3.body = some Sx.lawBody from rfl) Sx.noGlob_any Sx.exc23_no Sx.places23_yes Sx.places23_paths Sx.start23_yes args_ok Sx.gok_none (Sx.rep0 _ W) hpc))) (fun c t h => by cases h)

set_option maxRecDepth 100000 in
theorem law_lifted (os : Os) (started : os.Started) (H : Type) (enc : TypeId × Value → H) :
    ReturnsInHanded {} Tryz.checked os 3 .any (Rows.amoMakesSpec.pre6 enc Tryz.prog Tryz.f3 Rows.amoMakesRow.domain false) (Rows.amoMakesSpec.post enc Tryz.prog Tryz.f3 false true false false) := by
  refine returnsInHanded_of_change (C := Tryz.checked) Tryz.own started (by kernel_rfl) Tryz.func3
    (ChangeSpec.witness6 (enc := enc) (C := Tryz.checked) false ⟨#[], #[.int .u8 0, .int .u64 0, .int .u64 0], []⟩ 8 (by kernel_rfl) (by kernel_rfl) (by kernel_rfl) (by kernel_rfl)) ?_
  intro W base args ds gs before hval0 hW hcnd _
  have hW' := hW
  obtain ⟨p, q, hA0, hV, rfl, hfz, hnd⟩ := hW
  have hA : DataW.TrodAll enc Tryz.prog W 0 (fun _ => true) true Tryz.f3.params.toList args.toList ds p := hA0
  have hval : ∀ (j : Nat) t v, Tryz.f3.params[j]? = some t → args[j]? = some v → Value.okWide Tryz.prog W .any base t v := hval0
  obtain ⟨rfl, rfl⟩ := trodVars_none hV
  have hA2 := hA
  rw [Tryz.params3] at hA2
  obtain ⟨_, _, d0, ds0, p0, q0, _, rfl, rfl, _, r0⟩ := trodAll_cons hA2
  obtain ⟨_, _, d1, ds1, p1, q1, _, rfl, rfl, _, r1⟩ := trodAll_cons r0
  obtain ⟨_, _, d2, ds2, p2, q2, _, rfl, rfl, _, r2⟩ := trodAll_cons r1
  obtain ⟨_, rfl, rfl⟩ := trodAll_nil r2
  refine (law_any hA hval).mono fun e W' ⟨he, bel⟩ => ?_
  subst he
  exact ⟨_, rfl, _, _, _, [], _, [], hW', trodAll_mk1 (shut_bool Tryz.underlying4 _), Sx.trodAll_below Tryz.laidOut bel (by kernel_rfl) hA, rfl, bel.frame _, fun h => by cases h⟩

theorem law_over : Rows.amoMakesRow.holds Tryz.pinned (OpenSpec.ofChange Rows.amoMakesSpec) :=
  OpenClaim.holds_of_wide 3 Tryz.f3 rfl rfl rfl rfl rfl rfl rfl ⟨rfl, rfl, rfl, rfl, rfl⟩ rfl rfl rfl rfl rfl (by kernel_rfl) Tryz.func3 (by kernel_rfl)
    (of_decide_eq_true (by kernel_rfl)) (by unfold Func.isWrapper; first | (rw [if_pos (by decide +kernel)]; kernel_rfl) | (rw [if_neg (by decide +kernel)]; exact ⟨rfl, rfl⟩))
    (fun os started H enc _ => law_lifted os started H enc)

theorem amoMakes_holds : Rows.AmoMakesSaid := law_over
end Go.Proofs.YtaebmaahbkgcoaaGreat
