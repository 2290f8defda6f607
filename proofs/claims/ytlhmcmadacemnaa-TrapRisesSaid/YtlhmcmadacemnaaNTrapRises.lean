/- TrapRises: of all arguments, the law answers true: read by the reader, in every order that Go leaves open. -/
import Derived.Test.YtlhmcmadacemnaaUTrapRisesF
set_option linter.unusedVariables false
set_option linter.unusedSimpArgs false
namespace Go.Proofs.Ytlhmcmadacemnaa
open Go.ChangeShapes Go.WideShapes Go.ChangeAt Go.RowKit

theorem Try.own : ownKnob Try.prog.godebug = none := by kernel_rfl
theorem Try.laidOut : laidOutB Try.prog = true := by kernel_rfl

theorem okw_list {P : Program} {W : World} {r : Reach} {b0 : Nat} {ts : Array TypeId} {vs : Array Value} (h : ∀ (j : Nat) t v, ts[j]? = some t → vs[j]? = some v → Value.okWide P W r b0 t v) :
    ∀ (j : Nat) t v, ts.toList[j]? = some t → vs.toList[j]? = some v → Value.okWide P W r b0 t v := fun j t v a b => h j t v (by simpa using a) (by simpa using b)
theorem args_ok : Sx.V.okL (({ nxt := 0, hp := .nil, pc := [] } : Sx.St)).hp (Sx.psV Sx.lawPs 0) := by simp [Sx.psV, Sx.lawPs, Sx.V.okL, Sx.V.ok, Sx.cellV, Sx.cellsV]
set_option maxRecDepth 100000 in
theorem law_any {H : Type} {enc : TypeId × Value → H} {W : World} {base b0 : Nat} {r : Reach} {sp : Nat → Bool} {held : Bool} {args : Array Value} {ds : List (DataW H)} {ps : List MemPlace}
    (hA : DataW.TrodAll enc Try.prog W base sp held Try.f4.params.toList args.toList ds ps) (hval : ∀ (j : Nat) t v, Try.f4.params[j]? = some t → args[j]? = some v → Value.okWide Try.prog W r b0 t v) :
    Calls Try.prog 4 args W fun e w' => e = .returned (.bool true) ∧ Below W.heap.size W w' := by
  have hargs := Sx.open_args (Sx.env0 (Sx.intsOf Sx.lawPs args.toList []) (fun _ => undef)) (l := Sx.lawPs) (i := 0) (g := []) (by kernel_rfl) hA (okw_list hval)
    (by intro j v n u h; exfalso; revert h; simp [Sx.lawPs]; rcases j with _ | _ | _ | _ <;> simp) (Nat.le_of_ble_eq_true (by kernel_rfl)) (fun j _ => by rw [Nat.zero_add]; rfl)
  have fin : ∀ e : Sx.Env, Sx.V.denL e (Sx.psV Sx.lawPs 0) = args.toList → Calls Try.prog 4 (Sx.V.denL e (Sx.psV Sx.lawPs 0)).toArray W (fun e w' => e = .returned (.bool true) ∧ Below W.heap.size W w') → Calls Try.prog 4 args W fun e w' => e = .returned (.bool true) ∧ Below W.heap.size W w' := fun e h1 h2 => by
    rw [h1] at h2; simpa using h2
  refine fin _ hargs ?_
  exact (fun hpc => Sx.law_of_places (w0 := W) (Sx.ev_ok Sx.base_ok (by kernel_rfl) _) (by kernel_rfl) Try.func4 (show Try.f4.body = some Sx.lawBody from rfl) Sx.noGlob_any Sx.exc0_no Sx.places0_yes Sx.places0_paths Sx.start0_yes args_ok Sx.gok_none (Sx.rep0 _ W) hpc) (fun c t h => by cases h)

set_option maxRecDepth 100000 in
theorem law_lifted (os : Os) (started : os.Started) (H : Type) (enc : TypeId × Value → H) :
    ReturnsInHanded {} Try.checked os 4 .any (Rows.trapRisesSpec.pre6 enc Try.prog Try.f4 Rows.trapRisesRow.domain false) (Rows.trapRisesSpec.post enc Try.prog Try.f4 false true false false) := by
  refine returnsInHanded_of_change (C := Try.checked) Try.own started (by kernel_rfl) Try.func4
    (ChangeSpec.witness6 (enc := enc) (C := Try.checked) false ⟨#[], #[.agg #[.int .u64 0, .int .u64 0, .int .u64 0, .int .u64 0, .int .u64 0, .int .u64 0, .int .u64 0, .int .u64 0, .int .u64 0, .int .u64 0, .int .u64 0, .int .u64 0, .int .u64 0, .int .u64 0, .int .u64 0, .int .u64 0, .int .u64 0, .int .u64 0, .int .u64 0, .int .u64 0, .int .u64 0, .int .u64 0, .int .u64 0, .int .u64 0, .int .u64 0, .int .u64 0, .int .u64 0, .int .u64 0, .int .u64 0, .int .u64 0, .int .u64 0], .agg #[.int .u8 0, .int .u64 0], .agg #[.int .u8 0, .bool false, .int .u64 0]], []⟩ 8 (by kernel_rfl) (by kernel_rfl) (by kernel_rfl) (by kernel_rfl)) ?_
  intro W base args ds gs before hval0 hW hcnd _
  have hW' := hW
  obtain ⟨p, q, hA0, hV, rfl, hfz, hnd⟩ := hW
  have hA : DataW.TrodAll enc Try.prog W 0 (fun _ => true) true Try.f4.params.toList args.toList ds p := hA0
  have hval : ∀ (j : Nat) t v, Try.f4.params[j]? = some t → args[j]? = some v → Value.okWide Try.prog W .any base t v := hval0
  obtain ⟨rfl, rfl⟩ := trodVars_none hV
  have hA2 := hA
  rw [Try.params4] at hA2
  obtain ⟨_, _, d0, ds0, p0, q0, _, rfl, rfl, _, r0⟩ := trodAll_cons hA2
  obtain ⟨_, _, d1, ds1, p1, q1, _, rfl, rfl, _, r1⟩ := trodAll_cons r0
  obtain ⟨_, _, d2, ds2, p2, q2, _, rfl, rfl, _, r2⟩ := trodAll_cons r1
  obtain ⟨_, rfl, rfl⟩ := trodAll_nil r2
  refine (law_any hA hval).mono fun e W' ⟨he, bel⟩ => ?_
  subst he
  exact ⟨_, rfl, _, _, _, [], _, [], hW', trodAll_mk1 (shut_bool Try.underlying4 _), Sx.trodAll_below Try.laidOut bel (by kernel_rfl) hA, rfl, bel.frame _, fun h => by cases h⟩

theorem law_over : Rows.trapRisesRow.holds Try.pinned (OpenSpec.ofChange Rows.trapRisesSpec) :=
  OpenClaim.holds_of_wide 4 Try.f4 rfl rfl rfl rfl rfl rfl rfl ⟨rfl, rfl, rfl, rfl, rfl⟩ rfl rfl rfl rfl rfl (by kernel_rfl) Try.func4 (by kernel_rfl)
    (of_decide_eq_true (by kernel_rfl)) (by unfold Func.isWrapper; first | (rw [if_pos (by decide +kernel)]; kernel_rfl) | (rw [if_neg (by decide +kernel)]; exact ⟨rfl, rfl⟩))
    (fun os started H enc _ => law_lifted os started H enc)

theorem trapRises_holds : Rows.TrapRisesSaid := law_over
end Go.Proofs.Ytlhmcmadacemnaa
