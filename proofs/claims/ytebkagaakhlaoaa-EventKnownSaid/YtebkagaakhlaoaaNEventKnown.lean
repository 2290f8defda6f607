/- EventKnown: the law answers true: read by the reader, in every order that Go leaves open. -/
import Derived.Test.YtebkagaakhlaoaaUEventKnown
namespace Go.Proofs.Ytebkagaakhlaoaa
open Go.ChangeShapes Go.WideShapes Go.ChangeAt Go.RowKit

theorem Try.own : ownKnob Try.prog.godebug = none := by kernel_rfl
theorem Try.laidOut : laidOutB Try.prog = true := by kernel_rfl

theorem law_any (w : World) : Calls Try.prog 3 #[] w fun e w' => e = .returned (.bool true) ∧ Below w.heap.size w w' :=
  Sx.law_of_places (w0 := w) (Sx.ev_ok (Sx.noBase_ok _ _) (by kernel_rfl) _) (by kernel_rfl) Try.func3 (show Try.f3.body = some Sx.lawBody from rfl) Sx.noGlob_any (by intro q hq; cases hq) Sx.places0_yes Sx.places0_paths Sx.start0_yes (e := Sx.rowEnv (fun _ => 0) ⟨0, 0, none⟩ 0 1 w) (by simp [Sx.lawArgs0, Sx.V.okL]) Sx.gok_none (Sx.rep0 _ w) (fun c t h => by cases h)

set_option maxRecDepth 100000 in
theorem law_lifted (os : Os) (started : os.Started) (H : Type) (enc : TypeId × Value → H) :
    ReturnsInHanded {} Try.checked os 3 .any (Rows.eventKnownSpec.pre6 enc Try.prog Try.f3 Rows.eventKnownRow.domain false) (Rows.eventKnownSpec.post enc Try.prog Try.f3 false true false false) := by
  refine returnsInHanded_of_change (C := Try.checked) Try.own started (by kernel_rfl) Try.func3
    (ChangeSpec.witness6 (enc := enc) (C := Try.checked) false ⟨#[], #[], []⟩ 8 (by kernel_rfl) (by kernel_rfl) (by kernel_rfl) (by kernel_rfl)) ?_
  intro W base args ds gs before hval0 hW hcnd _
  have hW' := hW
  obtain ⟨p, q, hA0, hV, rfl, hfz, hnd⟩ := hW
  have hA : DataW.TrodAll enc Try.prog W 0 (fun _ => true) true Try.f3.params.toList args.toList ds p := hA0
  rw [Try.params3] at hA
  obtain ⟨hargs, rfl, rfl⟩ := trodAll_nil hA
  obtain rfl : args = #[] := by cases args; simp_all
  obtain ⟨rfl, rfl⟩ := trodVars_none hV
  clear hA0 hval0
  refine (law_any W).mono fun e W' ⟨he, bel⟩ => ?_
  subst he
  exact ⟨_, rfl, _, _, _, [], _, [], hW', trodAll_mk1 (shut_bool Try.underlying4 _), trodAll_mk0, rfl, bel.frame _, fun h => by cases h⟩

theorem law_over : Rows.eventKnownRow.holds Try.pinned (OpenSpec.ofChange Rows.eventKnownSpec) :=
  OpenClaim.holds_of_wide 3 Try.f3 rfl rfl rfl rfl rfl rfl rfl ⟨rfl, rfl, rfl, rfl, rfl⟩ rfl rfl rfl rfl rfl (by kernel_rfl) Try.func3 (by kernel_rfl)
    (of_decide_eq_true (by kernel_rfl)) (by unfold Func.isWrapper; first | (rw [if_pos (by decide +kernel)]; kernel_rfl) | (rw [if_neg (by decide +kernel)]; exact ⟨rfl, rfl⟩))
    (fun os started H enc _ => law_lifted os started H enc)

theorem eventKnown_holds : Rows.EventKnownSaid := law_over
end Go.Proofs.Ytebkagaakhlaoaa
