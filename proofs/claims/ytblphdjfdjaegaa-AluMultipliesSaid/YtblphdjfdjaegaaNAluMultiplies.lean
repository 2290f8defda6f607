/- AluMultiplies: of all numbers, the law answers true. Every case of the numbers is read by the reader, in every order that Go leaves open. -/
import Derived.Test.YtblphdjfdjaegaaMAluMultiplies

namespace Go.Proofs.Ytblphdjfdjaegaa
open Go.ChangeShapes Go.WideShapes Go.ChangeAt Go.RowKit

theorem Try.own : ownKnob Try.prog.godebug = none := by kernel_rfl
theorem Try.laidOut : laidOutB Try.prog = true := by kernel_rfl

theorem wf_u64 {z : Int} (h : (Lit.int .u64 z).wf = true) : 0 ≤ z ∧ z ≤ 18446744073709551615 := by
  simpa [Lit.wf, IntKind.min, IntKind.max, IntKind.signed, IntKind.bits] using h

theorem law_any (a0 a1 : Int) (b0 : 0 ≤ a0 ∧ a0 ≤ 18446744073709551615) (b1 : 0 ≤ a1 ∧ a1 ≤ 18446744073709551615) (w : World) :
    Calls Try.prog 6 #[.int .u64 a0, .int .u64 a1] w fun e w' => e = .returned (.bool true) ∧ Below w.heap.size w w' := by
  have main : ∀ (i : Nat → Int), Calls Try.prog 6 (Sx.V.denL (Sx.env0 i fun _ => undef) Sx.lawArgs).toArray w fun e w' => e = .returned (.bool true) ∧ Below w.heap.size w w' := by
    intro i
    rcases Sx.cases_ok i with h | h | h | h
    · exact Sx.calls_yes_pc Sx.base_ok (by kernel_rfl) (args := Sx.lawArgs) (by simp [Sx.lawArgs, Sx.V.okL, Sx.V.ok]) Sx.read_case0 i (fun _ => undef) h w
    · exact Sx.calls_yes_pc Sx.base_ok (by kernel_rfl) (args := Sx.lawArgs) (by simp [Sx.lawArgs, Sx.V.okL, Sx.V.ok]) Sx.read_case1 i (fun _ => undef) h w
    · exact Sx.calls_yes_pc Sx.base_ok (by kernel_rfl) (args := Sx.lawArgs) (by simp [Sx.lawArgs, Sx.V.okL, Sx.V.ok]) Sx.read_case2 i (fun _ => undef) h w
    · exact Sx.calls_yes_pc Sx.base_ok (by kernel_rfl) (args := Sx.lawArgs) (by simp [Sx.lawArgs, Sx.V.okL, Sx.V.ok]) Sx.read_case3 i (fun _ => undef) h w
  have := main (fun j => if j = 0 then a0 else if j = 1 then a1 else 0)
  have hargs : (Sx.V.denL (Sx.env0 (fun j => if j = 0 then a0 else if j = 1 then a1 else 0) fun _ => undef) Sx.lawArgs).toArray = #[.int .u64 a0, .int .u64 a1] := by
    simp [Sx.lawArgs, Sx.V.denL, Sx.V.den, Sx.N.den, Sx.env0]
    omega
  rwa [hargs] at this

set_option maxRecDepth 100000 in
theorem law_lifted (os : Os) (started : os.Started) (H : Type) (enc : TypeId × Value → H) :
    ReturnsInHanded {} Try.checked os 6 .any (Rows.aluMultipliesSpec.pre6 enc Try.prog Try.f6 Rows.aluMultipliesRow.domain false) (Rows.aluMultipliesSpec.post enc Try.prog Try.f6 false true false false) := by
  refine returnsInHanded_of_change (C := Try.checked) Try.own started (by kernel_rfl) Try.func6
    (ChangeSpec.witness6 (enc := enc) (C := Try.checked) false ⟨#[], #[.int .u64 0, .int .u64 0], []⟩ 8 (by kernel_rfl) (by kernel_rfl) (by kernel_rfl) (by kernel_rfl)) ?_
  intro W base args ds gs before hval0 hW hcnd _
  have hval : ∀ (j : Nat) t v, Try.f6.params[j]? = some t → args[j]? = some v → Value.okWide Try.prog W .any base t v := hval0
  have hW' := hW
  obtain ⟨p, q, hA0, hV, rfl, hfz, hnd⟩ := hW
  have hA : DataW.TrodAll enc Try.prog W 0 (fun _ => true) true Try.f6.params.toList args.toList ds p := hA0
  rw [Try.params6] at hA hval
  obtain ⟨v0, vs0, d0, ds0, p0, q0, hargs, rfl, rfl, h0, r0⟩ := trodAll_cons hA
  obtain ⟨v1, vs1, d1, ds1, p1, q1, rfl, rfl, rfl, h1, r1⟩ := trodAll_cons r0
  obtain ⟨rfl, rfl, rfl⟩ := trodAll_nil r1
  obtain rfl : args = #[v0, v1] := by cases args; simp_all
  obtain ⟨rfl, rfl⟩ := trodVars_none hV
  have k0 := h0
  have k1 := h1
  have lt0 : ∀ x ∈ p0, x.block < W.heap.size := by obtain ⟨m, hm⟩ := h0; exact DataW.trod_lt m _ _ _ hm
  have lt1 : ∀ x ∈ p1, x.block < W.heap.size := by obtain ⟨m, hm⟩ := h1; exact DataW.trod_lt m _ _ _ hm
  obtain ⟨a0, rfl, _, _, w0⟩ := open_int Try.underlying22 (hval 0 22 v0 rfl rfl) h0
  obtain ⟨a1, rfl, _, _, w1⟩ := open_int Try.underlying22 (hval 1 22 v1 rfl rfl) h1
  clear hA0 hval0
  refine (law_any a0 a1 (wf_u64 w0) (wf_u64 w1) W).mono fun e W' ⟨he, bel⟩ => ?_
  subst he
  exact ⟨_, rfl, _, _, _, [], _, [], hW', trodAll_mk1 (shut_bool Try.underlying4 _), (trodAll_cons_mk (Below.trod Try.laidOut (by kernel_rfl) (of_decide_eq_true (by kernel_rfl)) k0 bel lt0) (trodAll_cons_mk (Below.trod Try.laidOut (by kernel_rfl) (of_decide_eq_true (by kernel_rfl)) k1 bel lt1) trodAll_mk0)), rfl, bel.frame _, fun h => by cases h⟩

theorem law_over : Rows.aluMultipliesRow.holds Try.pinned (OpenSpec.ofChange Rows.aluMultipliesSpec) :=
  OpenClaim.holds_of_wide 6 Try.f6 rfl rfl rfl rfl rfl rfl rfl ⟨rfl, rfl, rfl, rfl, rfl⟩ rfl rfl rfl rfl rfl (by kernel_rfl) Try.func6 (by kernel_rfl)
    (of_decide_eq_true (by kernel_rfl)) (by unfold Func.isWrapper; first | (rw [if_pos (by decide +kernel)]; kernel_rfl) | (rw [if_neg (by decide +kernel)]; exact ⟨rfl, rfl⟩))
    (fun os started H enc _ => law_lifted os started H enc)

theorem aluMultiplies_holds : Rows.AluMultipliesSaid := law_over
end Go.Proofs.Ytblphdjfdjaegaa
