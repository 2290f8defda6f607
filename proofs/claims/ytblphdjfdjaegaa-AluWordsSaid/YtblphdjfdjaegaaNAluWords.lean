/- AluWords: of all numbers, the law answers true. Every case of the numbers is read by the reader, in every order that Go leaves open. -/
import Derived.Test.YtblphdjfdjaegaaMAluWords
import Derived.Test.YtblphdjfdjaegaaSx
namespace Go.Proofs.Ytblphdjfdjaegaa
open Go.ChangeShapes Go.WideShapes Go.ChangeAt Go.RowKit

theorem Try.own : ownKnob Try.prog.godebug = none := by kernel_rfl
theorem Try.laidOut : laidOutB Try.prog = true := by kernel_rfl

theorem wf_u32 {z : Int} (h : (Lit.int .u32 z).wf = true) : 0 ≤ z ∧ z ≤ 4294967295 := by
  simpa [Lit.wf, IntKind.min, IntKind.max, IntKind.signed, IntKind.bits] using h
theorem wf_u64 {z : Int} (h : (Lit.int .u64 z).wf = true) : 0 ≤ z ∧ z ≤ 18446744073709551615 := by
  simpa [Lit.wf, IntKind.min, IntKind.max, IntKind.signed, IntKind.bits] using h
theorem list_of2 {l : List Int} (h : l.length = 2) : ∃ a2_0 a2_1, l = [a2_0, a2_1] := by
  match l, h with
  | [a2_0, a2_1], _ => exact ⟨a2_0, a2_1, rfl⟩

theorem law_any (a0 a1 a2_0 a2_1 : Int) (b0 : 0 ≤ a0 ∧ a0 ≤ 18446744073709551615) (b1 : 0 ≤ a1 ∧ a1 ≤ 18446744073709551615) (b2 : 0 ≤ a2_0 ∧ a2_0 ≤ 4294967295) (b3 : 0 ≤ a2_1 ∧ a2_1 ≤ 4294967295) (w : World) :
    Calls Try.prog 7 #[.int .u64 a0, .int .u64 a1, .agg #[.int .u32 a2_0, .int .u32 a2_1]] w fun e w' => e = .returned (.bool true) ∧ Below w.heap.size w w' := by
  have main : ∀ (i : Nat → Int), Calls Try.prog 7 (Sx.V.denL (Sx.env0 i fun _ => undef) Sx.lawArgs).toArray w fun e w' => e = .returned (.bool true) ∧ Below w.heap.size w w' := by
    intro i
    rcases Sx.cases_ok i with h | h | h | h | h | h
    · exact Sx.calls_yes_pc Sx.base_ok (by kernel_rfl) (args := Sx.lawArgs) (by simp [Sx.lawArgs, Sx.V.okL, Sx.V.ok]) Sx.read_case0 i (fun _ => undef) h w
    · exact Sx.calls_yes_pc Sx.base_ok (by kernel_rfl) (args := Sx.lawArgs) (by simp [Sx.lawArgs, Sx.V.okL, Sx.V.ok]) Sx.read_case1 i (fun _ => undef) h w
    · exact Sx.calls_yes_pc Sx.base_ok (by kernel_rfl) (args := Sx.lawArgs) (by simp [Sx.lawArgs, Sx.V.okL, Sx.V.ok]) Sx.read_case2 i (fun _ => undef) h w
    · exact Sx.calls_yes_pc Sx.base_ok (by kernel_rfl) (args := Sx.lawArgs) (by simp [Sx.lawArgs, Sx.V.okL, Sx.V.ok]) Sx.read_case3 i (fun _ => undef) h w
    · exact Sx.calls_yes_pc Sx.base_ok (by kernel_rfl) (args := Sx.lawArgs) (by simp [Sx.lawArgs, Sx.V.okL, Sx.V.ok]) Sx.read_case4 i (fun _ => undef) h w
    · exact Sx.calls_yes_pc Sx.base_ok (by kernel_rfl) (args := Sx.lawArgs) (by simp [Sx.lawArgs, Sx.V.okL, Sx.V.ok]) Sx.read_case5 i (fun _ => undef) h w
  have := main (fun j => if j = 0 then a0 else if j = 1 then a1 else if j = 2 then a2_0 else if j = 3 then a2_1 else 0)
  have hargs : (Sx.V.denL (Sx.env0 (fun j => if j = 0 then a0 else if j = 1 then a1 else if j = 2 then a2_0 else if j = 3 then a2_1 else 0) fun _ => undef) Sx.lawArgs).toArray = #[.int .u64 a0, .int .u64 a1, .agg #[.int .u32 a2_0, .int .u32 a2_1]] := by
    simp [Sx.lawArgs, Sx.V.denL, Sx.V.den, Sx.N.den, Sx.env0]
    omega
  rwa [hargs] at this

set_option maxRecDepth 100000 in
theorem law_lifted (os : Os) (started : os.Started) (H : Type) (enc : TypeId × Value → H) :
    ReturnsInHanded {} Try.checked os 7 .any (Rows.aluWordsSpec.pre6 enc Try.prog Try.f7 Rows.aluWordsRow.domain false) (Rows.aluWordsSpec.post enc Try.prog Try.f7 false true false false) := by
  refine returnsInHanded_of_change (C := Try.checked) Try.own started (by kernel_rfl) Try.func7
    (ChangeSpec.witness6 (enc := enc) (C := Try.checked) false ⟨#[], #[.int .u64 0, .int .u64 0, .agg #[.int .u32 0, .int .u32 0]], []⟩ 8 (by kernel_rfl) (by kernel_rfl) (by kernel_rfl) (by kernel_rfl)) ?_
  intro W base args ds gs before hval0 hW hcnd _
  have hval : ∀ (j : Nat) t v, Try.f7.params[j]? = some t → args[j]? = some v → Value.okWide Try.prog W .any base t v := hval0
  have hW' := hW
  obtain ⟨p, q, hA0, hV, rfl, hfz, hnd⟩ := hW
  have hA : DataW.TrodAll enc Try.prog W 0 (fun _ => true) true Try.f7.params.toList args.toList ds p := hA0
  rw [Try.params7] at hA hval
  obtain ⟨v0, vs0, d0, ds0, p0, q0, hargs, rfl, rfl, h0, r0⟩ := trodAll_cons hA
  obtain ⟨v1, vs1, d1, ds1, p1, q1, rfl, rfl, rfl, h1, r1⟩ := trodAll_cons r0
  obtain ⟨v2, vs2, d2, ds2, p2, q2, rfl, rfl, rfl, h2, r2⟩ := trodAll_cons r1
  obtain ⟨rfl, rfl, rfl⟩ := trodAll_nil r2
  obtain rfl : args = #[v0, v1, v2] := by cases args; simp_all
  obtain ⟨rfl, rfl⟩ := trodVars_none hV
  have k0 := h0
  have k1 := h1
  have k2 := h2
  have lt0 : ∀ x ∈ p0, x.block < W.heap.size := by obtain ⟨m, hm⟩ := h0; exact DataW.trod_lt m _ _ _ hm
  have lt1 : ∀ x ∈ p1, x.block < W.heap.size := by obtain ⟨m, hm⟩ := h1; exact DataW.trod_lt m _ _ _ hm
  have lt2 : ∀ x ∈ p2, x.block < W.heap.size := by obtain ⟨m, hm⟩ := h2; exact DataW.trod_lt m _ _ _ hm
  obtain ⟨a0, rfl, _, _, w0⟩ := open_int Try.underlying22 (hval 0 22 v0 rfl rfl) h0
  obtain ⟨a1, rfl, _, _, w1⟩ := open_int Try.underlying22 (hval 1 22 v1 rfl rfl) h1
  obtain ⟨ns2, hl2, rfl, w2⟩ := Sx.open_ints Try.underlying35 Try.underlying33 (by kernel_rfl) (by kernel_rfl) (hval 2 35 v2 rfl rfl) h2
  obtain ⟨a2_0, a2_1, rfl⟩ := list_of2 hl2
  clear hA0 hval0
  refine (law_any a0 a1 a2_0 a2_1 (wf_u64 w0) (wf_u64 w1) (wf_u32 (w2 a2_0 (by simp))) (wf_u32 (w2 a2_1 (by simp))) W).mono fun e W' ⟨he, bel⟩ => ?_
  subst he
  exact ⟨_, rfl, _, _, _, [], _, [], hW', trodAll_mk1 (shut_bool Try.underlying4 _), (trodAll_cons_mk (Below.trod Try.laidOut (by kernel_rfl) (of_decide_eq_true (by kernel_rfl)) k0 bel lt0) (trodAll_cons_mk (Below.trod Try.laidOut (by kernel_rfl) (of_decide_eq_true (by kernel_rfl)) k1 bel lt1) (trodAll_cons_mk (Below.trod Try.laidOut (by kernel_rfl) (of_decide_eq_true (by kernel_rfl)) k2 bel lt2) trodAll_mk0))), rfl, bel.frame _, fun h => by cases h⟩

theorem law_over : Rows.aluWordsRow.holds Try.pinned (OpenSpec.ofChange Rows.aluWordsSpec) :=
  OpenClaim.holds_of_wide 7 Try.f7 rfl rfl rfl rfl rfl rfl rfl ⟨rfl, rfl, rfl, rfl, rfl⟩ rfl rfl rfl rfl rfl (by kernel_rfl) Try.func7 (by kernel_rfl)
    (of_decide_eq_true (by kernel_rfl)) (by unfold Func.isWrapper; first | (rw [if_pos (by decide +kernel)]; kernel_rfl) | (rw [if_neg (by decide +kernel)]; exact ⟨rfl, rfl⟩))
    (fun os started H enc _ => law_lifted os started H enc)

theorem aluWords_holds : Rows.AluWordsSaid := law_over
end Go.Proofs.Ytblphdjfdjaegaa
