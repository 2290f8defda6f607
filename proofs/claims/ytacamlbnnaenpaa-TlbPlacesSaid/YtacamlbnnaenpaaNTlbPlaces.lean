/- TlbPlaces: of all arguments, the law answers true. Every case is read by the reader, in every order that Go leaves open. -/
import Derived.Test.YtacamlbnnaenpaaMTlbPlaces
import Derived.Test.YtacamlbnnaenpaaSx
namespace Go.Proofs.Ytacamlbnnaenpaa
open Go.ChangeShapes Go.WideShapes Go.ChangeAt Go.RowKit

theorem Try.own : ownKnob Try.prog.godebug = none := by kernel_rfl
theorem Try.laidOut : laidOutB Try.prog = true := by kernel_rfl

theorem wf_i64 {z : Int} (h : (Lit.int .i64 z).wf = true) : -9223372036854775808 ≤ z ∧ z ≤ 9223372036854775807 := by
  simpa [Lit.wf, IntKind.min, IntKind.max, IntKind.signed, IntKind.bits] using h
theorem wf_u64 {z : Int} (h : (Lit.int .u64 z).wf = true) : 0 ≤ z ∧ z ≤ 18446744073709551615 := by
  simpa [Lit.wf, IntKind.min, IntKind.max, IntKind.signed, IntKind.bits] using h
theorem leaves_of0 {l : List Value} (h : Sx.Leaves [some .u64, some .u64, some .u64, some .i64, some .u64, some .u64, some .u64, some .i64] l) : ∃ a0 a1 a2 a3 a4 a5 a6 a7, l = [.int .u64 a0, .int .u64 a1, .int .u64 a2, .int .i64 a3, .int .u64 a4, .int .u64 a5, .int .u64 a6, .int .i64 a7] ∧ (Lit.int .u64 a0).wf = true ∧ (Lit.int .u64 a1).wf = true ∧ (Lit.int .u64 a2).wf = true ∧ (Lit.int .i64 a3).wf = true ∧ (Lit.int .u64 a4).wf = true ∧ (Lit.int .u64 a5).wf = true ∧ (Lit.int .u64 a6).wf = true ∧ (Lit.int .i64 a7).wf = true ∧ True := by
  obtain ⟨_, _, rfl, ⟨a0, rfl, za0⟩, _, _, rfl, ⟨a1, rfl, za1⟩, _, _, rfl, ⟨a2, rfl, za2⟩, _, _, rfl, ⟨a3, rfl, za3⟩, _, _, rfl, ⟨a4, rfl, za4⟩, _, _, rfl, ⟨a5, rfl, za5⟩, _, _, rfl, ⟨a6, rfl, za6⟩, _, _, rfl, ⟨a7, rfl, za7⟩, rfl⟩ := h
  exact ⟨a0, a1, a2, a3, a4, a5, a6, a7, rfl, za0, za1, za2, za3, za4, za5, za6, za7, trivial⟩

theorem law_any (a0 : Int) (a1 : Int) (a2 : Int) (a3 : Int) (a4 : Int) (a5 : Int) (a6 : Int) (a7 : Int) (a8 : Int) (b0 : 0 ≤ a0 ∧ a0 ≤ 18446744073709551615) (b1 : 0 ≤ a1 ∧ a1 ≤ 18446744073709551615) (b2 : 0 ≤ a2 ∧ a2 ≤ 18446744073709551615) (b3 : -9223372036854775808 ≤ a3 ∧ a3 ≤ 9223372036854775807) (b4 : 0 ≤ a4 ∧ a4 ≤ 18446744073709551615) (b5 : 0 ≤ a5 ∧ a5 ≤ 18446744073709551615) (b6 : 0 ≤ a6 ∧ a6 ≤ 18446744073709551615) (b7 : -9223372036854775808 ≤ a7 ∧ a7 ≤ 9223372036854775807) (b8 : 0 ≤ a8 ∧ a8 ≤ 18446744073709551615) (w : World) :
    Calls Try.prog 3 #[.agg #[.int .u64 a0, .int .u64 a1, .int .u64 a2, .int .i64 a3, .int .u64 a4, .int .u64 a5, .int .u64 a6, .int .i64 a7], .int .u64 a8] w fun e w' => e = .returned (.bool true) ∧ Below w.heap.size w w' := by
  have go : ∀ (c : Sx.Pc) (ar : List Sx.V), Sx.V.okL .nil ar → Sx.yes (Sx.ev Try.prog Sx.noGlob Sx.base 80 16 3 ar (Sx.stPc c)) = true → Sx.Holds (fun j => if j = 0 then a0 else if j = 1 then a1 else if j = 2 then a2 else if j = 3 then a3 else if j = 4 then a4 else if j = 5 then a5 else if j = 6 then a6 else if j = 7 then a7 else if j = 8 then a8 else 0) c →
      (Sx.V.denL (Sx.env0 (fun j => if j = 0 then a0 else if j = 1 then a1 else if j = 2 then a2 else if j = 3 then a3 else if j = 4 then a4 else if j = 5 then a5 else if j = 6 then a6 else if j = 7 then a7 else if j = 8 then a8 else 0) fun _ => undef) ar).toArray = #[.agg #[.int .u64 a0, .int .u64 a1, .int .u64 a2, .int .i64 a3, .int .u64 a4, .int .u64 a5, .int .u64 a6, .int .i64 a7], .int .u64 a8] →
      Calls Try.prog 3 #[.agg #[.int .u64 a0, .int .u64 a1, .int .u64 a2, .int .i64 a3, .int .u64 a4, .int .u64 a5, .int .u64 a6, .int .i64 a7], .int .u64 a8] w fun e w' => e = .returned (.bool true) ∧ Below w.heap.size w w' := fun c ar hok hy hh ha => by
    have := Sx.calls_yes_pc Sx.base_ok (by kernel_rfl) (args := ar) hok hy (fun j => if j = 0 then a0 else if j = 1 then a1 else if j = 2 then a2 else if j = 3 then a3 else if j = 4 then a4 else if j = 5 then a5 else if j = 6 then a6 else if j = 7 then a7 else if j = 8 then a8 else 0) (fun _ => undef) hh w
    rwa [ha] at this
  have h3 : Sx.N.den (fun j => if j = 0 then a0 else if j = 1 then a1 else if j = 2 then a2 else if j = 3 then a3 else if j = 4 then a4 else if j = 5 then a5 else if j = 6 then a6 else if j = 7 then a7 else if j = 8 then a8 else 0) Sx.v3 = a3 := by simp [Sx.N.den]; omega
  rcases (show a3 = 0 ∨ a3 = 1 ∨ a3 = 2 ∨ a3 < 0 ∨ 3 ≤ a3 by omega) with h | h | h | h | h
  · refine go Sx.case0 Sx.args0 (by simp [Sx.args0, Sx.V.okL, Sx.V.ok]) Sx.read_case0 (Sx.cases_ok _).1 ?_
    simp [Sx.args0, Sx.V.denL, Sx.V.den, Sx.N.den, Sx.env0, h]
    omega
  · refine go Sx.case1 Sx.args1 (by simp [Sx.args1, Sx.V.okL, Sx.V.ok]) Sx.read_case1 (Sx.cases_ok _).2.1 ?_
    simp [Sx.args1, Sx.V.denL, Sx.V.den, Sx.N.den, Sx.env0, h]
    omega
  · refine go Sx.case2 Sx.args2 (by simp [Sx.args2, Sx.V.okL, Sx.V.ok]) Sx.read_case2 (Sx.cases_ok _).2.2 ?_
    simp [Sx.args2, Sx.V.denL, Sx.V.den, Sx.N.den, Sx.env0, h]
    omega
  · refine go Sx.case3 Sx.args3 (by simp [Sx.args3, Sx.V.okL, Sx.V.ok]) Sx.read_case3 (Sx.case3_ok _ (by rw [h3]; exact h)) ?_
    simp [Sx.args3, Sx.V.denL, Sx.V.den, Sx.N.den, Sx.env0]
    omega
  · refine go Sx.case4 Sx.args4 (by simp [Sx.args4, Sx.V.okL, Sx.V.ok]) Sx.read_case4 (Sx.case4_ok _ (by rw [h3]; exact h)) ?_
    simp [Sx.args4, Sx.V.denL, Sx.V.den, Sx.N.den, Sx.env0]
    omega


set_option maxRecDepth 100000 in
theorem law_lifted (os : Os) (started : os.Started) (H : Type) (enc : TypeId × Value → H) :
    ReturnsInHanded {} Try.checked os 3 .any (Rows.tlbPlacesSpec.pre6 enc Try.prog Try.f3 Rows.tlbPlacesRow.domain false) (Rows.tlbPlacesSpec.post enc Try.prog Try.f3 false true false false) := by
  refine returnsInHanded_of_change (C := Try.checked) Try.own started (by kernel_rfl) Try.func3
    (ChangeSpec.witness6 (enc := enc) (C := Try.checked) false ⟨#[], #[.agg #[.int .u64 0, .int .u64 0, .int .u64 0, .int .i64 0, .int .u64 0, .int .u64 0, .int .u64 0, .int .i64 0], .int .u64 0], []⟩ 8 (by kernel_rfl) (by kernel_rfl) (by kernel_rfl) (by kernel_rfl)) ?_
  intro W base args ds gs before hval0 hW hcnd _
  have hval : ∀ (j : Nat) t v, Try.f3.params[j]? = some t → args[j]? = some v → Value.okWide Try.prog W .any base t v := hval0
  have hW' := hW
  obtain ⟨p, q, hA0, hV, rfl, hfz, hnd⟩ := hW
  have hA : DataW.TrodAll enc Try.prog W 0 (fun _ => true) true Try.f3.params.toList args.toList ds p := hA0
  rw [Try.params3] at hA hval
  obtain ⟨v0, vs0, d0, ds0, p0, q0, hargs, rfl, rfl, h0, r0⟩ := trodAll_cons hA
  obtain ⟨v1, vs1, d1, ds1, p1, q1, rfl, rfl, rfl, h1, r1⟩ := trodAll_cons r0
  obtain ⟨rfl, rfl, rfl⟩ := trodAll_nil r1
  obtain rfl : args = #[v0, v1] := by cases args; simp_all
  obtain ⟨rfl, rfl⟩ := trodVars_none hV
  have k0 := h0
  have k1 := h1
  have lt0 : ∀ x ∈ p0, x.block < W.heap.size := by obtain ⟨m, hm⟩ := h0; exact DataW.trod_lt m _ _ _ hm
  have lt1 : ∀ x ∈ p1, x.block < W.heap.size := by obtain ⟨m, hm⟩ := h1; exact DataW.trod_lt m _ _ _ hm
  obtain ⟨l0, rfl, lv0⟩ := Sx.open_flat Try.underlying25 (ks := [some .u64, some .u64, some .u64, some .i64, some .u64, some .u64, some .u64, some .i64]) (by kernel_rfl) (hval 0 25 v0 rfl rfl) h0
  obtain ⟨a0, a1, a2, a3, a4, a5, a6, a7, rfl, u0, u1, u2, u3, u4, u5, u6, u7, _⟩ := leaves_of0 lv0
  obtain ⟨a8, rfl, _, _, w1⟩ := open_int Try.underlying22 (hval 1 22 v1 rfl rfl) h1
  clear hA0 hval0
  refine (law_any a0 a1 a2 a3 a4 a5 a6 a7 a8 (wf_u64 u0) (wf_u64 u1) (wf_u64 u2) (wf_i64 u3) (wf_u64 u4) (wf_u64 u5) (wf_u64 u6) (wf_i64 u7) (wf_u64 w1) W).mono fun e W' ⟨he, bel⟩ => ?_
  subst he
  exact ⟨_, rfl, _, _, _, [], _, [], hW', trodAll_mk1 (shut_bool Try.underlying4 _), (trodAll_cons_mk (Below.trod Try.laidOut (by kernel_rfl) (of_decide_eq_true (by kernel_rfl)) k0 bel lt0) (trodAll_cons_mk (Below.trod Try.laidOut (by kernel_rfl) (of_decide_eq_true (by kernel_rfl)) k1 bel lt1) trodAll_mk0)), rfl, bel.frame _, fun h => by cases h⟩

theorem law_over : Rows.tlbPlacesRow.holds Try.pinned (OpenSpec.ofChange Rows.tlbPlacesSpec) :=
  OpenClaim.holds_of_wide 3 Try.f3 rfl rfl rfl rfl rfl rfl rfl ⟨rfl, rfl, rfl, rfl, rfl⟩ rfl rfl rfl rfl rfl (by kernel_rfl) Try.func3 (by kernel_rfl)
    (of_decide_eq_true (by kernel_rfl)) (by unfold Func.isWrapper; first | (rw [if_pos (by decide +kernel)]; kernel_rfl) | (rw [if_neg (by decide +kernel)]; exact ⟨rfl, rfl⟩))
    (fun os started H enc _ => law_lifted os started H enc)

theorem tlbPlaces_holds : Rows.TlbPlacesSaid := law_over
end Go.Proofs.Ytacamlbnnaenpaa
