/- CodecSum: of any three texts, any place and any other byte, the law answers true: a sum tells apart two texts that differ in one byte, and of texts put together it hangs on the first one's sum, and on the second one. -/
import Derived.Test.YtddacegeepgmmaaC
import Derived.Test.YtddacegeepgmmaaUd
import Derived.ChangeMaps5
set_option linter.unusedVariables false
set_option linter.unusedSimpArgs false
namespace Go.Proofs.Ytddacegeepgmmaa
open Go.ChangeShapes Go.WideShapes Go.ChangeAt Go.RowKit Go.ChangeMaps

theorem Try.own : ownKnob Try.prog.godebug = none := by kernel_rfl
theorem Try.laidOut : laidOutB Try.prog = true := by kernel_rfl
theorem cells46 : Try.prog.cellsOf 46 = 1 := by kernel_rfl
theorem cells5 : Try.prog.cellsOf 5 = 1 := by kernel_rfl
theorem cells9 : Try.prog.cellsOf 9 = 1 := by kernel_rfl
theorem cells50 : Try.prog.cellsOf 50 = 3 := by kernel_rfl
theorem wfu8 {z : Int} (h : (Lit.int .u8 z).wf = true) : 0 ≤ z ∧ z ≤ 255 := by
  simpa [Lit.wf, IntKind.min, IntKind.max, IntKind.signed, IntKind.bits] using h
theorem wfu16 {z : Int} (h : (Lit.int .u16 z).wf = true) : 0 ≤ z ∧ z ≤ 65535 := by
  simpa [Lit.wf, IntKind.min, IntKind.max, IntKind.signed, IntKind.bits] using h
section
variable {H : Type} {enc : TypeId × Value → H} {w : World} {base : Nat} {spare : Nat → Bool} {held : Bool}
/-- A place, a byte and a text that came in. -/
theorem open_spoil {r : Reach} {b0 : Nat} {v : Value} {d : DataW H} {p : List MemPlace} (hv : Value.okWide Try.prog w r b0 50 v) (h : DataW.Trod enc Try.prog w base spare held 50 v d p) :
    ∃ (a b : Nat) (o : ByteArray), v = .agg (spoil a b o) ∧ a < 65536 ∧ b < 256 := by
  obtain ⟨cs, rfl, hsz⟩ := okWide_struct Try.underlying50 hv
  obtain ⟨fuel, hf⟩ := h
  obtain ⟨xs, n, _, _, hl, hx, hi⟩ := DataW.trod_struct Try.underlying50 hf
  obtain ⟨l⟩ := cs
  have hsz' : l.length = 3 := by rw [cells50] at hsz; simpa using hsz
  have hx3 : xs.length = 3 := hx
  have some_of : ∀ i, i < 3 → ∃ y, xs[i]? = some y := fun i hi => ⟨_, List.getElem?_eq_getElem (by omega)⟩
  have e0 : DataW.trod enc Try.prog w base spare held n 46 (l.take 1) = xs[0]? := by simpa [cells46, Value.cells] using hi 0 _ rfl
  have e1 : DataW.trod enc Try.prog w base spare held n 5 ((l.drop 1).take 1) = xs[1]? := by simpa [cells5, Value.cells] using hi 1 _ rfl
  have e2 : DataW.trod enc Try.prog w base spare held n 9 ((l.drop 2).take 1) = xs[2]? := by simpa [cells9, Value.cells] using hi 2 _ rfl
  obtain ⟨y0, h0⟩ := some_of 0 (by omega)
  obtain ⟨y1, h1⟩ := some_of 1 (by omega)
  obtain ⟨y2, h2⟩ := some_of 2 (by omega)
  rw [h0] at e0
  rw [h1] at e1
  rw [h2] at e2
  obtain ⟨z0, g0, _, w0⟩ := DataW.trod_int Try.underlying46 e0
  obtain ⟨z1, g1, _, w1⟩ := DataW.trod_int Try.underlying5 e1
  obtain ⟨s2, g2, _, _⟩ := DataW.trod_string Try.underlying9 e2
  have b0 := wfu16 w0
  have b1 := wfu8 w1
  refine ⟨z0.toNat, z1.toNat, s2, ?_, by omega, by omega⟩
  match l, hsz' with
  | [c0, c1, c2], _ =>
    simp at g0 g1 g2
    subst g0 g1 g2
    have t0 : ((z0.toNat : Nat) : Int) = z0 := by omega
    have t1 : ((z1.toNat : Nat) : Int) = z1 := by omega
    rw [t0, t1]
end

set_option maxRecDepth 100000 in
theorem law_lifted (os : Os) (started : os.Started) (H : Type) (enc : TypeId × Value → H) :
    ReturnsInHanded {} Try.checked os 6 .any (Rows.codecSumSpec.pre6 enc Try.prog Try.f6 Rows.codecSumRow.domain false) (Rows.codecSumSpec.post enc Try.prog Try.f6 false true false false) := by
  refine returnsInHanded_of_change (C := Try.checked) Try.own started (by kernel_rfl) Try.func6
    (ChangeSpec.witness6 (enc := enc) (C := Try.checked) false ⟨#[], #[.string ByteArray.empty, .string ByteArray.empty, .agg #[.int .u16 0, .int .u8 0, .string ByteArray.empty]], []⟩ 8 (by kernel_rfl) (by kernel_rfl) (by kernel_rfl) (by kernel_rfl)) ?_
  intro W base args ds gs before hval0 hW hcnd _
  have hW' := hW
  obtain ⟨p, q, hA0, hV, rfl, hfz, hnd⟩ := hW
  have hA : DataW.TrodAll enc Try.prog W 0 (fun _ => true) true Try.f6.params.toList args.toList ds p := hA0
  have hval : ∀ (j : Nat) t v, Try.f6.params[j]? = some t → args[j]? = some v → Value.okWide Try.prog W .any base t v := hval0
  obtain ⟨rfl, rfl⟩ := trodVars_none hV
  have hA2 := hA
  rw [Try.params6] at hA2
  obtain ⟨v0, vs0, d0, ds0, p0, q0, hargs, rfl, rfl, h0, r0⟩ := trodAll_cons hA2
  obtain ⟨v1, vs1, d1, ds1, p1, q1, rfl, rfl, rfl, h1, r1⟩ := trodAll_cons r0
  obtain ⟨v2, vs2, d2, ds2, p2, q2, rfl, rfl, rfl, h2, r2⟩ := trodAll_cons r1
  obtain ⟨rfl, rfl, rfl⟩ := trodAll_nil r2
  obtain rfl : args = #[v0, v1, v2] := by cases args; simp_all
  obtain ⟨s, rfl, _, _, hs⟩ := open_string Try.underlying9 (hval 0 9 v0 (by rw [Try.params6]; rfl) rfl) h0
  obtain ⟨t, rfl, _, _, ht⟩ := open_string Try.underlying9 (hval 1 9 v1 (by rw [Try.params6]; rfl) rfl) h1
  obtain ⟨a, b, o, rfl, ha, hb⟩ := open_spoil (hval 2 50 v2 (by rw [Try.params6]; rfl) rfl) h2
  clear hA0 hval0
  refine (law_any s t o a b ha hb W).mono fun e W' ⟨he, bel⟩ => ?_
  subst he
  exact ⟨_, rfl, _, _, _, [], _, [], hW', trodAll_mk1 (shut_bool Try.underlying4 _), Sx.trodAll_below Try.laidOut bel (by kernel_rfl) hA, rfl, bel.frame _, fun h => by cases h⟩

theorem law_over : Rows.codecSumRow.holds Try.pinned (OpenSpec.ofChange Rows.codecSumSpec) :=
  OpenClaim.holds_of_wide 6 Try.f6 rfl rfl rfl rfl rfl rfl rfl ⟨rfl, rfl, rfl, rfl, rfl⟩ rfl rfl rfl rfl rfl (by kernel_rfl) Try.func6 (by kernel_rfl)
    (of_decide_eq_true (by kernel_rfl)) (by unfold Func.isWrapper; first | (rw [if_pos (by decide +kernel)]; kernel_rfl) | (rw [if_neg (by decide +kernel)]; exact ⟨rfl, rfl⟩))
    (fun os started H enc _ => law_lifted os started H enc)

theorem codecSum_holds : Rows.CodecSumSaid := law_over
end Go.Proofs.Ytddacegeepgmmaa
