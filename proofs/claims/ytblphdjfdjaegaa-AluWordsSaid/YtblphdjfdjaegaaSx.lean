/- Arguments that are arrays of numbers, opened. -/
import Derived.Test.YtblphdjfdjaegaaSw
import Derived.OpenShut
import Derived.WideKeyArr2
namespace Go.Proofs.Ytblphdjfdjaegaa.Sx
open Go Go.ChangeShapes Go.WideShapes Go.ChangeAt Go.RowKit
theorem open_ints {H : Type} {enc : TypeId × Value → H} {P : Program} {W : World} {b0 base : Nat} {r : Reach} {sp : Nat → Bool} {held : Bool} {k : IntKind} {n el t : Nat} (hu : P.underlying t = some (.array n el)) (hel : P.underlying el = some (.int k)) (hc : P.cellsOf el = 1) (hct : P.cellsOf t = n)
    {v : Value} {d : DataW H} {p : List MemPlace} (hok : Value.okWide P W r b0 t v) (h : DataW.Trod enc P W base sp held t v d p) :
    ∃ ns : List Int, ns.length = n ∧ v = .agg (ns.map (Value.int k)).toArray ∧ ∀ z ∈ ns, (Lit.int k z).wf = true := by
  simp only [Value.okWide, hu] at hok
  obtain ⟨cs, rfl, h2, _⟩ := hok
  obtain ⟨fuel, hf⟩ := h
  obtain ⟨xs, m, rfl, hx, hlen, hn, hel'⟩ := DataW.trod_array hu hf
  have hcs : (Value.agg cs).cells.toList = cs.toList := rfl
  rw [hcs] at hel' hlen
  have step : ∀ i, i < n → ∃ z, cs.toList[i]? = some (.int k z) ∧ (Lit.int k z).wf = true := fun i hi => by
    have h1 := hel' i hi
    rw [hc, Nat.mul_one] at h1
    rw [List.getElem?_eq_getElem (show i < xs.length by omega)] at h1
    obtain ⟨z, e1, _, w⟩ := DataW.trod_int hel h1
    refine ⟨z, ?_, w⟩
    have h3 : ((cs.toList.drop i).take 1)[0]? = some (.int k z) := by rw [e1]; rfl
    rw [List.getElem?_take, List.getElem?_drop] at h3
    simpa using h3
  have hcn : cs.toList.length = n := by rw [hlen, hct]
  have gen : ∀ (l : List Value), (∀ i, i < l.length → ∃ z, l[i]? = some (.int k z) ∧ (Lit.int k z).wf = true) → ∃ ns : List Int, l = ns.map (Value.int k) ∧ ∀ z ∈ ns, (Lit.int k z).wf = true := by
    intro l
    induction l with
    | nil => intro _; exact ⟨[], rfl, by simp⟩
    | cons x l ih =>
      intro hs
      obtain ⟨z, hz, w⟩ := hs 0 (by simp)
      obtain ⟨ns, rfl, hw⟩ := ih (fun i hi => by have := hs (i + 1) (by simpa using hi); simpa using this)
      simp only [List.getElem?_cons_zero, Option.some.injEq] at hz
      subst hz
      exact ⟨z :: ns, rfl, fun y hy => by rcases List.mem_cons.1 hy with h | hy; (subst h; exact w); exact hw y hy⟩
  obtain ⟨ns, hns, hw⟩ := gen cs.toList (fun i hi => step i (by omega))
  refine ⟨ns, ?_, ?_, hw⟩
  · have := congrArg List.length hns; simp at this; simp at hcn; omega
  · rw [← hns]
end Go.Proofs.Ytblphdjfdjaegaa.Sx
