/- Arguments that are arrays of numbers, opened. -/
import Derived.Test.YtddacegeepgmmaaSw
import Derived.OpenShut
import Derived.WideKeyArr2
set_option linter.unusedVariables false
set_option linter.unusedSimpArgs false
namespace Go.Proofs.Ytddacegeepgmmaa.Sx
open Go Go.ChangeShapes Go.WideShapes Go.ChangeAt Go.RowKit
noncomputable section
theorem open_ints {H : Type} {enc : TypeId × Value → H} {P : Program} {W : World} {b0 base : Nat} {r : Reach} {sp : Nat → Bool} {held : Bool} {k : IntKind} {n el t : Nat} (hu : P.underlying t = some (.array n el)) (hel : P.underlying el = some (.int k)) (hc : P.cellsOf el = 1) (hct : P.cellsOf t = n)
    {v : Value} {d : DataW H} {p : List MemPlace} (hok : Value.okWide P W r b0 t v) (h : DataW.Trod enc P W base sp held t v d p) :
    ∃ ns : List Int, ns.length = n ∧ v = .agg (ns.map (Value.int k)).toArray ∧ ∀ z ∈ ns, (Lit.int k z).wf = true := by
  simp only [Value.okWide, hu] at hok
  obtain ⟨cs, rfl, h2, _⟩ := hok
  obtain ⟨fuel, hf⟩ := h
  obtain ⟨xs, m, rfl, hx, hlen, hn, hel'⟩ := DataW.trod_array hu hf
  have hcs : (Value.agg cs).cells.toList = cs.toList := rfl
  rw [hcs] at hel' hlen
  have step : ∀ i, i < n → ∃ z, cs.toList[i]? = some (.int k z) ∧ (Lit.int k z).wf = true := fun i hi => by
    have h1 := hel' i hi
    rw [hc, Nat.mul_one] at h1
    rw [List.getElem?_eq_getElem (show i < xs.length by omega)] at h1
    obtain ⟨z, e1, _, w⟩ := DataW.trod_int hel h1
    refine ⟨z, ?_, w⟩
    have h3 : ((cs.toList.drop i).take 1)[0]? = some (.int k z) := by rw [e1]; rfl
    rw [List.getElem?_take, List.getElem?_drop] at h3
    simpa using h3
  have hcn : cs.toList.length = n := by rw [hlen, hct]
  have gen : ∀ (l : List Value), (∀ i, i < l.length → ∃ z, l[i]? = some (.int k z) ∧ (Lit.int k z).wf = true) → ∃ ns : List Int, l = ns.map (Value.int k) ∧ ∀ z ∈ ns, (Lit.int k z).wf = true := by
    intro l
    induction l with
    | nil => intro _; exact ⟨[], rfl, by simp⟩
    | cons x l ih =>
      intro hs
      obtain ⟨z, hz, w⟩ := hs 0 (by simp)
      obtain ⟨ns, rfl, hw⟩ := ih (fun i hi => by have := hs (i + 1) (by simpa using hi); simpa using this)
      simp only [List.getElem?_cons_zero, Option.some.injEq] at hz
      subst hz
      exact ⟨z :: ns, rfl, fun y hy => by rcases List.mem_cons.1 hy with h | hy; (subst h; exact w); exact hw y hy⟩
  obtain ⟨ns, hns, hw⟩ := gen cs.toList (fun i hi => step i (by omega))
  refine ⟨ns, ?_, ?_, hw⟩
  · have := congrArg List.length hns; simp at this; simp at hcn; omega
  · rw [← hns]

/-! Structs of numbers and truths, flat -/
/-- The kind of a cell: a number's, or a truth's. -/
def kindAt (P : Program) : Nat → TypeId → Nat → Option (Option IntKind)
  | 0, _, _ => none
  | d + 1, t, i => match P.underlying t with
    | some (.int k) => match Nat.beq i 0 with | true => some (some k) | false => none
    | some .bool => match Nat.beq i 0 with | true => some none | false => none
    | some (.struct fs) => fs.toList.findSome? fun f => match Nat.ble f.offset i && Nat.blt i (f.offset + P.cellsOf f.type) with
      | true => kindAt P d f.type (i - f.offset)
      | false => none
    | some (.array n e) => match Nat.blt 0 (P.cellsOf e) && Nat.blt (i / P.cellsOf e) n with
      | true => kindAt P d e (i % P.cellsOf e)
      | false => none
    | _ => none
def Leaf : Option IntKind → Value → Prop
  | some k, v => ∃ z, v = .int k z ∧ (Lit.int k z).wf = true
  | none, v => ∃ b, v = .bool b
def Leaves : List (Option IntKind) → List Value → Prop
  | [], l => l = []
  | k :: ks, l => ∃ v r, l = v :: r ∧ Leaf k v ∧ Leaves ks r
theorem take_drop_get {α : Type} {l : List α} {a n i : Nat} {v : α} (h : ((l.drop a).take n)[i]? = some v) : l[a + i]? = some v := by
  rw [List.getElem?_take, List.getElem?_drop] at h
  split at h
  · exact h
  · cases h
theorem kindAt_ok {H : Type} {enc : TypeId × Value → H} {P : Program} {W : World} {base : Nat} {sp : Nat → Bool} {held : Bool} :
    ∀ (d : Nat) {t : TypeId} {i : Nat} {k : Option IntKind} {fuel : Nat} {cs : List Value} {x : DataW H × List MemPlace}, kindAt P d t i = some k → DataW.trod enc P W base sp held fuel t cs = some x → ∃ v, cs[i]? = some v ∧ Leaf k v
  | 0, _, _, _, _, _, _, hk, _ => by cases hk
  | d + 1, t, i, k, fuel, cs, x, hk, h => by
    simp only [kindAt] at hk
    split at hk
    · rename_i q hu
      split at hk
      · rename_i hi
        have hi := Nat.eq_of_beq_eq_true hi
        subst hi
        cases hk
        obtain ⟨z, rfl, _, w⟩ := DataW.trod_int hu h
        exact ⟨_, rfl, z, rfl, w⟩
      · cases hk
    · rename_i hu
      split at hk
      · rename_i hi
        have hi := Nat.eq_of_beq_eq_true hi
        subst hi
        cases hk
        obtain ⟨b, rfl, _⟩ := DataW.trod_bool hu h
        exact ⟨_, rfl, b, rfl⟩
      · cases hk
    · rename_i fs hu
      obtain ⟨xs, n, rfl, _, hlen, hn, hel⟩ := DataW.trod_struct hu h
      obtain ⟨f, hf, hk⟩ := List.exists_of_findSome?_eq_some hk
      split at hk
      · rename_i hc
        rw [Bool.and_eq_true] at hc
        have h1 := Nat.le_of_ble_eq_true hc.1
        obtain ⟨j, hj⟩ := List.getElem?_of_mem hf
        have hj' : fs[j]? = some f := by rw [← Array.getElem?_toList]; exact hj
        have h2 := hel j f hj'
        have hjl : j < xs.length := by
          have := (List.getElem?_eq_some_iff.1 hj).1
          rw [hn]; simpa using this
        rw [List.getElem?_eq_getElem hjl] at h2
        obtain ⟨v, hv, hl⟩ := kindAt_ok d hk h2
        refine ⟨v, ?_, hl⟩
        have := take_drop_get hv
        rwa [show f.offset + (i - f.offset) = i by omega] at this
      · cases hk
    · rename_i n e hu
      obtain ⟨xs, m, rfl, _, hlen, hn, hel⟩ := DataW.trod_array hu h
      split at hk
      · rename_i hc
        rw [Bool.and_eq_true] at hc
        have h1 : 0 < P.cellsOf e := by simpa [Nat.blt_eq] using hc.1
        have h2 : i / P.cellsOf e < n := by simpa [Nat.blt_eq] using hc.2
        have h3 := hel _ h2
        rw [List.getElem?_eq_getElem (show i / P.cellsOf e < xs.length by omega)] at h3
        obtain ⟨v, hv, hl⟩ := kindAt_ok d hk h3
        refine ⟨v, ?_, hl⟩
        have := take_drop_get hv
        rwa [Nat.mul_comm, Nat.div_add_mod] at this
      · cases hk
    · cases hk
def kindsOk (P : Program) (t : TypeId) : List (Option IntKind) → Nat → Bool
  | [], i => Nat.beq (P.cellsOf t) i
  | k :: ks, i => (match kindAt P 6 t i, k with
    | some (some a), some b => kindSame a b
    | some none, none => true
    | _, _ => false) && kindsOk P t ks (i + 1)
theorem leaves_of {H : Type} {enc : TypeId × Value → H} {P : Program} {W : World} {base : Nat} {sp : Nat → Bool} {held : Bool} {t : TypeId} {fuel : Nat} {cs : List Value} {x : DataW H × List MemPlace} (hlen : cs.length = P.cellsOf t)
    (h : DataW.trod enc P W base sp held fuel t cs = some x) : ∀ {ks : List (Option IntKind)} {i : Nat}, kindsOk P t ks i = true → Leaves ks (cs.drop i)
  | [], i, hk => by
    have := Nat.eq_of_beq_eq_true hk
    show cs.drop i = []
    rw [List.drop_eq_nil_iff]; omega
  | k :: ks, i, hk => by
    simp only [kindsOk, Bool.and_eq_true] at hk
    have hk1 : kindAt P 6 t i = some k := by
      have h1 := hk.1
      split at h1
      · rename_i a b he
        rw [he, kindSame_eq h1]
      · rename_i he; exact he
      · cases h1
    obtain ⟨v, hv, hl⟩ := kindAt_ok 6 hk1 h
    have hi := (List.getElem?_eq_some_iff.1 hv).1
    have hd : cs.drop i = v :: cs.drop (i + 1) := by
      rw [List.drop_eq_getElem_cons hi]
      congr 1
      exact (List.getElem?_eq_some_iff.1 hv).2
    exact ⟨v, _, hd, hl, leaves_of hlen h hk.2⟩
theorem open_flat {H : Type} {enc : TypeId × Value → H} {P : Program} {W : World} {b0 base : Nat} {r : Reach} {sp : Nat → Bool} {held : Bool} {t : TypeId} {fs : Array Field} (hu : P.underlying t = some (.struct fs)) {ks : List (Option IntKind)} (hk : kindsOk P t ks 0 = true)
    {v : Value} {d : DataW H} {p : List MemPlace} (hok : Value.okWide P W r b0 t v) (h : DataW.Trod enc P W base sp held t v d p) : ∃ l : List Value, v = .agg l.toArray ∧ Leaves ks l := by
  simp only [Value.okWide, hu] at hok
  obtain ⟨cs, rfl, h2, _⟩ := hok
  obtain ⟨fuel, hf⟩ := h
  have hcs : (Value.agg cs).cells.toList = cs.toList := rfl
  rw [hcs] at hf
  exact ⟨cs.toList, by simp, leaves_of (by simpa using h2) hf hk⟩
end
end Go.Proofs.Ytddacegeepgmmaa.Sx