/- Regions that draw their order: real orders against the reader's one. -/
import Derived.Test.YtnfnhhphoiebbaaSq
set_option linter.unusedVariables false
set_option linter.unusedSimpArgs false
namespace Go.Proofs.Ytnfnhhphoiebbaa.Sx
open Go

section
variable {P : Program} {glob : Nat → Option Nat} {E : Cx} {ro : Option Nat} {ops : Array Oper} {Q : Exit → Act → World → Prop}

/-- Where a real order stands (L: what has come up), against a place of the reader's: what the reader has taken ahead of its time is still to come, and still reads as it read. -/
structure Sim (P : Program) (glob : Nat → Option Nat) (ops : Array Oper) (e : Env) (S : Nat → Prop) (w0 : World) (p : Pl) (L : Array Bool) (a : Act) (w : World) : Prop where
  sizeL : L.size = ops.size
  sizeP : p.listed.size = ops.size
  closedL : Closed ops L
  closedP : Closed ops p.listed
  sub : ∀ i, L.getD i false = true → p.listed.getD i false = true
  late : ∀ i, p.listed.getD i false = true → L.getD i false = false → i ∈ p.spec
  spec : ∀ i ∈ p.spec, p.listed.getD i false = true ∧ ∃ o d v, Takes ops i o d ∧ specVal P glob ops o p.fr p.st = .ok v ∧ p.fr.1[d]? = some v
  df : a.defers = p.fr.2.map (dDen e)
  len : a.tmps.size = p.fr.1.length
  tmps : ∀ t, (∃ i o, p.listed.getD i false = true ∧ L.getD i false = false ∧ Takes ops i o t) ∨ a.tmps[t]? = (V.denL e p.fr.1)[t]?
  ok : V.okL p.st.hp p.fr.1
  dok : ∀ d ∈ p.fr.2, dOk p.st.hp d
  glb : GOk glob e p.st.hp
  rep : Rep e S w0 p.st.hp w
  hld : Holds e.int p.st.pc

/-- The frame that the reader takes the real one for. -/
def actOf (e : Env) (fr : Fr) : Act := { tmps := (V.denL e fr.1).toArray, defers := fr.2.map (dDen e) }

variable {e : Env} {S : Nat → Prop} {w0 w : World} {p : Pl} {L : Array Bool} {a : Act}

theorem Sim.fm (s : Sim P glob ops e S w0 p L a w) : Fm e p.st.hp p.fr (actOf e p.fr) := ⟨⟨rfl, s.ok⟩, rfl, s.dok⟩

/-- What an operation that is ready looks at has been written. -/
theorem Sim.sees (s : Sim P glob ops e S w0 p L a w) {j : Nat} {o : Oper} (hj : ops[j]? = some o) (hr : j ∈ Region.ready .any ops L) (hself : ∀ o' d, Takes ops j o' d → d ∉ o.looksAt ops) {t : Tmp} (ht : t ∈ o.looksAt ops) : a.tmps[t]? = (V.denL e p.fr.1)[t]? := by
  rcases s.tmps t with ⟨i, oi, h1, h2, h3⟩ | h
  · exfalso
    by_cases hij : j = i
    · subst hij; exact hself oi t h3 ht
    · have := waits_ready s.sizeL s.closedL (h3.looks j o hj hij ht) hr (Ne.symm hij)
      rw [h2] at this; cases this
  · exact h
theorem eval_of {b : Act} {x : Operand} (h : ∀ t, x = .tmp t → a.tmps[t]? = b.tmps[t]?) : a.eval x = b.eval x := by
  cases x with
  | tmp t => simp only [Act.eval, Array.getD_eq_getD_getElem?, h t rfl]
  | _ => rfl
theorem semAt_congr {ρ ρ' : Operand → Value} (o : Oper) (hs : ∀ cs b, o.op ≠ .select cs b) (h : ∀ x ∈ o.op.operands, ρ x = ρ' x) : o.semAt ro ρ = o.semAt ro ρ' := by
  by_cases hd : ∃ c, o.op = .defer c
  · obtain ⟨c, hc⟩ := hd
    unfold Oper.semAt
    cases ro with
    | none => exact execOp_congr o hs h
    | some l =>
      simp only [hc]
      rw [resolve_congr c _ (by simpa [Op.operands, hc] using h)]
  · rw [Oper.semAt_eq _ _ _ (fun c hc => hd ⟨c, hc⟩), Oper.semAt_eq _ _ _ (fun c hc => hd ⟨c, hc⟩)]
    exact execOp_congr o hs h
theorem Sim.runs (s : Sim P glob ops e S w0 p L a w) {j : Nat} {o : Oper} (hsel : ∀ cs b, o.op ≠ .select cs b) (hj : ops[j]? = some o) (hr : j ∈ Region.ready .any ops L) (hself : ∀ o' d, Takes ops j o' d → d ∉ o.looksAt ops) :
    o.semAt ro a.eval = o.semAt ro (actOf e p.fr).eval ∧ Region.wanted o (yielded ops a.tmps) = Region.wanted o (yielded ops (actOf e p.fr).tmps) := by
  have sees := fun t => s.sees (t := t) hj hr hself
  refine ⟨semAt_congr o hsel fun x hx => eval_of fun t ht => ?_, ?_⟩
  · subst ht
    have := sees t (List.mem_append_left _ (List.mem_filterMap.2 ⟨.tmp t, Array.mem_toList_iff.2 hx, rfl⟩))
    rw [this]; simp [actOf]
  · unfold Region.wanted
    cases hg : o.guard with
    | none => rfl
    | some gw =>
      obtain ⟨g, want⟩ := gw
      simp only
      have : yielded ops a.tmps g = yielded ops (actOf e p.fr).tmps g := by
        unfold yielded
        cases ht : (ops[g]?).bind (·.dst) with
        | none => rfl
        | some t =>
          have := sees t (by simp [Oper.looksAt, hg, ht])
          simp only [Option.bind_some, this, actOf, List.getElem?_toArray]
      rw [this]

/-- Nothing is late where nothing more is ready. -/
theorem Sim.none_late (s : Sim P glob ops e S w0 p L a w) (hb : edgesBack ops = true) (hL : Region.ready .any ops L = []) : ∀ i, p.listed.getD i false = true → L.getD i false = true := by
  intro i
  induction i using Nat.strongRecOn with
  | _ i ih =>
    intro hi
    cases hLi : L.getD i false
    · exfalso
      have hlt : i < p.listed.size := by
        rcases Nat.lt_or_ge i p.listed.size with h | h
        · exact h
        · simp [Array.getD_eq_getD_getElem?, Array.getElem?_eq_none h] at hi
      rw [s.sizeP] at hlt
      have ho : ops[i]? = some ops[i] := Array.getElem?_eq_getElem hlt
      have : i ∈ Region.ready .any ops L := by
        refine (ready_iff s.sizeL).2 ⟨_, ho, hLi, fun ed hed hbi => ?_⟩
        have hback : ed.on < i := by
          have := List.all_eq_true.1 hb i (List.mem_range.2 hlt)
          rw [tat_eq, Array.getElem?_toList, ho] at this
          have := List.all_eq_true.1 this ed (Array.mem_toList_iff.2 hed)
          rw [hbi] at this
          simpa [Nat.blt_eq] using this
        exact ih ed.on hback (s.closedP i _ ho hi ed hed hbi)
      rw [hL] at this; cases this
    · rfl

/-- What is to be shown of a place: from wherever a real order stands against it, every way on is good. -/
def Goal (ro : Option Nat) (P : Program) (glob : Nat → Option Nat) (ops : Array Oper) (Q : Exit → Act → World → Prop) (e0 : Env) (S : Nat → Prop) (w0 : World) (st0 : St) (p : Pl) : Prop :=
  ∀ (fuel : Nat) (e : Env) (L : Array Bool) (a : Act) (w : World), Later e0 e st0.hp p.st.hp → Sim P glob ops e S w0 p L a w → ((List.range ops.size).filter fun i => !L.getD i false).length ≤ fuel → wpAnyIn (FW ro) 0 P .any ops Q fuel L a w

theorem filter_le {f q : Nat → Bool} (himp : ∀ j, f j = true → q j = true) : ∀ l : List Nat, (l.filter f).length ≤ (l.filter q).length
  | [] => by simp
  | y :: l => by
    have ih := filter_le himp l
    simp only [List.filter_cons]
    cases h1 : f y
    · cases h2 : q y <;> simp <;> omega
    · rw [himp y h1]; simp; exact ih
theorem filter_lt {f q : Nat → Bool} (himp : ∀ j, f j = true → q j = true) {i : Nat} (hf : f i = false) (hq : q i = true) : ∀ l : List Nat, i ∈ l → (l.filter f).length < (l.filter q).length
  | [], h => by cases h
  | y :: l, h => by
    have ih := filter_le himp l
    simp only [List.filter_cons]
    by_cases hy : y = i
    · subst hy
      rw [hf, hq]; simp; omega
    · have ih2 := filter_lt himp hf hq l (by rcases List.mem_cons.1 h with rfl | h; exact absurd rfl hy; exact h)
      cases h1 : f y
      · cases h2 : q y <;> simp <;> omega
      · rw [himp y h1]; simp; exact ih2
theorem count_add {L : Array Bool} (hsz : L.size = ops.size) {i : Nat} (hi : i < ops.size) (h0 : L.getD i false = false) :
    ((List.range ops.size).filter fun j => !(L.setIfInBounds i true).getD j false).length < ((List.range ops.size).filter fun j => !L.getD j false).length := by
  have hlt : i < L.size := by rw [hsz]; exact hi
  refine filter_lt (fun j hj => ?_) ?_ ?_ _ (List.mem_range.2 hi)
  · cases hq : L.getD j false
    · rfl
    · rw [(getD_set_true hlt).2 (.inr hq)] at hj; cases hj
  · rw [(getD_set_true hlt).2 (.inl rfl)]; rfl
  · rw [h0]; rfl
end
end Go.Proofs.Ytnfnhhphoiebbaa.Sx
