/- Regions that draw their order: one reading serves every order. -/
import Derived.Test.YtnfnhhphoiebbaaSr
set_option linter.unusedVariables false
set_option linter.unusedSimpArgs false
namespace Go.Proofs.Ytnfnhhphoiebbaa.Sx
open Go

section
variable {P : Program} {glob : Nat → Option Nat} {E : Cx} {ro : Option Nat} {ops : Array Oper} {Q : Exit → Act → World → Prop} {lf : Nat}
variable {e0 e : Env} {S : Nat → Prop} {w0 w : World} {st0 : St} {p : Pl} {L : Array Bool} {a : Act}

def noSelect (ops : Array Oper) : Prop := ∀ (i : Nat) (o : Oper), ops[i]? = some o → ∀ cs b, o.op ≠ .select cs b

/-- Two frames that are alike but for what is late. -/
structure Like (T : Tmp → Prop) (a b : Act) : Prop where
  df : a.defers = b.defers
  len : a.tmps.size = b.tmps.size
  tmps : ∀ t, T t ∨ a.tmps[t]? = b.tmps[t]?
theorem Like.put {T : Tmp → Prop} {a b : Act} (k : Like T a b) (dst : Option Tmp) (v : Value) : Like T (a.put dst v) (b.put dst v) := by
  cases dst with
  | none => exact k
  | some d =>
    refine ⟨k.df, by simp [Act.put, k.len], fun t => ?_⟩
    rcases k.tmps t with h | h
    · exact .inl h
    · refine .inr ?_
      simp only [Act.put, Array.getElem?_setIfInBounds, k.len, h]
theorem Like.push {T : Tmp → Prop} {a b : Act} (k : Like T a b) (d : Deferred) : Like T { a with defers := d :: a.defers } { b with defers := d :: b.defers } :=
  ⟨by simp [k.df], k.len, k.tmps⟩

/-- What holds of one frame's way through an operation holds of the other's. -/
theorem wp_like {T : Tmp → Prop} {a b : Act} {o : Oper} {K K0 : Act → World → Prop} {w : World} (k : Like T a b) (hx : o.semAt ro a.eval = o.semAt ro b.eval)
    (hK : ∀ a' b' w', Like T a' b' → K0 b' w' → K a' w') (h : o.wpIn (FW ro) 0 P b w K0 (fun _ _ _ => False)) : o.wpIn (FW ro) 0 P a w K Q := by
  refine ⟨fun _ _ => trivial, ?_⟩
  have h := h.2
  have hx : o.semAt (FW ro).round a.eval = o.semAt (FW ro).round b.eval := hx
  rw [hx]
  generalize (o.semAt (FW ro).round b.eval).run P w = r at *
  cases r with
  | ok n w' =>
    cases n <;> simp only [Oper.uponIn] at h ⊢
    case value v => exact hK _ _ _ (k.put o.dst v) h
    case skip => exact hK _ _ _ (k.put o.dst undef) h
    case enter f args =>
      refine ⟨(fun hd => by cases hd), callsIn_mono h.2 fun en w'' he => ?_⟩
      · cases en with
        | returned v => exact hK _ _ _ (k.put o.dst v) he
        | panicked c => exact he.elim
        | outgrown => obtain ⟨_, _, he⟩ := he; exact he.elim
    case defer d => exact hK _ _ _ ((k.push d).put o.dst undef) h
    case row r args => exact ⟨(fun hd => by cases hd), h.2.mono fun v w'' he => hK _ _ _ (k.put o.dst v) he⟩
    case round l f tmps x y =>
      refine ⟨(fun hd => by cases hd), h.2.mono fun en w'' he => ?_⟩
      cases en with
      | returned v => exact hK _ _ _ (k.put o.dst v) he
      | panicked c => exact he.elim
      | outgrown => obtain ⟨_, _, he⟩ := he; exact he.elim
  | halt x w' => cases x <;> simp only [Oper.uponIn] at h

theorem Sim.like (s : Sim P glob ops e S w0 p L a w) : Like (fun t => ∃ i o, p.listed.getD i false = true ∧ L.getD i false = false ∧ Takes ops i o t) a (actOf e p.fr) :=
  ⟨s.df, by simp [actOf, s.len, denL_length], fun t => (s.tmps t).imp id fun h => by rw [h]; simp [actOf]⟩

/-- The end of all orders. -/
theorem Sim.done (s : Sim P glob ops e S w0 p L a w) (hb : edgesBack ops = true) (hL : Region.ready .any ops L = []) : Region.ready .any ops p.listed = [] ∧ Fm e p.st.hp p.fr a := by
  have hall := s.none_late hb hL
  refine ⟨?_, ⟨⟨?_, s.ok⟩, s.df, s.dok⟩⟩
  · cases hr : Region.ready .any ops p.listed with
    | nil => rfl
    | cons i l =>
      exfalso
      obtain ⟨o, h1, h2, h3⟩ := (ready_iff s.sizeP).1 (show i ∈ Region.ready .any ops p.listed by rw [hr]; simp)
      have : i ∈ Region.ready .any ops L := (ready_iff s.sizeL).2 ⟨o, h1, (by
        cases hq : L.getD i false
        · rfl
        · rw [s.sub i hq] at h2; cases h2), fun ed hed hbi => hall _ (h3 ed hed hbi)⟩
      rw [hL] at this; cases this
  · apply Array.ext'
    apply List.ext_getElem?
    intro t
    rcases s.tmps t with ⟨i, o, h1, h2, _⟩ | h
    · rw [hall i h1] at h2; cases h2
    · simpa using h

/-- What comes of a place where operations act. -/
structure Acts (P : Program) (glob : Nat → Option Nat) (E : Cx) (lf : Nat) (ops : Array Oper) (G : Pl → Prop) (p : Pl) (i : Nat) : Prop where
  out : ∃ o n xs ps, ops[i]? = some o ∧ oneOp P glob E lf ops o p.fr { p.st with nxt := n } = some xs ∧ behindP P glob ops p i xs = some ps ∧ ∀ q ∈ ps, G q

theorem holds_ok {fr : Fr} {st : St} : ∀ {s : List Nat}, holds P glob ops fr st s = true → ∀ i ∈ s, ∃ o d v, ops[i]? = some o ∧ o.dst = some d ∧ specVal P glob ops o fr st = .ok v ∧ fr.1[d]? = some v
  | [], _, i, hi => by cases hi
  | j :: s, h, i, hi => by
    simp only [holds] at h
    split at h
    · cases h
    · rename_i o ho
      rw [tat_eq, Array.getElem?_toList] at ho
      split at h
      · cases h
      · rename_i d hd
        split at h
        · rename_i v u hv hu
          rw [tat_eq] at hu
          rw [Bool.and_eq_true] at h
          have := V.same_eq h.1
          subst this
          rcases List.mem_cons.1 hi with rfl | hi
          · exact ⟨o, d, v, ho, hd, hv, hu⟩
          · exact holds_ok h.2 i hi
        · cases h
theorem behind_ok {i : Nat} : ∀ {xs : List (Fr × St)} {ps : List Pl}, behindP P glob ops p i xs = some ps → ∀ fr st, (fr, st) ∈ xs →
    ∃ q ∈ ps, q.listed = p.listed.setIfInBounds i true ∧ q.fr = fr ∧ q.st = { st with nxt := 0 } ∧ (∀ j, j ∈ q.spec ↔ j ∈ p.spec ∧ waits ops j i = false) ∧ holds P glob ops fr st q.spec = true
  | [], _, _, fr, st, hm => by cases hm
  | (fr', st') :: xs, ps, h, fr, st, hm => by
    simp only [behindP] at h
    split at h
    · rename_i m hh hb
      cases h
      rcases List.mem_cons.1 hm with heq | hm
      · cases heq
        refine ⟨{ listed := p.listed.setIfInBounds i true, spec := p.spec.filter fun j => match waits ops j i with | true => false | false => true, fr := fr', st := { st' with nxt := 0 } }, List.mem_cons_self .., rfl, rfl, rfl, fun j => ?_, hh⟩
        simp only [List.mem_filter]
        cases waits ops j i <;> simp
      · obtain ⟨q, h1, h2⟩ := behind_ok hb fr st hm
        exact ⟨q, List.mem_cons_of_mem _ h1, h2⟩
    · cases h

theorem specVal_nxt {o : Oper} {fr : Fr} {st : St} {n : Nat} : specVal P glob ops o fr { st with nxt := n } = specVal P glob ops o fr st := rfl

/-- **A place where all that is ready acts, or where nothing is ready.** -/
theorem goal_acts (hE : CxOk P glob E e0 st0.hp S w0 ro) (hb : edgesBack ops = true) (hsel : noSelect ops)
    (hend : Region.ready .any ops p.listed = [] → ∀ e w a', Later e0 e st0.hp p.st.hp → Rep e S w0 p.st.hp w → Holds e.int p.st.pc → Fm e p.st.hp p.fr a' → Q .normal a' w)
    (hact : ∀ i ∈ Region.ready .any ops p.listed, Acts P glob E lf ops (Goal ro P glob ops Q e0 S w0 st0) p i) : Goal ro P glob ops Q e0 S w0 st0 p := by
  intro fuel
  induction fuel with
  | zero =>
    intro e L a w hlat s hc
    have hL : Region.ready .any ops L = [] := by
      cases hr : Region.ready .any ops L with
      | nil => rfl
      | cons i l =>
        exfalso
        obtain ⟨o, h1, h2, _⟩ := (ready_iff s.sizeL).1 (show i ∈ Region.ready .any ops L by rw [hr]; simp)
        have := count_add s.sizeL (Array.getElem?_eq_some_iff.1 h1).1 h2
        omega
    have dn := s.done hb hL
    exact ⟨hL, hend dn.1 e w a hlat s.rep s.hld dn.2⟩
  | succ n ih =>
    intro e L a w hlat s hc
    refine ⟨fun hL => ?_, fun i hi => ?_⟩
    · have dn := s.done hb hL
      exact hend dn.1 e w a hlat s.rep s.hld dn.2
    · obtain ⟨o, ho, h0, hpre⟩ := (ready_iff s.sizeL).1 hi
      have hlt : i < ops.size := (Array.getElem?_eq_some_iff.1 ho).1
      have hltL : i < L.size := by rw [s.sizeL]; exact hlt
      have hltP : i < p.listed.size := by rw [s.sizeP]; exact hlt
      have hcount : ((List.range ops.size).filter fun j => !(L.setIfInBounds i true).getD j false).length ≤ n := by
        have := count_add s.sizeL hlt h0
        omega
      cases hp : p.listed.getD i false
      · -- it acts now
        have hip : i ∈ Region.ready .any ops p.listed := (ready_iff s.sizeP).2 ⟨o, ho, hp, fun ed hed hbi => s.sub _ (hpre ed hed hbi)⟩
        have hself : ∀ o' d, Takes ops i o' d → d ∉ o.looksAt ops := fun o' d ht => by
          have := ht.op; rw [ho] at this; cases this; exact ht.self
        obtain ⟨hx, hw⟩ := s.runs (hsel i o ho) ho hi hself
        obtain ⟨o', nx, xs, ps, ho', hone, hbe, hG⟩ := (hact i hip).out
        rw [ho] at ho'; cases ho'
        have k := s.like
        -- what is asked behind it
        have hways : Ways1 e S w0 { p.st with nxt := nx } (fun b' w' => ∀ a', Like (fun t => ∃ i o, p.listed.getD i false = true ∧ L.getD i false = false ∧ Takes ops i o t) a' b' → wpAnyIn (FW ro) 0 P .any ops Q n (L.setIfInBounds i true) a' w') xs := by
          intro fr' st' hm e' w' b' haf hf a' hk
          obtain ⟨q, hq, q1, q2, q3, q4, q5⟩ := behind_ok hbe fr' st' hm
          have hl' : Later e e' p.st.hp st'.hp := haf.later
          refine hG q hq n e' (L.setIfInBounds i true) a' w' (by rw [q3]; exact hlat.trans hl') ?_ hcount
          have hho := holds_ok q5
          refine ⟨by simp [s.sizeL], by rw [q1]; simp [s.sizeP], closed_add s.sizeL s.closedL hi, by rw [q1]; exact closed_add s.sizeP s.closedP hip, ?_, ?_, ?_, ?_, ?_, ?_, by rw [q2, q3]; exact hf.tm.ok, by rw [q2, q3]; exact hf.dok, by rw [q3]; exact s.glb.later hl', by rw [q3]; exact haf.rep, by rw [q3]; exact haf.holds⟩
          · intro j hj
            rw [q1, getD_set_true hltP]
            rw [getD_set_true hltL] at hj
            exact hj.imp id (s.sub j)
          · intro j hj hnj
            rw [q1, getD_set_true hltP] at hj
            have hji : j ≠ i := fun he => by rw [he, (getD_set_true hltL).2 (.inl rfl)] at hnj; cases hnj
            have hLj : L.getD j false = false := by
              cases hq' : L.getD j false
              · rfl
              · rw [(getD_set_true hltL).2 (.inr hq')] at hnj; cases hnj
            have hpj := hj.resolve_left hji
            refine (q4 j).2 ⟨s.late j hpj hLj, ?_⟩
            cases hwt : waits ops j i
            · rfl
            · have := waits_ready s.sizeL s.closedL hwt hi hji
              rw [hLj] at this; cases this
          · intro j hj
            obtain ⟨o2, d2, v2, g1, g2, g3, g4⟩ := hho j hj
            have hjs := ((q4 j).1 hj).1
            obtain ⟨hl2, o3, d3, v3, t3, _, _⟩ := s.spec j hjs
            have : o3 = o2 := by have := t3.op; rw [g1] at this; cases this; rfl
            subst this
            have : d3 = d2 := by have := t3.dst; rw [g2] at this; cases this; rfl
            subst this
            refine ⟨by rw [q1, getD_set_true hltP]; exact .inr hl2, o3, d3, v2, t3, by rw [q2, q3, specVal_nxt]; exact g3, by rw [q2]; exact g4⟩
          · rw [q2, hk.df, hf.df]
          · rw [q2, hk.len, hf.tm.tmps]; simp [denL_length]
          · intro t
            rcases hk.tmps t with ⟨j, oj, h1, h2, h3⟩ | h
            · have hji : j ≠ i := fun he => by rw [he, hp] at h1; cases h1
              refine .inl ⟨j, oj, by rw [q1, getD_set_true hltP]; exact .inr h1, ?_, h3⟩
              cases hq' : (L.setIfInBounds i true).getD j false
              · rfl
              · rw [getD_set_true hltL] at hq'
                rcases hq' with hq' | hq'
                · exact absurd hq' hji
                · rw [h2] at hq'; cases hq'
            · refine .inr ?_
              rw [h, q2, hf.tm.tmps]; simp
        have h1 := oneOp_ok (Q := fun _ _ _ => False) (st := { p.st with nxt := nx }) (ro := ro) (hE.later hlat) hone s.fm s.glb s.rep s.hld hways
        unfold wpOpIn
        simp only [ho]
        rcases h1 with ⟨hwant, hwp⟩ | ⟨hwant, hk0⟩
        · rw [if_pos (by rw [hw]; exact hwant)]
          exact (wp_like k hx (fun a' b' w' hk hK => hK a' hk) hwp)
        · rw [if_neg (by rw [hw, hwant]; simp)]
          exact ⟨fun _ _ => trivial, hk0 _ (k.put o.dst undef)⟩
      · -- it came up ahead of its time: it yields now what it yielded then
        obtain ⟨hl2, o2, d, v, t2, hv, hd⟩ := s.spec i (s.late i hp h0)
        have : o2 = o := by have := t2.op; rw [ho] at this; cases this; rfl
        subst this
        have hself : ∀ o' d', Takes ops i o' d' → d' ∉ o2.looksAt ops := fun o' d' ht => by
          have := ht.op; rw [ho] at this; cases this; exact ht.self
        obtain ⟨hx, hw⟩ := s.runs (hsel i o2 ho) ho hi hself
        have hdlt : d < p.fr.1.length := (List.getElem?_eq_some_iff.1 hd).1
        have next : wpAnyIn (FW ro) 0 P .any ops Q n (L.setIfInBounds i true) (a.put o2.dst (v.den e)) w := by
          refine ih e (L.setIfInBounds i true) _ w hlat ?_ hcount
          rw [t2.dst]
          refine ⟨by simp [s.sizeL], s.sizeP, closed_add s.sizeL s.closedL hi, s.closedP, ?_, ?_, s.spec, s.df, by simp [Act.put, s.len], ?_, s.ok, s.dok, s.glb, s.rep, s.hld⟩
          · intro j hj
            rw [getD_set_true hltL] at hj
            rcases hj with rfl | hj
            · exact hp
            · exact s.sub j hj
          · intro j hj hnj
            refine s.late j hj ?_
            cases hq' : L.getD j false
            · rfl
            · rw [(getD_set_true hltL).2 (.inr hq')] at hnj; cases hnj
          · intro t
            by_cases htd : t = d
            · subst htd
              refine .inr ?_
              simp only [Act.put]
              rw [Array.getElem?_setIfInBounds_self_of_lt (by rw [s.len]; exact hdlt), denL_get, hd]; rfl
            · rcases s.tmps t with ⟨j, oj, h1, h2, h3⟩ | h
              · have hji : j ≠ i := fun he => by
                  subst he
                  have h4 := h3.op; rw [ho] at h4; cases h4
                  have h5 := h3.dst; rw [t2.dst] at h5; cases h5
                  exact htd rfl
                refine .inl ⟨j, oj, h1, ?_, h3⟩
                cases hq' : (L.setIfInBounds i true).getD j false
                · rfl
                · rw [getD_set_true hltL] at hq'
                  rcases hq' with hq' | hq'
                  · exact absurd hq' hji
                  · rw [h2] at hq'; cases hq'
              · refine .inr ?_
                simp only [Act.put]
                rw [Array.getElem?_setIfInBounds_ne (Ne.symm htd)]; exact h
        unfold wpOpIn
        simp only [ho]
        unfold specVal at hv
        have wt := wantV_ok (ops := ops) (o := o2) s.fm.tm s.hld
        split at hv
        · rename_i hwy
          rw [if_pos (by rw [hw]; exact wt.1 hwy)]
          have rd := readV_ok s.fm.tm s.glb s.rep s.hld hv
          have hnd : ∀ c, o2.op ≠ .defer c := fun c hc => by
            unfold readV at hv; rw [hc] at hv; cases hv
          refine ⟨fun _ _ => trivial, ?_⟩
          have hx : o2.semAt (FW ro).round a.eval = o2.semAt (FW ro).round (actOf e p.fr).eval := hx
          rw [hx, Oper.semAt_eq _ _ _ hnd, rd.1, Oper.uponIn_value]
          exact next
        · rename_i hwn
          cases hv
          rw [if_neg (by rw [hw, wt.2 hwn]; simp)]
          exact ⟨fun _ _ => trivial, next⟩
        · cases hv
        · cases hv

/-- A read-only operation may come up ahead of its time. -/
theorem goal_take {j : Nat} {o : Oper} {v : V} (hj : j ∈ Region.ready .any ops p.listed) (hoj : ops[j]? = some o) (hv : specVal P glob ops o p.fr p.st = .ok v) (hc : ∃ d, Takes ops j o d) (hd : ∀ d, o.dst = some d → d < p.fr.1.length)
    (hG : Goal ro P glob ops Q e0 S w0 st0 { listed := p.listed.setIfInBounds j true, spec := j :: p.spec, fr := (setDst p.fr.1 o.dst v, p.fr.2), st := p.st }) : Goal ro P glob ops Q e0 S w0 st0 p := by
  intro fuel e L a w hlat s hcount
  refine hG fuel e L a w hlat ?_ hcount
  obtain ⟨d, tk⟩ := hc
  have hlt : j < p.listed.size := by rw [s.sizeP]; exact (Array.getElem?_eq_some_iff.1 hoj).1
  have hdlt := hd d tk.dst
  have hnot : p.listed.getD j false = false := by
    obtain ⟨_, _, h, _⟩ := (ready_iff s.sizeP).1 hj; exact h
  have hvo : V.ok p.st.hp v := by
    unfold specVal at hv
    split at hv
    · exact (readV_ok s.fm.tm s.glb s.rep s.hld hv).2
    · cases hv; trivial
    · cases hv
    · cases hv
  have hfr : (setDst p.fr.1 o.dst v, p.fr.2) = (p.fr.1.set d v, p.fr.2) := by rw [tk.dst]; simp only [setDst, tset_eq]
  rw [hfr]
  refine ⟨s.sizeL, by simp [s.sizeP], s.closedL, closed_add s.sizeP s.closedP hj, ?_, ?_, ?_, s.df, by simp [s.len], ?_, ?_, s.dok, s.glb, s.rep, s.hld⟩
  · intro i hi
    rw [getD_set_true hlt]; exact .inr (s.sub i hi)
  · intro i hi hn
    rw [getD_set_true hlt] at hi
    rcases hi with rfl | hi
    · simp
    · exact List.mem_cons_of_mem _ (s.late i hi hn)
  · intro i hi
    rcases List.mem_cons.1 hi with rfl | hi
    · refine ⟨(getD_set_true hlt).2 (.inl rfl), o, d, v, tk, by rw [specVal_set tk.self]; exact hv, by simp [hdlt]⟩
    · obtain ⟨h1, oi, di, vi, ti, hvi, hdi⟩ := s.spec i hi
      have hij : i ≠ j := fun he => by rw [he, hnot] at h1; cases h1
      have hlook : d ∉ oi.looksAt ops := fun hm => by
        have := waits_listed s.closedP (tk.looks i oi ti.op hij hm) h1
        rw [hnot] at this; cases this
      have hdd : d ≠ di := fun he => by
        subst he
        exact tk.writes i oi ti.op hij ti.dst
      exact ⟨(getD_set_true hlt).2 (.inr h1), oi, di, vi, ti, by rw [specVal_set hlook]; exact hvi, by simp only; rw [List.getElem?_set_ne hdd]; exact hdi⟩
  · intro t
    by_cases htd : t = d
    · subst htd
      refine .inl ⟨j, o, (getD_set_true hlt).2 (.inl rfl), ?_, tk⟩
      cases hq : L.getD j false
      · rfl
      · rw [s.sub j hq] at hnot; cases hnot
    · rcases s.tmps t with ⟨i, oi, h1, h2, h3⟩ | h
      · exact .inl ⟨i, oi, (getD_set_true hlt).2 (.inr h1), h2, h3⟩
      · refine .inr ?_
        simp only
        rw [denL_set, List.getElem?_set_ne (Ne.symm htd)]; exact h
  · refine okL_iff.2 fun x hx => ?_
    rcases List.mem_or_eq_of_mem_set hx with h1 | h1
    · exact okL_iff.1 s.ok x h1
    · subst h1; exact hvo

/-- A question parts the ways ahead of all orders. -/
theorem goal_ask {x : N} (hh : (holds P glob ops p.fr (forkPc p.st x true) p.spec && holds P glob ops p.fr (forkPc p.st x false) p.spec) = true)
    (h1 : Goal ro P glob ops Q e0 S w0 st0 { p with st := forkPc p.st x true }) (h2 : Goal ro P glob ops Q e0 S w0 st0 { p with st := forkPc p.st x false }) : Goal ro P glob ops Q e0 S w0 st0 p := by
  rw [Bool.and_eq_true] at hh
  intro fuel e L a w hlat s hcount
  obtain ⟨t, ht⟩ := holds_fork (x := x) s.hld
  have main : holds P glob ops p.fr (forkPc p.st x t) p.spec = true → Sim P glob ops e S w0 { p with st := forkPc p.st x t } L a w := fun hho =>
    ⟨s.sizeL, s.sizeP, s.closedL, s.closedP, s.sub, s.late, fun i hi => by
      obtain ⟨o, d, v, g1, g2, g3, g4⟩ := holds_ok hho i hi
      obtain ⟨k1, o2, d2, v2, t2, _, _⟩ := s.spec i hi
      have : o2 = o := by have := t2.op; rw [g1] at this; cases this; rfl
      subst this
      have : d2 = d := by have := t2.dst; rw [g2] at this; cases this; rfl
      subst this
      exact ⟨k1, o2, d2, v, t2, g3, g4⟩, s.df, s.len, s.tmps, s.ok, s.dok, s.glb, s.rep, ht⟩
  cases t
  · exact h2 fuel e L a w hlat (main hh.2) hcount
  · exact h1 fuel e L a w hlat (main hh.1) hcount
end
end Go.Proofs.Ytnfnhhphoiebbaa.Sx
