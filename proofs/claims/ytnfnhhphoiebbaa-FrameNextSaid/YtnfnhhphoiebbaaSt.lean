/- Regions, code, calls: what the reader says is so. -/
import Derived.Test.YtnfnhhphoiebbaaTj
set_option linter.unusedVariables false
set_option linter.unusedSimpArgs false
namespace Go.Proofs.Ytnfnhhphoiebbaa.Sx
open Go

section
variable {P : Program} {glob : Nat → Option Nat} {E : Cx} {ro : Option Nat} {ops : Array Oper} {Q : Exit → Act → World → Prop} {lf : Nat}
variable {e0 e : Env} {S : Nat → Prop} {w0 w : World} {st0 st : St} {fr : Fr} {a : Act}

/-- Every end of a region is good. -/
def EndsGood (Q : Exit → Act → World → Prop) (e0 : Env) (S : Nat → Prop) (w0 : World) (st0 : St) (ends : List Qp) : Prop :=
  ∀ p ∈ ends, ∀ e w a', Later e0 e st0.hp p.st.hp → Rep e S w0 p.st.hp w → Holds e.int p.st.pc → Fm e p.st.hp p.fr a' → Q .normal a' w

theorem actAll_ok {p : Qp} : ∀ {l : List Nat} {b b' : Bk} {qs : List Qp}, actAll P glob E lf ops p l b = some (qs, b') → ∀ i ∈ l, ∃ o n xs ps, ops[i]? = some o ∧ oneOp P glob E lf ops o p.fr { p.st with nxt := n } = some xs ∧ behind P glob ops p i xs = some ps ∧ ∀ q ∈ ps, q ∈ qs
  | [], _, _, _, _, i, hi => by cases hi
  | j :: l, b, b', qs, h, i, hi => by
    simp only [actAll, tat_eq, Array.getElem?_toList] at h
    split at h
    · cases h
    · rename_i o ho
      split at h
      · cases h
      · rename_i xs hxs
        split at h
        · cases h
        · rename_i ps hps
          split at h
          · cases h
          · rename_i qs2 b2 hqs
            cases h
            rcases List.mem_cons.1 hi with rfl | hi
            · exact ⟨o, _, xs, ps, ho, hxs, hps, fun q hq => List.mem_append_left _ hq⟩
            · obtain ⟨o', n', xs', ps', h1, h2, h3, h4⟩ := actAll_ok hqs i hi
              exact ⟨o', n', xs', ps', h1, h2, h3, fun q hq => List.mem_append_right _ (h4 q hq)⟩

theorem stepPl_ok (hE : CxOk P glob E e0 st0.hp S w0 ro) (hb : edgesBack ops = true) (hsel : noSelect ops) (q : Qp) (b : Bk) (qs ends : List Qp) (b' : Bk) (h : stepPl P glob E lf ops q b = some (qs, ends, b'))
    (hqs : ∀ p ∈ qs, Goal ro P glob ops Q e0 S w0 st0 (p.pl ops.size)) (hends : EndsGood Q e0 S w0 st0 ends) : Goal ro P glob ops Q e0 S w0 st0 (q.pl ops.size) := by
  unfold stepPl at h
  refine pass_ok hb ops.toList 0 q (fun t => by simp) ?_
  split at h
  · rename_i x p hp
    rw [hp]
    split at h
    · rename_i hho
      cases h
      exact goal_ask (p := p.pl ops.size) (x := x) hho (hqs { p with st := forkPc p.st x true } (by simp)) (hqs { p with st := forkPc p.st x false } (by simp))
    · cases h
  · rename_i p hp
    rw [hp]
    split at h
    · rename_i hr
      cases h
      refine goal_acts (p := p.pl ops.size) (lf := lf) hE hb hsel (fun _ => hends p (by simp)) (fun i hi => ?_)
      have := ready_from hb hi
      rw [hr] at this; cases this
    · rename_i i l hr
      split at h
      · rename_i qs2 b2 hact
        cases h
        have main : ∀ k ∈ Region.ready .any ops (p.pl ops.size).listed, Acts P glob E lf ops (Goal ro P glob ops Q e0 S w0 st0) (p.pl ops.size) k := fun k hk => by
          have hk2 : k ∈ i :: l := by rw [← hr]; exact ready_from hb hk
          obtain ⟨o, m, xs, ps, k1, k2, k3, k4⟩ := actAll_ok hact k hk2
          refine ⟨o, m, xs, ps.map (Qp.pl ops.size), k1, k2, behind_P (Array.getElem?_eq_some_iff.1 k1).1 k3, fun q' hq' => ?_⟩
          obtain ⟨p', hp', rfl⟩ := List.mem_map.1 hq'
          exact hqs p' (k4 p' hp')
        by_cases hnil : Region.ready .any ops (p.pl ops.size).listed = []
        · have hmem : i ∈ readyFrom p.lm ops.toList 0 := by rw [hr]; simp
          obtain ⟨k, o, h1, h2, h3⟩ := readyFrom_ok hmem
          have : i ∈ Region.ready .any ops (p.pl ops.size).listed := (ready_bits hb).2 ⟨o, by rw [h2, Nat.zero_add]; simpa using h1, h3⟩
          rw [hnil] at this; cases this
        · exact goal_acts (p := p.pl ops.size) (lf := lf) hE hb hsel (fun hn => absurd hn hnil) main
      · cases h

theorem stepAll_ok : ∀ {l : List Qp} {b b' : Bk} {qs ends : List Qp}, stepAll P glob E lf ops l b = some (qs, ends, b') → ∀ p ∈ l, ∃ b1 b2 qs1 ends1, stepPl P glob E lf ops p b1 = some (qs1, ends1, b2) ∧ (∀ q ∈ qs1, q ∈ qs) ∧ ∀ q ∈ ends1, q ∈ ends
  | [], _, _, _, _, _, p, hp => by cases hp
  | x :: l, b, b', qs, ends, h, p, hp => by
    simp only [stepAll] at h
    split at h
    · cases h
    · rename_i qs1 ends1 b1 h1
      split at h
      · cases h
      · rename_i qs2 ends2 b2 h2
        cases h
        rcases List.mem_cons.1 hp with rfl | hp
        · exact ⟨b, b1, qs1, ends1, h1, fun q hq => List.mem_append_left _ hq, fun q hq => List.mem_append_left _ hq⟩
        · obtain ⟨c1, c2, qs3, ends3, k1, k2, k3⟩ := stepAll_ok h2 p hp
          exact ⟨c1, c2, qs3, ends3, k1, fun q hq => List.mem_append_right _ (k2 q hq), fun q hq => List.mem_append_right _ (k3 q hq)⟩

theorem explore_ends : ∀ {n : Nat} {l ends es : List Qp} {b b' : Bk}, explore P glob E lf ops n l ends b = some (es, b') → ∀ p ∈ ends, p ∈ es
  | 0, _, _, _, _, _, h, p, hp => by cases h
  | n + 1, [], ends, es, b, b', h, p, hp => by cases h; exact hp
  | n + 1, x :: l, ends, es, b, b', h, p, hp => by
    simp only [explore] at h
    split at h
    · cases h
    · exact explore_ends h p (addAll_mem (.inr hp))
theorem explore_ok (hE : CxOk P glob E e0 st0.hp S w0 ro) (hb : edgesBack ops = true) (hsel : noSelect ops) : ∀ (n : Nat) (l ends es : List Qp) (b b' : Bk), explore P glob E lf ops n l ends b = some (es, b') →
    EndsGood Q e0 S w0 st0 es → ∀ p ∈ l, Goal ro P glob ops Q e0 S w0 st0 (p.pl ops.size)
  | 0, _, _, _, _, _, h, _, _, _ => by cases h
  | n + 1, [], _, _, _, _, _, _, p, hp => by cases hp
  | n + 1, x :: l, ends, es, b, b', h, hes, p, hp => by
    simp only [explore] at h
    split at h
    · cases h
    · rename_i qs es1 b1 h1
      obtain ⟨c1, c2, qs2, ends2, k1, k2, k3⟩ := stepAll_ok h1 p hp
      have ih := explore_ok hE hb hsel n _ _ _ _ _ h hes
      exact stepPl_ok hE hb hsel p c1 qs2 ends2 c2 k1 (fun q hq => ih q (addAll_mem (.inl (k2 q hq)))) (fun q hq => hes q (explore_ends h q (addAll_mem (.inl (k3 q hq)))))

/-- **A region that draws its order.** -/
theorem drawOps_ok (hE : CxOk P glob E e st.hp S w0 ro) (hm : P.follows .mixedOrders = true) (hsel : noSelect ops) {id : Nat} {ways : List (Fr × St)} (hq : drawOps P glob E lf ops fr st = some ways)
    (f : Fm e st.hp fr a) (g : GOk glob e st.hp) (r : Rep e S w0 st.hp w) (hh : Holds e.int st.pc) (hK : Ways1 e S w0 st (Q .normal) ways) : (Code.region id ops true).wpIn (FW ro) 0 P Q a w := by
  unfold drawOps at hq
  split at hq
  · cases hq
  · rename_i hb
    split at hq
    · rename_i ends b hex
      cases hq
      have hG := explore_ok (Q := Q) (e0 := e) (S := S) (w0 := w0) (st0 := st) hE hb hsel _ _ _ _ _ _ hex (fun p hp e' w' a' hl hr hho hf => by
        refine hK p.fr { p.st with nxt := b.top } (List.mem_map.2 ⟨p, hp, rfl⟩) e' w' a' ⟨hl, hr, hho⟩ hf) _ (List.mem_singleton.2 rfl)
      refine wpIn_region_any hm ?_
      have none_listed : ∀ i, (bitsArr ops.size 0).getD i false = false := fun i => by
        by_cases h : i < ops.size
        · rw [bitsArr_getD h]; simp
        · have hs : ¬ i < (bitsArr ops.size 0).size := by rw [bitsArr_size]; exact h
          simp [Array.getD_eq_getD_getElem?, hs]
      have same : bitsArr ops.size 0 = Array.replicate ops.size false := by
        apply Array.ext
        · simp [bitsArr]
        · intro j h1 h2
          have := none_listed j
          simp only [Array.getD_eq_getD_getElem?, Array.getElem?_eq_getElem h1, Option.getD_some] at this
          rw [this]; simp
      have hG' : wpAnyIn (FW ro) 0 P .any ops Q ops.size (bitsArr ops.size 0) a { w with drawn := w.drawn + 1 } := hG ops.size e (bitsArr ops.size 0) a _ (.refl _ _) ?_ ?_
      · rw [same] at hG'
        exact hG'
      · exact ⟨by simp [bitsArr], by simp [Qp.pl, bitsArr], fun j o _ hj => (by rw [none_listed] at hj; cases hj), fun j o _ hj => (by rw [show (Qp.pl ops.size _).listed = bitsArr ops.size 0 from rfl, none_listed] at hj; cases hj), fun i hi => hi, fun i hi => (by rw [show (Qp.pl ops.size _).listed = bitsArr ops.size 0 from rfl, none_listed] at hi; cases hi), fun i hi => (by cases hi), f.df, by rw [f.tm.tmps]; simp [denL_length, Qp.pl], fun t => .inr (by rw [f.tm.tmps]; simp [Qp.pl]), f.tm.ok, f.dok, g, r.drawn, hh⟩
      · exact Nat.le_trans (List.length_filter_le _ _) (by simp)
    · cases hq

/-! Code -/
def noSelectCode : Code → Prop
  | .region _ ops _ => noSelect ops
  | .seq x y => noSelectCode x ∧ noSelectCode y
  | .cond _ x y => noSelectCode x ∧ noSelectCode y
  | .block _ x => noSelectCode x
  | .loop x => noSelectCode x
  | .rangeFunc _ _ x y => noSelectCode x ∧ noSelectCode y
  | .scope x => noSelectCode x
  | _ => True

def Ways2 (e : Env) (S : Nat → Prop) (w0 : World) (st : St) (Q : Exit → Act → World → Prop) (ways : Ways) : Prop :=
  ∀ x fr' st', (x, fr', st') ∈ ways → ∀ e' w' a', After e S w0 st e' st' w' → Fm e' st'.hp fr' a' → Q x a' w'

/-- A reader of code that says what is so. -/
def SndC (P : Program) (glob : Nat → Option Nat) (E : Cx) (c : Code) (k : Fr → St → Option Ways) : Prop :=
  ∀ fr st ways, k fr st = some ways → ∀ ro e S w0 w a Q, CxOk P glob E e st.hp S w0 ro → Fm e st.hp fr a → GOk glob e st.hp → Rep e S w0 st.hp w → Holds e.int st.pc → Ways2 e S w0 st Q ways → c.wpIn (FW ro) 0 P Q a w

theorem rounds_ok {c : Code} {k : Fr → St → Option Ways} (hk : SndC P glob E c k) : ∀ (n : Nat) (fr : Fr) (st : St) (ways : Ways), rounds k n fr st = some ways →
    ∀ ro e S w0 w a Q, CxOk P glob E e st.hp S w0 ro → Fm e st.hp fr a → GOk glob e st.hp → Rep e S w0 st.hp w → Holds e.int st.pc → Ways2 e S w0 st Q ways → Code.roundsIn (FW ro) 0 P c Q n a w
  | 0, _, _, _, h => by cases h
  | n + 1, fr, st, ways, h => by
    intro ro e S w0 w a Q hE f g r hh hK
    simp only [rounds] at h
    split at h
    · rename_i xs hxs
      rw [roundsIn_succ]
      refine hk fr st xs hxs ro e S w0 w a _ hE f g r hh fun x fr' st' hm e' w' a' haf hf => ?_
      obtain ⟨m, hm1, hm2⟩ := bindL_ok h (x, fr', st') hm
      have stop : x ≠ .normal → (some [(x, fr', st')] = some m) → Q x a' w' := fun _ he => by
        cases he
        exact hK x fr' st' (hm2 _ (by simp)) e' w' a' haf hf
      cases x with
      | normal =>
        exact rounds_ok hk n fr' st' m hm1 ro e' S w0 w' a' Q (hE.later haf.later) hf (g.later haf.later) haf.rep haf.holds (fun x2 fr2 st2 h2 e2 w2 a2 haf2 hf2 => hK x2 fr2 st2 (hm2 _ h2) e2 w2 a2 (haf.trans haf2) hf2)
      | exit id => exact stop (by simp) hm1
      | goto id => exact stop (by simp) hm1
      | ret => exact stop (by simp) hm1
      | panic ch => exact stop (by simp) hm1
      | outgrown => exact stop (by simp) hm1
    · cases h

/-! A scope into which nothing jumps -/
theorem stepR_scope {b : Frame} {k : List Item} {cs : List Frame} {c : Code} : step P (lone (b.atR a (.code (.scope c) :: k)) cs w) = .next (lone (b.atR a (.code c :: .inScope c :: k)) cs w) :=
  step_lone_go (by simp [stepG, stepG.exec, Frame.atR])
theorem stepR_inScope {b : Frame} {k : List Item} {cs : List Frame} {c : Code} : step P (lone (b.atR a (.inScope c :: k)) cs w) = .next (lone (b.atR a k) cs w) :=
  step_lone_go (by simp [stepG, stepG.exec, Frame.atR])
def notGoto (Q : Exit → Act → World → Prop) : Exit → Act → World → Prop
  | .goto _, _, _ => False
  | e, a, w => Q e a w
theorem wpIn_scope {F : Fence} {n : Nat} {c : Code} (h : c.wpIn F n P (notGoto Q) a w) : (Code.scope c).wpIn F n P Q a w := by
  intro b k cs hro hb hr
  have h0 : (lone (b.atR a (.code (.scope c) :: k)) cs w).fenced P F := fenced_calm hb hr rfl
  obtain ⟨e, a₁, w₁, hq, harr⟩ := h b (.inScope c :: k) cs hro hb hr
  cases e with
  | normal => exact ⟨.normal, a₁, w₁, hq, .head h0 stepR_scope (StepsIn.trans harr (.one (fenced_calm hb hr rfl) stepR_inScope))⟩
  | exit id =>
    have hx : exitTo id (.inScope c :: k) = exitTo id k := by simp [exitTo]
    exact ⟨.exit id, a₁, w₁, hq, fun k' hk => .head h0 stepR_scope (harr.1 k' (by rw [hx]; exact hk)),
      fun hr' hk => let ⟨k₁, h1, h2⟩ := harr.2 hr' (by rw [hx]; exact hk); ⟨k₁, h1, .head h0 stepR_scope h2⟩⟩
  | goto l => exact hq.elim
  | ret => exact ⟨_, a₁, w₁, hq, .of_steps (.one h0 stepR_scope) harr⟩
  | panic ch => exact ⟨_, a₁, w₁, hq, .of_steps (.one h0 stepR_scope) harr⟩
  | outgrown => exact ⟨_, a₁, w₁, hq, .of_steps (.one h0 stepR_scope) harr⟩

/-! A range over a function -/
/-- A loop's record is turned. -/
theorem lp_turn (r : Rep e S w0 st.hp w) (hh : Holds e.int st.pc) {i : Nat} {s s' : LpState} {p p' : Pend} (hi : st.hp.get i = some (.lp s p)) :
    ∃ w', (setObj (e.blk i) (.loop { e.lps i with state := s'.den, pending := p'.den })).run P w = .ok () w' ∧ After e S w0 st e (st.put i (.lp s' p')) w' := by
  have hb := r.blk i _ hi
  simp only [Blk.at] at hb
  have hlt := Blk.at_lt (r.blk i _ hi) trivial
  refine ⟨_, run_setObj_loop hb, ?_⟩
  have := r.turn (b' := .lp s' p') hi trivial trivial (.loop { e.lps i with state := s'.den, pending := p'.den }) (by simp only [Blk.at]) trivial { w with heap := w.heap.setIfInBounds (e.blk i) (.loop { e.lps i with state := s'.den, pending := p'.den }) } rfl rfl rfl
    (by simp) (by simp [hlt]) (fun k hk => by simp [Array.getElem?_setIfInBounds_ne (Ne.symm hk)])
  exact ⟨this.2, this.1, hh⟩
theorem lp_get (r : Rep e S w0 st.hp w) {i : Nat} {s : LpState} {p : Pend} (hi : st.hp.get i = some (.lp s p)) :
    (Instr.getLoop (e.blk i)).run P w = .ok { e.lps i with state := s.den, pending := p.den } w := run_getLoop (r.blk i _ hi)

/-- The environment in which a loop has this record. -/
def Env.setL (e : Env) (i : Nat) (r : Loop) : Env := { e with lps := fun j => match Nat.beq j i with | true => r | false => e.lps j }
theorem setL_later (e : Env) {h : T} {i : Nat} (hi : h.get i = none) (r : Loop) : Later e (e.setL i r) h h :=
  ⟨rfl, rfl, fun _ h => h, fun _ _ => rfl, fun _ _ => rfl, fun j hj => by
    have : Nat.beq j i = false := by
      cases hq : Nat.beq j i
      · rfl
      · rw [beq_true hq] at hj; exact absurd hi hj
    simp [Env.setL, this], fun _ _ => rfl⟩
theorem setL_self (e : Env) (i : Nat) (r : Loop) : (e.setL i r).lps i = r := by
  have : Nat.beq i i = true := Nat.beq_refl i
  simp [Env.setL, this]
/-- A new record. -/
theorem lp_new (r : Rep e S w0 st.hp w) (hh : Holds e.int st.pc) {i : Nat} {st' : St} (hn : st.new (.lp .ready .none) = some (i, st')) (rec : Loop) (h1 : rec.state = .ready) (h2 : rec.pending = none) :
    ∃ e' w', (newObj (.loop rec)).run P w = .ok (e'.blk i) w' ∧ After e S w0 st e' st' w' ∧ st'.hp.has i ∧ e'.lps i = rec := by
  have hg := new_get hn
  have l1 := setL_later e hg rec
  have := new_ok (r.env l1) (st' := st') hh hn 0 (.loop rec) { w with heap := w.heap.push (.loop rec) } rfl rfl rfl rfl (fun _ => by
    simp only [Blk.at, Env.lay]
    rw [setL_self]
    obtain ⟨s, p, _⟩ := rec
    simp only at h1 h2
    subst h1 h2
    rfl) trivial
  refine ⟨_, _, ?_, ⟨l1.trans this.1.later, this.1.rep, this.1.holds⟩, this.2.1, ?_⟩
  · rw [run_newObj, (lay_self _ _ _ _).1]
  · show (e.setL i rec).lps i = rec
    exact setL_self _ _ _
theorem laidL_ok (r : Rep e S w0 st.hp w) (hh : Holds e.int st.pc) {rr : Option Nat} (hro : RoOk e st.hp rr ro) {i : Nat} {mark : List (V × List V)} {st' : St} (hl : laidL rr st = some (i, mark, st')) (fn : FuncId) (tmps : Array Value) (ps : Array Tmp) (x y : Code) :
    ∃ e' w' mk, (Instr.enterLoop fn tmps ps x y ro).run P w = .ok (e'.blk i, mk) w' ∧ After e S w0 st e' st' w' ∧ mk = mark.map (dDen e') ∧ (∀ d ∈ mark, dOk st'.hp d) ∧ st'.hp.has i ∧
      (e'.lps i).tmps = tmps ∧ (e'.lps i).params = ps ∧ (e'.lps i).assign = x ∧ (e'.lps i).body = y := by
  unfold laidL at hl
  split at hl
  · rename_i rl
    cases ro with
    | none => exact hro.elim
    | some l =>
      obtain ⟨_, hl2⟩ := hro
      split at hl
      · rename_i s p j st1 hg hn
        cases hl
        have hget := lp_get (P := P) r hg
        rw [hl2] at hget
        obtain ⟨e', w', h1, h2, h3, h4⟩ := lp_new (P := P) r hh hn { state := .ready, pending := none, fn := fn, tmps := tmps, params := ps, assign := x, body := y, defers := (e.lps rl).defers } rfl rfl
        refine ⟨e', w', [], ?_, h2, rfl, (fun d hd => by cases hd), h3, by rw [h4], by rw [h4], by rw [h4], by rw [h4]⟩
        simp only [Instr.enterLoop, Sem.run_bind, hget, Result.andThen_ok, Sem.run_pure]
        rw [h1]; rfl
      · cases hl
  · cases ro with
    | some l => exact hro.elim
    | none =>
      split at hl
      · rename_i d st1 hn1
        split at hl
        · rename_i j st2 hn2
          cases hl
          have h0 := new_ok r hh hn1 0 (.deferred (some [])) { w with heap := w.heap.push (.deferred (some [])) } rfl rfl rfl rfl (fun _ => rfl) trivial
          obtain ⟨e', w', h1, h2, h3, h4⟩ := lp_new (P := P) h0.1.rep h0.1.holds hn2 { state := .ready, pending := none, fn := fn, tmps := tmps, params := ps, assign := x, body := y, defers := w.heap.size } rfl rfl
          have hd : e'.blk d = w.heap.size := by rw [h2.later.blk d h0.2.1]; exact (lay_self _ _ _ _).1
          refine ⟨e', w', [{ target := .collected w.heap.size, args := #[] }], ?_, h0.1.trans h2, by simp [dDen, hd], (fun z hz => ?_), h3, by rw [h4], by rw [h4], by rw [h4], by rw [h4]⟩
          · simp only [Instr.enterLoop, Sem.run_bind, run_newObj, Result.andThen_ok, Sem.run_pure]
            rw [run_newObj] at h1
            simp only [Result.ok.injEq] at h1
            obtain ⟨h1, h1'⟩ := h1
            subst h1'
            rw [← h1]
          · simp only [List.mem_singleton] at hz
            subst hz
            exact ⟨h2.later.has d h0.2.1, trivial⟩
        · cases hl
      · cases hl

theorem setAll_den (e : Env) : ∀ (ps : List Tmp) (args tm : List V), ((ps.zip (V.denL e args)).foldl (fun (tmps : Array Value) (x : Tmp × Value) => tmps.setIfInBounds x.1 x.2) (V.denL e tm).toArray) = (V.denL e (setAll tm ps args)).toArray
  | [], _, _ => by simp [setAll]
  | _ :: _, [], _ => by simp [setAll, V.denL]
  | t :: ps, v :: args, tm => by
    simp only [V.denL, List.zip_cons_cons, List.foldl_cons, setAll]
    rw [tset_eq, ← setAll_den e ps args (tm.set t v), denL_set]
    congr 1
    simp
theorem setAll_ok {h : T} : ∀ {ps : List Tmp} {args tm : List V}, V.okL h tm → V.okL h args → V.okL h (setAll tm ps args)
  | [], _, _, ht, _ => by simpa [setAll] using ht
  | _ :: _, [], _, ht, _ => by simpa [setAll] using ht
  | t :: ps, v :: args, tm, ht, ha => by
    simp only [setAll]
    refine setAll_ok (okL_iff.2 fun x hx => ?_) ha.2
    rw [tset_eq] at hx
    rcases List.mem_or_eq_of_mem_set hx with h1 | h1
    · exact okL_iff.1 ht x h1
    · subst h1; exact ha.1

theorem endR_ok (r : Rep e S w0 st.hp w) (hh : Holds e.int st.pc) {i : Nat} {x : Exit} {ways : List (V × St)} (h : endR i x st = some ways) {R : Ending → World → Prop} {a : Act}
    (hR : ∀ v st', (v, st') ∈ ways → ∀ w', After e S w0 st e st' w' → R (.returned (v.den e)) w') : roundPost P (e.blk i) R x a w := by
  unfold endR at h
  split at h
  · rename_i s p hi
    have hget := lp_get (P := P) r hi
    have main : ∀ (j : Option Code) (s' : LpState) (p' : Pend), p'.den = j → (s'.den = if j.isNone then .ready else .done) → ∃ w', (Instr.endRound (e.blk i) j).run P w = .ok (.bool j.isNone) w' ∧ After e S w0 st e (st.put i (.lp s' p')) w' := by
      intro j s' p' hp hs
      obtain ⟨w', h1, h2⟩ := lp_turn (P := P) (s' := s') (p' := p') r hh hi
      refine ⟨w', ?_, h2⟩
      rw [hp, hs] at h1
      simp only [Instr.endRound, Sem.run_bind, hget, Result.andThen_ok, h1, Sem.run_pure]
    cases x with
    | normal =>
      cases h
      obtain ⟨w', h1, h2⟩ := main none .ready .none rfl rfl
      exact ⟨_, w', h1, hR _ _ (List.mem_singleton.2 rfl) w' h2⟩
    | ret =>
      cases h
      obtain ⟨w', h1, h2⟩ := main (some .ret) .done .ret rfl rfl
      exact ⟨_, w', h1, hR _ _ (List.mem_singleton.2 rfl) w' h2⟩
    | exit id =>
      cases h
      obtain ⟨w', h1, h2⟩ := main (some (.exit id)) .done (.exit id) rfl rfl
      exact ⟨_, w', h1, hR _ _ (List.mem_singleton.2 rfl) w' h2⟩
    | goto id => cases h
    | panic c => cases h
    | outgrown => cases h
  · cases h

/-- **A round.** -/
theorem roundOf_ok {h : T} {i : Nat} {ps : Array Tmp} {tm : List V} {x y : Code} {kx ky : Fr → St → Option Ways} {E : Cx} (hx : SndC P glob { E with ro := some i } x kx) (hy : SndC P glob { E with ro := some i } y ky)
    (hev : Snd P glob E.ev) (hrs : RsOk P glob e h S w0 E.rs) (hi : h.has i) (htm : V.okL h tm) (h1 : (e.lps i).tmps = (V.denL e tm).toArray) (h2 : (e.lps i).params = ps) (h3 : (e.lps i).assign = x) (h4 : (e.lps i).body = y) :
    RndOk P glob e h S w0 i (roundOf i ps.toList tm kx ky) := by
  refine ⟨hi, fun args st ways hk e' w lat r g hh ho R hR => ?_⟩
  unfold roundOf at hk
  split at hk
  · cases hk
  · rename_i hlen
    have hlen := beq_true hlen
    have el : e'.lps i = e.lps i := lat.lps i hi
    rw [el, h1, h2, h3, h4]
    refine ⟨by simpa using hlen.symm, ?_⟩
    split at hk
    · cases hk
    · rename_i ys hys
      have hcx : CxOk P glob { E with ro := some i } e' st.hp S w0 (some (e'.blk i)) := ⟨hev, hrs.later lat, lat.has i hi, rfl⟩
      have hz : (ps.zip (V.denL e' args).toArray).foldl (fun (tmps : Array Value) (x : Tmp × Value) => tmps.setIfInBounds x.1 x.2) (V.denL e tm).toArray = (V.denL e' (setAll tm ps.toList args)).toArray := by
        rw [← setAll_den, V.denL_later lat htm, ← Array.foldl_toList]
        simp
      refine roundIn_of_wpIn (F := FW none) trivial ?_
      refine hx (setAll tm ps.toList args, []) st ys hys (some (e'.blk i)) e' S w0 w _ _ hcx ⟨⟨hz, setAll_ok (V.okL_later lat.has htm) ho⟩, rfl, fun d hd => by cases hd⟩ g r hh fun z fr1 st1 hm e1 w1 a1 haf hf => ?_
      obtain ⟨m, hm1, hm2⟩ := bindL_ok hk (z, fr1, st1) hm
      cases z with
      | normal =>
        simp only at hm1
        split at hm1
        · rename_i p hlp
          split at hm1
          · rename_i zs hzs
            have hget := lp_get (P := P) haf.rep hlp
            obtain ⟨w2, k1, k2⟩ := lp_turn (P := P) (s' := .busy) (p' := p) haf.rep haf.holds hlp
            have eb : e1.blk i = e'.blk i := haf.later.blk i (lat.has i hi)
            refine ⟨w2, ?_, ?_⟩
            · rw [← eb]
              simp only [Instr.beginRound, Sem.run_bind, hget, Result.andThen_ok]
              have : ({ e1.lps i with state := LpState.ready.den, pending := p.den } : Loop) = { e1.lps i with state := .ready, pending := p.den } := rfl
              rw [show (setObj (e1.blk i) (.loop { e1.lps i with state := .busy, pending := p.den })).run P w1 = .ok () w2 from k1]
              rfl
            · refine hy fr1 (st1.put i (.lp .busy p)) zs hzs (some (e'.blk i)) e1 S w0 w2 a1 _ ((hcx.later haf.later).later k2.later) (hf.later k2.later) ((g.later haf.later).later k2.later) k2.rep k2.holds fun z3 fr3 st3 hm3 e3 w3 a3 haf3 hf3 => ?_
              obtain ⟨m4, hm5, hm6⟩ := bindL_ok hm1 (z3, fr3, st3) hm3
              have lat3 := (haf.later.trans k2.later).trans haf3.later
              have eb3 : e3.blk i = e'.blk i := lat3.blk i (lat.has i hi)
              rw [← eb3]
              refine endR_ok haf3.rep haf3.holds hm5 fun v st5 hv w5 haf5 => ?_
              have hvk : V.ok st5.hp v := by
                unfold endR at hm5
                split at hm5
                · cases z3 <;> first | (cases hm5; done) | (cases hm5; simp only [List.mem_singleton] at hv; cases hv; trivial)
                · cases hm5
              exact hR v st5 (hm2 _ (hm6 _ hv)) e3 w5 (((haf.trans k2).trans haf3).trans haf5) hvk
          · cases hm1
        · cases hm1
      | exit id => cases hm1
      | goto id => cases hm1
      | ret => cases hm1
      | panic ch => cases hm1
      | outgrown => cases hm1

theorem codeEval_ok (hm : P.follows .mixedOrders = true) : ∀ (c : Code), noSelectCode c → ∀ E, SndC P glob E c (codeEval P glob lf c E)
  | .skip, _, E => fun fr st ways h ro e S w0 w a Q hE f g r hh hK => by
    cases h; exact wpIn_skip (hK _ _ _ (by simp) e w a (.refl r hh) f)
  | .label l, _, E => fun fr st ways h ro e S w0 w a Q hE f g r hh hK => by
    cases h; exact wpIn_label (hK _ _ _ (by simp) e w a (.refl r hh) f)
  | .exit id, _, E => fun fr st ways h ro e S w0 w a Q hE f g r hh hK => by
    cases h; exact wpIn_exit (hK _ _ _ (by simp) e w a (.refl r hh) f)
  | .ret, _, E => fun fr st ways h ro e S w0 w a Q hE f g r hh hK => by
    cases h; exact wpIn_ret (hK _ _ _ (by simp) e w a (.refl r hh) f)
  | .region id ops draw, hsel, E => fun fr st ways h ro e S w0 w a Q hE f g r hh hK => by
    simp only [codeEval] at h
    split at h
    · rename_i xs hxs
      cases h
      have hK := join_hK hK
      have hK' : Ways1 e S w0 st (Q .normal) xs := fun fr' st' hmem e' w' a' haf hf => hK .normal fr' st' (List.mem_map.2 ⟨(fr', st'), hmem, rfl⟩) e' w' a' haf hf
      cases draw
      · exact wpIn_region_list (listOps_ok ops.toList fr st xs e w a hxs hE f g r hh hK')
      · exact drawOps_ok hE hm hsel hxs f g r hh hK'
    · cases h
  | .seq x y, hsel, E => fun fr st ways h ro e S w0 w a Q hE f g r hh hK => by
    simp only [codeEval] at h
    split at h
    · rename_i xs hxs
      refine wpIn_seq (codeEval_ok hm x hsel.1 E fr st xs hxs ro e S w0 w a _ hE f g r hh fun ex fr' st' hmem e' w' a' haf hf => ?_)
      obtain ⟨m, hm1, hm2⟩ := bindL_ok h (ex, fr', st') hmem
      have stop : (some [(ex, fr', st')] = some m) → Q ex a' w' := fun he => by
        cases he
        exact hK ex fr' st' (hm2 _ (by simp)) e' w' a' haf hf
      cases ex with
      | normal => exact codeEval_ok hm y hsel.2 E fr' st' m hm1 ro e' S w0 w' a' Q (hE.later haf.later) hf (g.later haf.later) haf.rep haf.holds (fun x2 fr2 st2 h2 e2 w2 a2 haf2 hf2 => hK x2 fr2 st2 (hm2 _ h2) e2 w2 a2 (haf.trans haf2) hf2)
      | exit id => exact stop hm1
      | goto id => exact stop hm1
      | ret => exact stop hm1
      | panic ch => exact stop hm1
      | outgrown => exact stop hm1
    · cases h
  | .cond c x y, hsel, E => fun fr st ways h ro e S w0 w a Q hE f g r hh hK => by
    simp only [codeEval] at h
    split at h
    · rename_i n hc
      have hev := (opd_ok f.tm g hc).1
      rw [den_b] at hev
      split at h
      · rename_i hd
        have hd := dec_tr hh hd
        rw [hd] at hev
        exact wpIn_cond hev (codeEval_ok hm x hsel.1 E fr st ways h ro e S w0 w a Q hE f g r hh hK)
      · rename_i hd
        have hd := dec_tr hh hd
        rw [hd] at hev
        exact wpIn_cond hev (codeEval_ok hm y hsel.2 E fr st ways h ro e S w0 w a Q hE f g r hh hK)
      · split at h
        · rename_i l m h1 h2
          cases h
          have hK := join_hK hK
          by_cases hn : n.den e.int = 0
          · have ht : Holds e.int (forkPc st n false).pc := hh.add (by simp [hn])
            have hev2 : a.eval c = .bool false := by
              rw [hev]
              congr 1
              cases hq : tr (n.den e.int)
              · rfl
              · exact absurd hn ((tr_iff _).1 hq)
            exact wpIn_cond hev2 (codeEval_ok hm y hsel.2 E fr (forkPc st n false) m h2 ro e S w0 w a Q hE f g r ht (fun x2 fr2 st2 h2 e2 w2 a2 haf2 hf2 => hK x2 fr2 st2 (List.mem_append_right _ h2) e2 w2 a2 haf2.fork hf2))
          · have ht : Holds e.int (forkPc st n true).pc := hh.add (by simp [hn])
            have hev2 : a.eval c = .bool true := by rw [hev, (tr_iff _).2 hn]
            exact wpIn_cond hev2 (codeEval_ok hm x hsel.1 E fr (forkPc st n true) l h1 ro e S w0 w a Q hE f g r ht (fun x2 fr2 st2 h2 e2 w2 a2 haf2 hf2 => hK x2 fr2 st2 (List.mem_append_left _ h2) e2 w2 a2 haf2.fork hf2))
        · cases h
    · cases h
  | .block id c, hsel, E => fun fr st ways h ro e S w0 w a Q hE f g r hh hK => by
    simp only [codeEval] at h
    split at h
    · rename_i xs hxs
      cases h
      have hK := join_hK hK
      refine wpIn_block (codeEval_ok hm c hsel E fr st xs hxs ro e S w0 w a _ hE f g r hh fun ex fr' st' hmem e' w' a' haf hf => ?_)
      have keep := hK (leaveBlock id ex) fr' st' (List.mem_map.2 ⟨(ex, fr', st'), hmem, rfl⟩) e' w' a' haf hf
      cases ex with
      | exit id' =>
        simp only [Exit.inBlock]
        simp only [leaveBlock] at keep
        by_cases hid : id' = id
        · rw [if_pos hid]
          subst hid
          rw [Nat.beq_refl] at keep; exact keep
        · rw [if_neg hid]
          have : Nat.beq id' id = false := by
            cases hq : Nat.beq id' id
            · rfl
            · exact absurd (beq_true hq) hid
          rw [this] at keep; exact keep
      | normal => exact keep
      | goto l => exact keep
      | ret => exact keep
      | panic ch => exact keep
      | outgrown => exact keep
    · cases h
  | .loop c, hsel, E => fun fr st ways h ro e S w0 w a Q hE f g r hh hK =>
    wpIn_loop_rounds lf (rounds_ok (codeEval_ok hm c hsel E) lf fr st ways h ro e S w0 w a Q hE f g r hh hK)
  | .rangeFunc go ps x y, hsel, E => fun fr st ways h ro e S w0 w a Q hE f g r hh hK => by
    simp only [codeEval] at h
    split at h
    · rename_i fid fa fb hg
      split at h
      · rename_i i mark st2 hgood hlaid
        split at h
        · rename_i xs hxs
          have hgo := opd_ok f.tm g hg
          refine wpIn_rangeFunc fun fn _ => ?_
          obtain ⟨e1, w1, mk, h1, h2, h3, h4, h5, h6, h7, h8, h9⟩ := laidL_ok (P := P) r hh hE.ro hlaid fn a.tmps ps x y
          have hf1 := f.later h2.later
          have hE1 := hE.later h2.later
          have hres : (resolve a.eval (rangeCall go (e1.blk i)) 0).run P w1 = .ok { target := .fn (.func fid) (V.denL e1 fb).toArray, args := (V.denL e1 (fa ++ [.yld i])).toArray } w1 := by
            simp only [resolve, rangeCall, hgo.1, V.den, Deferred.ofValue, Sem.run_pure]
            simp [denL_append, V.denL, V.den, V.denL_later h2.later hgo.2.1, V.denL_later h2.later hgo.2.2, Act.eval]
          have hargs : V.okL st2.hp (fa ++ [.yld i] ++ fb) := okL_iff.2 fun v hv => by
            simp only [List.mem_append, List.mem_singleton] at hv
            rcases hv with (hv | hv) | hv
            · exact V.ok_later h2.later.has (okL_iff.1 hgo.2.1 v hv)
            · subst hv; exact h5
            · exact V.ok_later h2.later.has (okL_iff.1 hgo.2.2 v hv)
          refine ⟨e1.blk i, mk, w1, _, w1, fid, (V.denL e1 (fa ++ [.yld i] ++ fb)).toArray, w1, h1, hres, fun _ _ => trivial, ?_, (fun hd => by cases hd), ?_⟩
          · simp only [invoke]
            rw [show ((V.denL e1 (fa ++ [.yld i])).toArray ++ (V.denL e1 fb).toArray) = (V.denL e1 (fa ++ [.yld i] ++ fb)).toArray by rw [denL_append e1 (fa ++ [V.yld i]) fb]; simp]
            exact callFunc_run hgood _ _
          · have hrs : RsOk P glob e1 st2.hp S w0 ((i, roundOf i ps.toList fr.1 (codeEval P glob lf x { E with ro := some i }) (codeEval P glob lf y { E with ro := some i })) :: E.rs) := by
              intro j k hjk
              simp only [findR] at hjk
              split at hjk
              · rename_i hb
                cases hjk
                rw [beq_true hb]
                refine roundOf_ok (codeEval_ok hm x hsel.1 _) (codeEval_ok hm y hsel.2 _) hE1.ev hE1.rs h5 hf1.tm.ok ?_ h7 h8 h9
                rw [h6]; exact hf1.tm.tmps
              · exact hE1.rs j k hjk
            refine callsIn_ro (hE1.ev _ fid _ st2 xs hxs e1 S w0 w1 hrs h2.rep (g.later h2.later) h2.holds hargs _ fun v st3 hv e3 w3 haf3 _ => ?_)
            obtain ⟨m, hm1, hm2⟩ := bindL_ok h (v, st3) hv
            simp only at hm1
            have fin : ∀ (s : LpState) (p : Pend), st3.hp.get i = some (.lp s p) → s.den ≠ .busy → m = [(p.exit', (fr.1, mark ++ fr.2), st3.put i (.lp .out p))] → rangePost (FW ro) 0 P (e1.blk i) Q { a with defers := mk ++ a.defers } (.returned (v.den e3)) w3 := by
              intro s p hs hb hmm
              subst hmm
              have hget := lp_get (P := P) haf3.rep hs
              obtain ⟨w4, k1, k2⟩ := lp_turn (P := P) (s' := .out) (p' := p) haf3.rep haf3.holds hs
              have eb : e3.blk i = e1.blk i := haf3.later.blk i h5
              have lat := haf3.later.trans k2.later
              have hf4 : Fm e3 (st3.put i (.lp .out p)).hp (fr.1, mark ++ fr.2) { a with defers := mk ++ a.defers } :=
                ⟨⟨(hf1.later lat).tm.tmps, (hf1.later lat).tm.ok⟩, by
                  simp only [List.map_append]
                  rw [(hf1.later lat).df, h3]
                  congr 1
                  exact List.map_congr_left fun d hd => (dDen_later lat (h4 d hd)).symm, fun d hd => by
                  rcases List.mem_append.1 hd with hd | hd
                  · exact ⟨V.ok_later lat.has (h4 d hd).1, V.okL_later lat.has (h4 d hd).2⟩
                  · exact (hf1.later lat).dok d hd⟩
              have hq := hK p.exit' (fr.1, mark ++ fr.2) (st3.put i (.lp .out p)) (hm2 _ (by simp)) e3 w4 _ ((h2.trans haf3).trans k2) hf4
              refine ⟨p.den, w4, ?_, ?_⟩
              · rw [← eb]
                simp only [Instr.endLoop, Sem.run_bind, hget, Result.andThen_ok]
                have hbz : (s.den == LoopState.busy) = false := by
                  cases s <;> first | rfl | exact absurd rfl hb
                rw [hbz]
                simp only [Bool.false_eq_true, if_false, Sem.run_bind, Sem.run_pure, Result.andThen_ok]
                rw [show (setObj (e3.blk i) (.loop { e3.lps i with state := .exhausted, pending := p.den })).run P w3 = .ok () w4 from k1]
                rfl
              · cases p with
                | none => exact hq
                | ret => exact wpIn_ret hq
                | exit id => exact wpIn_exit hq
            unfold endL at hm1
            split at hm1
            · cases hm1
            · rename_i s p hnb hs
              cases hm1
              exact fin s p hs (fun hb => by
                cases s with
                | busy => exact hnb rfl
                | ready => cases hb
                | done => cases hb
                | out => cases hb) rfl
            · cases hm1
        · cases h
      · cases h
    · cases h
  | .scope c, hsel, E => fun fr st ways h ro e S w0 w a Q hE f g r hh hK => by
    simp only [codeEval] at h
    split at h
    · rename_i xs hxs
      refine wpIn_scope (codeEval_ok hm c hsel E fr st xs hxs ro e S w0 w a _ hE f g r hh fun ex fr' st' hmem e' w' a' haf hf => ?_)
      obtain ⟨m, hm1, hm2⟩ := bindL_ok h (ex, fr', st') hmem
      cases ex with
      | goto l => cases hm1
      | normal => cases hm1; exact hK _ fr' st' (hm2 _ (by simp)) e' w' a' haf hf
      | exit id => cases hm1; exact hK _ fr' st' (hm2 _ (by simp)) e' w' a' haf hf
      | ret => cases hm1; exact hK _ fr' st' (hm2 _ (by simp)) e' w' a' haf hf
      | panic ch => cases hm1; exact hK _ fr' st' (hm2 _ (by simp)) e' w' a' haf hf
      | outgrown => cases hm1; exact hK _ fr' st' (hm2 _ (by simp)) e' w' a' haf hf
    · cases h
  | .goto _, _, E => fun fr st ways h => by cases h
  | .refuse _, _, E => fun fr st ways h => by cases h
end
end Go.Proofs.Ytnfnhhphoiebbaa.Sx
