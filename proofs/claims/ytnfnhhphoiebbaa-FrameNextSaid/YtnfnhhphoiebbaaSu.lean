/- Calls: what the reader says is so. -/
import Derived.Test.YtnfnhhphoiebbaaSt
set_option linter.unusedVariables false
set_option linter.unusedSimpArgs false
namespace Go.Proofs.Ytnfnhhphoiebbaa.Sx
open Go

section
variable {P : Program} {glob : Nat → Option Nat} {E : Ev} {lf : Nat}
variable {e : Env} {S : Nat → Prop} {w0 w : World} {st : St} {fr : Fr} {a : Act}

theorem noSelC_ok : ∀ {c : Code}, noSelC c = true → noSelectCode c
  | .region id ops d, h => fun i o hi cs b => Region.noSelect_spec h i o cs b hi
  | .seq x y, h => by
    simp only [noSelC, Bool.and_eq_true] at h
    exact ⟨noSelC_ok h.1, noSelC_ok h.2⟩
  | .cond c x y, h => by
    simp only [noSelC, Bool.and_eq_true] at h
    exact ⟨noSelC_ok h.1, noSelC_ok h.2⟩
  | .block id x, h => noSelC_ok (c := x) h
  | .loop x, h => noSelC_ok (c := x) h
  | .scope x, h => noSelC_ok (c := x) h
  | .rangeFunc _ _ x y, h => by
    simp only [noSelC, Bool.and_eq_true] at h
    exact ⟨noSelC_ok h.1, noSelC_ok h.2⟩
  | .skip, _ => trivial
  | .label _, _ => trivial
  | .exit _, _ => trivial
  | .ret, _ => trivial
  | .goto _, _ => trivial
  | .refuse _, _ => trivial

/-- What a result's variable yields. -/
def resultSem (tmps : Array Value) : ResultVar → Sem Value
  | .tmp t => pure (tmps.getD t undef)
  | .cell x t => do loadVar t (← asAddr (tmps.getD x undef))
theorem results_eq (fn : Func) (tmps : Array Value) : results fn tmps = (do
    let vs ← fn.results.mapM (resultSem tmps)
    pure (if h : vs.size = 1 then vs[0] else .tuple vs)) := by
  unfold results
  congr 1

theorem resultV_ok (r : Rep e S w0 st.hp w) (hh : Holds e.int st.pc) {tm : List V} (ho : V.okL st.hp tm) {rv : ResultVar} {v : V} (h : resultV P st tm rv = some v) :
    (resultSem (V.denL e tm).toArray rv).run P w = .ok (v.den e) w ∧ V.ok st.hp v := by
  have get : ∀ i, (V.denL e tm).toArray.getD i undef = (tm.getD i .und).den e := fun i => by
    rw [← denL_getD]; simp
  cases rv with
  | tmp t =>
    simp only [resultV, tget_eq, Option.some.injEq] at h
    subst h
    exact ⟨by simp only [resultSem, get, Sem.run_pure], getD_ok ho t⟩
  | cell x t =>
    simp only [resultV, tget_eq] at h
    split at h
    · rename_i u hu
      cases h
      have hl := loadV_ok (P := P) r hh hu
      refine ⟨?_, hl.2⟩
      simp only [resultSem, get]
      unfold loadV at hu
      split at hu
      · rename_i i off hp
        rw [hp] at hl ⊢
        have := hl.1
        simp only [Instr.loadAt, V.den, Instr.sureAddr, Sem.run_bind, Sem.run_pure, Result.andThen_ok] at this
        simp only [V.den, asAddr, Sem.run_bind, Sem.run_pure, Result.andThen_ok, this]
      · rename_i i ix z off hp
        rw [hp] at hl ⊢
        have := hl.1
        simp only [Instr.loadAt, V.den, Instr.sureAddr, Sem.run_bind, Sem.run_pure, Result.andThen_ok] at this
        simp only [V.den, asAddr, Sem.run_bind, Sem.run_pure, Result.andThen_ok, this]
      · cases hu
    · cases h
theorem resultsV_ok (r : Rep e S w0 st.hp w) (hh : Holds e.int st.pc) {tm : List V} (ho : V.okL st.hp tm) : ∀ {rs : List ResultVar} {l : List V}, resultsV P st tm rs = some l →
    (rs.mapM (resultSem (V.denL e tm).toArray)).run P w = .ok (V.denL e l) w ∧ V.okL st.hp l
  | [], l, h => by cases h; exact ⟨by simp [V.denL], trivial⟩
  | rv :: rs, l, h => by
    simp only [resultsV] at h
    split at h
    · rename_i v m h1 h2
      cases h
      have a1 := resultV_ok (P := P) r hh ho h1
      have a2 := resultsV_ok r hh ho h2
      refine ⟨?_, a1.2, a2.2⟩
      simp only [List.mapM_cons, Sem.run_bind]
      rw [a1.1, Result.andThen_ok, a2.1]
      rfl
    · cases h
theorem answerV_ok (r : Rep e S w0 st.hp w) (hh : Holds e.int st.pc) {tm : List V} (ho : V.okL st.hp tm) {fn : Func} {v : V} (h : answerV P fn st tm = some v) :
    (results fn (V.denL e tm).toArray).run P w = .ok (v.den e) w ∧ V.ok st.hp v := by
  unfold answerV at h
  have main : ∀ {l : List V}, resultsV P st tm fn.results.toList = some l → (results fn (V.denL e tm).toArray).run P w = .ok (if h : (V.denL e l).toArray.size = 1 then (V.denL e l).toArray[0] else .tuple (V.denL e l).toArray) w ∧ V.okL st.hp l := fun {l} hl => by
    have := resultsV_ok (P := P) r hh ho hl
    refine ⟨?_, this.2⟩
    rw [results_eq, Array.mapM_eq_mapM_toList]
    simp only [Sem.run_bind, Sem.run_map]
    rw [this.1]
    simp only [Result.andThen_ok]
    rfl
  split at h
  · rename_i u hl
    cases h
    have := main hl
    refine ⟨?_, this.2.1⟩
    rw [this.1]; simp [V.denL]
  · rename_i l hne hl
    cases h
    have := main hl
    refine ⟨?_, this.2⟩
    rw [this.1]
    rw [dif_neg ?_]
    · rfl
    · intro hs
      simp only [List.size_toArray, denL_length] at hs
      match l, hs with
      | [x], _ => exact hne x rfl
  · cases h

/-- What is asked behind a call's body. -/
theorem bodyEval_ok (hE : Snd P glob E) (hm : P.follows .mixedOrders = true) {f : FuncId} {args : List V} {rs : Rnds} {xs : List (Fr × St)} (hq : bodyEval P glob E lf rs f args st = some xs) (hrs : RsOk P glob e st.hp S w0 rs)
    (g : GOk glob e st.hp) (r : Rep e S w0 st.hp w) (hh : Holds e.int st.pc) (ho : V.okL st.hp args) : ∃ fn c, P.funcs[f]? = some fn ∧ fn.body = some c ∧
      ∀ Q : Exit → Act → World → Prop, (∀ x fr' st', (x = Exit.normal ∨ x = Exit.ret) → (fr', st') ∈ xs → ∀ e' w' a', After e S w0 st e' st' w' → Fm e' st'.hp fr' a' → Q x a' w') →
        c.wpIn (FW none) 0 P Q { tmps := (V.denL e args).toArray ++ Array.replicate (fn.ntmps - (V.denL e args).toArray.size) undef, defers := [] } w := by
  unfold bodyEval at hq
  split at hq
  · rename_i fn hf
    split at hq
    · rename_i c hb
      split at hq
      · rename_i hs
        split at hq
        · rename_i ys hys
          refine ⟨fn, c, hf, hb, fun Q hQ => ?_⟩
          refine codeEval_ok hm c (noSelC_ok hs) _ _ st ys hys none e S w0 w _ Q ⟨hE, hrs, trivial⟩ ?_ g r hh fun x fr' st' hmem e' w' a' haf hfm => ?_
          · refine ⟨⟨?_, ?_⟩, rfl, fun d hd => by cases hd⟩
            · rw [denL_append, denL_replicate]
              simp [denL_length, V.den]
            · refine okL_iff.2 fun v hv => ?_
              rcases List.mem_append.1 hv with h1 | h1
              · exact okL_iff.1 ho v h1
              · rw [List.eq_of_mem_replicate h1]; trivial
          · obtain ⟨m, hm1, hm2⟩ := bindL_ok hq (x, fr', st') hmem
            cases x with
            | normal => cases hm1; exact hQ .normal fr' st' (.inl rfl) (hm2 _ (by simp)) e' w' a' haf hfm
            | ret => cases hm1; exact hQ .ret fr' st' (.inr rfl) (hm2 _ (by simp)) e' w' a' haf hfm
            | exit id => cases hm1
            | goto l => cases hm1
            | panic ch => cases hm1
            | outgrown => cases hm1
        · cases hq
      · cases hq
    · cases hq
  · cases hq

/-! A deferred call that recovers, where nothing has panicked -/
theorem recover_run {o : Oper} (h : isRecover o = true) (w : World) : (execOp a.eval o).run P w = .ok .recover w ∧ o.guard = none := by
  unfold isRecover at h
  split at h
  · rename_i c hop
    split at h
    · rename_i hc hg
      refine ⟨?_, hg⟩
      have hz : c.args = #[] := Array.size_eq_zero_iff.1 (beq_true h)
      simp [execOp, hop, resolve, hc, invoke, builtin, hz]
    · cases h
  · cases h
theorem recOps_ok {ops : Array Oper} {Q : Exit → Act → List Frame → World → Prop} {c0 : Frame} {cs : List Frame} (hc0 : c0.mode = .returning) : ∀ (l : List Oper) (k : Nat), (∀ t, l[t]? = ops[k + t]?) → ∀ (fr fr' : Fr) (a : Act), recOps P glob ops l fr st = some fr' →
    Fm e st.hp fr a → GOk glob e st.hp → Rep e S w0 st.hp w → Holds e.int st.pc → (∀ a', Fm e st.hp fr' a' → Q .normal a' (c0 :: cs) w) → wpOpsSIn (FW none) 0 P ops Q (List.range' k l.length) a (c0 :: cs) w
  | [], k, _, fr, fr', a, h, f, _, _, _, hK => by
    cases h
    exact hK a f
  | o :: l, k, hl, fr, fr', a, h, f, g, r, hh, hK => by
    have ho : ops[k]? = some o := by have := hl 0; simpa using this.symm
    have hl' : ∀ t, l[t]? = ops[k + 1 + t]? := fun t => by
      have := hl (t + 1)
      simp only [List.getElem?_cons_succ] at this
      rw [this]; congr 1; omega
    simp only [List.length_cons, List.range'_succ, wpOpsSIn, ho]
    refine ⟨fun _ _ => trivial, ?_⟩
    simp only [recOps] at h
    split at h
    · rename_i hrec
      obtain ⟨h1, h2⟩ := recover_run (P := P) (a := a) hrec w
      have hw : Region.wanted o (yielded ops a.tmps) = true := by unfold Region.wanted; rw [h2]
      rw [if_pos hw, h1]
      have hno : recoverD (c0 :: cs) = none := by simp [recoverD, hc0]
      simp only [hno]
      exact recOps_ok hc0 l (k + 1) hl' _ fr' _ h (f.put o.dst (v := .nili) trivial) g r hh hK
    · split at h
      · rename_i v hv
        unfold specVal at hv
        have wt := wantV_ok (ops := ops) (o := o) f.tm hh
        split at hv
        · rename_i hy
          rw [if_pos (wt.1 hy)]
          have rd := readV_ok f.tm g r hh hv
          rw [rd.1]
          exact recOps_ok hc0 l (k + 1) hl' _ fr' _ h (f.put o.dst rd.2) g r hh hK
        · rename_i hn
          cases hv
          rw [if_neg (by rw [wt.2 hn]; simp)]
          exact recOps_ok hc0 l (k + 1) hl' _ fr' _ h (f.put o.dst (v := .und) trivial) g r hh hK
        · cases hv
        · cases hv
      · cases h
theorem recCode_ok (hm : P.follows .mixedOrders = true) {E : Cx} {c0 : Frame} {cs : List Frame} (hc0 : c0.mode = .returning) : ∀ (c : Code), noSelectCode c → ∀ (fr : Fr) (st : St) (ways : Ways), recCode P glob E lf c fr st = some ways →
    ∀ (e : Env) (w : World) (a : Act) (Q : Exit → Act → List Frame → World → Prop), CxOk P glob E e st.hp S w0 none → Fm e st.hp fr a → GOk glob e st.hp → Rep e S w0 st.hp w → Holds e.int st.pc →
      Ways2 e S w0 st (fun x a' w' => Q x a' (c0 :: cs) w') ways → c.wpSIn (FW none) 0 P Q a (c0 :: cs) w
  | .region id ops draw, _, fr, st, ways, h, e, w, a, Q, hE, f, g, r, hh, hK => by
    cases draw
    · simp only [recCode] at h
      split at h
      · rename_i fr' hf
        cases h
        refine wpSIn_region ?_
        rw [List.range_eq_range', ← Array.length_toList]
        exact recOps_ok hc0 ops.toList 0 (fun t => by simp) fr fr' a hf f g r hh fun a' hf' => hK .normal fr' st (by simp) e w a' (.refl r hh) hf'
      · cases h
    · simp only [recCode] at h; cases h
  | .seq x y, hsel, fr, st, ways, h, e, w, a, Q, hE, f, g, r, hh, hK => by
    simp only [recCode] at h
    split at h
    · rename_i fr' st' hx
      refine wpSIn_seq (recCode_ok hm hc0 x hsel.1 fr st _ hx e w a _ hE f g r hh fun ex fr2 st2 hmem e' w' a' haf hf => ?_)
      simp only [List.mem_singleton, Prod.mk.injEq] at hmem
      obtain ⟨rfl, rfl, rfl⟩ := hmem
      have next : ∀ {zs : Ways}, zs = ways → Ways2 e' S w0 st2 (fun x a' w' => Q x a' (c0 :: cs) w') zs := fun {zs} hz x3 fr3 st3 h3 e3 w3 a3 haf3 hf3 => hK x3 fr3 st3 (hz ▸ h3) e3 w3 a3 (haf.trans haf3) hf3
      show y.wpSIn (FW none) 0 P Q a' (c0 :: cs) w'
      split at h
      · rename_i zs hy
        cases h
        exact recCode_ok hm hc0 y hsel.2 fr2 st2 _ hy e' w' a' Q (hE.later haf.later) hf (g.later haf.later) haf.rep haf.holds (next rfl)
      · exact wpSIn_of_wpIn rfl (codeEval_ok hm y hsel.2 E fr2 st2 ways h none e' S w0 w' a' _ (hE.later haf.later) hf (g.later haf.later) haf.rep haf.holds (next rfl))
    · cases h
  | .cond c x y, hsel, fr, st, ways, h, e, w, a, Q, hE, f, g, r, hh, hK => by
    simp only [recCode] at h
    split at h
    · rename_i n hc
      have hev := (opd_ok f.tm g hc).1
      rw [den_b] at hev
      split at h
      · rename_i hd
        rw [dec_tr hh hd] at hev
        exact wpSIn_cond hev (wpSIn_of_wpIn rfl (codeEval_ok hm x hsel.1 E fr st ways h none e S w0 w a _ hE f g r hh hK))
      · rename_i hd
        rw [dec_tr hh hd] at hev
        exact wpSIn_cond hev (wpSIn_of_wpIn rfl (codeEval_ok hm y hsel.2 E fr st ways h none e S w0 w a _ hE f g r hh hK))
      · cases h
    · cases h
  | .skip, _, _, _, _, h, _, _, _, _, _, _, _, _, _, _ => by cases h
  | .label _, _, _, _, _, h, _, _, _, _, _, _, _, _, _, _ => by cases h
  | .exit _, _, _, _, _, h, _, _, _, _, _, _, _, _, _, _ => by cases h
  | .ret, _, _, _, _, h, _, _, _, _, _, _, _, _, _, _ => by cases h
  | .block _ _, _, _, _, _, h, _, _, _, _, _, _, _, _, _, _ => by cases h
  | .loop _, _, _, _, _, h, _, _, _, _, _, _, _, _, _, _ => by cases h
  | .rangeFunc _ _ _ _, _, _, _, _, h, _, _, _, _, _, _, _, _, _, _ => by cases h
  | .scope _, _, _, _, _, h, _, _, _, _, _, _, _, _, _, _ => by cases h
  | .goto _, _, _, _, _, h, _, _, _, _, _, _, _, _, _, _ => by cases h
  | .refuse _, _, _, _, _, h, _, _, _, _, _, _, _, _, _, _ => by cases h

/-- What a deferred call's body leaves. -/
theorem deferred_ok (hE : Snd P glob E) (hm : P.follows .mixedOrders = true) {rs : Rnds} {f : FuncId} {fn : Func} {args : List V} {xs : List (Fr × St)} (hf : P.funcs[f]? = some fn)
    (hq : (match bodyEval P glob E lf rs f args st with | some xs => some xs | none => deferEval P glob E lf rs f args st) = some xs) (hrs : RsOk P glob e st.hp S w0 rs)
    (g : GOk glob e st.hp) (r : Rep e S w0 st.hp w) (hh : Holds e.int st.pc) (ho : V.okL st.hp args) {R : Ending → World → Prop}
    (hR : ∀ fr' st', (fr', st') ∈ xs → ∀ e' w' a', After e S w0 st e' st' w' → Fm e' st'.hp fr' a' → a'.defers = [] ∧ ∃ v, (results fn a'.tmps).run P w' = .ok v w' ∧ R (.returned v) w') :
    CallsDIn (FW none) 0 P f (V.denL e args).toArray .returning w fun en u' w' => u' = .returning ∧ R en w' := by
  split at hq
  · rename_i ys hys
    cases hq
    obtain ⟨fn3, c, hf3, hb3, hbody⟩ := bodyEval_ok hE hm hys hrs g r hh ho
    rw [hf] at hf3; cases hf3
    exact callsDIn_of_wp hf hb3 trivial (hbody _ (fun ex fr' st' hex hmem e' w' a' haf hfm => by
      obtain ⟨h1, v, h2, h3⟩ := hR fr' st' hmem e' w' a' haf hfm
      rcases hex with rfl | rfl
      · exact ⟨h1, v, h2, h3⟩
      · exact ⟨h1, v, h2, h3⟩))
  · unfold deferEval at hq
    rw [hf] at hq
    simp only at hq
    split at hq
    · rename_i c hb
      split at hq
      · rename_i hs
        split at hq
        · rename_i ys hys
          refine callsDIn_of_wpSIn hf hb trivial fun c0 cs hc0 => ?_
          refine recCode_ok hm hc0 c (noSelC_ok hs) _ st ys hys e w _ _ ⟨hE, hrs, trivial⟩ ?_ g r hh fun x fr' st' hmem e' w' a' haf hfm => ?_
          · refine ⟨⟨?_, ?_⟩, rfl, fun d hd => by cases hd⟩
            · rw [denL_append, denL_replicate]
              simp [denL_length, V.den]
            · refine okL_iff.2 fun v hv => ?_
              rcases List.mem_append.1 hv with h1 | h1
              · exact okL_iff.1 ho v h1
              · rw [List.eq_of_mem_replicate h1]; trivial
          · obtain ⟨m, hm1, hm2⟩ := bindL_ok hq (x, fr', st') hmem
            have c0e : ({ c0 with mode := .returning } : Frame) = c0 := by rw [← hc0]
            cases x with
            | normal =>
              cases hm1
              obtain ⟨h1, v, h2, h3⟩ := hR fr' st' (hm2 _ (by simp)) e' w' a' haf hfm
              exact ⟨h1, .returning, by rw [c0e], v, h2, rfl, h3⟩
            | ret =>
              cases hm1
              obtain ⟨h1, v, h2, h3⟩ := hR fr' st' (hm2 _ (by simp)) e' w' a' haf hfm
              exact ⟨h1, .returning, by rw [c0e], v, h2, rfl, h3⟩
            | exit id => cases hm1
            | goto l => cases hm1
            | panic ch => cases hm1
            | outgrown => cases hm1
        · cases hq
      · cases hq
    · cases hq

theorem runDefers_ok (hE : Snd P glob E) (hm : P.follows .mixedOrders = true) {rs : Rnds} {fn : Func} {tm : List V} {R : Ending → World → Prop} : ∀ (ds : List (V × List V)) (st : St) (sts : List St), runDefers P glob E lf rs ds st = some sts →
    ∀ (e : Env) (w : World), RsOk P glob e st.hp S w0 rs → GOk glob e st.hp → Rep e S w0 st.hp w → Holds e.int st.pc → V.okL st.hp tm → (∀ d ∈ ds, dOk st.hp d) →
      (∀ st' ∈ sts, ∀ e' w', After e S w0 st e' st' w' → LeavesInM (FW none) 0 P fn (V.denL e' tm).toArray R [] .returning w') →
      LeavesInM (FW none) 0 P fn (V.denL e tm).toArray R (ds.map (dDen e)) .returning w
  | [], st, sts, h, e, w, hrs, g, r, hh, ho, hd, hK => by
    cases h
    exact hK st (by simp) e w (.refl r hh)
  | d :: ds, st, sts, h, e, w, hrs, g, r, hh, ho, hd, hK => by
    obtain ⟨v, l⟩ := d
    have next : ∀ {st' : St} {e' : Env} {w' : World} {m : List St}, runDefers P glob E lf rs ds st' = some m → (∀ x ∈ m, x ∈ sts) → After e S w0 st e' st' w' →
        LeavesInM (FW none) 0 P fn (V.denL e tm).toArray R (ds.map (dDen e)) .returning w' := by
      intro st' e' w' m hm1 hm2 haf
      have hds : ∀ d ∈ ds, dOk st.hp d := fun d hd2 => hd d (List.mem_cons_of_mem _ hd2)
      have ih := runDefers_ok hE hm (fn := fn) (tm := tm) (R := R) ds st' m hm1 e' w' (hrs.later haf.later) (g.later haf.later) haf.rep haf.holds (V.okL_later haf.later.has ho) (fun d hd2 => ⟨V.ok_later haf.later.has (hds d hd2).1, V.okL_later haf.later.has (hds d hd2).2⟩)
        (fun st2 hst2 e2 w2 haf2 => hK st2 (hm2 _ hst2) e2 w2 (haf.trans haf2))
      rw [V.denL_later haf.later ho] at ih
      rwa [show ds.map (dDen e') = ds.map (dDen e) from List.map_congr_left fun d hd2 => dDen_later haf.later (hds d hd2)] at ih
    cases v <;> try (simp only [runDefers] at h; cases h; done)
    · rename_i i
      cases l with
      | cons _ _ => simp only [runDefers] at h; cases h
      | nil =>
        simp only [runDefers] at h
        split at h
        · rename_i hi
          have hb := r.blk i _ hi
          simp only [Blk.at] at hb
          have hlt := Blk.at_lt (r.blk i _ hi) trivial
          have tk : (Instr.takeDeferred (e.blk i)).run P w = .ok [] { w with heap := w.heap.setIfInBounds (e.blk i) (.deferred none) } := by
            have h1 : (getObj (e.blk i)).run P w = .ok (.deferred (some [])) w := by simp [getObj, Sem.run, hb]
            have h2 : (setObj (e.blk i) (.deferred none)).run P w = .ok () { w with heap := w.heap.setIfInBounds (e.blk i) (.deferred none) } := by simp [setObj, Sem.run, hb]
            simp only [Instr.takeDeferred, Sem.run_bind, h1, Result.andThen_ok, h2, Sem.run_pure]
          have tn := r.turn (b' := .dfr false) hi trivial trivial (.deferred none) (by simp only [Blk.at]) trivial { w with heap := w.heap.setIfInBounds (e.blk i) (.deferred none) } rfl rfl rfl
            (by simp) (by simp [hlt]) (fun k hk => by simp [Array.getElem?_setIfInBounds_ne (Ne.symm hk)])
          simp only [List.map_cons, LeavesInM]
          refine ⟨by simp, .inl ⟨e.blk i, _, rfl, tk, next h (fun _ hx => hx) ⟨tn.2, tn.1, hh⟩⟩⟩
        · cases h
    rename_i q x y
    cases q <;> try (simp only [runDefers] at h; cases h; done)
    rotate_left
    · rename_i name
      cases x with
      | cons _ _ => simp only [runDefers] at h; cases h
      | nil =>
      cases y with
      | cons _ _ => simp only [runDefers] at h; cases h
      | nil =>
      cases l with
      | nil => simp only [runDefers] at h; cases h
      | cons v0 l =>
      cases v0 <;> try (simp only [runDefers] at h; cases h; done)
      rename_i t v
      simp only [runDefers] at h
      split at h
      rotate_left
      · cases h
      rename_i gf hmet
      split at h
      · cases h
      · cases h
      · rename_i fn2 hfn2 hgood
        split at h
        · rename_i xs hxs
          have hdo := hd _ (List.mem_cons_self ..)
          have hargs : V.okL st.hp (v :: l) := ⟨hdo.2.1, hdo.2.2⟩
          simp only [List.map_cons, LeavesInM]
          refine ⟨by simp, .inr ⟨(fun hd => by cases hd), .method name, #[], gf, (V.denL e (v :: l)).toArray, rfl, ?_, fun _ _ => trivial, ?_⟩⟩
          · have hda : (dDen e (.fn (.method name) [] [], .ifc t v :: l)).args = #[Value.iface t (v.den e)] ++ (V.denL e l).toArray := by
              simp only [dDen, V.denL, V.den]
              apply Array.ext'
              simp
            rw [hda, show (dDen e (.fn (.method name) [] [], .ifc t v :: l)).target = .fn (.method name) #[] from rfl, methodV_ok hmet, callFunc_run hgood]
            congr 2
            simp [V.denL]
          · have := deferred_ok hE hm hfn2 hxs hrs g r hh hargs (R := fun en w' => match en with | .returned _ => LeavesInM (FW none) 0 P fn (V.denL e tm).toArray R (ds.map (dDen e)) .returning w' | _ => False) (fun fr' st' hmem e' w' a' haf hfm => by
              obtain ⟨m, hm1, hm2⟩ := bindL_ok h (fr', st') hmem
              simp only at hm1
              split at hm1
              · rename_i v2 hdf hans
                have ans := answerV_ok (P := P) haf.rep haf.holds hfm.tm.ok hans
                have hda : a'.defers = [] := by rw [hfm.df, hdf]; rfl
                have hrun : (results fn2 a'.tmps).run P w' = .ok (v2.den e') w' := by rw [hfm.tm.tmps]; exact ans.1
                exact ⟨hda, v2.den e', hrun, next hm1 hm2 haf⟩
              · cases hm1)
            refine CallsDIn.mono this fun en u' w' ⟨hu2, hR⟩ => ?_
            subst hu2
            cases en with
            | returned v => exact hR
            | panicked ch => exact hR.elim
            | outgrown => exact hR.elim
        · cases h
    rename_i gf
    simp only [runDefers] at h
    split at h
    · cases h
    · cases h
    · rename_i fn2 hfn2 hgood
      split at h
      · rename_i xs hxs
        have hdo := hd _ (List.mem_cons_self ..)
        have hargs : V.okL st.hp (x ++ l ++ y) := okL_iff.2 fun v hv => by
          simp only [List.mem_append] at hv
          rcases hv with (hv | hv) | hv
          · exact okL_iff.1 hdo.1.1 v hv
          · exact okL_iff.1 hdo.2 v hv
          · exact okL_iff.1 hdo.1.2 v hv
        simp only [List.map_cons, LeavesInM]
        refine ⟨by simp, .inr ⟨(fun hd => by cases hd), .func gf, (V.denL e y).toArray, gf, (V.denL e (x ++ l ++ y)).toArray, rfl, ?_, fun _ _ => trivial, ?_⟩⟩
        · simp only [dDen, invoke]
          rw [callFunc_run hgood]
          congr 2
          simp [denL_append]
        · have := deferred_ok hE hm hfn2 hxs hrs g r hh hargs (R := fun en w' => match en with | .returned _ => LeavesInM (FW none) 0 P fn (V.denL e tm).toArray R (ds.map (dDen e)) .returning w' | _ => False) (fun fr' st' hmem e' w' a' haf hfm => by
            obtain ⟨m, hm1, hm2⟩ := bindL_ok h (fr', st') hmem
            simp only at hm1
            split at hm1
            · rename_i v2 hdf hans
              have ans := answerV_ok (P := P) haf.rep haf.holds hfm.tm.ok hans
              have hda : a'.defers = [] := by rw [hfm.df, hdf]; rfl
              have hrun : (results fn2 a'.tmps).run P w' = .ok (v2.den e') w' := by rw [hfm.tm.tmps]; exact ans.1
              exact ⟨hda, v2.den e', hrun, next hm1 hm2 haf⟩
            · cases hm1)
          refine CallsDIn.mono this fun en u' w' ⟨hu2, hR⟩ => ?_
          subst hu2
          cases en with
          | returned v => exact hR
          | panicked ch => exact hR.elim
          | outgrown => exact hR.elim
      · cases h

/-- **A call.** -/
theorem callEval_ok (hE : Snd P glob E) (hm : P.follows .mixedOrders = true) : Snd P glob (callEval P glob E lf) := by
  intro rs f args st ways h e S w0 w hrs r g hh ho R hR
  unfold callEval at h
  split at h
  · cases h
  · rename_i fn hf
    split at h
    · rename_i xs hxs
      obtain ⟨fn2, c, hf2, hb, hbody⟩ := bodyEval_ok hE hm hxs hrs g r hh ho
      rw [hf] at hf2; cases hf2
      refine callsIn_of_wp_marks hf hb trivial (hbody _ fun x fr' st' hx hmem e' w' a' haf hfm => ?_)
      obtain ⟨m, hm1, hm2⟩ := bindL_ok h (fr', st') hmem
      simp only at hm1
      split at hm1
      · rename_i sts hsts
        have : LeavesInM (FW none) 0 P fn (V.denL e' fr'.1).toArray R (fr'.2.map (dDen e')) .returning w' := by
          refine runDefers_ok hE hm fr'.2 st' sts hsts e' w' (hrs.later haf.later) (g.later haf.later) haf.rep haf.holds hfm.tm.ok hfm.dok fun st2 hst2 e2 w2 haf2 => ?_
          obtain ⟨m2, hm3, hm4⟩ := bindL_ok hm1 st2 hst2
          split at hm3
          · rename_i v hv
            cases hm3
            have ans := answerV_ok (P := P) haf2.rep haf2.holds (V.okL_later haf2.later.has hfm.tm.ok) hv
            exact ⟨v.den e2, ans.1, hR v st2 (hm2 _ (hm4 _ (by simp))) e2 w2 (haf.trans haf2) ans.2⟩
          · cases hm3
        rw [← hfm.tm.tmps, ← hfm.df] at this
        rcases hx with rfl | rfl <;> exact this
      · cases hm1
    · cases h

/-- **Calls within calls.** -/
theorem ev_ok {base : Ev} (hb : Snd P glob base) (hm : P.follows .mixedOrders = true) : ∀ n, Snd P glob (ev P glob base lf n)
  | 0 => hb
  | n + 1 => by
    intro rs f args st ways h
    simp only [ev] at h
    split at h
    · rename_i l hl
      cases h
      exact hb rs f args st ways hl
    · split at h
      · rename_i l hl
        cases h
        intro e S w0 w hrs r g hh ho R hR
        exact callEval_ok (ev_ok hb hm n) hm rs f args st l hl e S w0 w hrs r g hh ho R fun v st' hm' e' w' haf hok => joinR_ok (R := fun v w' => R (.returned v) w') hR v st' hm' e' w' haf hok
      · cases h
end
end Go.Proofs.Ytnfnhhphoiebbaa.Sx
