/- One operation; operations one behind the other. -/
import Derived.Test.YtnfnhhphoiebbaaSo
set_option linter.unusedVariables false
set_option linter.unusedSimpArgs false
namespace Go.Proofs.Ytnfnhhphoiebbaa.Sx
open Go

section
variable {P : Program} {glob : Nat → Option Nat} {E : Cx} {ro : Option Nat} {e : Env} {S : Nat → Prop} {w0 w : World} {st st' : St} {h : T} {fr : Fr} {a : Act}

theorem holds_fork {x : N} (hh : Holds e.int st.pc) : (∃ t, Holds e.int (forkPc st x t).pc) := by
  by_cases hx : x.den e.int = 0
  · exact ⟨false, hh.add (by simp [hx])⟩
  · exact ⟨true, hh.add (by simp [hx])⟩
theorem After.fork {e' : Env} {w' : World} {x : N} {t : Bool} (k : After e S w0 (forkPc st x t) e' st' w') : After e S w0 st e' st' w' := ⟨k.later, k.rep, k.holds⟩

/-- What is asked of all ways of an operation. -/
def Ways1 (e : Env) (S : Nat → Prop) (w0 : World) (st : St) (K : Act → World → Prop) (ways : List (Fr × St)) : Prop :=
  ∀ fr' st', (fr', st') ∈ ways → ∀ e' w' a', After e S w0 st e' st' w' → Fm e' st'.hp fr' a' → K a' w'
theorem Ways1.fork {K : Act → World → Prop} {x : N} {t : Bool} {l m : List (Fr × St)} (k : Ways1 e S w0 st K (l ++ m)) :
    Ways1 e S w0 (forkPc st x t) K (match t with | true => l | false => m) := by
  intro fr' st' hm e' w' a' haf hf
  refine k fr' st' ?_ e' w' a' haf.fork hf
  cases t
  · exact List.mem_append_right _ hm
  · exact List.mem_append_left _ hm

theorem doOp_ok {o : Oper} {K : Act → World → Prop} {Q : Exit → Act → World → Prop} : ∀ (n : Nat) (fr : Fr) (st : St) (ways : List (Fr × St)), doOp P glob E n o fr st = some ways → CxOk P glob E e st.hp S w0 ro →
    Fm e st.hp fr a → GOk glob e st.hp → Rep e S w0 st.hp w → Holds e.int st.pc → Ways1 e S w0 st K ways → o.wpIn (FW ro) 0 P a w K Q
  | 0, _, _, _, hq, _, _, _, _, _, _ => by cases hq
  | n + 1, fr, st, ways, hq, hE, f, g, r, hh, hK => by
    have split2 : ∀ {x : N} {l m : List (Fr × St)}, doOp P glob E n o fr (forkPc st x true) = some l → doOp P glob E n o fr (forkPc st x false) = some m → ways = l ++ m → o.wpIn (FW ro) 0 P a w K Q := by
      intro x l m h1 h2 h3
      subst h3
      obtain ⟨t, ht⟩ := holds_fork (x := x) hh
      have := hK.fork (x := x) (t := t)
      cases t
      · exact doOp_ok n fr (forkPc st x false) m h2 hE f g r ht this
      · exact doOp_ok n fr (forkPc st x true) l h1 hE f g r ht this
    simp only [doOp] at hq
    split at hq
    · rename_i v hv
      cases hq
      have := readV_ok f.tm g r hh hv
      have hnd : ∀ c, o.op ≠ .defer c := fun c hc => by
        unfold readV at hv; rw [hc] at hv; cases hv
      refine wpR hnd ?_
      rw [this.1, Oper.uponIn_value]
      exact hK _ _ (by simp) e w _ (.refl r hh) (f.put o.dst this.2)
    · rename_i x hx
      split at hq
      · rename_i l m h1 h2
        cases hq
        exact split2 h1 h2 rfl
      · cases hq
    · split at hq
      · rename_i d hd
        cases hq
        have hro : E.ro = none := by
          cases hro : E.ro with
          | none => rfl
          | some i => rw [hro] at hd; cases hd
        rw [hro] at hd
        have hro' : ro = none := by
          have := hE.ro
          rw [hro] at this
          cases ro with
          | none => rfl
          | some l => exact this.elim
        subst hro'
        simp only at hd
        unfold stDefer at hd
        split at hd
        · rename_i c hop
          split at hd
          · rename_i fo hcal
            split at hd
            · rename_i q x y m hf hm
              cases hd
              have h1 := opd_ok f.tm g hf
              have h2 := opds_ok f.tm g hm
              have e1 : c.args.map a.eval = (V.denL e m).toArray := by rw [← h2.1, ← Array.toList_map, Array.toArray_toList]
              have hx : (execOp a.eval o).run P w = .ok (.defer (dDen e (.fn (.func q) x y, m))) w := by
                simp only [execOp, hop, resolve, hcal, h1.1, V.den, Deferred.ofValue, Sem.run_bind, Sem.run_pure, Result.andThen_ok, e1, dDen]
              refine ⟨fun _ _ => trivial, ?_⟩
              rw [Oper.semAt_none, hx, Oper.uponIn_defer]
              have f2 : Fm e st.hp (fr.1, (.fn (.func q) x y, m) :: fr.2) { a with defers := dDen e (.fn (.func q) x y, m) :: a.defers } :=
                ⟨⟨f.tm.tmps, f.tm.ok⟩, by simp [f.df], fun d hd => by
                  rcases List.mem_cons.1 hd with rfl | hd
                  · exact ⟨h1.2, h2.2⟩
                  · exact f.dok d hd⟩
              exact hK _ _ (by simp) e w _ (.refl r hh) (f2.put o.dst (v := .und) trivial)
            · cases hd
          · rename_i ro name hcal
            split at hd
            · rename_i t' v m hr hm
              cases hd
              have h1 := opd_ok f.tm g hr
              have h2 := opds_ok f.tm g hm
              have e1 : c.args.map a.eval = (V.denL e m).toArray := by rw [← h2.1, ← Array.toList_map, Array.toArray_toList]
              have hx : (execOp a.eval o).run P w = .ok (.defer (dDen e (.fn (.method name) [] [], .ifc t' v :: m))) w := by
                simp only [execOp, hop, resolve, hcal, h1.1, V.den, Sem.run_bind, Sem.run_pure, Result.andThen_ok, e1, dDen, V.denL]
                congr 3
                apply Array.ext'
                simp
              refine ⟨fun _ _ => trivial, ?_⟩
              rw [Oper.semAt_none, hx, Oper.uponIn_defer]
              have f2 : Fm e st.hp (fr.1, (.fn (.method name) [] [], .ifc t' v :: m) :: fr.2) { a with defers := dDen e (.fn (.method name) [] [], .ifc t' v :: m) :: a.defers } :=
                ⟨⟨f.tm.tmps, f.tm.ok⟩, by simp [f.df], fun d hd => by
                  rcases List.mem_cons.1 hd with rfl | hd
                  · exact ⟨⟨trivial, trivial⟩, h1.2, h2.2⟩
                  · exact f.dok d hd⟩
              exact hK _ _ (by simp) e w _ (.refl r hh) (f2.put o.dst (v := .und) trivial)
            · cases hd
          · cases hd
        · cases hd
      · split at hq
        · rename_i l hl
          cases hq
          refine actV_ok hE f.tm g r hh hl fun v st' hm e' w' haf hv => ?_
          refine hK _ st' (List.mem_map.2 ⟨(v, st'), hm, rfl⟩) e' w' _ haf ((f.later haf.later).put o.dst hv)
        · cases hq
        · rename_i x hx
          split at hq
          · rename_i l m h1 h2
            cases hq
            exact split2 h1 h2 rfl
          · cases hq

/-- One operation, wanted or not. -/
def wpOne (ro : Option Nat) (P : Program) (ops : Array Oper) (o : Oper) (K : Act → World → Prop) (Q : Exit → Act → World → Prop) (a : Act) (w : World) : Prop :=
  (Region.wanted o (yielded ops a.tmps) = true ∧ o.wpIn (FW ro) 0 P a w K Q) ∨ (Region.wanted o (yielded ops a.tmps) = false ∧ K (a.put o.dst undef) w)
theorem oneOp_ok (hE : CxOk P glob E e st.hp S w0 ro) {lf : Nat} {ops : Array Oper} {o : Oper} {K : Act → World → Prop} {Q : Exit → Act → World → Prop} {ways : List (Fr × St)} (hq : oneOp P glob E lf ops o fr st = some ways)
    (f : Fm e st.hp fr a) (g : GOk glob e st.hp) (r : Rep e S w0 st.hp w) (hh : Holds e.int st.pc) (hK : Ways1 e S w0 st K ways) : wpOne ro P ops o K Q a w := by
  have nay : ∀ {st : St} {l : List (Fr × St)}, l = [((setDst fr.1 o.dst .und, fr.2), st)] → Fm e st.hp fr a → Rep e S w0 st.hp w → Holds e.int st.pc → Ways1 e S w0 st K l → K (a.put o.dst undef) w := by
    intro st l hl f r hh hK
    subst hl
    exact hK _ _ (by simp) e w _ (.refl r hh) (f.put o.dst (v := .und) trivial)
  unfold oneOp at hq
  split at hq
  · rename_i hw
    exact .inl ⟨(wantV_ok f.tm hh).1 hw, doOp_ok lf fr st ways hq hE f g r hh hK⟩
  · rename_i hw
    cases hq
    exact .inr ⟨(wantV_ok f.tm hh).2 hw, nay rfl f r hh hK⟩
  · cases hq
  · rename_i x hw
    simp only at hq
    split at hq
    · rename_i l m h1 h2
      cases hq
      obtain ⟨t, ht⟩ := holds_fork (x := x) hh
      have hKt := hK.fork (x := x) (t := t)
      have go : ∀ {l : List (Fr × St)}, Ways1 e S w0 (forkPc st x t) K l → (match wantV ops (addPc x t st.pc) fr.1 o with
          | .yes => doOp P glob E lf o fr (forkPc st x t)
          | .nay => some [((setDst fr.1 o.dst .und, fr.2), forkPc st x t)]
          | _ => none) = some l → wpOne ro P ops o K Q a w := by
        intro l hl hgo
        split at hgo
        · rename_i hw'
          exact .inl ⟨(wantV_ok (st := forkPc st x t) f.tm ht).1 hw', doOp_ok lf fr (forkPc st x t) l hgo hE f g r ht hl⟩
        · rename_i hw'
          cases hgo
          exact .inr ⟨(wantV_ok (st := forkPc st x t) f.tm ht).2 hw', nay (st := forkPc st x t) rfl f r ht hl⟩
        · cases hgo
      cases t
      · exact go hKt h2
      · exact go hKt h1
    · cases hq

theorem bindL_ok {α β : Type} {k : α → Option (List β)} : ∀ {l : List α} {m : List β}, bindL k l = some m → ∀ x ∈ l, ∃ n, k x = some n ∧ ∀ y ∈ n, y ∈ m
  | [], _, _, x, hx => by cases hx
  | z :: l, m, hb, x, hx => by
    simp only [bindL] at hb
    split at hb
    · rename_i n hn
      split at hb
      · rename_i m' hm'
        cases hb
        rcases List.mem_cons.1 hx with rfl | hx
        · exact ⟨n, hn, fun y hy => List.mem_append_left _ hy⟩
        · obtain ⟨n', h1, h2⟩ := bindL_ok hm' x hx
          exact ⟨n', h1, fun y hy => List.mem_append_right _ (h2 y hy)⟩
      · cases hb
    · cases hb

theorem listOps_ok {lf : Nat} {ops : Array Oper} {Q : Exit → Act → World → Prop} : ∀ (l : List Oper) (fr : Fr) (st : St) (ways : List (Fr × St)) (e : Env) (w : World) (a : Act), listOps P glob E lf ops l fr st = some ways → CxOk P glob E e st.hp S w0 ro →
    Fm e st.hp fr a → GOk glob e st.hp → Rep e S w0 st.hp w → Holds e.int st.pc → Ways1 e S w0 st (Q .normal) ways → wpListIn (FW ro) 0 P ops Q l a w
  | [], fr, st, ways, e, w, a, hq, hE, f, g, r, hh, hK => by
    cases hq
    exact hK fr st (by simp) e w a (.refl r hh) f
  | o :: l, fr, st, ways, e, w, a, hq, hE, f, g, r, hh, hK => by
    simp only [listOps] at hq
    split at hq
    · rename_i xs hxs
      have h1 := oneOp_ok (Q := Q) (K := wpListIn (FW ro) 0 P ops Q l) hE hxs f g r hh (fun fr' st' hm e' w' a' haf hf => by
        obtain ⟨n, hn, hsub⟩ := bindL_ok hq (fr', st') hm
        exact listOps_ok l fr' st' n e' w' a' hn (hE.later haf.later) hf (g.later haf.later) haf.rep haf.holds (fun fr'' st'' hm' e'' w'' a'' haf' hf' => hK fr'' st'' (hsub _ hm') e'' w'' a'' (haf.trans haf') hf'))
      unfold wpListIn
      rcases h1 with ⟨hw, hwp⟩ | ⟨hw, hk⟩
      · rw [if_pos hw]; exact hwp
      · rw [if_neg (by simp [hw])]; exact ⟨fun _ _ => trivial, hk⟩
    · cases hq
end
end Go.Proofs.Ytnfnhhphoiebbaa.Sx
