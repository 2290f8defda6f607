/- Operations that act; one operation; operations one behind the other. -/
import Derived.Test.YtphiankhcbmgmaaSn
namespace Go.Proofs.Ytphiankhcbmgmaa.Sx
open Go

/-- A reader of calls that says what is so. -/
def Snd (P : Program) (glob : Nat → Option Nat) (E : Ev) : Prop :=
  ∀ f args st ways, E f args st = some ways → ∀ e S w0 w, Rep e S w0 st.hp w → GOk glob e st.hp → Holds e.int st.pc → V.okL st.hp args →
    ∀ R : Ending → World → Prop, (∀ v st', (v, st') ∈ ways → ∀ e' w', After e S w0 st e' st' w' → V.ok st'.hp v → R (.returned (v.den e')) w') →
      Calls P f (V.denL e args).toArray w R

/-- What is deferred. -/
def dDen (e : Env) : V × List V → Deferred
  | (.fn g x y, l) => { target := .fn g (V.denL e y).toArray, args := (V.denL e x).toArray ++ (V.denL e l).toArray }
  | _ => default
def dOk (h : T) (d : V × List V) : Prop := V.ok h d.1 ∧ V.okL h d.2
theorem dDen_later {e e' : Env} {h h' : T} (k : Later e e' h h') {d : V × List V} (hd : dOk h d) : dDen e' d = dDen e d := by
  obtain ⟨v, l⟩ := d
  cases v <;> try rfl
  rename_i g x y
  simp only [dDen]
  rw [V.denL_later k hd.1.1, V.denL_later k hd.1.2, V.denL_later k hd.2]

/-- A frame is what the reader takes it for. -/
structure Fm (e : Env) (h : T) (fr : Fr) (a : Act) : Prop where
  tm : Tm e h fr.1 a
  df : a.defers = fr.2.map (dDen e)
  dok : ∀ d ∈ fr.2, dOk h d
theorem Fm.later {e e' : Env} {h h' : T} {fr : Fr} {a : Act} (f : Fm e h fr a) (k : Later e e' h h') : Fm e' h' fr a :=
  ⟨f.tm.later k, by rw [f.df]; exact List.map_congr_left fun d hd => (dDen_later k (f.dok d hd)).symm, fun d hd => ⟨V.ok_later k.has (f.dok d hd).1, V.okL_later k.has (f.dok d hd).2⟩⟩
theorem Fm.put {e : Env} {h : T} {fr : Fr} {a : Act} (f : Fm e h fr a) (dst : Option Tmp) {v : V} (hv : V.ok h v) : Fm e h (setDst fr.1 dst v, fr.2) (a.put dst (v.den e)) := by
  cases dst with
  | none => exact f
  | some d =>
    refine ⟨⟨?_, ?_⟩, f.df, f.dok⟩
    · simp only [Act.put, f.tm.tmps, setDst]
      rw [denL_set]; simp
    · refine okL_iff.2 fun x hx => ?_
      rcases List.mem_or_eq_of_mem_set hx with h1 | h1
      · exact okL_iff.1 f.tm.ok x h1
      · subst h1; exact hv

section
variable {P : Program} {glob : Nat → Option Nat} {E : Ev} {e : Env} {S : Nat → Prop} {w0 w : World} {st st' : St} {h : T} {tm : List V} {a : Act}

theorem callFunc_run {f : FuncId} (hg : goodFn P f = true) (args : Array Value) (w : World) : (callFunc f args).run P w = .ok (.enter f args) w := by
  unfold goodFn at hg
  split at hg
  · rename_i fn hf
    rw [Bool.and_eq_true] at hg
    have h1 : (fn.name == "runtime.NumGoroutine") = false := by simpa using hg.2
    have h2 : fn.body.isNone = false := by
      cases hb : fn.body with
      | none => rw [hb] at hg; simp at hg
      | some c => rfl
    simp only [callFunc, Sem.run_bind, run_program, Result.andThen_ok, hf, h1, h2, Bool.false_eq_true, if_false, Sem.run_pure]
  · cases hg

theorem calleeV_ok (t : Tm e st.hp tm a) (g : GOk glob e st.hp) {c : Call} {f : FuncId} {l : List V} (hc : calleeV P glob tm c = some (f, l)) (ty : TypeId) :
    (do let d ← resolve a.eval c ty; invoke d.target d.args : Sem Next).run P w = (callFunc f (V.denL e l).toArray).run P w ∧ V.okL st.hp l := by
  unfold calleeV at hc
  split at hc
  · rename_i fo hcal
    split at hc
    · rename_i q x y m hf hm
      simp only [Option.some.injEq, Prod.mk.injEq] at hc
      obtain ⟨rfl, rfl⟩ := hc
      have h1 := opd_ok t g hf
      have h2 := opds_ok t g hm
      have e1 : c.args.map a.eval = (V.denL e m).toArray := by rw [← h2.1, ← Array.toList_map, Array.toArray_toList]
      refine ⟨?_, ?_⟩
      · simp only [resolve, hcal, h1.1, V.den, Deferred.ofValue, Sem.run_bind, Sem.run_pure, Result.andThen_ok, invoke, e1]
        congr 2
        simp [denL_append]
      · refine okL_iff.2 fun v hv => ?_
        simp only [List.mem_append] at hv
        rcases hv with (hv | hv) | hv
        · exact okL_iff.1 h1.2.1 v hv
        · exact okL_iff.1 h2.2 v hv
        · exact okL_iff.1 h1.2.2 v hv
    · cases hc
  · rename_i ro name hcal
    split at hc
    · rename_i t' v m hr hm
      split at hc
      · rename_i i hi
        split at hc
        · rename_i me hme
          split at hc
          · rename_i q ptr hp hfn
            have h1 := opd_ok t g hr
            have h2 := opds_ok t g hm
            have e1 : c.args.map a.eval = (V.denL e m).toArray := by rw [← h2.1, ← Array.toList_map, Array.toArray_toList]
            have main : ∀ (d : TypeDesc), P.underlying t' = some d → (match d, ptr with | .pointer _, true => True | .pointer _, false => False | _, false => True | _, true => False) →
                (do let d ← resolve a.eval c ty; invoke d.target d.args : Sem Next).run P w = (callFunc q (V.denL e (v :: m)).toArray).run P w := by
              intro d hu hd
              have hmeth : ∀ n, (method (n + 1) t' (v.den e) name).run P w = .ok (q, v.den e) w := fun n => by
                rw [method]
                simp only [Sem.run_bind, typeInfo, run_program, Result.andThen_ok, hi, Sem.run_pure, hme, hp, follow, hfn]
                cases d <;> cases ptr <;> first
                  | exact hd.elim
                  | simp [receiverAt, run_underlying hu, Place.get]
              have hm2 := hmeth (P.types.size + 99)
              simp only [resolve, hcal, h1.1, V.den, Sem.run_bind, Sem.run_pure, Result.andThen_ok, invoke, e1]
              have hz : (#[Value.iface t' (v.den e)] ++ (V.denL e m).toArray)[0]? = some (Value.iface t' (v.den e)) := by simp
              rw [hz]
              simp only [callMethod, Sem.run_bind, run_program, Result.andThen_ok]
              rw [show P.types.size + Made.depth = P.types.size + 99 + 1 from rfl, hm2, Result.andThen_ok]
              simp only
              congr 2
              simp [V.denL]
            split at hc
            · rename (P.underlying t' = some _) => hu
              simp only [Option.some.injEq, Prod.mk.injEq] at hc
              obtain ⟨rfl, rfl⟩ := hc
              exact ⟨main _ hu trivial, h1.2, h2.2⟩
            · cases hc
            · rename TypeDesc => d
              rename (∀ (elem : TypeId), d = TypeDesc.pointer elem → False) => hnp
              rename (P.underlying t' = some _) => hu
              simp only [Option.some.injEq, Prod.mk.injEq] at hc
              obtain ⟨rfl, rfl⟩ := hc
              refine ⟨main _ hu ?_, h1.2, h2.2⟩
              cases d <;> first | trivial | (exact (hnp _ rfl).elim)
            · cases hc
          · cases hc
        · cases hc
      · cases hc
    · cases hc
  · cases hc

/-- **What the reader says of an operation that acts is what the model does.** -/
theorem actV_ok (hE : Snd P glob E) (t : Tm e st.hp tm a) (g : GOk glob e st.hp) (r : Rep e S w0 st.hp w) (hh : Holds e.int st.pc) {o : Oper} {ways : List (V × St)} (hq : actV P glob E st tm o = .inl (some ways))
    {K : Act → World → Prop} {Q : Exit → Act → World → Prop} (hK : ∀ v st', (v, st') ∈ ways → ∀ e' w', After e S w0 st e' st' w' → V.ok st'.hp v → K (a.put o.dst (v.den e')) w') : o.wp P a w K Q := by
  have one : ∀ {x : Operand} {v : V}, opd glob tm x = some v → a.eval x = v.den e ∧ V.ok st.hp v := fun hx => opd_ok t g hx
  obtain ⟨dst, op, type, pos, after, guard⟩ := o
  -- an operation that yields a value
  have val : ∀ {s : Sem Value} {u : V} {st' : St}, ways = [(u, st')] → Gives P e S w0 st w s u st' → (execOp a.eval ⟨dst, op, type, pos, after, guard⟩ = (do pure (.value (← s)))) → Oper.wp P ⟨dst, op, type, pos, after, guard⟩ a w K Q := by
    intro s u st' hw ⟨e', w', h1, h2, h3⟩ hx
    subst hw
    unfold Oper.wp
    rw [hx, Sem.run_bind, h1, Result.andThen_ok, Sem.run_pure, Oper.upon_value]
    exact hK u st' (by simp) e' w' h2 h3
  have unit : ∀ {s : Sem Unit} {st' : St} {w' : World}, ways = [(.und, st')] → s.run P w = .ok () w' → After e S w0 st e st' w' → (execOp a.eval ⟨dst, op, type, pos, after, guard⟩ = (do s; pure .skip)) → Oper.wp P ⟨dst, op, type, pos, after, guard⟩ a w K Q := by
    intro s st' w' hw h1 h2 hx
    subst hw
    unfold Oper.wp
    rw [hx, Sem.run_bind, h1, Result.andThen_ok, Sem.run_pure, Oper.upon_skip]
    exact hK .und st' (by simp) e w' h2 trivial
  cases op <;> simp only [actV] at hq <;> try (cases hq; done)
  case alloc ty =>
    split at hq
    · rename_i z hz
      split at hq
      · rename_i i st1 hn
        cases hq
        exact val rfl (alloc_ok r hh hz hn) rfl
      · cases hq
    · cases hq
  case box ty x =>
    split at hq
    · rename_i v hv
      split at hq
      · split at hq
        · rename_i i st1 hn
          cases hq
          exact val rfl (box_ok r hh (one hv).2 hn) (by simp [execOp, (one hv).1])
        · cases hq
      · cases hq
    · cases hq
  case buildSlice ty len parts =>
    split at hq
    · rename_i l el hl hu
      split at hq
      · rename_i z v hs hz
        split at hq
        · rename_i hc
          rw [Bool.and_eq_true] at hc
          split at hq
          · rename_i cs hf
            split at hq
            · split at hq
              · rename_i i st1 hn
                cases hq
                have hp := partsV_ok t g hl
                have hps : (parts.map fun (i, x) => (i, a.eval x)).toList = l.map fun x => (x.1, x.2.den e) := by rw [Array.toList_map]; exact hp.1
                have := buildSlice_ok (P := P) r hh hu hs hz (beq_true hc.1) (Nat.le_of_ble_eq_true hc.2) hp.2 hf hn _ hps
                exact val rfl this (by simp only [execOp])
              · cases hq
            · cases hq
          · cases hq
        · cases hq
      · cases hq
    · cases hq
  case makeSlice ty x y =>
    split at hq
    · rename_i v v' el hv hv' hu
      split at hq
      · rename_i len cap it z hlen hcap hi hz
        split at hq
        · rename_i hc
          rw [Bool.and_eq_true, Bool.and_eq_true, Bool.and_eq_true, Bool.and_eq_true] at hc
          split at hq
          · rename_i j st1 hn
            cases hq
            exact val rfl (makeSlice_ok r hh hu hi hz (beq_true hc.2.1) (Nat.le_of_ble_eq_true hc.1.1) (Nat.le_of_ble_eq_true hc.2.2.2) (Nat.le_of_ble_eq_true hc.2.2.1) hlen hcap hn) (by simp [execOp, (one hv).1, (one hv').1])
          · cases hq
        · cases hq
      · cases hq
    · cases hq
  case makeMap ty rs =>
    cases rs with
    | some _ => simp only [actV] at hq; cases hq
    | none =>
      simp only [actV] at hq
      split at hq
      · rename_i i st1 hn
        cases hq
        exact val rfl (makeMap_ok r hh hn) rfl
      · cases hq
  case store ty x y =>
    split at hq
    · rename_i v v' hv hv'
      split at hq
      · rename_i st1 hs
        cases hq
        obtain ⟨w', h1, h2⟩ := storeV_ok (P := P) r hh (one hv').2 hs
        exact unit rfl h1 h2 (by simp [execOp, (one hv).1, (one hv').1])
      · cases hq
    · cases hq
  case mapUpdate ty m k x =>
    split at hq
    · rename_i u v v' hu hv hv'
      obtain ⟨st1, w', h0, h1, h2⟩ := mapPutV_ok (P := P) r hh (one hv).2 (one hv').2 hq
      exact unit h0 h1 h2 (by simp [execOp, (one hu).1, (one hv).1, (one hv').1])
    · cases hq
  case insert ty m k x =>
    split at hq
    · rename_i u v v' hu hv hv'
      obtain ⟨st1, w', h0, h1, h2⟩ := mapPutV_ok (P := P) r hh (one hv).2 (one hv').2 hq
      exact unit h0 h1 h2 (by simp [execOp, (one hu).1, (one hv).1, (one hv').1])
    · cases hq
  case convert sr d x =>
    split at hq
    · rename_i el l hs hd hv
      split at hq
      · rename_i hu
        split at hq
        · rename_i i st1 hn
          cases hq
          obtain ⟨e', w', h1, h2⟩ := strBytes_ok (P := P) (el := el) r hh hn
          refine val (s := convert sr d (.string ⟨(l.map UInt8.ofNat).toArray⟩)) rfl ⟨e', w', ?_, h2⟩ (by simp [execOp, (one hv).1, V.den])
          simp only [convert, Sem.run_bind, run_underlying hs, run_underlying hd, run_underlying hu, Result.andThen_ok]
          exact h1
        · cases hq
      · cases hq
    · cases hq
  case call c =>
    have args2 : ∀ {x y : V} {ts : List TypeId}, opds glob tm c.args.toList = some [x, y] → c.args.map a.eval = #[x.den e, y.den e] := fun {x y ts} hl => by
      rw [← Array.toArray_toList (xs := c.args.map a.eval), Array.toList_map, (opds_ok t g hl).1]; rfl
    split at hq
    · rename_i hc
      split at hq
      · rename_i s x ts tx hl hty
        have h2 := opds_ok t g hl
        have e2 : c.argTypes = #[ts, tx] := by rw [← Array.toArray_toList (xs := c.argTypes), hty]
        simp only [Sum.inl.injEq] at hq
        obtain ⟨u, st1, h0, hg⟩ := appendV_ok (P := P) (ty := type) r hh h2.2.1 hq
        refine val h0 hg ?_
        simp [execOp, resolve, hc, invoke, builtin, e2, args2 (ts := []) hl]
      · cases hq
    · rename_i hc
      split at hq
      · rename_i d s td rest hl hty
        simp only [Sum.inl.injEq] at hq
        cases rest with
        | nil =>
          have e2 : c.argTypes = #[td] := by rw [← Array.toArray_toList (xs := c.argTypes), hty]
          obtain ⟨u, st1, h0, e', w', h1, h3⟩ := copyV_ok (P := P) (ts := 0) (ty := type) r hh hq
          refine val h0 ⟨e', w', ?_, h3⟩ (s := Builtin.copy_ #[td] type #[d.den e, s.den e]) ?_
          · rw [← h1]; rfl
          · simp [execOp, resolve, hc, invoke, builtin, e2, args2 (ts := []) hl]
        | cons ts rest =>
          obtain ⟨u, st1, h0, e', w', h1, h3⟩ := copyV_ok (P := P) (ts := 0) (ty := type) r hh hq
          refine val h0 ⟨e', w', ?_, h3⟩ (s := Builtin.copy_ c.argTypes type #[d.den e, s.den e]) ?_
          · rw [← h1]
            have : c.argTypes[0]? = some td := by rw [← Array.getElem?_toList, hty]; rfl
            unfold Builtin.copy_
            rw [this]; rfl
          · simp [execOp, resolve, hc, invoke, builtin, args2 (ts := []) hl]
      · cases hq
    · rename_i hc
      split at hq
      · rename_i x tx hl hty
        have e2 : c.argTypes = #[tx] := by rw [← Array.toArray_toList (xs := c.argTypes), hty]
        have e1 : c.args.map a.eval = #[x.den e] := by
          rw [← Array.toArray_toList (xs := c.args.map a.eval), Array.toList_map, (opds_ok t g hl).1]; rfl
        simp only [Sum.inl.injEq] at hq
        obtain ⟨st1, h0, w', h1, h2⟩ := clearV_ok (P := P) (ty := type) r hh hq
        refine val h0 (s := Builtin.clear_ #[tx] type #[x.den e]) ⟨e, w', h1, h2, trivial⟩ ?_
        simp [execOp, resolve, hc, invoke, builtin, e2, e1]
      · cases hq
    · cases hq
    · split at hq
      · rename_i f l hcal
        split at hq
        · rename_i hgood
          simp only [Sum.inl.injEq] at hq
          obtain ⟨hrun, hok⟩ := calleeV_ok (w := w) t g hcal type
          unfold Oper.wp
          have : execOp a.eval ⟨dst, .call c, type, pos, after, guard⟩ = (do let d ← resolve a.eval c type; invoke d.target d.args) := rfl
          rw [this, hrun, callFunc_run hgood, Oper.upon_enter]
          refine hE f l st ways hq e S w0 w r g hh hok _ fun v st1 hv e' w' haf hvo => ?_
          exact hK v st1 hv e' w' haf hvo
        · cases hq
      · cases hq
end
end Go.Proofs.Ytphiankhcbmgmaa.Sx
