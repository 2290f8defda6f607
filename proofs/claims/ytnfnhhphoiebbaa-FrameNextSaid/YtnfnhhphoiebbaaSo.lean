/- Operations that act; one operation; operations one behind the other. -/
import Derived.Test.YtnfnhhphoiebbaaSn
set_option linter.unusedVariables false
set_option linter.unusedSimpArgs false
namespace Go.Proofs.Ytnfnhhphoiebbaa.Sx
open Go

/-- The fence lets all in; a frame may be a round's. -/
abbrev FW (ro : Option Nat) : Fence := { Fence.wide with round := ro }
theorem callsIn_ro {ro ro' : Option Nat} {n m : Nat} {P : Program} {f : FuncId} {args : Array Value} {w : World} {R : Ending → World → Prop} (h : CallsIn (FW ro) n P f args w R) : CallsIn (FW ro') m P f args w R :=
  ⟨h.1, fun cs _ => h.2 cs (fun d hd => by cases hd)⟩
theorem roundIn_ro {ro ro' : Option Nat} {n m : Nat} {P : Program} {l : Nat} {f : FuncId} {tmps : Array Value} {x y : Code} {w : World} {R : Ending → World → Prop} (h : RoundIn (FW ro) n P l f tmps x y w R) : RoundIn (FW ro') m P l f tmps x y w R :=
  ⟨h.1, fun c cs _ => h.2 c cs (fun d hd => by cases hd)⟩
theorem callsIn_mono {F : Fence} {n : Nat} {P : Program} {f : FuncId} {args : Array Value} {w : World} {R R' : Ending → World → Prop} (h : CallsIn F n P f args w R) (hr : ∀ e w', R e w' → R' e w') : CallsIn F n P f args w R' :=
  ⟨h.1, fun cs hroom => let ⟨e, w', fr, r, s, x⟩ := h.2 cs hroom; ⟨e, w', fr, hr _ _ r, s, x⟩⟩

/-- What a round's reader says of the loop i is so, from then on. -/
def RndOk (P : Program) (glob : Nat → Option Nat) (e : Env) (h : T) (S : Nat → Prop) (w0 : World) (i : Nat) (k : Rnd) : Prop :=
  h.has i ∧ ∀ args st ways, k args st = some ways → ∀ e' w, Later e e' h st.hp → Rep e' S w0 st.hp w → GOk glob e' st.hp → Holds e'.int st.pc → V.okL st.hp args →
    ∀ R : Ending → World → Prop, (∀ v st', (v, st') ∈ ways → ∀ e'' w', After e' S w0 st e'' st' w' → V.ok st'.hp v → R (.returned (v.den e'')) w') →
      (e'.lps i).params.size = args.length ∧ RoundIn (FW none) 0 P (e'.blk i) (e'.lps i).fn (((e'.lps i).params.zip (V.denL e' args).toArray).foldl (fun tmps (t, a) => tmps.setIfInBounds t a) (e'.lps i).tmps) (e'.lps i).assign (e'.lps i).body w R
theorem RndOk.later {P : Program} {glob : Nat → Option Nat} {e e' : Env} {h h' : T} {S : Nat → Prop} {w0 : World} {i : Nat} {k : Rnd} (r : RndOk P glob e h S w0 i k) (l : Later e e' h h') : RndOk P glob e' h' S w0 i k :=
  ⟨l.has i r.1, fun args st ways hk e'' w l' => r.2 args st ways hk e'' w (l.trans l')⟩
def RsOk (P : Program) (glob : Nat → Option Nat) (e : Env) (h : T) (S : Nat → Prop) (w0 : World) (rs : Rnds) : Prop := ∀ i k, findR i rs = some k → RndOk P glob e h S w0 i k
theorem RsOk.later {P : Program} {glob : Nat → Option Nat} {e e' : Env} {h h' : T} {S : Nat → Prop} {w0 : World} {rs : Rnds} (r : RsOk P glob e h S w0 rs) (l : Later e e' h h') : RsOk P glob e' h' S w0 rs :=
  fun i k hk => (r i k hk).later l

/-- A reader of calls that says what is so. -/
def Snd (P : Program) (glob : Nat → Option Nat) (E : Ev) : Prop :=
  ∀ rs f args st ways, E rs f args st = some ways → ∀ e S w0 w, RsOk P glob e st.hp S w0 rs → Rep e S w0 st.hp w → GOk glob e st.hp → Holds e.int st.pc → V.okL st.hp args →
    ∀ R : Ending → World → Prop, (∀ v st', (v, st') ∈ ways → ∀ e' w', After e S w0 st e' st' w' → V.ok st'.hp v → R (.returned (v.den e')) w') →
      CallsIn (FW none) 0 P f (V.denL e args).toArray w R
/-- The loop whose round a frame is. -/
def RoOk (e : Env) (h : T) : Option Nat → Option Nat → Prop
  | none, none => True
  | some i, some l => h.has i ∧ e.blk i = l
  | _, _ => False
theorem RoOk.later {e e' : Env} {h h' : T} {r : Option Nat} {ro : Option Nat} (k : RoOk e h r ro) (l : Later e e' h h') : RoOk e' h' r ro := by
  cases r <;> cases ro <;> first | exact k | exact ⟨l.has _ k.1, (l.blk _ k.1).trans k.2⟩
/-- What a frame is in is so. -/
structure CxOk (P : Program) (glob : Nat → Option Nat) (E : Cx) (e : Env) (h : T) (S : Nat → Prop) (w0 : World) (ro : Option Nat) : Prop where
  ev : Snd P glob E.ev
  rs : RsOk P glob e h S w0 E.rs
  ro : RoOk e h E.ro ro
theorem CxOk.later {P : Program} {glob : Nat → Option Nat} {E : Cx} {e e' : Env} {h h' : T} {S : Nat → Prop} {w0 : World} {ro : Option Nat} (k : CxOk P glob E e h S w0 ro) (l : Later e e' h h') : CxOk P glob E e' h' S w0 ro :=
  ⟨k.ev, k.rs.later l, k.ro.later l⟩
theorem wpR {ro : Option Nat} {P : Program} {o : Oper} {a : Act} {w : World} {K : Act → World → Prop} {Q : Exit → Act → World → Prop} (hd : ∀ c, o.op ≠ .defer c) (h : o.uponIn (FW ro) 0 P a K Q ((execOp a.eval o).run P w)) : o.wpIn (FW ro) 0 P a w K Q :=
  ⟨fun _ _ => trivial, by rw [Oper.semAt_eq _ _ _ hd]; exact h⟩

/-- What is deferred. -/
def dDen (e : Env) : V × List V → Deferred
  | (.fn g x y, l) => { target := .fn g (V.denL e y).toArray, args := (V.denL e x).toArray ++ (V.denL e l).toArray }
  | (.map i, _) => { target := .collected (e.blk i), args := #[] }
  | _ => default
def dOk (h : T) (d : V × List V) : Prop := V.ok h d.1 ∧ V.okL h d.2
theorem dDen_later {e e' : Env} {h h' : T} (k : Later e e' h h') {d : V × List V} (hd : dOk h d) : dDen e' d = dDen e d := by
  obtain ⟨v, l⟩ := d
  cases v <;> try rfl
  · rename_i i
    simp only [dDen]
    rw [k.blk i hd.1]
  · rename_i g x y
    simp only [dDen]
    rw [V.denL_later k hd.1.1, V.denL_later k hd.1.2, V.denL_later k hd.2]

/-- A frame is what the reader takes it for. -/
structure Fm (e : Env) (h : T) (fr : Fr) (a : Act) : Prop where
  tm : Tm e h fr.1 a
  df : a.defers = fr.2.map (dDen e)
  dok : ∀ d ∈ fr.2, dOk h d
theorem Fm.later {e e' : Env} {h h' : T} {fr : Fr} {a : Act} (f : Fm e h fr a) (k : Later e e' h h') : Fm e' h' fr a :=
  ⟨f.tm.later k, by rw [f.df]; exact List.map_congr_left fun d hd => (dDen_later k (f.dok d hd)).symm, fun d hd => ⟨V.ok_later k.has (f.dok d hd).1, V.okL_later k.has (f.dok d hd).2⟩⟩
theorem Fm.put {e : Env} {h : T} {fr : Fr} {a : Act} (f : Fm e h fr a) (dst : Option Tmp) {v : V} (hv : V.ok h v) : Fm e h (setDst fr.1 dst v, fr.2) (a.put dst (v.den e)) := by
  cases dst with
  | none => exact f
  | some d =>
    refine ⟨⟨?_, ?_⟩, f.df, f.dok⟩
    · simp only [Act.put, f.tm.tmps, setDst]
      rw [tset_eq, denL_set]; simp
    · refine okL_iff.2 fun x hx => ?_
      simp only [setDst, tset_eq] at hx
      rcases List.mem_or_eq_of_mem_set hx with h1 | h1
      · exact okL_iff.1 f.tm.ok x h1
      · subst h1; exact hv

section
variable {P : Program} {glob : Nat → Option Nat} {E : Cx} {ro : Option Nat} {e : Env} {S : Nat → Prop} {w0 w : World} {st st' : St} {h : T} {tm : List V} {a : Act}

theorem callFunc_run {f : FuncId} (hg : goodFn P f = true) (args : Array Value) (w : World) : (callFunc f args).run P w = .ok (.enter f args) w := by
  unfold goodFn at hg
  split at hg
  · rename_i fn hf
    rw [Bool.and_eq_true] at hg
    have h1 : (fn.name == "runtime.NumGoroutine") = false := by simpa using hg.2
    have h2 : fn.body.isNone = false := by
      cases hb : fn.body with
      | none => rw [hb] at hg; simp at hg
      | some c => rfl
    simp only [callFunc, Sem.run_bind, run_program, Result.andThen_ok, hf, h1, h2, Bool.false_eq_true, if_false, Sem.run_pure]
  · cases hg

/-- A method, called by its name, of a value in an interface. -/
theorem methodV_ok {t' : TypeId} {name : String} {q : FuncId} (hm : methodV P t' name = some q) (v : Value) (args : Array Value) (w : World) (cap : Array Value) :
    (invoke (.fn (.method name) cap) (#[Value.iface t' v] ++ args)).run P w = (callFunc q (#[v] ++ args)).run P w := by
  unfold methodV at hm
  split at hm
  · rename_i i hi
    split at hm
    · rename_i me hme
      split at hm
      · rename_i q' ptr hp hfn
        have main : ∀ (d : TypeDesc), P.underlying t' = some d → (match d, ptr with | .pointer _, true => True | .pointer _, false => False | _, false => True | _, true => False) →
            (invoke (.fn (.method name) cap) (#[Value.iface t' v] ++ args)).run P w = (callFunc q' (#[v] ++ args)).run P w := by
          intro d hu hd
          have hmeth : ∀ n, (method (n + 1) t' v name).run P w = .ok (q', v) w := fun n => by
            rw [method]
            simp only [Sem.run_bind, typeInfo, run_program, Result.andThen_ok, hi, Sem.run_pure, hme, hp, follow, hfn]
            cases d <;> cases ptr <;> first
              | exact hd.elim
              | simp [receiverAt, run_underlying hu, Place.get]
          have hm2 := hmeth (P.types.size + 99)
          simp only [Sem.run_bind, Sem.run_pure, Result.andThen_ok, invoke]
          have hz : (#[Value.iface t' v] ++ args)[0]? = some (Value.iface t' v) := by rw [Array.getElem?_append_left (by simp)]; rfl
          have hx : (#[Value.iface t' v] ++ args).extract 1 (#[Value.iface t' v] ++ args).size = args := by apply Array.ext'; simp [Array.toList_extract, List.extract]
          rw [hz]
          simp only [callMethod, Sem.run_bind, run_program, Result.andThen_ok]
          rw [show P.types.size + Made.depth = P.types.size + 99 + 1 from rfl, hm2, Result.andThen_ok]
          simp only
          rw [hx]
        split at hm
        · rename (P.underlying t' = some _) => hu
          cases hm
          exact main _ hu trivial
        · cases hm
        · rename TypeDesc => d
          rename (∀ (elem : TypeId), d = TypeDesc.pointer elem → False) => hnp
          rename (P.underlying t' = some _) => hu
          cases hm
          refine main _ hu ?_
          cases d <;> first | trivial | (exact (hnp _ rfl).elim)
        · cases hm
      · cases hm
    · cases hm
  · cases hm

theorem calleeV_ok (t : Tm e st.hp tm a) (g : GOk glob e st.hp) {c : Call} {f : FuncId} {l : List V} (hc : calleeV P glob tm c = some (f, l)) (ty : TypeId) :
    (do let d ← resolve a.eval c ty; invoke d.target d.args : Sem Next).run P w = (callFunc f (V.denL e l).toArray).run P w ∧ V.okL st.hp l := by
  unfold calleeV at hc
  split at hc
  · rename_i fo hcal
    split at hc
    · rename_i q x y m hf hm
      simp only [Option.some.injEq, Prod.mk.injEq] at hc
      obtain ⟨rfl, rfl⟩ := hc
      have h1 := opd_ok t g hf
      have h2 := opds_ok t g hm
      have e1 : c.args.map a.eval = (V.denL e m).toArray := by rw [← h2.1, ← Array.toList_map, Array.toArray_toList]
      refine ⟨?_, ?_⟩
      · simp only [resolve, hcal, h1.1, V.den, Deferred.ofValue, Sem.run_bind, Sem.run_pure, Result.andThen_ok, invoke, e1]
        congr 2
        simp [denL_append]
      · refine okL_iff.2 fun v hv => ?_
        simp only [List.mem_append] at hv
        rcases hv with (hv | hv) | hv
        · exact okL_iff.1 h1.2.1 v hv
        · exact okL_iff.1 h2.2 v hv
        · exact okL_iff.1 h1.2.2 v hv
    · cases hc
  · rename_i ro name hcal
    split at hc
    · rename_i t' v m hr hm
      split at hc
      · rename_i q hq
        simp only [Option.some.injEq, Prod.mk.injEq] at hc
        obtain ⟨rfl, rfl⟩ := hc
        have h1 := opd_ok t g hr
        have h2 := opds_ok t g hm
        have e1 : c.args.map a.eval = (V.denL e m).toArray := by rw [← h2.1, ← Array.toList_map, Array.toArray_toList]
        refine ⟨?_, h1.2, h2.2⟩
        simp only [resolve, hcal, h1.1, V.den, Sem.run_bind, Sem.run_pure, Result.andThen_ok, e1]
        rw [methodV_ok hq]
        congr 2
        simp [V.denL]
      · cases hc
    · cases hc
  · cases hc

theorem run_getObj_loop {i : Nat} {r : Loop} (hm : w.heap[i]? = some (.loop r)) : (getObj i).run P w = .ok (.loop r) w := by
  simp [getObj, Sem.run, hm]
theorem run_getLoop {i : Nat} {r : Loop} (hm : w.heap[i]? = some (.loop r)) : (Instr.getLoop i).run P w = .ok r w := by
  rw [Instr.getLoop, Sem.run_bind, run_getObj_loop hm]; rfl
theorem run_setObj_loop {i : Nat} {r r' : Loop} (hm : w.heap[i]? = some (.loop r)) : (setObj i (.loop r')).run P w = .ok () { w with heap := w.heap.setIfInBounds i (.loop r') } := by
  simp [setObj, Sem.run, hm]
theorem yldOf_ok (t : Tm e st.hp tm a) (g : GOk glob e st.hp) (r : Rep e S w0 st.hp w) {c : Call} {i : Nat} {l : List V} (hc : yldOf glob tm c = some (i, l)) {s : LpState} {p : Pend} (hi : st.hp.get i = some (.lp s p)) (hl : (e.lps i).params.size = l.length) (ty : TypeId) :
    (do let d ← resolve a.eval c ty; invoke d.target d.args : Sem Next).run P w = .ok (.round (e.blk i) (e.lps i).fn (((e.lps i).params.zip (V.denL e l).toArray).foldl (fun tmps (t, a) => tmps.setIfInBounds t a) (e.lps i).tmps) (e.lps i).assign (e.lps i).body) w ∧ V.okL st.hp l := by
  unfold yldOf at hc
  split at hc
  · rename_i fo hcal
    split at hc
    · rename_i j m hf hm
      simp only [Option.some.injEq, Prod.mk.injEq] at hc
      obtain ⟨rfl, rfl⟩ := hc
      have h1 := opd_ok t g hf
      have h2 := opds_ok t g hm
      have e1 : c.args.map a.eval = (V.denL e m).toArray := by rw [← h2.1, ← Array.toList_map, Array.toArray_toList]
      have hb := r.blk _ _ hi
      simp only [Blk.at] at hb
      have hg : (Instr.getLoop (e.blk j)).run P w = .ok { e.lps j with state := s.den, pending := p.den } w := by
        exact run_getLoop hb
      refine ⟨?_, h2.2⟩
      simp only [resolve, hcal, h1.1, V.den, Deferred.ofValue, Sem.run_bind, Sem.run_pure, Result.andThen_ok, invoke, e1, Instr.yield, hg]
      have hsz : (V.denL e m).toArray.size = (e.lps j).params.size := by simp [denL_length, hl]
      simp [hsz]
    · cases hc
  · cases hc

/-- **What the reader says of an operation that acts is what the model does.** -/
theorem actV_ok (hE : CxOk P glob E e st.hp S w0 ro) (t : Tm e st.hp tm a) (g : GOk glob e st.hp) (r : Rep e S w0 st.hp w) (hh : Holds e.int st.pc) {o : Oper} {ways : List (V × St)} (hq : actV P glob E st tm o = .inl (some ways))
    {K : Act → World → Prop} {Q : Exit → Act → World → Prop} (hK : ∀ v st', (v, st') ∈ ways → ∀ e' w', After e S w0 st e' st' w' → V.ok st'.hp v → K (a.put o.dst (v.den e')) w') : o.wpIn (FW ro) 0 P a w K Q := by
  have one : ∀ {x : Operand} {v : V}, opd glob tm x = some v → a.eval x = v.den e ∧ V.ok st.hp v := fun hx => opd_ok t g hx
  obtain ⟨dst, op, type, pos, after, guard⟩ := o
  -- an operation that yields a value
  have valm : ∀ {s : Sem Value} {u : V} {st' : St}, (u, st') ∈ ways → Gives P e S w0 st w s u st' → (execOp a.eval ⟨dst, op, type, pos, after, guard⟩ = (do pure (.value (← s)))) → (∀ c, op ≠ .defer c) → Oper.wpIn (FW ro) 0 P ⟨dst, op, type, pos, after, guard⟩ a w K Q := by
    intro s u st' hw ⟨e', w', h1, h2, h3⟩ hx hd
    refine wpR hd ?_
    rw [hx, Sem.run_bind, h1, Result.andThen_ok, Sem.run_pure, Oper.uponIn_value]
    exact hK u st' hw e' w' h2 h3
  have val : ∀ {s : Sem Value} {u : V} {st' : St}, ways = [(u, st')] → Gives P e S w0 st w s u st' → (execOp a.eval ⟨dst, op, type, pos, after, guard⟩ = (do pure (.value (← s)))) → (∀ c, op ≠ .defer c) → Oper.wpIn (FW ro) 0 P ⟨dst, op, type, pos, after, guard⟩ a w K Q := by
    intro s u st' hw ⟨e', w', h1, h2, h3⟩ hx hd
    subst hw
    refine wpR hd ?_
    rw [hx, Sem.run_bind, h1, Result.andThen_ok, Sem.run_pure, Oper.uponIn_value]
    exact hK u st' (by simp) e' w' h2 h3
  have unit : ∀ {s : Sem Unit} {st' : St} {w' : World}, ways = [(.und, st')] → s.run P w = .ok () w' → After e S w0 st e st' w' → (execOp a.eval ⟨dst, op, type, pos, after, guard⟩ = (do s; pure .skip)) → (∀ c, op ≠ .defer c) → Oper.wpIn (FW ro) 0 P ⟨dst, op, type, pos, after, guard⟩ a w K Q := by
    intro s st' w' hw h1 h2 hx hd
    subst hw
    refine wpR hd ?_
    rw [hx, Sem.run_bind, h1, Result.andThen_ok, Sem.run_pure, Oper.uponIn_skip]
    exact hK .und st' (by simp) e w' h2 trivial
  cases op <;> simp only [actV] at hq <;> try (cases hq; done)
  case alloc ty =>
    split at hq
    · rename_i z hz
      split at hq
      · rename_i i st1 hn
        cases hq
        exact val rfl (alloc_ok r hh hz hn) rfl (fun c h => by cases h)
      · cases hq
    · cases hq
  case box ty x =>
    split at hq
    · rename_i v hv
      split at hq
      · split at hq
        · rename_i i st1 hn
          cases hq
          exact val rfl (box_ok r hh (one hv).2 (opd_any hv) hn) (by simp [execOp, (one hv).1]) (fun c h => by cases h)
        · cases hq
      · cases hq
    · cases hq
  case buildSlice ty len parts =>
    split at hq
    · rename_i l el hl hu
      split at hq
      · rename_i z v hs hz
        split at hq
        · rename_i hc
          rw [Bool.and_eq_true] at hc
          split at hq
          · rename_i cs hf
            split at hq
            · split at hq
              · rename_i i st1 hn
                cases hq
                have hp := partsV_ok t g hl
                have hps : (parts.map fun (i, x) => (i, a.eval x)).toList = l.map fun x => (x.1, x.2.den e) := by rw [Array.toList_map]; exact hp.1
                have := buildSlice_ok (P := P) r hh hu hs hz (beq_true hc.1) (Nat.le_of_ble_eq_true hc.2) hp.2 (fillR_ok (beq_true hc.1) hf) hn _ hps
                exact val rfl this (by simp only [execOp]) (fun c h => by cases h)
              · cases hq
            · cases hq
          · cases hq
        · cases hq
      · cases hq
    · cases hq
  case makeSlice ty x y =>
    split at hq
    · rename_i v v' el hv hv' hu
      split at hq
      · rename_i len cap it z hlen hcap hi hz
        split at hq
        · rename_i hc
          rw [Bool.and_eq_true, Bool.and_eq_true, Bool.and_eq_true, Bool.and_eq_true] at hc
          split at hq
          · rename_i j st1 hn
            cases hq
            exact val rfl (makeSlice_ok r hh hu hi hz (beq_true hc.2.1) (Nat.le_of_ble_eq_true hc.1.1) (Nat.le_of_ble_eq_true hc.2.2.2) (Nat.le_of_ble_eq_true hc.2.2.1) hlen hcap hn) (by simp [execOp, (one hv).1, (one hv').1]) (fun c h => by cases h)
          · cases hq
        · cases hq
      · cases hq
    · cases hq
  case makeMap ty rs =>
    cases rs with
    | some _ => simp only [actV] at hq; cases hq
    | none =>
      simp only [actV] at hq
      split at hq
      · rename_i i st1 hn
        cases hq
        exact val rfl (makeMap_ok r hh hn) rfl (fun c h => by cases h)
      · cases hq
  case slice ty x lo hi mx =>
    cases mx with
    | some _ => simp only [actV] at hq; cases hq
    | none =>
      simp only [actV] at hq
      split at hq
      · rename_i v p q hv hp hp'
        simp only [Sum.inl.injEq] at hq
        obtain ⟨u, st1, hm, hg⟩ := sliceEndV_ok (P := P) r hh (one hv).2 hq
        have o1 := optV_ok t g hp
        have o2 := optV_ok t g hp'
        exact valm hm hg (by simp [execOp, (one hv).1, o1, o2]) (fun c h => by cases h)
      · cases hq
  case store ty x y =>
    split at hq
    · rename_i v v' hv hv'
      split at hq
      · rename_i st1 hs
        cases hq
        obtain ⟨w', h1, h2⟩ := storeV_ok (P := P) r hh (one hv').2 hs
        exact unit rfl h1 h2 (by simp [execOp, (one hv).1, (one hv').1]) (fun c h => by cases h)
      · cases hq
    · cases hq
  case mapUpdate ty m k x =>
    split at hq
    · rename_i u v v' hu hv hv'
      obtain ⟨st1, w', h0, h1, h2⟩ := mapPutV_ok (P := P) r hh (one hv).2 (one hv').2 hq
      exact unit h0 h1 h2 (by simp [execOp, (one hu).1, (one hv).1, (one hv').1]) (fun c h => by cases h)
    · cases hq
  case mapEntry ty m k =>
    split at hq
    · rename_i u v hu hv
      obtain ⟨u', st1, h0, hg⟩ := mapEntryV_ok (P := P) r hh (one hv).2 hq
      exact val h0 hg (by simp [execOp, (one hu).1, (one hv).1]) (fun c h => by cases h)
    · cases hq
  case entryStore ty m k x =>
    split at hq
    · rename_i u v v' hu hv hv'
      simp only [Sum.inl.injEq] at hq
      obtain ⟨st1, w', h0, h1, h2⟩ := entryStoreV_ok (P := P) (t := ty) r hh (one hv').2 hq
      exact unit h0 h1 h2 (by simp [execOp, (one hu).1, (one hv).1, (one hv').1]) (fun c h => by cases h)
    · cases hq
  case insert ty m k x =>
    split at hq
    · rename_i u v v' hu hv hv'
      obtain ⟨st1, w', h0, h1, h2⟩ := mapPutV_ok (P := P) r hh (one hv).2 (one hv').2 hq
      exact unit h0 h1 h2 (by simp [execOp, (one hu).1, (one hv).1, (one hv').1]) (fun c h => by cases h)
    · cases hq
  case convert sr d x =>
    split at hq
    · rename_i el l hs hd hv
      split at hq
      · rename_i hu
        split at hq
        · rename_i i st1 hn
          cases hq
          obtain ⟨e', w', h1, h2⟩ := strBytes_ok (P := P) (el := el) r hh hn
          refine val (s := convert sr d (.string ⟨(l.map UInt8.ofNat).toArray⟩)) rfl ⟨e', w', ?_, h2⟩ (by simp [execOp, (one hv).1, V.den]) (fun c h => by cases h)
          simp only [convert, Sem.run_bind, run_underlying hs, run_underlying hd, run_underlying hu, Result.andThen_ok]
          exact h1
        · cases hq
      · cases hq
    · cases hq
  case call c =>
    have args2 : ∀ {x y : V} {ts : List TypeId}, opds glob tm c.args.toList = some [x, y] → c.args.map a.eval = #[x.den e, y.den e] := fun {x y ts} hl => by
      rw [← Array.toArray_toList (xs := c.args.map a.eval), Array.toList_map, (opds_ok t g hl).1]; rfl
    split at hq
    · rename_i hc
      split at hq
      · rename_i s x ts tx hl hty
        have h2 := opds_ok t g hl
        have e2 : c.argTypes = #[ts, tx] := by rw [← Array.toArray_toList (xs := c.argTypes), hty]
        simp only [Sum.inl.injEq] at hq
        obtain ⟨u, st1, h0, hg⟩ := appendV_ok (P := P) (ty := type) r hh h2.2.1 hq
        refine val h0 hg ?_ (fun c h => by cases h)
        simp [execOp, resolve, hc, invoke, builtin, e2, args2 (ts := []) hl]
      · cases hq
    · rename_i hc
      split at hq
      · rename_i d s td rest hl hty
        simp only [Sum.inl.injEq] at hq
        cases rest with
        | nil =>
          have e2 : c.argTypes = #[td] := by rw [← Array.toArray_toList (xs := c.argTypes), hty]
          obtain ⟨u, st1, h0, e', w', h1, h3⟩ := copyV_ok (P := P) (ts := 0) (ty := type) r hh hq
          refine val h0 ⟨e', w', ?_, h3⟩ (s := Builtin.copy_ #[td] type #[d.den e, s.den e]) ?_ (fun c h => by cases h)
          · rw [← h1]; rfl
          · simp [execOp, resolve, hc, invoke, builtin, e2, args2 (ts := []) hl]
        | cons ts rest =>
          obtain ⟨u, st1, h0, e', w', h1, h3⟩ := copyV_ok (P := P) (ts := 0) (ty := type) r hh hq
          refine val h0 ⟨e', w', ?_, h3⟩ (s := Builtin.copy_ c.argTypes type #[d.den e, s.den e]) ?_ (fun c h => by cases h)
          · rw [← h1]
            have : c.argTypes[0]? = some td := by rw [← Array.getElem?_toList, hty]; rfl
            unfold Builtin.copy_
            rw [this]; rfl
          · simp [execOp, resolve, hc, invoke, builtin, args2 (ts := []) hl]
      · cases hq
    · rename_i hc
      split at hq
      · rename_i x tx hl hty
        have e2 : c.argTypes = #[tx] := by rw [← Array.toArray_toList (xs := c.argTypes), hty]
        have e1 : c.args.map a.eval = #[x.den e] := by
          rw [← Array.toArray_toList (xs := c.args.map a.eval), Array.toList_map, (opds_ok t g hl).1]; rfl
        simp only [Sum.inl.injEq] at hq
        obtain ⟨st1, h0, w', h1, h2⟩ := clearV_ok (P := P) (ty := type) r hh hq
        refine val h0 (s := Builtin.clear_ #[tx] type #[x.den e]) ⟨e, w', h1, h2, trivial⟩ ?_ (fun c h => by cases h)
        simp [execOp, resolve, hc, invoke, builtin, e2, e1]
      · cases hq
    · cases hq
    · split at hq
      · rename_i f l hcal
        split at hq
        · rename_i hgood
          simp only [Sum.inl.injEq] at hq
          obtain ⟨hrun, hok⟩ := calleeV_ok (w := w) t g hcal type
          refine wpR (fun c h => by cases h) ?_
          have : execOp a.eval ⟨dst, .call c, type, pos, after, guard⟩ = (do let d ← resolve a.eval c type; invoke d.target d.args) := rfl
          rw [this, hrun, callFunc_run hgood, Oper.uponIn_enter]
          refine ⟨(fun h => by cases h), callsIn_ro (hE.ev E.rs f l st ways hq e S w0 w hE.rs r g hh hok _ fun v st1 hv e' w' haf hvo => ?_)⟩
          exact hK v st1 hv e' w' haf hvo
        · cases hq
      · split at hq
        · rename_i i l hy
          split at hq
          · rename_i s p k hi hk
            simp only [Sum.inl.injEq] at hq
            refine wpR (fun c h => by cases h) ?_
            have : execOp a.eval ⟨dst, .call c, type, pos, after, guard⟩ = (do let d ← resolve a.eval c type; invoke d.target d.args) := rfl
            have hok : V.okL st.hp l := by
              unfold yldOf at hy
              split at hy
              · split at hy
                · rename_i m _ hm
                  simp only [Option.some.injEq, Prod.mk.injEq] at hy
                  obtain ⟨_, rfl⟩ := hy
                  exact (opds_ok t g hm).2
                · cases hy
              · cases hy
            obtain ⟨h1, h2⟩ := (hE.rs i k hk).2 l st ways hq e w (.refl _ _) r g hh hok (fun
              | .returned v, w'' => K (a.put dst v) w''
              | .panicked chain, w'' => Q (.panic chain) a w''
              | .outgrown, _ => LetsOut Q) fun v st1 hv e' w' haf hvo => hK v st1 hv e' w' haf hvo
            rw [this, (yldOf_ok (P := P) t g r hy hi h1 type).1, Oper.uponIn_round]
            exact ⟨(fun h => by cases h), roundIn_ro h2⟩
          · cases hq
        · cases hq
end
end Go.Proofs.Ytnfnhhphoiebbaa.Sx
