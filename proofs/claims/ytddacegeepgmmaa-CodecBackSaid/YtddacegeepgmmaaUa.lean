/- A call's body, gone through piece by piece: from place to place. -/
import Derived.Test.YtddacegeepgmmaaSw
set_option linter.unusedVariables false
set_option linter.unusedSimpArgs false
namespace Go.Proofs.Ytddacegeepgmmaa.Sx
open Go Go.RowKit
noncomputable section

/-- What is still to be done in a body: a piece of its code by its number, the end of a block, a loop by its body's number. -/
inductive It where
  | co (p : Nat)
  | bl (id : Nat)
  | lo (p : Nat)
def It.same : It → It → Bool
  | .co p, .co q => Nat.beq p q
  | .bl p, .bl q => Nat.beq p q
  | .lo p, .lo q => Nat.beq p q
  | _, _ => false
def itsSame : List It → List It → Bool
  | [], [] => true
  | a :: l, b :: m => It.same a b && itsSame l m
  | _, _ => false

def childC : Code → Bool → Option Code
  | .seq a _, false => some a
  | .seq _ b, true => some b
  | .cond _ a _, false => some a
  | .cond _ _ b, true => some b
  | .block _ x, false => some x
  | .loop x, false => some x
  | _, _ => none
/-- A piece of code: 1 is all, 2 p and 2 p + 1 are the parts of p. -/
def getP (body : Code) : Nat → Nat → Option Code
  | 0, _ => none
  | n + 1, p => match Nat.ble p 1 with
    | true => some body
    | false => match getP body n (p / 2) with
      | some c => childC c (Nat.beq (p % 2) 1)
      | none => none
def codeP (body : Code) (p : Nat) : Option Code := getP body (Nat.log2 p + 1) p
def It.item (body : Code) : It → Item
  | .co p => .code ((codeP body p).getD .skip)
  | .bl id => .inBlock id
  | .lo p => .inLoop ((codeP body p).getD .skip)
def exitK (id : Nat) : List It → Option (List It)
  | [] => none
  | .bl i :: k => match Nat.beq i id with | true => some k | false => exitK id k
  | _ :: k => exitK id k

/-- Where a way ends: behind the body, or at a place. -/
inductive Stp where
  | fin (fr : Fr) (st : St)
  | cut (k : List It) (fr : Fr) (st : St)

section
variable (P : Program) (glob : Nat → Option Nat) (E : Cx) (lf : Nat) (body : Code) (isCut : Nat → Bool)
def drv : Nat → Bool → List It → Fr → St → Option (List Stp)
  | 0, _, _, _, _ => none
  | _ + 1, _, [], fr, st => some [.fin fr st]
  | n + 1, fst, .bl _ :: k, fr, st => drv n fst k fr st
  | n + 1, fst, .lo p :: k, fr, st => drv n fst (.co p :: .lo p :: k) fr st
  | n + 1, fst, .co p :: k, fr, st => match (match fst with | true => false | false => isCut p) with
    | true => some [.cut (.co p :: k) fr st]
    | false => match codeP body p with
      | none => none
      | some c => match c with
        | .skip => drv n false k fr st
        | .label _ => drv n false k fr st
        | .seq _ _ => drv n false (.co (2 * p) :: .co (2 * p + 1) :: k) fr st
        | .cond o _ _ => match opd glob fr.1 o with
          | some (.b x) => match dec st.pc x with
            | some true => drv n false (.co (2 * p) :: k) fr st
            | some false => drv n false (.co (2 * p + 1) :: k) fr st
            | none => match drv n false (.co (2 * p) :: k) fr (forkPc st x true), drv n false (.co (2 * p + 1) :: k) fr (forkPc st x false) with
              | some l, some m => some (l ++ m)
              | _, _ => none
          | _ => none
        | .block id _ => drv n false (.co (2 * p) :: .bl id :: k) fr st
        | .loop _ => drv n false (.co (2 * p) :: .lo (2 * p) :: k) fr st
        | .exit id => match exitK id k with
          | some k' => drv n false k' fr st
          | none => none
        | .ret => some [.fin fr st]
        | c => match noSelC c with
          | true => match codeEval P glob (lfLaw lf) c E fr st with
            | some xs => bindL (fun (x, fr', st') => match x with
              | .normal => drv n false k fr' st'
              | .ret => some [.fin fr' st']
              | .exit id => match exitK id k with
                | some k' => drv n false k' fr' st'
                | none => none
              | _ => none) xs
            | none => none
          | false => none
end

/-! The machine's way through a body -/
/-- From here an activation of f comes to its end with R. -/
def Runs (P : Program) (f : FuncId) (R : Ending → World → Prop) (k : List Item) (a : Act) (w : World) : Prop :=
  ∀ (b : Frame) (cs : List Frame), b.fn = f → b.kind = .normal → b.roundOf = none → ∃ e w' fr, R e w' ∧ ComesIn (Machine.fenced P (FW none)) P (lone (b.atR a k) cs w) (lone fr cs w') e ∧ fr.fn = f ∧ fr.leaving P w' e

section
variable {P : Program} {f : FuncId} {R : Ending → World → Prop} {a : Act} {w : World}
theorem room0 {n : Nat} : (FW none).room n := fun d hd => by cases hd
theorem Runs.step {k k' : List Item} {a' : Act} {w' : World} (hs : ∀ (b : Frame) (cs : List Frame), b.roundOf = none → StepsIn (Machine.fenced P (FW none)) P (lone (b.atR a k) cs w) (lone (b.atR a' k') cs w')) (h : Runs P f R k' a' w') : Runs P f R k a w :=
  fun b cs h1 h2 h3 => let ⟨e, w'', fr, r, s, x⟩ := h b cs h1 h2 h3; ⟨e, w'', fr, r, ComesIn.of_steps (hs b cs h3) s, x⟩
/-- A piece that ends normally, leaves a block, or returns. -/
theorem Runs.piece {fn : Func} (hf : P.funcs[f]? = some fn) {c : Code} {k : List Item}
    (h : c.wpIn (FW none) 0 P (fun x a' w' => match x with
      | .normal => Runs P f R k a' w'
      | .exit id => ∃ k', exitTo id k = some k' ∧ Runs P f R k' a' w'
      | .ret => LeavesInM (FW none) 0 P fn a'.tmps R a'.defers .returning w'
      | _ => False) a w) : Runs P f R (.code c :: k) a w := by
  intro b cs h1 h2 h3
  obtain ⟨x, a', w', hq, harr⟩ := h b k cs h3 trivial room0
  cases x with
  | normal =>
    obtain ⟨e, w'', fr, r, s, y⟩ := hq b cs h1 h2 h3
    exact ⟨e, w'', fr, r, ComesIn.of_steps harr s, y⟩
  | exit id =>
    obtain ⟨k', hk, hq⟩ := hq
    obtain ⟨e, w'', fr, r, s, y⟩ := hq b cs h1 h2 h3
    exact ⟨e, w'', fr, r, ComesIn.of_steps (harr.1 k' hk) s, y⟩
  | ret =>
    obtain ⟨todo, hs⟩ := harr.1 h3
    obtain ⟨e', w'', fr', hR, hs2, hfn, hl⟩ := leaves_stepsInM (F := FW none) (n := 0) a'.defers .returning w' { b.atR a' todo with mode := .returning } cs rfl rfl rfl (by rw [← hf, ← h1]; rfl) h2 trivial room0 hq
    exact ⟨e', w'', fr', hR, ComesIn.of_steps hs hs2, by rw [hfn]; exact h1, hl⟩
  | goto l => exact hq.elim
  | panic ch => exact hq.elim
  | outgrown => exact hq.elim
theorem Runs.done {fn : Func} (hf : P.funcs[f]? = some fn) (h : LeavesInM (FW none) 0 P fn a.tmps R a.defers .returning w) : Runs P f R [] a w := by
  intro b cs h1 h2 h3
  obtain ⟨e', w'', fr', hR, hs2, hfn, hl⟩ := leaves_stepsInM (F := FW none) (n := 0) a.defers .returning w { b.atR a [] with mode := .returning } cs rfl rfl rfl (by rw [← hf, ← h1]; rfl) h2 trivial room0 h
  exact ⟨e', w'', fr', hR, ComesIn.of_steps (.one (fenced_calm (n := 0) (fr := b.atR a []) trivial room0 rfl) (stepR_end h3)) hs2, by rw [hfn]; exact h1, hl⟩
theorem Runs.calls {fn : Func} {c : Code} {args : Array Value} (hf : P.funcs[f]? = some fn) (hb : fn.body = some c)
    (h : Runs P f R [.code c] { tmps := args ++ Array.replicate (fn.ntmps - args.size) undef, defers := [] } w) : CallsIn (FW none) 0 P f args w R := by
  refine ⟨trivial, fun cs _ => ?_⟩
  let b : Frame := { (default : Frame) with fn := f, kind := .normal, roundOf := none }
  have henter : Frame.enter P f args .normal = b.atR { tmps := args ++ Array.replicate (fn.ntmps - args.size) undef, defers := [] } [.code c] := by
    simp [Frame.enter, Frame.atR, hf, hb, b]
  rw [henter]
  exact h b cs rfl rfl rfl

theorem exitK_ok {body : Code} {id : Nat} : ∀ {k k' : List It}, exitK id k = some k' → exitTo id (k.map (It.item body)) = some (k'.map (It.item body))
  | [], _, h => by cases h
  | .bl i :: k, k', h => by
    simp only [exitK] at h
    simp only [List.map_cons, It.item, exitTo]
    split at h
    · rename_i hb
      cases h
      rw [beq_true hb]; simp
    · rename_i hb
      have hne := beq_false hb
      rw [if_neg (by simpa using hne)]
      exact exitK_ok h
  | .co p :: k, k', h => by
    simp only [exitK] at h
    simp only [List.map_cons, It.item, exitTo]
    exact exitK_ok h
  | .lo p :: k, k', h => by
    simp only [exitK] at h
    simp only [List.map_cons, It.item, exitTo]
    exact exitK_ok h

theorem itsSame_eq : ∀ {l m : List It}, itsSame l m = true → l = m
  | [], [], _ => rfl
  | [], _ :: _, h => by cases h
  | _ :: _, [], h => by cases h
  | a :: l, b :: m, h => by
    simp only [itsSame, Bool.and_eq_true] at h
    rw [itsSame_eq h.2]
    congr 1
    have := h.1
    cases a <;> cases b <;> simp only [It.same] at this <;> first | (rw [beq_true this]) | (cases this)

theorem getP_child {body : Code} {p : Nat} {c : Code} (hp : 1 ≤ p) : ∀ {n : Nat}, getP body n p = some c → (getP body (n + 1) (2 * p) = childC c false) ∧ (getP body (n + 1) (2 * p + 1) = childC c true) := by
  intro n h
  have e1 : 2 * p / 2 = p := by omega
  have e2 : (2 * p + 1) / 2 = p := by omega
  have b1 : Nat.ble (2 * p) 1 = false := by
    cases hq : Nat.ble (2 * p) 1
    · rfl
    · have := Nat.le_of_ble_eq_true hq; omega
  have b2 : Nat.ble (2 * p + 1) 1 = false := by
    cases hq : Nat.ble (2 * p + 1) 1
    · rfl
    · have := Nat.le_of_ble_eq_true hq; omega
  have m1 : Nat.beq (2 * p % 2) 1 = false := by
    have : 2 * p % 2 = 0 := by omega
    rw [this]; rfl
  have m2 : Nat.beq ((2 * p + 1) % 2) 1 = true := by
    have : (2 * p + 1) % 2 = 1 := by omega
    rw [this]; rfl
  exact ⟨by rw [getP, b1]; simp only [e1, h, m1], by rw [getP, b2]; simp only [e2, h, m2]⟩
end

section
variable {P : Program} {glob : Nat → Option Nat} {E : Cx} {lf : Nat} {body : Code} {isCut : Nat → Bool} {f : FuncId} {fn : Func} {R : Ending → World → Prop}
variable {S : Nat → Prop} {w0 : World}

theorem log2_dbl {p : Nat} (hp : 1 ≤ p) : Nat.log2 (2 * p) = Nat.log2 p + 1 ∧ Nat.log2 (2 * p + 1) = Nat.log2 p + 1 := by
  constructor
  · rw [Nat.log2_def, if_pos (by omega), show 2 * p / 2 = p by omega]
  · rw [Nat.log2_def, if_pos (by omega), show (2 * p + 1) / 2 = p by omega]
theorem codeP_child {p : Nat} {c : Code} (hp : 1 ≤ p) (h : codeP body p = some c) : codeP body (2 * p) = childC c false ∧ codeP body (2 * p + 1) = childC c true := by
  unfold codeP at *
  rw [(log2_dbl hp).1, (log2_dbl hp).2]
  exact getP_child hp h
theorem item_of {p : Nat} {c : Code} (h : codeP body p = some c) : It.item body (.co p) = .code c ∧ It.item body (.lo p) = .inLoop c := by
  simp [It.item, h]
/-- What is to be shown of all ways' ends. -/
structure Ends (P : Program) (glob : Nat → Option Nat) (body : Code) (f : FuncId) (fn : Func) (R : Ending → World → Prop) (e : Env) (S : Nat → Prop) (w0 : World) (st : St) (l : List Stp) : Prop where
  fin : ∀ fr' st', Stp.fin fr' st' ∈ l → ∀ e' w' a', After e S w0 st e' st' w' → Fm e' st'.hp fr' a' → LeavesInM (FW none) 0 P fn a'.tmps R a'.defers .returning w'
  cut : ∀ k fr' st', Stp.cut k fr' st' ∈ l → ∀ e' w' a', After e S w0 st e' st' w' → Fm e' st'.hp fr' a' → Runs P f R (k.map (It.item body)) a' w'
theorem Ends.sub {e : Env} {st : St} {l m : List Stp} (h : Ends P glob body f fn R e S w0 st l) (hs : ∀ x ∈ m, x ∈ l) : Ends P glob body f fn R e S w0 st m :=
  ⟨fun fr' st' hm => h.fin fr' st' (hs _ hm), fun k fr' st' hm => h.cut k fr' st' (hs _ hm)⟩
theorem Ends.later {e e' : Env} {st st' : St} {w' : World} {l : List Stp} (h : Ends P glob body f fn R e S w0 st l) (k : After e S w0 st e' st' w') : Ends P glob body f fn R e' S w0 st' l :=
  ⟨fun fr2 st2 hm e2 w2 a2 haf hf => h.fin fr2 st2 hm e2 w2 a2 (k.trans haf) hf, fun k2 fr2 st2 hm e2 w2 a2 haf hf => h.cut k2 fr2 st2 hm e2 w2 a2 (k.trans haf) hf⟩
theorem Ends.fork {e : Env} {st : St} {l : List Stp} {x : N} {t : Bool} (h : Ends P glob body f fn R e S w0 st l) : Ends P glob body f fn R e S w0 (forkPc st x t) l :=
  ⟨fun fr2 st2 hm e2 w2 a2 haf hf => h.fin fr2 st2 hm e2 w2 a2 haf.fork hf, fun k2 fr2 st2 hm e2 w2 a2 haf hf => h.cut k2 fr2 st2 hm e2 w2 a2 haf.fork hf⟩

def pathsOk : List It → Prop
  | [] => True
  | .co p :: k => 1 ≤ p ∧ pathsOk k
  | .lo p :: k => 1 ≤ p ∧ pathsOk k
  | .bl _ :: k => pathsOk k
theorem exitK_paths {id : Nat} : ∀ {k k' : List It}, exitK id k = some k' → pathsOk k → pathsOk k'
  | [], _, h, _ => by cases h
  | .bl i :: k, k', h, hp => by
    simp only [exitK] at h
    split at h
    · cases h; exact hp
    · exact exitK_paths h hp
  | .co p :: k, k', h, hp => exitK_paths (k := k) (by simpa only [exitK] using h) hp.2
  | .lo p :: k, k', h, hp => exitK_paths (k := k) (by simpa only [exitK] using h) hp.2

/-- **What the driver says is so.** -/
theorem drv_ok (hm : P.follows .mixedOrders = true) (hf : P.funcs[f]? = some fn) : ∀ (n : Nat) (fst : Bool) (k : List It) (fr : Fr) (st : St) (l : List Stp), drv P glob E lf body isCut n fst k fr st = some l → pathsOk k →
    ∀ (e : Env) (w : World) (a : Act), CxOk P glob E e st.hp S w0 none → Fm e st.hp fr a → GOk glob e st.hp → Rep e S w0 st.hp w → Holds e.int st.pc → Ends P glob body f fn R e S w0 st l → Runs P f R (k.map (It.item body)) a w
  | 0, _, _, _, _, _, h, _ => by cases h
  | n + 1, fst, [], fr, st, l, h, _ => by
    intro e w a hE fm g r hh hends
    simp only [drv, Option.some.injEq] at h
    subst h
    exact Runs.done hf (hends.fin fr st (by simp) e w a (.refl r hh) fm)
  | n + 1, fst, .bl id :: k, fr, st, l, h, hp => by
    intro e w a hE fm g r hh hends
    simp only [drv] at h
    refine Runs.step (fun b cs hb => ?_) (drv_ok hm hf n fst k fr st l h hp e w a hE fm g r hh hends)
    exact .one (fenced_calm (n := 0) trivial room0 rfl) stepR_inBlock
  | n + 1, fst, .lo p :: k, fr, st, l, h, hp => by
    intro e w a hE fm g r hh hends
    simp only [drv] at h
    refine Runs.step (fun b cs hb => ?_) (drv_ok hm hf n fst (.co p :: .lo p :: k) fr st l h ⟨hp.1, hp⟩ e w a hE fm g r hh hends)
    exact .one (fenced_calm (n := 0) trivial room0 rfl) stepR_inLoop
  | n + 1, fst, .co p :: k, fr, st, l, h, hp => by
    intro e w a hE fm g r hh hends
    simp only [drv] at h
    split at h
    · simp only [Option.some.injEq] at h
      subst h
      exact hends.cut _ fr st (by simp) e w a (.refl r hh) fm
    · split at h
      · cases h
      · rename_i c hc
        have hit := (item_of hc).1
        have hch := codeP_child hp.1 hc
        simp only [List.map_cons, hit]
        have calm : ∀ {c : Code} {b : Frame} {cs : List Frame} {k : List Item} {m' : Machine}, b.roundOf = none → (∀ w, (b.atR a (.code c :: k)).about P w = none) → step P (lone (b.atR a (.code c :: k)) cs w) = .next m' → StepsIn (Machine.fenced P (FW none)) P (lone (b.atR a (.code c :: k)) cs w) m' :=
          fun _ ha hs => .one (fenced_calm (n := 0) trivial room0 (ha _)) hs
        split at h
        · refine Runs.step (fun b cs hb => calm hb (fun _ => rfl) stepR_skip) (drv_ok hm hf n false k fr st l h hp.2 e w a hE fm g r hh hends)
        · refine Runs.step (fun b cs hb => calm hb (fun _ => rfl) stepR_label) (drv_ok hm hf n false k fr st l h hp.2 e w a hE fm g r hh hends)
        · rename_i x y
          have h1 := (item_of (body := body) (p := 2 * p) (c := x) hch.1).1
          have h2 := (item_of (body := body) (p := 2 * p + 1) (c := y) hch.2).1
          have := drv_ok hm hf n false (.co (2 * p) :: .co (2 * p + 1) :: k) fr st l h ⟨by have := hp.1; omega, by omega, hp.2⟩ e w a hE fm g r hh hends
          simp only [List.map_cons, h1, h2] at this
          exact Runs.step (fun b cs hb => calm hb (fun _ => rfl) stepR_seq) this
        · rename_i o x y
          have h1 := (item_of (body := body) (p := 2 * p) (c := x) hch.1).1
          have h2 := (item_of (body := body) (p := 2 * p + 1) (c := y) hch.2).1
          have pok1 : pathsOk (.co (2 * p) :: k) := ⟨by have := hp.1; omega, hp.2⟩
          have pok2 : pathsOk (.co (2 * p + 1) :: k) := ⟨by omega, hp.2⟩
          split at h
          · rename_i nx ho
            have hev := (opd_ok fm.tm g ho).1
            rw [den_b] at hev
            have yes : ∀ {st' : St} {l' : List Stp}, st'.hp = st.hp → drv P glob E lf body isCut n false (.co (2 * p) :: k) fr st' = some l' → Holds e.int st'.pc → Ends P glob body f fn R e S w0 st' l' → tr (nx.den e.int) = true → Runs P f R (.code (.cond o x y) :: k.map (It.item body)) a w := by
              intro st' l' hst hd hh' he' ht
              have := drv_ok hm hf n false (.co (2 * p) :: k) fr st' l' hd pok1 e w a (hst ▸ hE) (hst ▸ fm) (hst ▸ g) (hst ▸ r) hh' he'
              simp only [List.map_cons, h1] at this
              exact Runs.step (fun b cs hb => calm hb (fun _ => rfl) (stepR_cond (t := true) (by rw [hev, ht]))) this
            have nay : ∀ {st' : St} {l' : List Stp}, st'.hp = st.hp → drv P glob E lf body isCut n false (.co (2 * p + 1) :: k) fr st' = some l' → Holds e.int st'.pc → Ends P glob body f fn R e S w0 st' l' → tr (nx.den e.int) = false → Runs P f R (.code (.cond o x y) :: k.map (It.item body)) a w := by
              intro st' l' hst hd hh' he' ht
              have := drv_ok hm hf n false (.co (2 * p + 1) :: k) fr st' l' hd pok2 e w a (hst ▸ hE) (hst ▸ fm) (hst ▸ g) (hst ▸ r) hh' he'
              simp only [List.map_cons, h2] at this
              exact Runs.step (fun b cs hb => calm hb (fun _ => rfl) (stepR_cond (t := false) (by rw [hev, ht]))) this
            split at h
            · rename_i hd
              exact yes rfl h hh hends (dec_tr hh hd)
            · rename_i hd
              exact nay rfl h hh hends (dec_tr hh hd)
            · split at h
              · rename_i l1 l2 hd1 hd2
                cases h
                by_cases hn : nx.den e.int = 0
                · have ht : Holds e.int (forkPc st nx false).pc := hh.add (by simp [hn])
                  refine nay (st' := forkPc st nx false) rfl hd2 ht ((hends.sub fun y hy => List.mem_append_right _ hy).fork) ?_
                  cases hq : tr (nx.den e.int)
                  · rfl
                  · exact absurd hn ((tr_iff _).1 hq)
                · have ht : Holds e.int (forkPc st nx true).pc := hh.add (by simp [hn])
                  exact yes (st' := forkPc st nx true) rfl hd1 ht ((hends.sub fun y hy => List.mem_append_left _ hy).fork) ((tr_iff _).2 hn)
              · cases h
          · cases h
        · rename_i id x
          have h1 := (item_of (body := body) (p := 2 * p) (c := x) hch.1).1
          have := drv_ok hm hf n false (.co (2 * p) :: .bl id :: k) fr st l h ⟨by have := hp.1; omega, hp.2⟩ e w a hE fm g r hh hends
          simp only [List.map_cons, h1, show It.item body (.bl id) = .inBlock id from rfl] at this
          exact Runs.step (fun b cs hb => calm hb (fun _ => rfl) stepR_block) this
        · rename_i x
          have h1 := item_of (body := body) (p := 2 * p) (c := x) hch.1
          have := drv_ok hm hf n false (.co (2 * p) :: .lo (2 * p) :: k) fr st l h ⟨by have := hp.1; omega, by have := hp.1; omega, hp.2⟩ e w a hE fm g r hh hends
          simp only [List.map_cons, h1.1, h1.2] at this
          exact Runs.step (fun b cs hb => calm hb (fun _ => rfl) stepR_loop) this
        · rename_i id
          split at h
          · rename_i k' hk
            have := drv_ok hm hf n false k' fr st l h (exitK_paths hk hp.2) e w a hE fm g r hh hends
            exact Runs.step (fun b cs hb => calm hb (fun _ => rfl) (stepR_exit (exitK_ok hk))) this
          · cases h
        · simp only [Option.some.injEq] at h
          subst h
          exact Runs.piece hf (wpIn_ret (hends.fin fr st (by simp) e w a (.refl r hh) fm))
        · split at h
          · rename_i hs
            split at h
            · rename_i xs hxs
              refine Runs.piece hf (codeEval_ok hm _ (noSelC_ok hs) E fr st xs hxs none e S w0 w a _ hE fm g r hh fun x fr' st' hmem e' w' a' haf hfm => ?_)
              obtain ⟨m, hm1, hm2⟩ := bindL_ok h (x, fr', st') hmem
              have he' : Ends P glob body f fn R e' S w0 st' m := (hends.sub hm2).later haf
              cases x with
              | normal => exact drv_ok hm hf n false k fr' st' m hm1 hp.2 e' w' a' (hE.later haf.later) hfm (g.later haf.later) haf.rep haf.holds he'
              | ret =>
                simp only [Option.some.injEq] at hm1
                subst hm1
                exact he'.fin fr' st' (by simp) e' w' a' (.refl haf.rep haf.holds) hfm
              | exit id =>
                simp only at hm1
                split at hm1
                · rename_i k' hk
                  exact ⟨k'.map (It.item body), exitK_ok hk, drv_ok hm hf n false k' fr' st' m hm1 (exitK_paths hk hp.2) e' w' a' (hE.later haf.later) hfm (g.later haf.later) haf.rep haf.holds he'⟩
                · cases hm1
              | goto id => cases hm1
              | panic ch => cases hm1
              | outgrown => cases hm1
            · cases h
          · cases h
end
end
end Go.Proofs.Ytddacegeepgmmaa.Sx