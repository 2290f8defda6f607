/- Package-level variables that are rows of numbers, which the start laid: read-only cells that the reader knows. -/
import Derived.Test.YtddacegeepgmmaaSw
import Derived.LaidMore
import Derived.SevenTiedAt
set_option linter.unusedVariables false
set_option linter.unusedSimpArgs false
namespace Go.Proofs.Ytddacegeepgmmaa.Sx
open Go Go.RowKit
noncomputable section

/-- A variable's number, its elements' kind, and what it holds. -/
structure Tab where
  g : Nat
  k : IntKind
  ns : List Int
def Tab.cells (t : Tab) : List V := t.ns.map fun z => .n t.k (.lit z)
def tabHp : List Tab → Nat → T → T
  | [], _, h => h
  | t :: r, k, h => tabHp r (k + 1) (T.set 64 h k (.ro t.cells))
def idxOf (g : Nat) : List Tab → Nat → Option Nat
  | [], _ => none
  | t :: r, k => match Nat.beq t.g g with | true => some k | false => idxOf g r (k + 1)
def tabGlob (ts : List Tab) : Nat → Option Nat := fun g => idxOf g ts 0
def stTab (ts : List Tab) (pc : Pc) : St := { nxt := ts.length, hp := tabHp ts 0 .nil, pc := pc }
def envTab (ts : List Tab) (i : Nat → Int) (v : Nat → Value) : Env := { int := i, val := v, blk := fun k => ((ts[k]?).map Tab.g).getD 0, cap := fun _ => 0, lps := fun _ => default, bas := fun _ => ⟨0, 0, none⟩ }

theorem tabHp_get : ∀ (ts : List Tab) (k : Nat) (h : T), k + ts.length ≤ 1000 → ∀ j, (tabHp ts k h).get j = if k ≤ j ∧ j < k + ts.length then (ts[j - k]?).map fun t => Blk.ro t.cells else h.get j
  | [], k, h, _, j => by
    rw [if_neg (by simp <;> omega)]; rfl
  | t :: r, k, h, hk, j => by
    simp only [List.length_cons] at hk
    simp only [tabHp, tabHp_get r (k + 1) _ (by omega) j, List.length_cons]
    have hl : k + 1 < 2 ^ 64 := by
      have : (1001 : Nat) < 2 ^ 64 := by decide
      omega
    have g1 := T.get_set 64 h k (.ro t.cells) hl
    by_cases h1 : k + 1 ≤ j ∧ j < k + 1 + r.length
    · rw [if_pos h1, if_pos (by omega)]
      obtain ⟨i, rfl⟩ : ∃ i, j = k + 1 + i := ⟨j - (k + 1), by omega⟩
      rw [show k + 1 + i - (k + 1) = i by omega, show k + 1 + i - k = i + 1 by omega, List.getElem?_cons_succ]
    · rw [if_neg h1]
      by_cases h2 : j = k
      · subst h2
        rw [g1.1, if_pos (by omega)]; simp
      · rw [g1.2 j h2, if_neg (by omega)]

/-- Memory holds the variables. -/
def TabAt (w : World) (g : Nat) (vs : List Value) : Prop := ∃ cs u f, w.heap[g]? = some (.cells cs u f) ∧ ∀ (j : Nat) (v : Value), vs[j]? = some v → cs[j]? = some v
def TabsOk (ts : List Tab) (w : World) : Prop := ∀ t ∈ ts, TabAt w t.g (t.ns.map fun z => Value.int t.k z)
def distinct : List Tab → Bool
  | [] => true
  | t :: r => r.all (fun u => match Nat.beq t.g u.g with | true => false | false => true) && distinct r
theorem distinct_get : ∀ {ts : List Tab}, distinct ts = true → ∀ {i j : Nat} {t u : Tab}, ts[i]? = some t → ts[j]? = some u → t.g = u.g → i = j
  | [], _, i, j, t, u, hi, _, _ => by simp at hi
  | x :: r, h, i, j, t, u, hi, hj, hg => by
    simp only [distinct, Bool.and_eq_true, List.all_eq_true] at h
    have far : ∀ {n : Nat} {y : Tab}, r[n]? = some y → x.g ≠ y.g := fun {n y} hn he => by
      have := h.1 y (List.mem_of_getElem? hn)
      rw [he, Nat.beq_refl] at this
      cases this
    cases i with
    | zero =>
      simp only [List.getElem?_cons_zero, Option.some.injEq] at hi
      subst hi
      cases j with
      | zero => rfl
      | succ j => rw [List.getElem?_cons_succ] at hj; exact (far hj hg).elim
    | succ i =>
      rw [List.getElem?_cons_succ] at hi
      cases j with
      | zero =>
        simp only [List.getElem?_cons_zero, Option.some.injEq] at hj
        subst hj
        exact (far hi hg.symm).elim
      | succ j =>
        rw [List.getElem?_cons_succ] at hj
        rw [distinct_get h.2 hi hj hg]

theorem cells_den (e : Env) (t : Tab) : V.denL e t.cells = t.ns.map fun z => Value.int t.k z := by
  simp [Tab.cells, denL_map, Function.comp_def, V.den, N.den]
theorem cells_ok (h : T) (t : Tab) : V.okL h t.cells := okL_iff.2 fun v hv => by
  obtain ⟨z, _, rfl⟩ := List.mem_map.1 hv; trivial

theorem repTab {ts : List Tab} (hlen : ts.length ≤ 1000) (hd : distinct ts = true) (i : Nat → Int) (v : Nat → Value) {w : World} (hw : TabsOk ts w) :
    Rep (envTab ts i v) (fun _ => False) w (tabHp ts 0 .nil) w := by
  have get : ∀ {j : Nat} {b : Blk}, (tabHp ts 0 .nil).get j = some b → ∃ t, ts[j]? = some t ∧ b = .ro t.cells := fun {j b} hb => by
    rw [tabHp_get ts 0 .nil (by omega)] at hb
    split at hb
    · rw [Nat.sub_zero] at hb
      cases ht : ts[j]? with
      | none => rw [ht] at hb; cases hb
      | some t => rw [ht] at hb; cases hb; exact ⟨t, rfl, rfl⟩
    · cases hb
  have blk : ∀ {j : Nat} {t : Tab}, ts[j]? = some t → (envTab ts i v).blk j = t.g := fun {j t} ht => by simp [envTab, ht]
  refine ⟨rfl, rfl, rfl, Nat.le_refl _, fun _ _ _ => rfl, ?_, ?_, ?_, ?_, ?_⟩
  · intro j b hb
    obtain ⟨t, ht, rfl⟩ := get hb
    rw [blk ht]
    obtain ⟨cs, u, f, hc, hp⟩ := hw t (List.mem_of_getElem? ht)
    exact ⟨cs, u, f, hc, fun k x hx => by rw [cells_den] at hx; exact hp k x hx⟩
  · intro j b hb hr
    obtain ⟨t, _, rfl⟩ := get hb
    exact hr.elim
  · intro j k b c hb hc _ _ he
    obtain ⟨t, ht, rfl⟩ := get hb
    obtain ⟨u, hu, rfl⟩ := get hc
    rw [blk ht, blk hu] at he
    exact distinct_get hd ht hu he
  · intro j b hb
    obtain ⟨t, _, rfl⟩ := get hb
    exact cells_ok _ t
  · intro j hj
    unfold T.has at hj
    cases hb : (tabHp ts 0 .nil).get j with
    | none => exact absurd hb hj
    | some b =>
      obtain ⟨t, ht, _⟩ := get hb
      have := (List.getElem?_eq_some_iff.1 ht).1
      omega
theorem idxOf_get {g : Nat} : ∀ {ts : List Tab} {k j : Nat}, idxOf g ts k = some j → ∃ t, k ≤ j ∧ ts[j - k]? = some t ∧ t.g = g
  | [], _, _, h => by cases h
  | t :: r, k, j, h => by
    simp only [idxOf] at h
    split at h
    · rename_i hg
      cases h
      exact ⟨t, Nat.le_refl _, by simp, beq_true hg⟩
    · obtain ⟨u, h1, h2, h3⟩ := idxOf_get h
      exact ⟨u, by omega, by rw [show j - k = (j - (k + 1)) + 1 by omega, List.getElem?_cons_succ]; exact h2, h3⟩
theorem gokTab {ts : List Tab} (hlen : ts.length ≤ 1000) (i : Nat → Int) (v : Nat → Value) : GOk (tabGlob ts) (envTab ts i v) (tabHp ts 0 .nil) := by
  intro g j hj
  obtain ⟨t, _, ht, rfl⟩ := idxOf_get hj
  rw [Nat.sub_zero] at ht
  refine ⟨?_, by simp [envTab, ht]⟩
  unfold T.has
  have := (List.getElem?_eq_some_iff.1 ht).1
  rw [tabHp_get ts 0 .nil (by omega), if_pos (by omega), Nat.sub_zero, ht]
  simp

/-- A call that the reader answers 'true', with the variables in memory: it answers true, and turns nothing that was there. -/
theorem calls_yes_tab {P : Program} {ts : List Tab} {base : Ev} (hb : Snd P (tabGlob ts) base) (hm : P.follows .mixedOrders = true) {lf n : Nat} {f : FuncId} {args : List V} {pc : Pc} (hlen : Nat.ble ts.length 1000 = true) (hd : distinct ts = true)
    (hok : V.okL (tabHp ts 0 .nil) args) (hy : yes (ev P (tabGlob ts) base lf n [] f args (stTab ts pc)) = true)
    (i : Nat → Int) (v : Nat → Value) (hi : Holds i pc) (w : World) (hw : TabsOk ts w) : Calls P f (V.denL (envTab ts i v) args).toArray w fun e w' => e = .returned (.bool true) ∧ Below w.heap.size w w' := by
  have hlen := Nat.le_of_ble_eq_true hlen
  cases hq : ev P (tabGlob ts) base lf n [] f args (stTab ts pc) with
  | none => rw [hq] at hy; cases hy
  | some l =>
    rw [hq] at hy
    refine (callsIn_wide (n := 0)).1 (ev_ok hb hm n [] f args (stTab ts pc) l hq (envTab ts i v) (fun _ => False) w w rs0 (repTab hlen hd i v hw) (gokTab hlen i v) hi hok _ fun u st' hmem e' w' haf hv => ?_)
    obtain ⟨x, rfl, hd⟩ := allTrue_ok hy u st' hmem
    have := dec_tr haf.holds hd
    exact ⟨by rw [den_b, this], haf.rep.below⟩

/-! Calls that are kept, where variables are read -/
def keptOkT (P : Program) (ts : List Tab) (base : Ev) (lf n : Nat) : List Kept → Bool
  | [] => true
  | k :: l => (V.plainL k.args && V.plain k.val) && ((match ev P (tabGlob ts) base lf n [] k.fn k.args (stTab ts []) with
    | some ways => allSame k.val ways
    | none => false) && keptOkT P ts base lf n l)
/-- Is so, whatever memory holds besides the variables. -/
def Kept.isT (P : Program) (ts : List Tab) (k : Kept) : Prop :=
  V.plainL k.args = true ∧ V.plain k.val = true ∧ ∀ e w, TabsOk ts w → Calls P k.fn (V.denL e k.args).toArray w fun x w' => x = .returned (k.val.den e) ∧ Below w.heap.size w w'
theorem keptT_is {P : Program} {ts : List Tab} {base : Ev} (hb : Snd P (tabGlob ts) base) (hm : P.follows .mixedOrders = true) (hlen : Nat.ble ts.length 1000 = true) (hd : distinct ts = true) {lf n : Nat} : ∀ {l : List Kept}, keptOkT P ts base lf n l = true → ∀ k ∈ l, k.isT P ts
  | [], _, k, h => by cases h
  | k' :: l, h, k, hmem => by
    simp only [keptOkT, Bool.and_eq_true] at h
    obtain ⟨⟨h1, h2⟩, h3, h4⟩ := h
    rcases List.mem_cons.1 hmem with heq | hmem
    · subst heq
      refine ⟨h1, h2, fun e w hw => ?_⟩
      have hl := Nat.le_of_ble_eq_true hlen
      have lat : Later (envTab ts e.int e.val) e .nil .nil := ⟨rfl, rfl, fun _ h => h, fun i h => absurd rfl h, fun i h => absurd rfl h, fun i h => absurd rfl h, fun i h => absurd rfl h⟩
      cases hq : ev P (tabGlob ts) base lf n [] k.fn k.args (stTab ts []) with
      | none => rw [hq] at h3; cases h3
      | some ways =>
        rw [hq] at h3
        have hx := (callsIn_wide (n := 0)).1 (ev_ok hb hm n [] k.fn k.args (stTab ts []) ways hq (envTab ts e.int e.val) (fun _ => False) w w rs0 (repTab hl hd e.int e.val hw) (gokTab hl e.int e.val) (fun _ _ h => by cases h) (V.plainL_ok _ h1) (fun x w' => x = .returned (k.val.den e) ∧ Below w.heap.size w w') fun u st' hmem' e' w' haf hv => ?_)
        · rwa [← V.denL_later lat (V.plainL_ok _ h1)] at hx
        · cases allSame_ok h3 u st' hmem'
          refine ⟨?_, haf.rep.below⟩
          have a := V.den_later haf.later (v := k.val) (V.plain_ok _ h2)
          have b := V.den_later lat (v := k.val) (V.plain_ok _ h2)
          rw [a, b]
    · exact keptT_is hb hm hlen hd h4 k hmem
/-- Are the variables where they are looked for? -/
def tabsIn (ts : List Tab) (h : T) : List Tab → Bool
  | [] => true
  | t :: r => (match tabGlob ts t.g with
    | some k => match h.get k with
      | some (.ro l) => V.sameL l t.cells
      | _ => false
    | none => false) && tabsIn ts h r
def findKeptT (f : Nat) (args : List V) : List Kept → Option V
  | [] => none
  | k :: l => match Nat.beq k.fn f with
    | true => match V.sameL k.args args with
      | true => some k.val
      | false => findKeptT f args l
    | false => findKeptT f args l
def keptEvT (ts : List Tab) (tab : List Kept) : Ev := fun _ f args st => match findKeptT f args tab with
  | some v => match tabsIn ts st.hp ts with
    | true => some [(v, st)]
    | false => none
  | none => none
theorem findKeptT_ok {P : Program} {ts : List Tab} {f : Nat} {args : List V} {v : V} : ∀ {tab : List Kept}, (∀ k ∈ tab, k.isT P ts) → findKeptT f args tab = some v → ∃ k : Kept, k.isT P ts ∧ k.fn = f ∧ k.args = args ∧ k.val = v
  | [], _, h => by cases h
  | k :: l, ht, h => by
    simp only [findKeptT] at h
    have rest : findKeptT f args l = some v → ∃ k : Kept, k.isT P ts ∧ k.fn = f ∧ k.args = args ∧ k.val = v :=
      fun h => findKeptT_ok (fun k hk => ht k (List.mem_cons_of_mem _ hk)) h
    split at h
    · rename_i h1
      split at h
      · rename_i h2
        cases h
        exact ⟨k, ht k (List.mem_cons_self ..), Nat.eq_of_beq_eq_true h1, V.sameL_eq h2, rfl⟩
      · exact rest h
    · exact rest h
theorem tabsIn_ok {ts : List Tab} {e : Env} {S : Nat → Prop} {w0 w : World} {h : T} (r : Rep e S w0 h w) (g : GOk (tabGlob ts) e h) : ∀ {us : List Tab}, tabsIn ts h us = true → TabsOk us w
  | [], _, t, ht => by cases ht
  | u :: us, hq, t, ht => by
    simp only [tabsIn, Bool.and_eq_true] at hq
    rcases List.mem_cons.1 ht with heq | hm
    · subst heq
      have h1 := hq.1
      split at h1
      · rename_i k hk
        split at h1
        · rename_i l hl
          have hs := V.sameL_eq h1
          subst hs
          obtain ⟨cs, x, f, hc, hp⟩ := r.blk k _ hl
          rw [(g _ _ hk).2] at hc
          exact ⟨cs, x, f, hc, fun j v hv => hp j v (by rw [cells_den]; exact hv)⟩
        · cases h1
      · cases h1
    · exact tabsIn_ok r g hq.2 t hm
theorem keptEvT_ok {P : Program} {ts : List Tab} {tab : List Kept} (ht : ∀ k ∈ tab, k.isT P ts) : Snd P (tabGlob ts) (keptEvT ts tab) := by
  intro rs f args st ways h e S w0 w _ r g hh _ R hR
  simp only [keptEvT] at h
  split at h
  · rename_i v hf
    split at h
    · rename_i htab
      cases h
      obtain ⟨k, hk, rfl, rfl, rfl⟩ := findKeptT_ok ht hf
      refine (callsIn_wide (n := 0)).2 ((hk.2.2 e w (tabsIn_ok r g htab)).mono fun x w' ⟨hx, hb⟩ => ?_)
      subst hx
      exact hR _ _ (List.mem_singleton.2 rfl) e w' ⟨.refl _ _, r.past hb, hh⟩ (V.plain_ok _ hk.2.1)
    · cases h
  · cases h

/-! What start-up laid -/
theorem laid_var {P : Program} {w : World} : ∀ {l : List (String × DataW Unit)} {ps : List MemPlace}, DataW.LaidVars P w l ps → ∀ {n : String} {d : DataW Unit}, (n, d) ∈ l →
    ∃ g t cs fuel p, P.globalNamed n = some g ∧ (P.globals[g]?).map (·.type) = some t ∧ w.var? P n = some cs ∧ DataW.trod (fun _ => ()) P w 0 (fun _ => true) false fuel t cs.toList = some (d, p)
  | [], _, _, n, d, h => by cases h
  | (m, x) :: r, ps, hl, n, d, h => by
    obtain ⟨g, t, cs, fuel, p, q, h1, h2, h3, h4, h5, _⟩ := hl
    rcases List.mem_cons.1 h with he | hm
    · cases he; exact ⟨g, t, cs, fuel, p, h1, h2, h3, h4⟩
    · exact laid_var h5 hm
theorem ints_of_trod {P : Program} {w : World} {fuel : Nat} {k : IntKind} {t el n : Nat} {ns : List Int} {cs : List Value} {p : List MemPlace} (ht : P.underlying t = some (.array n el)) (hel : P.underlying el = some (.int k)) (hc : P.cellsOf el = 1) (hct : P.cellsOf t = n)
    (h : DataW.trod (fun _ => ()) P w 0 (fun _ => true) false fuel t cs = some (.agg (ns.map fun z => .lit (.int k z)), p)) : cs = ns.map fun z => Value.int k z := by
  obtain ⟨xs, m, rfl, hx, hlen, hn, hel'⟩ := DataW.trod_array ht h
  simp only [Prod.mk.injEq, DataW.agg.injEq] at hx
  have hx1 := hx.1
  have hl : ns.length = n := by
    have := congrArg List.length hx1
    simpa [hn] using this
  rw [hct] at hlen
  apply List.ext_getElem?
  intro i
  by_cases hi : i < n
  · have h1 := hel' i hi
    rw [hc, Nat.mul_one] at h1
    have hxi : i < xs.length := by omega
    rw [List.getElem?_eq_getElem hxi] at h1
    obtain ⟨z, e1, e2, _⟩ := DataW.trod_int hel h1
    have hz : (ns.map fun z => (DataW.lit (.int k z) : DataW Unit))[i]? = (xs.map (·.1))[i]? := by rw [hx1]
    rw [List.getElem?_map, List.getElem?_map, List.getElem?_eq_getElem hxi, e2, List.getElem?_eq_getElem (show i < ns.length by omega)] at hz
    simp only [Option.map_some, Option.some.injEq, DataW.lit.injEq, Lit.int.injEq, true_and] at hz
    rw [List.getElem?_map, List.getElem?_eq_getElem (show i < ns.length by omega), hz]
    have h3 : ((cs.drop i).take 1)[0]? = some (.int k z) := by rw [e1]; rfl
    rw [List.getElem?_take, List.getElem?_drop] at h3
    simpa using h3
  · rw [List.getElem?_eq_none (by omega), List.getElem?_eq_none (by simp; omega)]
theorem tab_of_laid {P : Program} {w : World} {l : List (String × DataW Unit)} (h : laidMet P l w) {name : String} {g t el n : Nat} {k : IntKind} {ns : List Int}
    (hm : (name, DataW.agg (ns.map fun z => .lit (.int k z))) ∈ l) (hg : P.globalNamed name = some g) (hty : (P.globals[g]?).map (·.type) = some t) (ht : P.underlying t = some (.array n el)) (hel : P.underlying el = some (.int k)) (hc : P.cellsOf el = 1) (hct : P.cellsOf t = n) :
    TabAt w g (ns.map fun z => Value.int k z) := by
  obtain ⟨ps, hl, _⟩ := h
  obtain ⟨g', t', cs, fuel, p, h1, h2, h3, h4⟩ := laid_var hl hm
  rw [hg] at h1
  cases h1
  rw [hty] at h2
  cases h2
  have := ints_of_trod ht hel hc hct h4
  unfold World.var? at h3
  rw [hg] at h3
  simp only [Option.bind_some] at h3
  split at h3
  · rename_i c u f hh
    cases h3
    exact ⟨_, u, f, hh, fun j v hv => by rw [← this] at hv; simpa using hv⟩
  · cases h3
end
end Go.Proofs.Ytddacegeepgmmaa.Sx