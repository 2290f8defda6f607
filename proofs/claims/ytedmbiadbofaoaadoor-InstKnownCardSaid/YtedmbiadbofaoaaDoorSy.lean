/- Package-level variables that are rows of numbers, which the start laid: read-only cells that the reader knows. -/
import Derived.Test.YtedmbiadbofaoaaDoorSw
import Derived.LaidMore
import Derived.SevenTiedAt
namespace Go.Proofs.YtedmbiadbofaoaaDoor.Sx
open Go Go.RowKit

/-- A variable's number, its elements' kind, and what it holds. -/
structure Tab where
  g : Nat
  k : IntKind
  ns : List Int
def Tab.cells (t : Tab) : List V := t.ns.map fun z => .n t.k (.lit z)
def tabHp : List Tab → Nat → T → T
  | [], _, h => h
  | t :: r, k, h => tabHp r (k + 1) (T.set 64 h k (.ro t.cells))
def idxOf (g : Nat) : List Tab → Nat → Option Nat
  | [], _ => none
  | t :: r, k => match Nat.beq t.g g with | true => some k | false => idxOf g r (k + 1)
def tabGlob (ts : List Tab) : Nat → Option Nat := fun g => idxOf g ts 0
def stTab (ts : List Tab) (pc : Pc) : St := { nxt := ts.length, hp := tabHp ts 0 .nil, pc := pc }
def envTab (ts : List Tab) (i : Nat → Int) (v : Nat → Value) : Env := { int := i, val := v, blk := fun k => ((ts[k]?).map Tab.g).getD 0, cap := fun _ => 0 }

theorem tabHp_get : ∀ (ts : List Tab) (k : Nat) (h : T), k + ts.length ≤ 1000 → ∀ j, (tabHp ts k h).get j = if k ≤ j ∧ j < k + ts.length then (ts[j - k]?).map fun t => Blk.ro t.cells else h.get j
  | [], k, h, _, j => by
    rw [if_neg (by simp <;> omega)]; rfl
  | t :: r, k, h, hk, j => by
    simp only [List.length_cons] at hk
    simp only [tabHp, tabHp_get r (k + 1) _ (by omega) j, List.length_cons]
    have hl : k + 1 < 2 ^ 64 := by
      have : (1001 : Nat) < 2 ^ 64 := by decide
      omega
    have g1 := T.get_set 64 h k (.ro t.cells) hl
    by_cases h1 : k + 1 ≤ j ∧ j < k + 1 + r.length
    · rw [if_pos h1, if_pos (by omega)]
      obtain ⟨i, rfl⟩ : ∃ i, j = k + 1 + i := ⟨j - (k + 1), by omega⟩
      rw [show k + 1 + i - (k + 1) = i by omega, show k + 1 + i - k = i + 1 by omega, List.getElem?_cons_succ]
    · rw [if_neg h1]
      by_cases h2 : j = k
      · subst h2
        rw [g1.1, if_pos (by omega)]; simp
      · rw [g1.2 j h2, if_neg (by omega)]

/-- Memory holds the variables. -/
def TabsOk (ts : List Tab) (w : World) : Prop := ∀ t ∈ ts, ∃ u f, w.heap[t.g]? = some (.cells (t.ns.map fun z => Value.int t.k z).toArray u f)
def distinct : List Tab → Bool
  | [] => true
  | t :: r => r.all (fun u => match Nat.beq t.g u.g with | true => false | false => true) && distinct r
theorem distinct_get : ∀ {ts : List Tab}, distinct ts = true → ∀ {i j : Nat} {t u : Tab}, ts[i]? = some t → ts[j]? = some u → t.g = u.g → i = j
  | [], _, i, j, t, u, hi, _, _ => by simp at hi
  | x :: r, h, i, j, t, u, hi, hj, hg => by
    simp only [distinct, Bool.and_eq_true, List.all_eq_true] at h
    have far : ∀ {n : Nat} {y : Tab}, r[n]? = some y → x.g ≠ y.g := fun {n y} hn he => by
      have := h.1 y (List.mem_of_getElem? hn)
      rw [he, Nat.beq_refl] at this
      cases this
    cases i with
    | zero =>
      simp only [List.getElem?_cons_zero, Option.some.injEq] at hi
      subst hi
      cases j with
      | zero => rfl
      | succ j => rw [List.getElem?_cons_succ] at hj; exact (far hj hg).elim
    | succ i =>
      rw [List.getElem?_cons_succ] at hi
      cases j with
      | zero =>
        simp only [List.getElem?_cons_zero, Option.some.injEq] at hj
        subst hj
        exact (far hi hg.symm).elim
      | succ j =>
        rw [List.getElem?_cons_succ] at hj
        rw [distinct_get h.2 hi hj hg]

theorem cells_den (e : Env) (t : Tab) : V.denL e t.cells = t.ns.map fun z => Value.int t.k z := by
  simp [Tab.cells, denL_map, Function.comp_def, V.den, N.den]
theorem cells_ok (h : T) (t : Tab) : V.okL h t.cells := okL_iff.2 fun v hv => by
  obtain ⟨z, _, rfl⟩ := List.mem_map.1 hv; trivial

theorem repTab {ts : List Tab} (hlen : ts.length ≤ 1000) (hd : distinct ts = true) (i : Nat → Int) (v : Nat → Value) {w : World} (hw : TabsOk ts w) :
    Rep (envTab ts i v) (fun _ => False) w (tabHp ts 0 .nil) w := by
  have get : ∀ {j : Nat} {b : Blk}, (tabHp ts 0 .nil).get j = some b → ∃ t, ts[j]? = some t ∧ b = .ro t.cells := fun {j b} hb => by
    rw [tabHp_get ts 0 .nil (by omega)] at hb
    split at hb
    · rw [Nat.sub_zero] at hb
      cases ht : ts[j]? with
      | none => rw [ht] at hb; cases hb
      | some t => rw [ht] at hb; cases hb; exact ⟨t, rfl, rfl⟩
    · cases hb
  have blk : ∀ {j : Nat} {t : Tab}, ts[j]? = some t → (envTab ts i v).blk j = t.g := fun {j t} ht => by simp [envTab, ht]
  refine ⟨rfl, rfl, rfl, Nat.le_refl _, fun _ _ _ => rfl, ?_, ?_, ?_, ?_, ?_⟩
  · intro j b hb
    obtain ⟨t, ht, rfl⟩ := get hb
    rw [blk ht]
    obtain ⟨u, f, hc⟩ := hw t (List.mem_of_getElem? ht)
    exact ⟨_, u, f, hc, fun k x hx => by rw [cells_den] at hx; simpa using hx⟩
  · intro j b hb hr
    obtain ⟨t, _, rfl⟩ := get hb
    exact hr.elim
  · intro j k b c hb hc _ _ he
    obtain ⟨t, ht, rfl⟩ := get hb
    obtain ⟨u, hu, rfl⟩ := get hc
    rw [blk ht, blk hu] at he
    exact distinct_get hd ht hu he
  · intro j b hb
    obtain ⟨t, _, rfl⟩ := get hb
    exact cells_ok _ t
  · intro j hj
    unfold T.has at hj
    cases hb : (tabHp ts 0 .nil).get j with
    | none => exact absurd hb hj
    | some b =>
      obtain ⟨t, ht, _⟩ := get hb
      have := (List.getElem?_eq_some_iff.1 ht).1
      omega
theorem idxOf_get {g : Nat} : ∀ {ts : List Tab} {k j : Nat}, idxOf g ts k = some j → ∃ t, k ≤ j ∧ ts[j - k]? = some t ∧ t.g = g
  | [], _, _, h => by cases h
  | t :: r, k, j, h => by
    simp only [idxOf] at h
    split at h
    · rename_i hg
      cases h
      exact ⟨t, Nat.le_refl _, by simp, beq_true hg⟩
    · obtain ⟨u, h1, h2, h3⟩ := idxOf_get h
      exact ⟨u, by omega, by rw [show j - k = (j - (k + 1)) + 1 by omega, List.getElem?_cons_succ]; exact h2, h3⟩
theorem gokTab {ts : List Tab} (hlen : ts.length ≤ 1000) (i : Nat → Int) (v : Nat → Value) : GOk (tabGlob ts) (envTab ts i v) (tabHp ts 0 .nil) := by
  intro g j hj
  obtain ⟨t, _, ht, rfl⟩ := idxOf_get hj
  rw [Nat.sub_zero] at ht
  refine ⟨?_, by simp [envTab, ht]⟩
  unfold T.has
  have := (List.getElem?_eq_some_iff.1 ht).1
  rw [tabHp_get ts 0 .nil (by omega), if_pos (by omega), Nat.sub_zero, ht]
  simp

/-- A call that the reader answers 'true', with the variables in memory: it answers true, and turns nothing that was there. -/
theorem calls_yes_tab {P : Program} {ts : List Tab} {base : Ev} (hb : Snd P (tabGlob ts) base) (hm : P.follows .mixedOrders = true) {lf n : Nat} {f : FuncId} {args : List V} {pc : Pc} (hlen : Nat.ble ts.length 1000 = true) (hd : distinct ts = true)
    (hok : V.okL (tabHp ts 0 .nil) args) (hy : yes (ev P (tabGlob ts) base lf n f args (stTab ts pc)) = true)
    (i : Nat → Int) (v : Nat → Value) (hi : Holds i pc) (w : World) (hw : TabsOk ts w) : Calls P f (V.denL (envTab ts i v) args).toArray w fun e w' => e = .returned (.bool true) ∧ Below w.heap.size w w' := by
  have hlen := Nat.le_of_ble_eq_true hlen
  cases hq : ev P (tabGlob ts) base lf n f args (stTab ts pc) with
  | none => rw [hq] at hy; cases hy
  | some l =>
    rw [hq] at hy
    refine ev_ok hb hm n f args (stTab ts pc) l hq (envTab ts i v) (fun _ => False) w w (repTab hlen hd i v hw) (gokTab hlen i v) hi hok _ fun u st' hmem e' w' haf hv => ?_
    obtain ⟨x, rfl, hd⟩ := allTrue_ok hy u st' hmem
    have := dec_tr haf.holds hd
    exact ⟨by rw [den_b, this], haf.rep.below⟩

/-! What start-up laid -/
theorem laid_var {P : Program} {w : World} : ∀ {l : List (String × DataW Unit)} {ps : List MemPlace}, DataW.LaidVars P w l ps → ∀ {n : String} {d : DataW Unit}, (n, d) ∈ l →
    ∃ g t cs fuel p, P.globalNamed n = some g ∧ (P.globals[g]?).map (·.type) = some t ∧ w.var? P n = some cs ∧ DataW.trod (fun _ => ()) P w 0 (fun _ => true) false fuel t cs.toList = some (d, p)
  | [], _, _, n, d, h => by cases h
  | (m, x) :: r, ps, hl, n, d, h => by
    obtain ⟨g, t, cs, fuel, p, q, h1, h2, h3, h4, h5, _⟩ := hl
    rcases List.mem_cons.1 h with he | hm
    · cases he; exact ⟨g, t, cs, fuel, p, h1, h2, h3, h4⟩
    · exact laid_var h5 hm
theorem ints_of_trod {P : Program} {w : World} {fuel : Nat} {k : IntKind} {t el n : Nat} {ns : List Int} {cs : List Value} {p : List MemPlace} (ht : P.underlying t = some (.array n el)) (hel : P.underlying el = some (.int k)) (hc : P.cellsOf el = 1) (hct : P.cellsOf t = n)
    (h : DataW.trod (fun _ => ()) P w 0 (fun _ => true) false fuel t cs = some (.agg (ns.map fun z => .lit (.int k z)), p)) : cs = ns.map fun z => Value.int k z := by
  obtain ⟨xs, m, rfl, hx, hlen, hn, hel'⟩ := DataW.trod_array ht h
  simp only [Prod.mk.injEq, DataW.agg.injEq] at hx
  have hx1 := hx.1
  have hl : ns.length = n := by
    have := congrArg List.length hx1
    simpa [hn] using this
  rw [hct] at hlen
  apply List.ext_getElem?
  intro i
  by_cases hi : i < n
  · have h1 := hel' i hi
    rw [hc, Nat.mul_one] at h1
    have hxi : i < xs.length := by omega
    rw [List.getElem?_eq_getElem hxi] at h1
    obtain ⟨z, e1, e2, _⟩ := DataW.trod_int hel h1
    have hz : (ns.map fun z => (DataW.lit (.int k z) : DataW Unit))[i]? = (xs.map (·.1))[i]? := by rw [hx1]
    rw [List.getElem?_map, List.getElem?_map, List.getElem?_eq_getElem hxi, e2, List.getElem?_eq_getElem (show i < ns.length by omega)] at hz
    simp only [Option.map_some, Option.some.injEq, DataW.lit.injEq, Lit.int.injEq, true_and] at hz
    rw [List.getElem?_map, List.getElem?_eq_getElem (show i < ns.length by omega), hz]
    have h3 : ((cs.drop i).take 1)[0]? = some (.int k z) := by rw [e1]; rfl
    rw [List.getElem?_take, List.getElem?_drop] at h3
    simpa using h3
  · rw [List.getElem?_eq_none (by omega), List.getElem?_eq_none (by simp; omega)]
theorem tab_of_laid {P : Program} {w : World} {l : List (String × DataW Unit)} (h : laidMet P l w) {name : String} {g t el n : Nat} {k : IntKind} {ns : List Int}
    (hm : (name, DataW.agg (ns.map fun z => .lit (.int k z))) ∈ l) (hg : P.globalNamed name = some g) (hty : (P.globals[g]?).map (·.type) = some t) (ht : P.underlying t = some (.array n el)) (hel : P.underlying el = some (.int k)) (hc : P.cellsOf el = 1) (hct : P.cellsOf t = n) :
    ∃ u f, w.heap[g]? = some (.cells (ns.map fun z => Value.int k z).toArray u f) := by
  obtain ⟨ps, hl, _⟩ := h
  obtain ⟨g', t', cs, fuel, p, h1, h2, h3, h4⟩ := laid_var hl hm
  rw [hg] at h1
  cases h1
  rw [hty] at h2
  cases h2
  have := ints_of_trod ht hel hc hct h4
  unfold World.var? at h3
  rw [hg] at h3
  simp only [Option.bind_some] at h3
  split at h3
  · rename_i c u f hh
    cases h3
    exact ⟨u, f, by rw [hh, ← this]⟩
  · cases h3
end Go.Proofs.YtedmbiadbofaoaaDoor.Sx
