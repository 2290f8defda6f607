/- Arguments of any flat kind, opened all at once: each cell a number of its own; one row that comes in. -/
import Derived.Test.YtddacegeepgmmaaUc
import Derived.Test.YtddacegeepgmmaaSy
import Derived.Carry
set_option linter.unusedVariables false
set_option linter.unusedSimpArgs false
namespace Go.Proofs.Ytddacegeepgmmaa.Sx
open Go Go.RowKit Go.ChangeShapes Go.WideShapes
noncomputable section

/-- What a parameter is: a cell; a struct or an array of cells; a value that is told, with as many numbers. -/
inductive Ps where
  | one (k : Option IntKind)
  | flat (ks : List (Option IntKind))
  | giv (v : V) (n : Nat)
def cellV (k : Option IntKind) (i : Nat) : V := match k with
  | some k => .n k (.var i (kLo k) (kHi k))
  | none => .b (.var i 0 1)
def cellsV : List (Option IntKind) → Nat → List V
  | [], _ => []
  | k :: ks, i => cellV k i :: cellsV ks (i + 1)
def psV : List Ps → Nat → List V
  | [], _ => []
  | .one k :: l, i => cellV k i :: psV l (i + 1)
  | .flat ks :: l, i => .agg (cellsV ks i) :: psV l (i + ks.length)
  | .giv v n :: l, i => v :: psV l (i + n)
def psLen : List Ps → Nat
  | [] => 0
  | .one _ :: l => 1 + psLen l
  | .flat ks :: l => ks.length + psLen l
  | .giv _ n :: l => n + psLen l
/-- Are the parameters' types so? -/
def psOk (P : Program) : List TypeId → List Ps → Bool
  | [], [] => true
  | t :: ts, .one k :: l => (match P.underlying t, k with
    | some (.int a), some b => kindSame a b
    | some .bool, none => true
    | _, _ => false) && psOk P ts l
  | t :: ts, .flat ks :: l => (match P.underlying t with
    | some (.struct _) => true
    | some (.array _ _) => true
    | _ => false) && (kindsOk P t ks 0 && psOk P ts l)
  | _ :: ts, .giv _ _ :: l => psOk P ts l
  | _, _ => false

def leafInt : Value → Int
  | .int _ n => n
  | .bool b => bI b
  | _ => 0
/-- The numbers of the arguments, one behind the other. -/
def psInts : List Ps → List Value → List Int → List Int
  | .one _ :: l, v :: vs, g => leafInt v :: psInts l vs g
  | .flat ks :: l, v :: vs, g => (v.cells.toList.take ks.length).map leafInt ++ psInts l vs g
  | .giv _ n :: l, _ :: vs, g => g.take n ++ (List.replicate (n - (g.take n).length) 0 ++ psInts l vs g)
  | _, _, _ => []

theorem cellV_den (e : Env) {k : Option IntKind} {v : Value} (h : Leaf k v) {i : Nat} (hi : e.int i = leafInt v) : (cellV k i).den e = v := by
  cases k with
  | some k =>
    obtain ⟨z, rfl, hw⟩ := h
    have := kLo_kHi_wf hw
    simp only [cellV, V.den, N.den, hi, leafInt]
    congr 1; omega
  | none =>
    obtain ⟨b, rfl⟩ := h
    simp only [cellV, V.den, N.den, hi, leafInt]
    cases b <;> rfl
theorem cellsV_den (e : Env) : ∀ {ks : List (Option IntKind)} {l : List Value} {i : Nat}, Leaves ks l → (∀ j, j < ks.length → e.int (i + j) = ((l.map leafInt)[j]?).getD 0) → V.denL e (cellsV ks i) = l ∧ l.length = ks.length
  | [], l, i, h, _ => by
    have h : l = [] := h
    subst h; exact ⟨rfl, rfl⟩
  | k :: ks, l, i, h, hi => by
    obtain ⟨v, r, rfl, h1, h2⟩ := h
    have h0 := hi 0 (by simp)
    simp only [List.map_cons, List.getElem?_cons_zero, Option.getD_some, Nat.add_zero] at h0
    obtain ⟨r1, r2⟩ := cellsV_den e (i := i + 1) h2 (fun j hj => by
      have := hi (j + 1) (by simp; omega)
      simp only [List.map_cons, List.getElem?_cons_succ] at this
      rw [← this]; congr 1; omega)
    exact ⟨by simp only [cellsV, V.denL, cellV_den e h1 h0, r1], by simp [r2]⟩
theorem leaves_len : ∀ {ks : List (Option IntKind)} {l : List Value}, Leaves ks l → l.length = ks.length
  | [], l, h => by have h : l = [] := h; subst h; rfl
  | k :: ks, l, h => by
    obtain ⟨v, r, rfl, _, h2⟩ := h
    simp [leaves_len h2]
theorem open_agg {H : Type} {enc : TypeId × Value → H} {P : Program} {W : World} {b0 base : Nat} {r : Reach} {sp : Nat → Bool} {held : Bool} {t : TypeId} (hu : (match P.underlying t with | some (.struct _) => true | some (.array _ _) => true | _ => false) = true) {ks : List (Option IntKind)} (hk : kindsOk P t ks 0 = true)
    {v : Value} {d : DataW H} {p : List MemPlace} (hok : Value.okWide P W r b0 t v) (h : DataW.Trod enc P W base sp held t v d p) : ∃ l : List Value, v = .agg l.toArray ∧ Leaves ks l := by
  obtain ⟨fuel, hf⟩ := h
  have fin : ∀ cs : Array Value, v = .agg cs → cs.size = P.cellsOf t → ∃ l : List Value, v = .agg l.toArray ∧ Leaves ks l := fun cs hv h2 => by
    subst hv
    have hcs : (Value.agg cs).cells.toList = cs.toList := rfl
    rw [hcs] at hf
    exact ⟨cs.toList, by simp, leaves_of (by simpa using h2) hf hk⟩
  split at hu
  · rename_i fs hq
    simp only [Value.okWide, hq] at hok
    obtain ⟨cs, hv, h2, _⟩ := hok
    exact fin cs hv h2
  · rename_i n el hq
    simp only [Value.okWide, hq] at hok
    obtain ⟨cs, hv, h2, _⟩ := hok
    exact fin cs hv h2
  · cases hu
theorem open_cell {H : Type} {enc : TypeId × Value → H} {P : Program} {W : World} {b0 base : Nat} {r : Reach} {sp : Nat → Bool} {held : Bool} {t : TypeId} {k : Option IntKind} (hu : (match P.underlying t, k with | some (.int a), some b => kindSame a b | some .bool, none => true | _, _ => false) = true)
    {v : Value} {d : DataW H} {p : List MemPlace} (hok : Value.okWide P W r b0 t v) (h : DataW.Trod enc P W base sp held t v d p) : Leaf k v := by
  split at hu
  · rename_i a b hq
    have := kindSame_eq hu
    subst this
    obtain ⟨z, rfl, _, _, w⟩ := open_int hq hok h
    exact ⟨z, rfl, w⟩
  · rename_i hq
    obtain ⟨z, rfl, _⟩ := open_bool hq hok h
    exact ⟨z, rfl⟩
  · cases hu
/-- **Arguments are what the reader takes them for.** -/
theorem open_args {H : Type} {enc : TypeId × Value → H} {P : Program} {W : World} {b0 base : Nat} {r : Reach} {sp : Nat → Bool} {held : Bool} (e : Env) {g : List Int} :
    ∀ {ts : List TypeId} {l : List Ps} {vs : List Value} {ds : List (DataW H)} {ps : List MemPlace} {i : Nat}, psOk P ts l = true → DataW.TrodAll enc P W base sp held ts vs ds ps →
      (∀ (j : Nat) t v, ts[j]? = some t → vs[j]? = some v → Value.okWide P W r b0 t v) → (∀ (j : Nat) v n u, l[j]? = some (.giv v n) → vs[j]? = some u → v.den e = u) →
      i + psLen l ≤ 1000 → (∀ j, i + j < 1000 → e.int (i + j) = ((psInts l vs g)[j]?).getD 0) → V.denL e (psV l i) = vs
  | [], [], vs, ds, ps, i, _, h, _, _, _, _ => by
    cases vs with
    | nil => rfl
    | cons v vs => cases ds <;> exact h.elim
  | [], _ :: _, _, _, _, _, hk, _, _, _, _, _ => by cases hk
  | _ :: _, [], _, _, _, _, hk, _, _, _, _, _ => by cases hk
  | t :: ts, x :: l, vs, ds, ps, i, hk, h, hok, hg, hn, hi => by
    obtain ⟨v, vs', d, ds', p, q, rfl, rfl, rfl, h1, h2⟩ := trodAll_cons h
    have ok0 : Value.okWide P W r b0 t v := hok 0 t v rfl rfl
    have ok1 : ∀ (j : Nat) t v, ts[j]? = some t → vs'[j]? = some v → Value.okWide P W r b0 t v := fun j t v a b => hok (j + 1) t v (by simpa using a) (by simpa using b)
    have hg1 : ∀ (j : Nat) v n u, l[j]? = some (.giv v n) → vs'[j]? = some u → v.den e = u := fun j v n u a b => hg (j + 1) v n u (by simpa using a) (by simpa using b)
    cases x with
    | one k =>
      simp only [psOk, Bool.and_eq_true] at hk
      have hl := open_cell hk.1 ok0 h1
      simp only [psLen] at hn
      have h0 := hi 0 (by omega)
      simp only [psInts, List.getElem?_cons_zero, Option.getD_some, Nat.add_zero] at h0
      simp only [psV, V.denL, cellV_den e hl h0]
      rw [open_args e (i := i + 1) hk.2 h2 ok1 hg1 (by omega) (fun j hj => by
        have := hi (j + 1) (by omega)
        simp only [psInts, List.getElem?_cons_succ] at this
        rw [← this]; congr 1; omega)]
    | flat ks =>
      simp only [psOk, Bool.and_eq_true] at hk
      obtain ⟨cs, rfl, hl⟩ := open_agg hk.1 hk.2.1 ok0 h1
      have hlen := leaves_len hl
      have hcs : (Value.agg cs.toArray).cells.toList = cs := rfl
      have htake : cs.take ks.length = cs := by rw [← hlen]; exact List.take_length
      simp only [psLen] at hn
      have c := cellsV_den e (i := i) hl (fun j hj => by
        have := hi j (by omega)
        simp only [psInts, hcs, htake] at this
        rw [List.getElem?_append_left (by simp; omega)] at this
        exact this)
      simp only [psV, V.denL, V.den, c.1]
      rw [open_args e (i := i + ks.length) hk.2.2 h2 ok1 hg1 (by omega) (fun j hj => by
        have := hi (ks.length + j) (by omega)
        simp only [psInts, hcs, htake] at this
        rw [List.getElem?_append_right (by simp; omega)] at this
        rw [Nat.add_assoc, this]
        congr 2
        simp [hlen])]
    | giv x n =>
      simp only [psOk] at hk
      have hx := hg 0 x n v rfl rfl
      simp only [psLen] at hn
      simp only [psV, V.denL, hx]
      rw [open_args e (i := i + n) hk h2 ok1 hg1 (by omega) (fun j hj => by
        have := hi (n + j) (by omega)
        simp only [psInts] at this
        rw [Nat.add_assoc, this, List.getElem?_append_right (by simp; omega), List.getElem?_append_right (by simp; omega)]
        congr 2
        simp; omega)]

/-- A truth is so, or not. -/
theorem by_case {e : Nat → Int} {G : Prop} (c : N) {pc : Pc} (hy : Holds e ((c, true) :: pc) → G) (hn : Holds e ((c, false) :: pc) → G) (h : Holds e pc) : G := by
  by_cases hc : c.den e ≠ 0
  · exact hy (h.cons (by simp [hc]))
  · exact hn (h.cons (by simpa using hc))
theorem tabGlob_lt {ts : List Tab} : ∀ g i, tabGlob ts g = some i → i < ts.length := fun g i h => by
  obtain ⟨t, _, h2, _⟩ := idxOf_get h
  rw [Nat.sub_zero] at h2
  exact (List.getElem?_eq_some_iff.1 h2).1
/-- What stands open in arguments that are all flat. -/
def intsOf (l : List Ps) (vs : List Value) (g : List Int) : Nat → Int := fun j => ((psInts l vs g)[j]?).getD 0

/-- The arguments lie as they lay. -/
theorem trodAll_below {H : Type} {enc : TypeId × Value → H} {P : Program} (hl : laidOutB P = true) {W W' : World} (hb : Below W.heap.size W W') :
    ∀ {ts : List TypeId} {vs : List Value} {ds : List (DataW H)} {ps : List MemPlace}, (ts.all fun t => P.readableRec t && Nat.blt t P.types.size) = true → DataW.TrodAll enc P W 0 (fun _ => true) true ts vs ds ps → DataW.TrodAll enc P W' 0 (fun b => decide (b < W.heap.size)) true ts vs ds ps
  | [], vs, ds, ps, _, h => by cases vs <;> cases ds <;> exact h
  | t :: ts, vs, ds, ps, hr, h => by
    obtain ⟨v, vs', d, ds', p, q, rfl, rfl, rfl, h1, h2⟩ := trodAll_cons h
    simp only [List.all_cons, Bool.and_eq_true, Nat.blt_eq] at hr
    have lt : ∀ x ∈ p, x.block < W.heap.size := by obtain ⟨m, hm⟩ := h1; exact DataW.trod_lt m _ _ _ hm
    exact trodAll_cons_mk (Below.trod hl hr.1.1 hr.1.2 h1 hb lt) (trodAll_below hl hb (List.all_eq_true.2 fun x hx => by
      have := List.all_eq_true.1 hr.2 x hx
      exact this) h2)
end
end Go.Proofs.Ytddacegeepgmmaa.Sx
