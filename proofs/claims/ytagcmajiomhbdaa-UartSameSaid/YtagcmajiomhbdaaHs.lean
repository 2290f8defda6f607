/- A region that draws its order, some of whose operations yield the same whenever they come up: one schedule of it serves for all orders. -/
import Derived.Deep.RegionHeld3
set_option linter.unusedVariables false
set_option linter.unusedSimpArgs false
namespace Go.Proofs.Ytagcmajiomhbdaa
open Go
/-- Is this a schedule? (the place among those that are left, may it be taken early; which are left) -/
def schedB (md : Region.Mode) (ops : Array Oper) : List (Nat × Bool) → List Nat → Array Bool → Bool
  | [], _, l => (Region.ready md ops l).isEmpty
  | (n, b) :: r, is, l => match is[n]? with
    | some i => (match b with
      | true => Region.free md ops l i && (Region.ready md ops l).contains i
      | false => match Region.ready md ops l with
        | [j] => Nat.beq j i
        | _ => false) && schedB md ops r (is.eraseIdx n) (l.setIfInBounds i true)
    | none => false
section
variable {P : Program} {md : Region.Mode} {ops : Array Oper} {Q : Exit → Act → World → Prop} {S : World → Prop}
def wpSched (P : Program) (ops : Array Oper) (Q : Exit → Act → World → Prop) (S : World → Prop) : List (Nat × Bool) → List Oper → Act → World → Prop
  | [], _, a, w => Q .normal a w
  | (n, true) :: r, l, a, w => ∃ o v, l[n]? = some o ∧ YieldsIf P ops S o v a ∧ S w ∧ wpSched P ops Q S r (l.eraseIdx n) (a.put o.dst v) w
  | (n, false) :: r, l, a, w => ∃ o, l[n]? = some o ∧ Region.wanted o (yielded ops a.tmps) = true ∧ o.wp P a w (fun a' w' => S w' ∧ wpSched P ops Q S r (l.eraseIdx n) a' w') Q
theorem same_left {is : List Nat} {l : List Oper} (hl : ∀ k : Nat, (is[k]?).bind (fun i => ops[i]?) = l[k]?) (hlen : is.length = l.length) (n : Nat) : ∀ k : Nat, ((is.eraseIdx n)[k]?).bind (fun i => ops[i]?) = (l.eraseIdx n)[k]? := fun k => by
  rw [List.getElem?_eraseIdx, List.getElem?_eraseIdx]
  split
  · exact hl k
  · exact hl (k + 1)
theorem wpAnyH_sched (hs : Region.noSelect ops = true) (hQ : ∀ c a d v w, Q (.panic c) (a.put d v) w → Q (.panic c) a w) :
    ∀ (s : List (Nat × Bool)) (is : List Nat) (l : List Oper) (f : Nat) (listed : Array Bool) (a : Act) (w : World), (∀ k : Nat, (is[k]?).bind (fun i => ops[i]?) = l[k]?) → is.length = l.length → schedB md ops s is listed = true → wpSched P ops Q S s l a w → wpAnyH P md ops Q S (f + s.length) listed a w
  | [], is, l, f, listed, a, w, hl, hn, hb, h => wpAnyH_done (by simpa [schedB] using hb) h _
  | (n, b) :: r, is, l, f, listed, a, w, hl, hn, hb, h => by
    simp only [schedB] at hb
    rcases hi : is[n]? with _ | i
    · rw [hi] at hb; cases hb
    · rw [hi] at hb
      simp only [Bool.and_eq_true] at hb
      have hlt : n < is.length := (List.getElem?_eq_some_iff.1 hi).1
      have hk := hl n
      rw [hi, Option.bind_some] at hk
      have hn2 : (is.eraseIdx n).length = (l.eraseIdx n).length := by rw [List.length_eraseIdx, List.length_eraseIdx, hn]
      cases b with
      | true =>
        simp only [Bool.and_eq_true] at hb
        obtain ⟨o, v, ho, hy, hS, h⟩ := h
        exact wpAnyH_take (hk.trans ho) hs hb.1.1 hb.1.2 (fun c a w => hQ c a _ _ w) hy hS (wpAnyH_sched hs hQ r _ _ f _ _ w (same_left hl hn n) hn2 hb.2 h)
      | false =>
        have hr : Region.ready md ops listed = [i] := by
          have h1 := hb.1
          simp only at h1
          rcases hrd : Region.ready md ops listed with _ | ⟨j, _ | ⟨j2, t⟩⟩
          · rw [hrd] at h1; cases h1
          · rw [hrd] at h1
            rw [Nat.eq_of_beq_eq_true h1]
          · rw [hrd] at h1; cases h1
        obtain ⟨o, ho, hw, h⟩ := h
        refine wpAnyH_all hr (by simp) fun j hj => ?_
        obtain rfl : j = i := by simpa using hj
        unfold wpOp
        rw [hk.trans ho]
        show if Region.wanted o (yielded ops a.tmps) = true then _ else _
        rw [if_pos hw]
        exact .inl (Oper.wp_mono (fun a' w' h' => ⟨h'.1, wpAnyH_sched hs hQ r _ _ f _ _ w' (same_left hl hn n) hn2 hb.2 h'.2⟩) h)
theorem wp_region_sched {id : Nat} {a : Act} {w : World} {l : List Oper} (S : World → Prop) (s : List (Nat × Bool)) (hm : P.follows .mixedOrders = true) (hs : Region.noSelect l.toArray = true)
    (hb : schedB .any l.toArray s (List.range l.length) (Array.replicate l.length false) = true) (hl : Nat.beq s.length l.length = true) (hQ : ∀ c a d v w, Q (.panic c) (a.put d v) w → Q (.panic c) a w) (h : wpSched P l.toArray Q S s l a w.drew) : (Code.region id l.toArray true).wp P Q a w := by
  refine wp_region_held (S := S) hm ?_
  have := wpAnyH_sched (md := .any) hs hQ s (List.range l.length) l 0 _ _ _ (fun k => by
    by_cases hk : k < l.length
    · rw [List.getElem?_range hk]; simp
    · rw [List.getElem?_eq_none (by simpa using Nat.le_of_not_lt hk), List.getElem?_eq_none (by omega)]; rfl) (by simp) hb h
  rw [Nat.zero_add, Nat.eq_of_beq_eq_true hl] at this
  simpa using this
/-- The same, where nothing panics. -/
theorem wp_region_calm {id : Nat} {a : Act} {w : World} {l : List Oper} (S : World → Prop) (s : List (Nat × Bool)) (hm : P.follows .mixedOrders = true) (hs : Region.noSelect l.toArray = true)
    (hb : schedB .any l.toArray s (List.range l.length) (Array.replicate l.length false) = true) (hl : Nat.beq s.length l.length = true) (h : wpSched P l.toArray (NoPanic Q) S s l a w.drew) : (Code.region id l.toArray true).wp P Q a w :=
  wp_region_noPanic (wp_region_sched S s hm hs hb hl (fun _ _ _ _ _ h => h) h)
variable {r : List (Nat × Bool)} {l : List Oper} {a : Act} {w : World} {o x y : Oper} {v : Value}
theorem wpSched_take0 (hw : Region.wanted o (yielded ops a.tmps) = true) (hS : S w) (hy : ∀ w, S w → (execOp a.eval o).run P w = .ok (.value v) w) (h : wpSched P ops Q S r l (a.put o.dst v) w) : wpSched P ops Q S ((0, true) :: r) (o :: l) a w := ⟨o, v, rfl, .inl ⟨hw, hy⟩, hS, h⟩
theorem wpSched_take1 (hw : Region.wanted o (yielded ops a.tmps) = true) (hS : S w) (hy : ∀ w, S w → (execOp a.eval o).run P w = .ok (.value v) w) (h : wpSched P ops Q S r (x :: l) (a.put o.dst v) w) : wpSched P ops Q S ((1, true) :: r) (x :: o :: l) a w := ⟨o, v, rfl, .inl ⟨hw, hy⟩, hS, h⟩
theorem wpSched_take2 (hw : Region.wanted o (yielded ops a.tmps) = true) (hS : S w) (hy : ∀ w, S w → (execOp a.eval o).run P w = .ok (.value v) w) (h : wpSched P ops Q S r (x :: y :: l) (a.put o.dst v) w) : wpSched P ops Q S ((2, true) :: r) (x :: y :: o :: l) a w := ⟨o, v, rfl, .inl ⟨hw, hy⟩, hS, h⟩
theorem wpSched_skip0 (hw : Region.wanted o (yielded ops a.tmps) = false) (hS : S w) (h : wpSched P ops Q S r l (a.put o.dst undef) w) : wpSched P ops Q S ((0, true) :: r) (o :: l) a w := ⟨o, undef, rfl, .inr ⟨hw, rfl⟩, hS, h⟩
theorem wpSched_skip1 (hw : Region.wanted o (yielded ops a.tmps) = false) (hS : S w) (h : wpSched P ops Q S r (x :: l) (a.put o.dst undef) w) : wpSched P ops Q S ((1, true) :: r) (x :: o :: l) a w := ⟨o, undef, rfl, .inr ⟨hw, rfl⟩, hS, h⟩
theorem wpSched_loud0 (hw : Region.wanted o (yielded ops a.tmps) = true) (h : ∀ K : Act → World → Prop, Shut (∀ a w, S w → wpSched P ops Q S r l a w → K a w) → Oper.wp P o a w K Q) : wpSched P ops Q S ((0, false) :: r) (o :: l) a w :=
  ⟨o, rfl, hw, h _ fun a w hS hW => ⟨hS, hW⟩⟩
theorem wpSched_calm (h : Q .normal a w) : wpSched P ops (NoPanic Q) S [] l a w := h
end
end Go.Proofs.Ytagcmajiomhbdaa
