/- A region that draws its order, some of whose operations yield the same whenever they come up: one schedule of it serves for all orders. What is held may grow on the way. -/
import Derived.Deep.RegionHeld3
set_option linter.unusedVariables false
set_option linter.unusedSimpArgs false
namespace Go.Proofs.Ytilfhkagfjdfkaa
open Go
/-- A move: e n: the n-th of those that are left may be taken early; l n: it alone may come up; s: from here on more is held. -/
inductive Mv where
  | e (n : Nat)
  | l (n : Nat)
  | s
def nextIs (md : Region.Mode) (ops : Array Oper) (l : Array Bool) (i : Nat) : Bool := match Region.ready md ops l with
  | [j] => Nat.beq j i
  | _ => false
def movesB (md : Region.Mode) (ops : Array Oper) : List Mv → List Nat → Array Bool → Bool
  | [], _, l => (Region.ready md ops l).isEmpty
  | .e n :: r, is, l => match is[n]? with
    | some i => Region.free md ops l i && (Region.ready md ops l).contains i && movesB md ops r (is.eraseIdx n) (l.setIfInBounds i true)
    | none => false
  | .l n :: r, is, l => match is[n]? with
    | some i => nextIs md ops l i && movesB md ops r (is.eraseIdx n) (l.setIfInBounds i true)
    | none => false
  | .s :: r, is, l => movesB md ops r is l
def movesN : List Mv → Nat
  | [] => 0
  | .e _ :: r => movesN r + 1
  | .l _ :: r => movesN r + 1
  | .s :: r => movesN r
section
variable {P : Program} {md : Region.Mode} {ops : Array Oper} {Q : Exit → Act → World → Prop} {S : World → Prop}
def wpMoves (P : Program) (ops : Array Oper) (Q : Exit → Act → World → Prop) : List Mv → (World → Prop) → List Oper → Act → World → Prop
  | [], _, _, a, w => Q .normal a w
  | .e n :: r, S, l, a, w => ∃ o v, l[n]? = some o ∧ YieldsIf P ops S o v a ∧ S w ∧ wpMoves P ops Q r S (l.eraseIdx n) (a.put o.dst v) w
  | .l n :: r, S, l, a, w => ∃ o, l[n]? = some o ∧ Region.wanted o (yielded ops a.tmps) = true ∧ o.wp P a w (fun a' w' => S w' ∧ wpMoves P ops Q r S (l.eraseIdx n) a' w') Q
  | .s :: r, S, l, a, w => ∃ S1 : World → Prop, (∀ w, S1 w → S w) ∧ wpMoves P ops Q r S1 l a w
theorem moves_left {is : List Nat} {l : List Oper} (hl : ∀ k : Nat, (is[k]?).bind (fun i => ops[i]?) = l[k]?) (hlen : is.length = l.length) (n : Nat) : ∀ k : Nat, ((is.eraseIdx n)[k]?).bind (fun i => ops[i]?) = (l.eraseIdx n)[k]? := fun k => by
  rw [List.getElem?_eraseIdx, List.getElem?_eraseIdx]
  split
  · exact hl k
  · exact hl (k + 1)
theorem wpAnyH_grow {S1 : World → Prop} (hS : ∀ w, S1 w → S w) : ∀ (f : Nat) (l : Array Bool) (a : Act) (w : World), wpAnyH P md ops Q S1 f l a w → wpAnyH P md ops Q S f l a w
  | 0, _, _, _, h => h
  | f + 1, _, _, _, h => ⟨h.1, fun i hi => wpOp_mono (fun a' w' h' => ⟨hS w' h'.1, wpAnyH_grow hS f _ a' w' h'.2⟩) (h.2 i hi)⟩
theorem nextIs_ready {l : Array Bool} {i : Nat} (h : nextIs md ops l i = true) : Region.ready md ops l = [i] := by
  unfold nextIs at h
  rcases hrd : Region.ready md ops l with _ | ⟨j, _ | ⟨j2, t⟩⟩
  · rw [hrd] at h; cases h
  · rw [hrd] at h
    rw [Nat.eq_of_beq_eq_true h]
  · rw [hrd] at h; cases h
theorem wpAnyH_moves (hs : Region.noSelect ops = true) (hQ : ∀ c a d v w, Q (.panic c) (a.put d v) w → Q (.panic c) a w) :
    ∀ (s : List Mv) (S : World → Prop) (is : List Nat) (l : List Oper) (f : Nat) (listed : Array Bool) (a : Act) (w : World), (∀ k : Nat, (is[k]?).bind (fun i => ops[i]?) = l[k]?) → is.length = l.length → movesB md ops s is listed = true → wpMoves P ops Q s S l a w → wpAnyH P md ops Q S (f + movesN s) listed a w
  | [], S, is, l, f, listed, a, w, hl, hn, hb, h => wpAnyH_done (by simpa [movesB] using hb) h _
  | .s :: r, S, is, l, f, listed, a, w, hl, hn, hb, h => by
    obtain ⟨S1, h1, h2⟩ := h
    exact wpAnyH_grow h1 _ _ _ _ (wpAnyH_moves hs hQ r S1 is l f listed a w hl hn hb h2)
  | .e n :: r, S, is, l, f, listed, a, w, hl, hn, hb, h => by
    simp only [movesB] at hb
    rcases hi : is[n]? with _ | i
    · rw [hi] at hb; cases hb
    · rw [hi] at hb
      simp only [Bool.and_eq_true] at hb
      have hk := hl n
      rw [hi, Option.bind_some] at hk
      have hn2 : (is.eraseIdx n).length = (l.eraseIdx n).length := by rw [List.length_eraseIdx, List.length_eraseIdx, hn]
      obtain ⟨o, v, ho, hy, hS, h⟩ := h
      exact wpAnyH_take (hk.trans ho) hs hb.1.1 hb.1.2 (fun c a w => hQ c a _ _ w) hy hS (wpAnyH_moves hs hQ r S _ _ f _ _ w (moves_left hl hn n) hn2 hb.2 h)
  | .l n :: r, S, is, l, f, listed, a, w, hl, hn, hb, h => by
    simp only [movesB] at hb
    rcases hi : is[n]? with _ | i
    · rw [hi] at hb; cases hb
    · rw [hi] at hb
      simp only [Bool.and_eq_true] at hb
      have hk := hl n
      rw [hi, Option.bind_some] at hk
      have hn2 : (is.eraseIdx n).length = (l.eraseIdx n).length := by rw [List.length_eraseIdx, List.length_eraseIdx, hn]
      obtain ⟨o, ho, hw, h⟩ := h
      refine wpAnyH_all (nextIs_ready hb.1) (by simp) fun j hj => ?_
      obtain rfl : j = i := by simpa using hj
      unfold wpOp
      rw [hk.trans ho]
      show if Region.wanted o (yielded ops a.tmps) = true then _ else _
      rw [if_pos hw]
      exact .inl (Oper.wp_mono (fun a' w' h' => ⟨h'.1, wpAnyH_moves hs hQ r S _ _ f _ _ w' (moves_left hl hn n) hn2 hb.2 h'.2⟩) h)
theorem wp_region_moves {id : Nat} {a : Act} {w : World} {l : List Oper} (S : World → Prop) (s : List Mv) (hm : P.follows .mixedOrders = true) (hs : Region.noSelect l.toArray = true)
    (hb : movesB .any l.toArray s (List.range l.length) (Array.replicate l.length false) = true) (hl : Nat.beq (movesN s) l.length = true) (hQ : ∀ c a d v w, Q (.panic c) (a.put d v) w → Q (.panic c) a w) (h : wpMoves P l.toArray Q s S l a w.drew) : (Code.region id l.toArray true).wp P Q a w := by
  refine wp_region_held (S := S) hm ?_
  have := wpAnyH_moves (md := .any) hs hQ s S (List.range l.length) l 0 _ _ _ (fun k => by
    by_cases hk : k < l.length
    · rw [List.getElem?_range hk]; simp
    · rw [List.getElem?_eq_none (by simpa using Nat.le_of_not_lt hk), List.getElem?_eq_none (by omega)]; rfl) (by simp) hb h
  rw [Nat.zero_add, Nat.eq_of_beq_eq_true hl] at this
  simpa using this
/-- The same, where nothing panics. -/
theorem wp_region_calm {id : Nat} {a : Act} {w : World} {l : List Oper} (S : World → Prop) (s : List Mv) (hm : P.follows .mixedOrders = true) (hs : Region.noSelect l.toArray = true)
    (hb : movesB .any l.toArray s (List.range l.length) (Array.replicate l.length false) = true) (hl : Nat.beq (movesN s) l.length = true) (h : wpMoves P l.toArray (NoPanic Q) s S l a w.drew) : (Code.region id l.toArray true).wp P Q a w :=
  wp_region_noPanic (wp_region_moves S s hm hs hb hl (fun _ _ _ _ _ h => h) h)
variable {r : List Mv} {l : List Oper} {a : Act} {w : World} {o x1 x2 x3 x4 x5 x6 x7 x8 : Oper} {v : Value}
theorem mv_take0 (hw : Region.wanted o (yielded ops a.tmps) = true) (hS : S w) (hy : ∀ w, S w → (execOp a.eval o).run P w = .ok (.value v) w) (h : wpMoves P ops Q r S l (a.put o.dst v) w) : wpMoves P ops Q (.e 0 :: r) S (o :: l) a w := ⟨o, v, rfl, .inl ⟨hw, hy⟩, hS, h⟩
theorem mv_skip0 (hw : Region.wanted o (yielded ops a.tmps) = false) (hS : S w) (h : wpMoves P ops Q r S l (a.put o.dst undef) w) : wpMoves P ops Q (.e 0 :: r) S (o :: l) a w := ⟨o, undef, rfl, .inr ⟨hw, rfl⟩, hS, h⟩
theorem mv_loud0 (hw : Region.wanted o (yielded ops a.tmps) = true) (h : ∀ K : Act → World → Prop, Shut (∀ a w, S w → wpMoves P ops Q r S l a w → K a w) → Oper.wp P o a w K Q) : wpMoves P ops Q (.l 0 :: r) S (o :: l) a w :=
  ⟨o, rfl, hw, h _ fun a w hS hW => ⟨hS, hW⟩⟩
theorem mv_take1 (hw : Region.wanted o (yielded ops a.tmps) = true) (hS : S w) (hy : ∀ w, S w → (execOp a.eval o).run P w = .ok (.value v) w) (h : wpMoves P ops Q r S (x1 :: l) (a.put o.dst v) w) : wpMoves P ops Q (.e 1 :: r) S (x1 :: o :: l) a w := ⟨o, v, rfl, .inl ⟨hw, hy⟩, hS, h⟩
theorem mv_skip1 (hw : Region.wanted o (yielded ops a.tmps) = false) (hS : S w) (h : wpMoves P ops Q r S (x1 :: l) (a.put o.dst undef) w) : wpMoves P ops Q (.e 1 :: r) S (x1 :: o :: l) a w := ⟨o, undef, rfl, .inr ⟨hw, rfl⟩, hS, h⟩
theorem mv_loud1 (hw : Region.wanted o (yielded ops a.tmps) = true) (h : ∀ K : Act → World → Prop, Shut (∀ a w, S w → wpMoves P ops Q r S (x1 :: l) a w → K a w) → Oper.wp P o a w K Q) : wpMoves P ops Q (.l 1 :: r) S (x1 :: o :: l) a w :=
  ⟨o, rfl, hw, h _ fun a w hS hW => ⟨hS, hW⟩⟩
theorem mv_take2 (hw : Region.wanted o (yielded ops a.tmps) = true) (hS : S w) (hy : ∀ w, S w → (execOp a.eval o).run P w = .ok (.value v) w) (h : wpMoves P ops Q r S (x1 :: x2 :: l) (a.put o.dst v) w) : wpMoves P ops Q (.e 2 :: r) S (x1 :: x2 :: o :: l) a w := ⟨o, v, rfl, .inl ⟨hw, hy⟩, hS, h⟩
theorem mv_skip2 (hw : Region.wanted o (yielded ops a.tmps) = false) (hS : S w) (h : wpMoves P ops Q r S (x1 :: x2 :: l) (a.put o.dst undef) w) : wpMoves P ops Q (.e 2 :: r) S (x1 :: x2 :: o :: l) a w := ⟨o, undef, rfl, .inr ⟨hw, rfl⟩, hS, h⟩
theorem mv_loud2 (hw : Region.wanted o (yielded ops a.tmps) = true) (h : ∀ K : Act → World → Prop, Shut (∀ a w, S w → wpMoves P ops Q r S (x1 :: x2 :: l) a w → K a w) → Oper.wp P o a w K Q) : wpMoves P ops Q (.l 2 :: r) S (x1 :: x2 :: o :: l) a w :=
  ⟨o, rfl, hw, h _ fun a w hS hW => ⟨hS, hW⟩⟩
theorem mv_take3 (hw : Region.wanted o (yielded ops a.tmps) = true) (hS : S w) (hy : ∀ w, S w → (execOp a.eval o).run P w = .ok (.value v) w) (h : wpMoves P ops Q r S (x1 :: x2 :: x3 :: l) (a.put o.dst v) w) : wpMoves P ops Q (.e 3 :: r) S (x1 :: x2 :: x3 :: o :: l) a w := ⟨o, v, rfl, .inl ⟨hw, hy⟩, hS, h⟩
theorem mv_skip3 (hw : Region.wanted o (yielded ops a.tmps) = false) (hS : S w) (h : wpMoves P ops Q r S (x1 :: x2 :: x3 :: l) (a.put o.dst undef) w) : wpMoves P ops Q (.e 3 :: r) S (x1 :: x2 :: x3 :: o :: l) a w := ⟨o, undef, rfl, .inr ⟨hw, rfl⟩, hS, h⟩
theorem mv_take4 (hw : Region.wanted o (yielded ops a.tmps) = true) (hS : S w) (hy : ∀ w, S w → (execOp a.eval o).run P w = .ok (.value v) w) (h : wpMoves P ops Q r S (x1 :: x2 :: x3 :: x4 :: l) (a.put o.dst v) w) : wpMoves P ops Q (.e 4 :: r) S (x1 :: x2 :: x3 :: x4 :: o :: l) a w := ⟨o, v, rfl, .inl ⟨hw, hy⟩, hS, h⟩
theorem mv_skip4 (hw : Region.wanted o (yielded ops a.tmps) = false) (hS : S w) (h : wpMoves P ops Q r S (x1 :: x2 :: x3 :: x4 :: l) (a.put o.dst undef) w) : wpMoves P ops Q (.e 4 :: r) S (x1 :: x2 :: x3 :: x4 :: o :: l) a w := ⟨o, undef, rfl, .inr ⟨hw, rfl⟩, hS, h⟩
theorem mv_take5 (hw : Region.wanted o (yielded ops a.tmps) = true) (hS : S w) (hy : ∀ w, S w → (execOp a.eval o).run P w = .ok (.value v) w) (h : wpMoves P ops Q r S (x1 :: x2 :: x3 :: x4 :: x5 :: l) (a.put o.dst v) w) : wpMoves P ops Q (.e 5 :: r) S (x1 :: x2 :: x3 :: x4 :: x5 :: o :: l) a w := ⟨o, v, rfl, .inl ⟨hw, hy⟩, hS, h⟩
theorem mv_skip5 (hw : Region.wanted o (yielded ops a.tmps) = false) (hS : S w) (h : wpMoves P ops Q r S (x1 :: x2 :: x3 :: x4 :: x5 :: l) (a.put o.dst undef) w) : wpMoves P ops Q (.e 5 :: r) S (x1 :: x2 :: x3 :: x4 :: x5 :: o :: l) a w := ⟨o, undef, rfl, .inr ⟨hw, rfl⟩, hS, h⟩
theorem mv_take6 (hw : Region.wanted o (yielded ops a.tmps) = true) (hS : S w) (hy : ∀ w, S w → (execOp a.eval o).run P w = .ok (.value v) w) (h : wpMoves P ops Q r S (x1 :: x2 :: x3 :: x4 :: x5 :: x6 :: l) (a.put o.dst v) w) : wpMoves P ops Q (.e 6 :: r) S (x1 :: x2 :: x3 :: x4 :: x5 :: x6 :: o :: l) a w := ⟨o, v, rfl, .inl ⟨hw, hy⟩, hS, h⟩
theorem mv_skip6 (hw : Region.wanted o (yielded ops a.tmps) = false) (hS : S w) (h : wpMoves P ops Q r S (x1 :: x2 :: x3 :: x4 :: x5 :: x6 :: l) (a.put o.dst undef) w) : wpMoves P ops Q (.e 6 :: r) S (x1 :: x2 :: x3 :: x4 :: x5 :: x6 :: o :: l) a w := ⟨o, undef, rfl, .inr ⟨hw, rfl⟩, hS, h⟩
theorem mv_take7 (hw : Region.wanted o (yielded ops a.tmps) = true) (hS : S w) (hy : ∀ w, S w → (execOp a.eval o).run P w = .ok (.value v) w) (h : wpMoves P ops Q r S (x1 :: x2 :: x3 :: x4 :: x5 :: x6 :: x7 :: l) (a.put o.dst v) w) : wpMoves P ops Q (.e 7 :: r) S (x1 :: x2 :: x3 :: x4 :: x5 :: x6 :: x7 :: o :: l) a w := ⟨o, v, rfl, .inl ⟨hw, hy⟩, hS, h⟩
theorem mv_skip7 (hw : Region.wanted o (yielded ops a.tmps) = false) (hS : S w) (h : wpMoves P ops Q r S (x1 :: x2 :: x3 :: x4 :: x5 :: x6 :: x7 :: l) (a.put o.dst undef) w) : wpMoves P ops Q (.e 7 :: r) S (x1 :: x2 :: x3 :: x4 :: x5 :: x6 :: x7 :: o :: l) a w := ⟨o, undef, rfl, .inr ⟨hw, rfl⟩, hS, h⟩
theorem mv_take8 (hw : Region.wanted o (yielded ops a.tmps) = true) (hS : S w) (hy : ∀ w, S w → (execOp a.eval o).run P w = .ok (.value v) w) (h : wpMoves P ops Q r S (x1 :: x2 :: x3 :: x4 :: x5 :: x6 :: x7 :: x8 :: l) (a.put o.dst v) w) : wpMoves P ops Q (.e 8 :: r) S (x1 :: x2 :: x3 :: x4 :: x5 :: x6 :: x7 :: x8 :: o :: l) a w := ⟨o, v, rfl, .inl ⟨hw, hy⟩, hS, h⟩
theorem mv_skip8 (hw : Region.wanted o (yielded ops a.tmps) = false) (hS : S w) (h : wpMoves P ops Q r S (x1 :: x2 :: x3 :: x4 :: x5 :: x6 :: x7 :: x8 :: l) (a.put o.dst undef) w) : wpMoves P ops Q (.e 8 :: r) S (x1 :: x2 :: x3 :: x4 :: x5 :: x6 :: x7 :: x8 :: o :: l) a w := ⟨o, undef, rfl, .inr ⟨hw, rfl⟩, hS, h⟩
theorem mv_grow (S1 : World → Prop) (hS : ∀ w, S1 w → S w) (h : wpMoves P ops Q r S1 l a w) : wpMoves P ops Q (.s :: r) S l a w := ⟨S1, hS, h⟩
theorem mv_calm (h : Q .normal a w) : wpMoves P ops (NoPanic Q) [] S l a w := h
end
end Go.Proofs.Ytilfhkagfjdfkaa
