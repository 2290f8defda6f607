/- A region that draws its order, some of whose operations come up in any order, each with a way of its own: a tree of moves. -/
import Derived.Test.YtcgklflflfemnaaDoorHp
set_option linter.unusedVariables false
set_option linter.unusedSimpArgs false
namespace Go.Proofs.YtcgklflflfemnaaDoor
open Go
/-- A tree of moves: e: taken early; l: it alone may come up; f2, f3: these may come up, each with its own way on. -/
inductive Mt where
  | z
  | e (n : Nat) (r : Mt)
  | l (n : Nat) (r : Mt)
  | f2 (n1 : Nat) (r1 : Mt) (n2 : Nat) (r2 : Mt)
  | f3 (n1 : Nat) (r1 : Mt) (n2 : Nat) (r2 : Mt) (n3 : Nat) (r3 : Mt)
def readyIs (md : Region.Mode) (ops : Array Oper) (l : Array Bool) (is : List Nat) : Bool := decide (Region.ready md ops l = is)
def mtN : Mt → Nat
  | .z => 0
  | .e _ r => mtN r + 1
  | .l _ r => mtN r + 1
  | .f2 _ r _ _ => mtN r + 1
  | .f3 _ r _ _ _ _ => mtN r + 1
def mtB (md : Region.Mode) (ops : Array Oper) : Mt → List Nat → Array Bool → Bool
  | .z, _, l => (Region.ready md ops l).isEmpty
  | .e n r, is, l => match is[n]? with
    | some i => Region.free md ops l i && (Region.ready md ops l).contains i && mtB md ops r (is.eraseIdx n) (l.setIfInBounds i true)
    | none => false
  | .l n r, is, l => match is[n]? with
    | some i => nextIs md ops l i && mtB md ops r (is.eraseIdx n) (l.setIfInBounds i true)
    | none => false
  | .f2 n1 r1 n2 r2, is, l => match is[n1]?, is[n2]? with
    | some i, some j => readyIs md ops l [i, j] && Nat.beq (mtN r1) (mtN r2) && mtB md ops r1 (is.eraseIdx n1) (l.setIfInBounds i true) && mtB md ops r2 (is.eraseIdx n2) (l.setIfInBounds j true)
    | _, _ => false
  | .f3 n1 r1 n2 r2 n3 r3, is, l => match is[n1]?, is[n2]?, is[n3]? with
    | some i, some j, some k => readyIs md ops l [i, j, k] && Nat.beq (mtN r1) (mtN r2) && Nat.beq (mtN r1) (mtN r3) && mtB md ops r1 (is.eraseIdx n1) (l.setIfInBounds i true) && mtB md ops r2 (is.eraseIdx n2) (l.setIfInBounds j true) && mtB md ops r3 (is.eraseIdx n3) (l.setIfInBounds k true)
    | _, _, _ => false
section
variable {P : Program} {md : Region.Mode} {ops : Array Oper} {Q : Exit → Act → World → Prop} {S : World → Prop}
/-- One operation comes up, and then the rest. -/
def upMt (P : Program) (ops : Array Oper) (Q : Exit → Act → World → Prop) (S : World → Prop) (K : List Oper → Act → World → Prop) (n : Nat) (l : List Oper) (a : Act) (w : World) : Prop :=
  ∃ o, l[n]? = some o ∧ Region.wanted o (yielded ops a.tmps) = true ∧ o.wp P a w (fun a' w' => S w' ∧ K (l.eraseIdx n) a' w') Q
def wpMt (P : Program) (ops : Array Oper) (Q : Exit → Act → World → Prop) (S : World → Prop) : Mt → List Oper → Act → World → Prop
  | .z, _, a, w => Q .normal a w
  | .e n r, l, a, w => ∃ o v, l[n]? = some o ∧ YieldsIf P ops S o v a ∧ S w ∧ wpMt P ops Q S r (l.eraseIdx n) (a.put o.dst v) w
  | .l n r, l, a, w => upMt P ops Q S (wpMt P ops Q S r) n l a w
  | .f2 n1 r1 n2 r2, l, a, w => upMt P ops Q S (wpMt P ops Q S r1) n1 l a w ∧ upMt P ops Q S (wpMt P ops Q S r2) n2 l a w
  | .f3 n1 r1 n2 r2 n3 r3, l, a, w => upMt P ops Q S (wpMt P ops Q S r1) n1 l a w ∧ upMt P ops Q S (wpMt P ops Q S r2) n2 l a w ∧ upMt P ops Q S (wpMt P ops Q S r3) n3 l a w
theorem up_op {is : List Nat} {l : List Oper} {K : List Oper → Act → World → Prop} {K' : Act → World → Prop} {n i : Nat} {a : Act} {w : World} (hl : ∀ k : Nat, (is[k]?).bind (fun i => ops[i]?) = l[k]?) (hi : is[n]? = some i) (h : upMt P ops Q S K n l a w) (hK : ∀ a' w', K (l.eraseIdx n) a' w' → K' a' w') : wpOp P ops Q i (fun a' w' => S w' ∧ K' a' w') a w := by
  obtain ⟨o, ho, hw, h⟩ := h
  have hk := hl n
  rw [hi, Option.bind_some] at hk
  unfold wpOp
  rw [hk.trans ho]
  show if Region.wanted o (yielded ops a.tmps) = true then _ else _
  rw [if_pos hw]
  exact .inl (Oper.wp_mono (fun a' w' h' => ⟨h'.1, hK a' w' h'.2⟩) h)
theorem wpAnyH_mt (hs : Region.noSelect ops = true) (hQ : ∀ c a d v w, Q (.panic c) (a.put d v) w → Q (.panic c) a w) :
    ∀ (t : Mt) (is : List Nat) (l : List Oper) (f : Nat) (listed : Array Bool) (a : Act) (w : World), (∀ k : Nat, (is[k]?).bind (fun i => ops[i]?) = l[k]?) → is.length = l.length → mtB md ops t is listed = true → wpMt P ops Q S t l a w → wpAnyH P md ops Q S (f + mtN t) listed a w
  | .z, is, l, f, listed, a, w, hl, hn, hb, h => wpAnyH_done (by simpa [mtB] using hb) h _
  | .e n r, is, l, f, listed, a, w, hl, hn, hb, h => by
    simp only [mtB] at hb
    rcases hi : is[n]? with _ | i
    · rw [hi] at hb; cases hb
    · rw [hi] at hb
      simp only [Bool.and_eq_true] at hb
      have hk := hl n
      rw [hi, Option.bind_some] at hk
      have hn2 : (is.eraseIdx n).length = (l.eraseIdx n).length := by rw [List.length_eraseIdx, List.length_eraseIdx, hn]
      obtain ⟨o, v, ho, hy, hS, h⟩ := h
      exact wpAnyH_take (hk.trans ho) hs hb.1.1 hb.1.2 (fun c a w => hQ c a _ _ w) hy hS (wpAnyH_mt hs hQ r _ _ f _ _ w (moves_left hl hn n) hn2 hb.2 h)
  | .l n r, is, l, f, listed, a, w, hl, hn, hb, h => by
    simp only [mtB] at hb
    rcases hi : is[n]? with _ | i
    · rw [hi] at hb; cases hb
    · rw [hi] at hb
      simp only [Bool.and_eq_true] at hb
      have hn2 : (is.eraseIdx n).length = (l.eraseIdx n).length := by rw [List.length_eraseIdx, List.length_eraseIdx, hn]
      refine wpAnyH_all (nextIs_ready hb.1) (by simp) fun j hj => ?_
      obtain rfl : j = i := by simpa using hj
      exact up_op hl hi h fun a' w' h' => wpAnyH_mt hs hQ r _ _ f _ _ w' (moves_left hl hn n) hn2 hb.2 h'
  | .f2 n1 r1 n2 r2, is, l, f, listed, a, w, hl, hn, hb, h => by
    simp only [mtB] at hb
    split at hb
    · rename_i i j hi hj
      simp only [Bool.and_eq_true] at hb
      obtain ⟨⟨⟨h1, h2⟩, h3⟩, h4⟩ := hb
      have e2 := Nat.eq_of_beq_eq_true h2
      have hlen : ∀ n, (is.eraseIdx n).length = (l.eraseIdx n).length := fun n => by rw [List.length_eraseIdx, List.length_eraseIdx, hn]
      refine wpAnyH_all (of_decide_eq_true h1) (by simp) fun x hx => ?_
      simp only [List.mem_cons, List.not_mem_nil, or_false] at hx
      rcases hx with rfl | rfl
      · exact up_op hl hi h.1 fun a' w' h' => wpAnyH_mt hs hQ r1 _ _ f _ _ w' (moves_left hl hn n1) (hlen n1) h3 h'
      · exact up_op hl hj h.2 fun a' w' h' => by
          show wpAnyH P md ops Q S (f + mtN r1) _ _ _
          rw [e2]
          exact wpAnyH_mt hs hQ r2 _ _ f _ _ w' (moves_left hl hn n2) (hlen n2) h4 h'
    · cases hb
  | .f3 n1 r1 n2 r2 n3 r3, is, l, f, listed, a, w, hl, hn, hb, h => by
    simp only [mtB] at hb
    split at hb
    · rename_i i j k hi hj hk
      simp only [Bool.and_eq_true] at hb
      obtain ⟨⟨⟨⟨⟨h1, h2⟩, h2b⟩, h3⟩, h4⟩, h5⟩ := hb
      have e2 := Nat.eq_of_beq_eq_true h2
      have e3 := Nat.eq_of_beq_eq_true h2b
      have hlen : ∀ n, (is.eraseIdx n).length = (l.eraseIdx n).length := fun n => by rw [List.length_eraseIdx, List.length_eraseIdx, hn]
      refine wpAnyH_all (of_decide_eq_true h1) (by simp) fun x hx => ?_
      simp only [List.mem_cons, List.not_mem_nil, or_false] at hx
      rcases hx with rfl | rfl | rfl
      · exact up_op hl hi h.1 fun a' w' h' => wpAnyH_mt hs hQ r1 _ _ f _ _ w' (moves_left hl hn n1) (hlen n1) h3 h'
      · exact up_op hl hj h.2.1 fun a' w' h' => by
          show wpAnyH P md ops Q S (f + mtN r1) _ _ _
          rw [e2]
          exact wpAnyH_mt hs hQ r2 _ _ f _ _ w' (moves_left hl hn n2) (hlen n2) h4 h'
      · exact up_op hl hk h.2.2 fun a' w' h' => by
          show wpAnyH P md ops Q S (f + mtN r1) _ _ _
          rw [e3]
          exact wpAnyH_mt hs hQ r3 _ _ f _ _ w' (moves_left hl hn n3) (hlen n3) h5 h'
    · cases hb
theorem wp_region_tree {id : Nat} {a : Act} {w : World} {l : List Oper} (S : World → Prop) (t : Mt) (hm : P.follows .mixedOrders = true) (hs : Region.noSelect l.toArray = true)
    (hb : mtB .any l.toArray t (List.range l.length) (Array.replicate l.length false) = true) (hl : Nat.beq (mtN t) l.length = true) (h : wpMt P l.toArray (NoPanic Q) S t l a w.drew) : (Code.region id l.toArray true).wp P Q a w := by
  refine wp_region_noPanic (wp_region_held (S := S) hm ?_)
  have := wpAnyH_mt (md := .any) hs (fun _ _ _ _ _ h => h) t (List.range l.length) l 0 _ _ _ (fun k => by
    by_cases hk : k < l.length
    · rw [List.getElem?_range hk]; simp
    · rw [List.getElem?_eq_none (by simpa using Nat.le_of_not_lt hk), List.getElem?_eq_none (by omega)]; rfl) (by simp) hb h
  rw [Nat.zero_add, Nat.eq_of_beq_eq_true hl] at this
  simpa using this
variable {r r1 r2 r3 : Mt} {l : List Oper} {a : Act} {w : World} {o : Oper} {v : Value}
theorem mt_take0 (hw : Region.wanted o (yielded ops a.tmps) = true) (hS : S w) (hy : ∀ w, S w → (execOp a.eval o).run P w = .ok (.value v) w) (h : wpMt P ops Q S r l (a.put o.dst v) w) : wpMt P ops Q S (.e 0 r) (o :: l) a w := ⟨o, v, rfl, .inl ⟨hw, hy⟩, hS, h⟩
theorem up_of {K : List Oper → Act → World → Prop} {n : Nat} {l : List Oper} {o : Oper} (ho : l[n]? = some o) (hw : Region.wanted o (yielded ops a.tmps) = true) (h : ∀ K' : Act → World → Prop, Shut (∀ a w, S w → K (l.eraseIdx n) a w → K' a w) → Oper.wp P o a w K' Q) : upMt P ops Q S K n l a w :=
  ⟨o, ho, hw, h _ fun a w hS hW => ⟨hS, hW⟩⟩
theorem mt_calm (h : Q .normal a w) : wpMt P ops (NoPanic Q) S .z [] a w := h
end
end Go.Proofs.YtcgklflflfemnaaDoor
