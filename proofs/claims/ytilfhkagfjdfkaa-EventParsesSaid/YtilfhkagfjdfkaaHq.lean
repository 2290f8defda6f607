/- A region that draws its order: the first ones by a schedule, the last ones, which wait for all the others, one behind the other. -/
import Derived.Test.YtilfhkagfjdfkaaQt
import Derived.Test.YtilfhkagfjdfkaaHp
set_option linter.unusedVariables false
set_option linter.unusedSimpArgs false
namespace Go.Proofs.Ytilfhkagfjdfkaa
open Go
section
variable {P : Program} {md : Region.Mode} {Q : Exit → Act → World → Prop} {S : World → Prop}
theorem oper_wp_Q {o : Oper} {a : Act} {w : World} {K K' : Act → World → Prop} {Q' : Exit → Act → World → Prop} (hK : ∀ a w, K a w → K' a w) (hp : ∀ c a w, Q (.panic c) a w → Q' (.panic c) a w) (ho : LetsOut Q → LetsOut Q') (hh : o.wp P a w K Q) : o.wp P a w K' Q' := by
  unfold Oper.wp at *
  generalize (execOp a.eval o).run P w = r at *
  cases r with
  | ok n w' =>
    cases n <;> simp only [Oper.upon] at hh ⊢ <;>
      first
        | exact hK _ _ hh
        | exact Calls.mono hh (fun e w'' he => by cases e <;> first | exact hK _ _ he | exact hp _ _ _ he | exact ho he)
        | exact Rows.mono hh (fun _ _ he => hK _ _ he)
  | halt x w' => cases x <;> simp only [Oper.upon] at hh ⊢ <;> first | exact hp _ _ _ hh | exact hh
/-- Behind the first ones the last ones. -/
def QP (P : Program) (ops : Array Oper) (post : List Oper) (Q : Exit → Act → World → Prop) : Exit → Act → World → Prop
  | .normal, a, w => wpList P ops Q post a w
  | e, a, w => Q e a w
theorem QP.out {ops : Array Oper} {post : List Oper} (h : LetsOut (QP P ops post Q)) : LetsOut Q := h
theorem wpAny_thenH {pre post : List Oper} (hw : waitB md pre.length (pre ++ post) = true) (hs : seqB md (pre ++ post).toArray post.length pre.length (Array.replicate pre.length true ++ Array.replicate post.length false) = true) :
    ∀ (f : Nat) (lp : Array Bool) (a : Act) (w : World), lp.size = pre.length → Closed md pre.toArray lp → wpAnyH P md pre.toArray (QP P (pre ++ post).toArray post Q) S f lp a w →
      wpAny P md (pre ++ post).toArray Q (f + post.length) (lp ++ Array.replicate post.length false) a w := by
  simp only [waitB, Bool.and_eq_true, List.all_eq_true, List.mem_range] at hw
  obtain ⟨⟨hw1, hw2⟩, hw3⟩ := hw
  have hpre : ∀ j, j < pre.length → (pre ++ post)[j]? = pre[j]? := fun j hj => List.getElem?_append_left hj
  have full : ∀ j, (pre ++ post).toArray[j]? = (pre ++ post)[j]? := fun j => List.getElem?_toArray ..
  -- all listed: the last ones
  have done : ∀ (f : Nat) (lp : Array Bool) (a : Act) (w : World), lp.size = pre.length → (∀ j, j < pre.length → lp.getD j false = true) → wpList P (pre ++ post).toArray Q post a w → wpAny P md (pre ++ post).toArray Q (f + post.length) (lp ++ Array.replicate post.length false) a w := fun f lp a w hsz hall h => by
    have e : lp = Array.replicate pre.length true := by
      apply Array.ext
      · simp [hsz]
      · intro i h1 h2
        have := hall i (by omega)
        simp [h1] at this
        simp [this]
    rw [e]
    exact wpAny_seq post f pre.length _ a w (fun j => by rw [full, List.getElem?_append_right (Nat.le_add_right _ _), Nat.add_sub_cancel_left]) hs h
  -- some not listed: one of the first is ready
  have some_ready : ∀ (lp : Array Bool), lp.size = pre.length → ¬ (∀ j, j < pre.length → lp.getD j false = true) → Region.ready md pre.toArray lp ≠ [] := fun lp hsz hnot hr => by
    apply hnot
    intro j
    induction j using Nat.strongRecOn with
    | _ j ih =>
      intro hj
      by_cases hl : lp.getD j false = true
      · exact hl
      · exfalso
        have hmem : j ∈ Region.ready md pre.toArray lp := by
          rw [mem_ready]
          refine ⟨?_, pre[j], by simp [hj], fun e he hb => ?_⟩
          · have hlt : j < lp.size := by omega
            simp [hlt] at hl ⊢
            exact hl
          · have h1 := (hw1 j hj).1
            rw [hpre j hj, List.getElem?_eq_getElem hj] at h1
            have h2 := Array.all_eq_true_iff_forall_mem.1 h1 e he
            have h3 : e.on < j := by simpa [Nat.blt_eq] using h2
            exact ih e.on h3 (by omega)
        rw [hr] at hmem
        cases hmem
  -- one of the last is ready: all of the first are listed
  have cover : ∀ (lp : Array Bool) (i : Nat), lp.size = pre.length → Closed md pre.toArray lp → pre.length ≤ i → i ∈ Region.ready md (pre ++ post).toArray (lp ++ Array.replicate post.length false) → ∀ j, j < pre.length → lp.getD j false = true := fun lp i hsz hcl hi hr => by
    rw [mem_ready] at hr
    obtain ⟨hun, o, ho, hall⟩ := hr
    rw [full] at ho
    have hlt := (List.getElem?_eq_some_iff.1 ho).1
    have him : i = pre.length := by
      by_cases he : i = pre.length
      · exact he
      · exfalso
        have h1 := hw2 i hlt
        rw [ho] at h1
        have h2 : Nat.ble i pre.length = false := by
          cases hb : Nat.ble i pre.length
          · rfl
          · have := Nat.le_of_ble_eq_true hb; omega
        rw [h2, Bool.false_or] at h1
        obtain ⟨e, he, hb⟩ := Array.any_eq_true'.1 h1
        rw [Bool.and_eq_true] at hb
        have h3 := Nat.le_of_ble_eq_true hb.2
        have h4 := hall e he hb.1
        rw [getD_tail (by omega)] at h4
        cases h4
    subst him
    have main : ∀ n j, pre.length - j ≤ n → j < pre.length → lp.getD j false = true := fun n => by
      induction n with
      | zero => intro j h1 h2; omega
      | succ n ih =>
        intro j h1 hj
        obtain ⟨i, hi, hb⟩ := List.any_eq_true.1 (hw1 j hj).2
        rw [Bool.and_eq_true] at hb
        have hji : j < i := by simpa [Nat.blt_eq] using hb.1
        have him : i < pre.length + 1 := List.mem_range.1 hi
        have hb2 := hb.2
        by_cases he : i = pre.length
        · subst he
          rw [ho] at hb2
          obtain ⟨e, he, hbe⟩ := Array.any_eq_true'.1 hb2
          rw [Bool.and_eq_true] at hbe
          have h4 := hall e he hbe.1
          rw [Nat.eq_of_beq_eq_true hbe.2, getD_app _ (by omega)] at h4
          exact h4
        · have hilt : i < pre.length := by omega
          rw [hpre i hilt, List.getElem?_eq_getElem hilt] at hb2
          obtain ⟨e, he, hbe⟩ := Array.any_eq_true'.1 hb2
          rw [Bool.and_eq_true] at hbe
          have := hcl i (ih i (by omega) hilt) pre[i] (by simp [hilt]) e he hbe.1
          rw [Nat.eq_of_beq_eq_true hbe.2] at this
          exact this
    exact fun j hj => main pre.length j (by omega) hj
  -- the first ones' readiness
  have same_ready : ∀ (lp : Array Bool) (i : Nat), lp.size = pre.length → i < pre.length → (i ∈ Region.ready md (pre ++ post).toArray (lp ++ Array.replicate post.length false) ↔ i ∈ Region.ready md pre.toArray lp) := fun lp i hsz hi => by
    rw [mem_ready, mem_ready, full, hpre i hi, getD_app _ (by omega), show pre.toArray[i]? = pre[i]? by simp]
    have h1 := (hw1 i hi).1
    rw [hpre i hi, List.getElem?_eq_getElem hi] at h1
    constructor
    · rintro ⟨h0, o, ho, hall⟩
      refine ⟨h0, o, ho, fun e he hb => ?_⟩
      rw [List.getElem?_eq_getElem hi] at ho
      cases ho
      have h3 : e.on < i := by simpa [Nat.blt_eq] using Array.all_eq_true_iff_forall_mem.1 h1 e he
      have := hall e he hb
      rwa [getD_app _ (by omega)] at this
    · rintro ⟨h0, o, ho, hall⟩
      refine ⟨h0, o, ho, fun e he hb => ?_⟩
      rw [List.getElem?_eq_getElem hi] at ho
      cases ho
      have h3 : e.on < i := by simpa [Nat.blt_eq] using Array.all_eq_true_iff_forall_mem.1 h1 e he
      have := hall e he hb
      rwa [getD_app _ (by omega)]
  have same_op : ∀ (i : Nat) (K K' : Act → World → Prop) (a : Act) (w : World), i < pre.length → (∀ a w, K a w → K' a w) → wpOp P pre.toArray (QP P (pre ++ post).toArray post Q) i K a w → wpOp P (pre ++ post).toArray Q i K' a w := fun i K K' a w hi hK h => by
    unfold wpOp at h ⊢
    rw [full, hpre i hi]
    rw [show pre.toArray[i]? = pre[i]? by simp] at h
    rw [List.getElem?_eq_getElem hi] at h ⊢
    have h3 := hw3 i hi
    rw [hpre i hi, List.getElem?_eq_getElem hi] at h3
    have hy : Region.wanted pre[i] (yielded (pre ++ post).toArray a.tmps) = Region.wanted pre[i] (yielded pre.toArray a.tmps) := by
      unfold Region.wanted
      rcases hgd : pre[i].guard with _ | ⟨g, b⟩
      · rfl
      · have hg : g < pre.length := by
          simp only [hgd] at h3
          simpa [Nat.blt_eq] using h3
        simp only [yielded]
        rw [full, hpre g hg, show pre.toArray[g]? = pre[g]? by simp]
    simp only at h ⊢
    rw [hy]
    split
    · rename_i hwt
      simp only [hwt, if_true] at h
      exact h.imp (oper_wp_Q hK (fun _ _ _ h => h) (QP.out (P := P) (ops := (pre ++ post).toArray) (post := post))) (fun h => ⟨h.1, QP.out (P := P) (ops := (pre ++ post).toArray) (post := post) h.2⟩)
    · rename_i hwt
      simp only [hwt] at h
      exact hK _ _ h
  have closed_set : ∀ (lp : Array Bool) (i : Nat), lp.size = pre.length → Closed md pre.toArray lp → i ∈ Region.ready md pre.toArray lp → Closed md pre.toArray (lp.setIfInBounds i true) := fun lp i hsz hcl hr j hj o ho e he hb => by
    by_cases hij : i = j
    · subst hij
      rw [mem_ready] at hr
      obtain ⟨_, o', ho', hall⟩ := hr
      rw [ho] at ho'
      cases ho'
      exact getD_set_true (hall e he hb)
    · rw [getD_set_ne false hij] at hj
      exact getD_set_true (hcl j hj o ho e he hb)
  intro f
  induction f with
  | zero =>
    intro lp a w hsz hcl h
    by_cases hall : ∀ j, j < pre.length → lp.getD j false = true
    · exact done 0 lp a w hsz hall h.2
    · exact absurd h.1 (some_ready lp hsz hall)
  | succ f ih =>
    intro lp a w hsz hcl h
    by_cases hall : ∀ j, j < pre.length → lp.getD j false = true
    · have hr : Region.ready md pre.toArray lp = [] := by
        rw [List.eq_nil_iff_forall_not_mem]
        intro i hi
        rw [mem_ready] at hi
        obtain ⟨h0, o, ho, _⟩ := hi
        have hi2 : i < pre.length := by
          have := (Array.getElem?_eq_some_iff.1 ho).1
          simpa using this
        have := hall i hi2
        have hlt : i < lp.size := by omega
        simp [hlt] at h0 this
        rw [h0] at this
        cases this
      exact done (f + 1) lp a w hsz hall (h.1 hr)
    · rw [show f + 1 + post.length = (f + post.length) + 1 by omega]
      refine ⟨fun h0 => ?_, fun i hi => ?_⟩
      · exfalso
        obtain ⟨i, hi⟩ := List.exists_mem_of_ne_nil _ (some_ready lp hsz hall)
        have hi2 : i < pre.length := by
          have h1 := hi
          rw [mem_ready] at h1
          obtain ⟨_, o, ho, _⟩ := h1
          have := (Array.getElem?_eq_some_iff.1 ho).1
          simpa using this
        have := (same_ready lp i hsz hi2).2 hi
        rw [h0] at this
        cases this
      · by_cases hi2 : i < pre.length
        · have hr := (same_ready lp i hsz hi2).1 hi
          refine same_op i _ _ a w hi2 (fun a' w' hk => ?_) (h.2 i hr)
          have := ih (lp.setIfInBounds i true) a' w' (by simp [hsz]) (closed_set lp i hsz hcl hr) hk.2
          have e : (lp ++ Array.replicate post.length false).setIfInBounds i true = lp.setIfInBounds i true ++ Array.replicate post.length false := by
            rw [Array.setIfInBounds_append, if_pos (by omega)]
          rw [e]
          exact this
        · exact absurd (cover lp i hsz hcl (by omega) hi) hall
theorem wp_region_moves_then {id : Nat} {a : Act} {w : World} {l : List Oper} (m : Nat) (S : World → Prop) (s : List Mv) (hm : P.follows .mixedOrders = true) (hs : Region.noSelect (l.take m).toArray = true)
    (hb : movesB .any (l.take m).toArray s (List.range (l.take m).length) (Array.replicate (l.take m).length false) = true) (hl : Nat.beq (movesN s) (l.take m).length = true)
    (hw : waitB .any (l.take m).length (l.take m ++ l.drop m) = true) (hq : seqB .any (l.take m ++ l.drop m).toArray (l.drop m).length (l.take m).length (Array.replicate (l.take m).length true ++ Array.replicate (l.drop m).length false) = true)
    (h : wpMoves P (l.take m).toArray (QP P l.toArray (l.drop m) (NoPanic Q)) s S (l.take m) a w.drew) : (Code.region id l.toArray true).wp P Q a w := by
  refine wp_region_noPanic (wp_region_any hm ?_)
  have h1 := wpAnyH_moves (md := .any) hs (Q := QP P l.toArray (l.drop m) (NoPanic Q)) (fun _ _ _ _ _ h => h) s S (List.range (l.take m).length) (l.take m) 0 (Array.replicate (l.take m).length false) a w.drew (fun k => by
    by_cases hk : k < (l.take m).length
    · rw [List.getElem?_range hk]; simp
    · rw [List.getElem?_eq_none (by simpa using Nat.le_of_not_lt hk), List.getElem?_eq_none (by omega)]; rfl) (by simp) hb h
  rw [Nat.zero_add, Nat.eq_of_beq_eq_true hl] at h1
  have h2 := wpAny_thenH (md := .any) (pre := l.take m) (post := l.drop m) (Q := NoPanic Q) (S := S) hw hq (l.take m).length (Array.replicate (l.take m).length false) a w.drew Array.size_replicate (fun j hj => by rw [getD_rep] at hj; cases hj) (by rw [List.take_append_drop]; exact h1)
  rw [List.take_append_drop] at h2
  have e : Array.replicate (l.take m).length false ++ Array.replicate (l.drop m).length false = Array.replicate l.length false := by
    rw [Array.replicate_append_replicate, ← List.length_append, List.take_append_drop]
  rw [e, ← List.length_append, List.take_append_drop] at h2
  simpa using h2
theorem mv_then {ops ops2 : Array Oper} {post l : List Oper} {a : Act} {w : World} (h : wpList P ops2 (NoPanic Q) post a w) : wpMoves P ops (QP P ops2 post (NoPanic Q)) [] S l a w := h
end
end Go.Proofs.Ytilfhkagfjdfkaa
