/- A region that draws its order, whose operations only read, but for the last ones, which wait for all the others: one walk of the first ones, in the order of the text, then the last ones. -/
import Derived.Deep.QuietTactic
import Derived.BigQuiet
set_option linter.unusedVariables false
set_option linter.unusedSimpArgs false
namespace Go.Proofs.Ytilfhkagfjdfkaa
open Go

/-- The last operations come up one behind the other. -/
def seqB (md : Region.Mode) (ops : Array Oper) : Nat → Nat → Array Bool → Bool
  | 0, _, l => (Region.ready md ops l).isEmpty
  | n + 1, k, l => (match Region.ready md ops l with
    | [i] => Nat.beq i k
    | _ => false) && seqB md ops n (k + 1) (l.setIfInBounds k true)
/-- Each of the first operations waits for earlier ones alone; each is waited for by a later one of them, or by the first one of the last; of the last ones each but the first waits for one of the last. -/
def waitB (md : Region.Mode) (m : Nat) (ops : List Oper) : Bool :=
  ((List.range m).all fun j => (match ops[j]? with
    | some o => o.after.all fun e => Nat.blt e.on j
    | none => false) && ((List.range (m + 1)).any fun i => Nat.blt j i && (match ops[i]? with
    | some o => o.after.any fun e => Region.binds md e && Nat.beq e.on j
    | none => false))) &&
  ((List.range ops.length).all fun i => Nat.ble i m || (match ops[i]? with
    | some o => o.after.any fun e => Region.binds md e && Nat.ble m e.on
    | none => false)) &&
  ((List.range m).all fun j => match ops[j]? with
    | some o => (match o.guard with
      | some (g, _) => Nat.blt g m
      | none => true)
    | none => false)
section
variable {P : Program} {md : Region.Mode} {C : World → Prop} {Q : Exit → Act → World → Prop}
theorem wpAny_seq {ops : Array Oper} : ∀ (rest : List Oper) (f k : Nat) (l : Array Bool) (a : Act) (w : World), (∀ j, rest[j]? = ops[k + j]?) → seqB md ops rest.length k l = true → wpList P ops Q rest a w → wpAny P md ops Q (f + rest.length) l a w
  | [], f, k, l, a, w, _, hs, h => by
    have hr : Region.ready md ops l = [] := by simpa [seqB] using hs
    cases f with
    | zero => exact ⟨hr, h⟩
    | succ f => exact ⟨fun _ => h, (fun i hi => by rw [hr] at hi; cases hi)⟩
  | o :: rest, f, k, l, a, w, hl, hs, h => by
    simp only [List.length_cons, seqB, Bool.and_eq_true] at hs
    obtain ⟨h1, h2⟩ := hs
    have hr : Region.ready md ops l = [k] := by
      split at h1
      · rename_i i hi
        rw [hi, Nat.eq_of_beq_eq_true h1]
      · cases h1
    have h0 : ops[k]? = some o := by simpa using (hl 0).symm
    rw [List.length_cons, ← Nat.add_assoc]
    refine ⟨(fun h => by rw [hr] at h; cases h), fun i hi => ?_⟩
    rw [hr] at hi
    obtain rfl : i = k := by simpa using hi
    unfold wpOp
    rw [h0]
    have next : ∀ a' w', wpList P ops Q rest a' w' → wpAny P md ops Q (f + rest.length) (l.setIfInBounds i true) a' w' := fun a' w' h => wpAny_seq rest f (i + 1) _ a' w' (fun j => by have := hl (j + 1); simpa [Nat.add_assoc, Nat.add_comm 1 j] using this) h2 h
    simp only [wpList] at h
    show if Region.wanted o (yielded ops a.tmps) = true then _ else _
    split
    · rename_i hw
      simp only [hw, if_true] at h
      exact h.imp (Oper.wp_mono next) id
    · rename_i hw
      simp only [hw] at h
      exact next _ _ h
/-- What is listed holds what it waits for. -/
def Closed (md : Region.Mode) (ops : Array Oper) (lp : Array Bool) : Prop := ∀ j, lp.getD j false = true → ∀ o, ops[j]? = some o → ∀ e ∈ o.after, Region.binds md e = true → lp.getD e.on false = true
theorem getD_app {lp : Array Bool} {k j : Nat} (d : Bool) (hj : j < lp.size) : (lp ++ Array.replicate k false).getD j d = lp.getD j d := by
  simp [Array.getElem?_append_left hj]
theorem getD_tail {lp : Array Bool} {k j : Nat} (hj : lp.size ≤ j) : (lp ++ Array.replicate k false).getD j false = false := by
  simp [Array.getElem?_append_right hj, Array.getElem?_replicate]
  split <;> rfl
theorem getD_rep (n j : Nat) : (Array.replicate n false).getD j false = false := by
  have := getD_tail (lp := #[]) (k := n) (j := j) (by simp)
  simpa using this
theorem wpAny_then {pre post : List Oper} (hw : waitB md pre.length (pre ++ post) = true) (hs : seqB md (pre ++ post).toArray post.length pre.length (Array.replicate pre.length true ++ Array.replicate post.length false) = true) :
    ∀ (f : Nat) (lp : Array Bool) (a : Act) (w : World), lp.size = pre.length → Closed md pre.toArray lp → C w → wpAnyQ P md pre.toArray C (fun a' => ∀ w', C w' → wpList P (pre ++ post).toArray Q post a' w') f lp a →
      wpAny P md (pre ++ post).toArray Q (f + post.length) (lp ++ Array.replicate post.length false) a w := by
  simp only [waitB, Bool.and_eq_true, List.all_eq_true, List.mem_range] at hw
  obtain ⟨⟨hw1, hw2⟩, hw3⟩ := hw
  have hpre : ∀ j, j < pre.length → (pre ++ post)[j]? = pre[j]? := fun j hj => List.getElem?_append_left hj
  have full : ∀ j, (pre ++ post).toArray[j]? = (pre ++ post)[j]? := fun j => List.getElem?_toArray ..
  -- all listed: the last ones
  have done : ∀ (f : Nat) (lp : Array Bool) (a : Act) (w : World), lp.size = pre.length → (∀ j, j < pre.length → lp.getD j false = true) → wpList P (pre ++ post).toArray Q post a w → wpAny P md (pre ++ post).toArray Q (f + post.length) (lp ++ Array.replicate post.length false) a w := fun f lp a w hsz hall h => by
    have e : lp = Array.replicate pre.length true := by
      apply Array.ext
      · simp [hsz]
      · intro i h1 h2
        have := hall i (by omega)
        simp [h1] at this
        simp [this]
    rw [e]
    exact wpAny_seq post f pre.length _ a w (fun j => by rw [full, List.getElem?_append_right (Nat.le_add_right _ _), Nat.add_sub_cancel_left]) hs h
  -- some not listed: one of the first is ready
  have some_ready : ∀ (lp : Array Bool), lp.size = pre.length → ¬ (∀ j, j < pre.length → lp.getD j false = true) → Region.ready md pre.toArray lp ≠ [] := fun lp hsz hnot hr => by
    apply hnot
    intro j
    induction j using Nat.strongRecOn with
    | _ j ih =>
      intro hj
      by_cases hl : lp.getD j false = true
      · exact hl
      · exfalso
        have hmem : j ∈ Region.ready md pre.toArray lp := by
          rw [mem_ready]
          refine ⟨?_, pre[j], by simp [hj], fun e he hb => ?_⟩
          · have hlt : j < lp.size := by omega
            simp [hlt] at hl ⊢
            exact hl
          · have h1 := (hw1 j hj).1
            rw [hpre j hj, List.getElem?_eq_getElem hj] at h1
            have h2 := Array.all_eq_true_iff_forall_mem.1 h1 e he
            have h3 : e.on < j := by simpa [Nat.blt_eq] using h2
            exact ih e.on h3 (by omega)
        rw [hr] at hmem
        cases hmem
  -- one of the last is ready: all of the first are listed
  have cover : ∀ (lp : Array Bool) (i : Nat), lp.size = pre.length → Closed md pre.toArray lp → pre.length ≤ i → i ∈ Region.ready md (pre ++ post).toArray (lp ++ Array.replicate post.length false) → ∀ j, j < pre.length → lp.getD j false = true := fun lp i hsz hcl hi hr => by
    rw [mem_ready] at hr
    obtain ⟨hun, o, ho, hall⟩ := hr
    rw [full] at ho
    have hlt := (List.getElem?_eq_some_iff.1 ho).1
    have him : i = pre.length := by
      by_cases he : i = pre.length
      · exact he
      · exfalso
        have h1 := hw2 i hlt
        rw [ho] at h1
        have h2 : Nat.ble i pre.length = false := by
          cases hb : Nat.ble i pre.length
          · rfl
          · have := Nat.le_of_ble_eq_true hb; omega
        rw [h2, Bool.false_or] at h1
        obtain ⟨e, he, hb⟩ := Array.any_eq_true'.1 h1
        rw [Bool.and_eq_true] at hb
        have h3 := Nat.le_of_ble_eq_true hb.2
        have h4 := hall e he hb.1
        rw [getD_tail (by omega)] at h4
        cases h4
    subst him
    have main : ∀ n j, pre.length - j ≤ n → j < pre.length → lp.getD j false = true := fun n => by
      induction n with
      | zero => intro j h1 h2; omega
      | succ n ih =>
        intro j h1 hj
        obtain ⟨i, hi, hb⟩ := List.any_eq_true.1 (hw1 j hj).2
        rw [Bool.and_eq_true] at hb
        have hji : j < i := by simpa [Nat.blt_eq] using hb.1
        have him : i < pre.length + 1 := List.mem_range.1 hi
        have hb2 := hb.2
        by_cases he : i = pre.length
        · subst he
          rw [ho] at hb2
          obtain ⟨e, he, hbe⟩ := Array.any_eq_true'.1 hb2
          rw [Bool.and_eq_true] at hbe
          have h4 := hall e he hbe.1
          rw [Nat.eq_of_beq_eq_true hbe.2, getD_app _ (by omega)] at h4
          exact h4
        · have hilt : i < pre.length := by omega
          rw [hpre i hilt, List.getElem?_eq_getElem hilt] at hb2
          obtain ⟨e, he, hbe⟩ := Array.any_eq_true'.1 hb2
          rw [Bool.and_eq_true] at hbe
          have := hcl i (ih i (by omega) hilt) pre[i] (by simp [hilt]) e he hbe.1
          rw [Nat.eq_of_beq_eq_true hbe.2] at this
          exact this
    exact fun j hj => main pre.length j (by omega) hj
  -- the first ones' readiness
  have same_ready : ∀ (lp : Array Bool) (i : Nat), lp.size = pre.length → i < pre.length → (i ∈ Region.ready md (pre ++ post).toArray (lp ++ Array.replicate post.length false) ↔ i ∈ Region.ready md pre.toArray lp) := fun lp i hsz hi => by
    rw [mem_ready, mem_ready, full, hpre i hi, getD_app _ (by omega), show pre.toArray[i]? = pre[i]? by simp]
    have h1 := (hw1 i hi).1
    rw [hpre i hi, List.getElem?_eq_getElem hi] at h1
    constructor
    · rintro ⟨h0, o, ho, hall⟩
      refine ⟨h0, o, ho, fun e he hb => ?_⟩
      rw [List.getElem?_eq_getElem hi] at ho
      cases ho
      have h3 : e.on < i := by simpa [Nat.blt_eq] using Array.all_eq_true_iff_forall_mem.1 h1 e he
      have := hall e he hb
      rwa [getD_app _ (by omega)] at this
    · rintro ⟨h0, o, ho, hall⟩
      refine ⟨h0, o, ho, fun e he hb => ?_⟩
      rw [List.getElem?_eq_getElem hi] at ho
      cases ho
      have h3 : e.on < i := by simpa [Nat.blt_eq] using Array.all_eq_true_iff_forall_mem.1 h1 e he
      have := hall e he hb
      rwa [getD_app _ (by omega)]
  have same_op : ∀ (i : Nat) (K : Act → Prop) (a : Act), i < pre.length → qOp P pre.toArray C i K a → qOp P (pre ++ post).toArray C i K a := fun i K a hi h => by
    unfold qOp at h ⊢
    rw [full, hpre i hi]
    rw [show pre.toArray[i]? = pre[i]? by simp] at h
    rw [List.getElem?_eq_getElem hi] at h ⊢
    have h3 := hw3 i hi
    rw [hpre i hi, List.getElem?_eq_getElem hi] at h3
    have hy : Region.wanted pre[i] (yielded (pre ++ post).toArray a.tmps) = Region.wanted pre[i] (yielded pre.toArray a.tmps) := by
      unfold Region.wanted
      rcases hgd : pre[i].guard with _ | ⟨g, b⟩
      · rfl
      · have hg : g < pre.length := by
          simp only [hgd] at h3
          simpa [Nat.blt_eq] using h3
        simp only [yielded]
        rw [full, hpre g hg, show pre.toArray[g]? = pre[g]? by simp]
    simp only at h ⊢
    rw [hy]
    exact h
  have closed_set : ∀ (lp : Array Bool) (i : Nat), lp.size = pre.length → Closed md pre.toArray lp → i ∈ Region.ready md pre.toArray lp → Closed md pre.toArray (lp.setIfInBounds i true) := fun lp i hsz hcl hr j hj o ho e he hb => by
    by_cases hij : i = j
    · subst hij
      rw [mem_ready] at hr
      obtain ⟨_, o', ho', hall⟩ := hr
      rw [ho] at ho'
      cases ho'
      exact getD_set_true (hall e he hb)
    · rw [getD_set_ne false hij] at hj
      exact getD_set_true (hcl j hj o ho e he hb)
  intro f
  induction f with
  | zero =>
    intro lp a w hsz hcl hC h
    by_cases hall : ∀ j, j < pre.length → lp.getD j false = true
    · exact done 0 lp a w hsz hall (h.2 w hC)
    · exact absurd h.1 (some_ready lp hsz hall)
  | succ f ih =>
    intro lp a w hsz hcl hC h
    by_cases hall : ∀ j, j < pre.length → lp.getD j false = true
    · have hr : Region.ready md pre.toArray lp = [] := by
        rw [List.eq_nil_iff_forall_not_mem]
        intro i hi
        rw [mem_ready] at hi
        obtain ⟨h0, o, ho, _⟩ := hi
        have hi2 : i < pre.length := by
          have := (Array.getElem?_eq_some_iff.1 ho).1
          simpa using this
        have := hall i hi2
        have hlt : i < lp.size := by omega
        simp [hlt] at h0 this
        rw [h0] at this
        cases this
      exact done (f + 1) lp a w hsz hall (h.1 hr w hC)
    · rw [show f + 1 + post.length = (f + post.length) + 1 by omega]
      refine ⟨fun h0 => ?_, fun i hi => ?_⟩
      · exfalso
        obtain ⟨i, hi⟩ := List.exists_mem_of_ne_nil _ (some_ready lp hsz hall)
        have hi2 : i < pre.length := by
          have h1 := hi
          rw [mem_ready] at h1
          obtain ⟨_, o, ho, _⟩ := h1
          have := (Array.getElem?_eq_some_iff.1 ho).1
          simpa using this
        have := (same_ready lp i hsz hi2).2 hi
        rw [h0] at this
        cases this
      · by_cases hi2 : i < pre.length
        · have hr := (same_ready lp i hsz hi2).1 hi
          have hq := same_op i _ a hi2 (h.2 i hr)
          refine wpOp_of_qOp hC (fun a' w' hw' hk => ?_) hq
          have := ih (lp.setIfInBounds i true) a' w' (by simp [hsz]) (closed_set lp i hsz hcl hr) hw' hk
          have e : (lp ++ Array.replicate post.length false).setIfInBounds i true = lp.setIfInBounds i true ++ Array.replicate post.length false := by
            rw [Array.setIfInBounds_append, if_pos (by omega)]
          rw [e]
          exact this
        · exact absurd (cover lp i hsz hcl (by omega) hi) hall
theorem wp_region_quiet_then {id : Nat} {a : Act} {w : World} (pre post : List Oper) (hm : P.follows .mixedOrders = true) (hB : Region.lexB .any pre.toArray = true) (hw : waitB .any pre.length (pre ++ post) = true) (hs : seqB .any (pre ++ post).toArray post.length pre.length (Array.replicate pre.length true ++ Array.replicate post.length false) = true)
    (h : wpQuiet P pre.toArray (fun w' => ∃ n, w' = w.drewN n) (fun a' => ∀ w', (∃ n, w' = w.drewN n) → wpList P (pre ++ post).toArray Q post a' w') pre a) : (Code.region id (pre ++ post).toArray true).wp P Q a w := by
  simp only [Region.lexB, Bool.and_eq_true] at hB
  refine wp_region_any hm ?_
  have hq := wpAnyQ_lex (C := fun w' => ∃ n, w' = w.drewN n) (md := .any) hB.1 pre 0 (Array.replicate pre.length false) a (fun j => by rw [Nat.zero_add, List.getElem?_toArray]) (by simpa using hB.2) h
  have := wpAny_then (md := .any) (C := fun w' => ∃ n, w' = w.drewN n) hw hs pre.length (Array.replicate pre.length false) a { w with drawn := w.drawn + 1 } Array.size_replicate (fun j hj => by rw [getD_rep] at hj; cases hj) ⟨1, rfl⟩ hq
  simpa [List.length_append, Array.replicate_append_replicate] using this
theorem wp_region_quiet_at {id : Nat} {a : Act} {w : World} {l : List Oper} (m : Nat) (hm : P.follows .mixedOrders = true) (hB : Region.lexB .any (l.take m).toArray = true) (hw : waitB .any (l.take m).length (l.take m ++ l.drop m) = true) (hs : seqB .any (l.take m ++ l.drop m).toArray (l.drop m).length (l.take m).length (Array.replicate (l.take m).length true ++ Array.replicate (l.drop m).length false) = true)
    (h : wpQuiet P (l.take m).toArray (fun w' => ∃ n, w' = w.drewN n) (fun a' => ∀ w', (∃ n, w' = w.drewN n) → wpList P l.toArray Q (l.drop m) a' w') (l.take m) a) : (Code.region id l.toArray true).wp P Q a w := by
  have h2 := wp_region_quiet_then (id := id) (Q := Q) (l.take m) (l.drop m) hm hB hw hs (by rw [List.take_append_drop]; exact h)
  rwa [List.take_append_drop] at h2
end
end Go.Proofs.Ytilfhkagfjdfkaa
