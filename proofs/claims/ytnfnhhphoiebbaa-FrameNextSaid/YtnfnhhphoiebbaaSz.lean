/- Places whose listed operations are bits: one pass takes what is read-only. -/
import Derived.Test.YtnfnhhphoiebbaaSs
set_option linter.unusedVariables false
set_option linter.unusedSimpArgs false
namespace Go.Proofs.Ytnfnhhphoiebbaa.Sx
open Go

theorem bitOf_eq (m i : Nat) : bitOf m i = m.testBit i := by
  rw [Nat.testBit_eq_decide_div_mod_eq, ← Nat.shiftRight_eq_div_pow, ← Nat.and_one_is_mod]
  show Nat.beq (m >>> i &&& 1) 1 = _
  cases h : Nat.beq (m >>> i &&& 1) 1
  · have : ¬ (m >>> i &&& 1) = 1 := fun he => by rw [he] at h; cases h
    exact (decide_eq_false this).symm
  · have := Nat.eq_of_beq_eq_true h
    exact (decide_eq_true this).symm
theorem bitsArr_size (n m : Nat) : (bitsArr n m).size = n := by simp [bitsArr]
theorem bitsArr_getD {n m i : Nat} (h : i < n) : (bitsArr n m).getD i false = m.testBit i := by
  simp [bitsArr, Array.getD_eq_getD_getElem?, h, bitOf_eq]
theorem bitsArr_set {n m i : Nat} (h : i < n) : bitsArr n (Nat.lor m (2 ^ i)) = (bitsArr n m).setIfInBounds i true := by
  apply Array.ext
  · simp [bitsArr]
  · intro j h1 h2
    have hj : j < n := by rw [bitsArr_size] at h1; exact h1
    have e : (Nat.lor m (2 ^ i)).testBit j = (m.testBit j || decide (i = j)) := by
      show (m ||| 2 ^ i).testBit j = _
      rw [Nat.testBit_or, Nat.testBit_two_pow]
    simp only [bitsArr, List.getElem_toArray, List.getElem_map, List.getElem_range, bitOf_eq, Array.getElem_setIfInBounds, e]
    by_cases hij : i = j
    · simp [hij]
    · simp [hij, bitOf_eq]

theorem predMask_bit {k : Nat} : ∀ {l : List Edge}, (predMask l).testBit k = true ↔ ∃ ed ∈ l, Region.binds .any ed = true ∧ ed.on = k
  | [] => by simp [predMask]
  | ed :: l => by
    simp only [predMask]
    cases hb : Region.binds .any ed
    · simp only [predMask_bit (l := l), List.mem_cons, exists_eq_or_imp, hb]
      simp
    · show (2 ^ ed.on ||| predMask l).testBit k = true ↔ _
      rw [Nat.testBit_or, Nat.testBit_two_pow, Bool.or_eq_true, predMask_bit (l := l)]
      simp [hb]
theorem rdy_iff {lm i : Nat} {o : Oper} : rdy lm i o = true ↔ lm.testBit i = false ∧ ∀ ed ∈ o.after, Region.binds .any ed = true → lm.testBit ed.on = true := by
  unfold rdy
  rw [bitOf_eq]
  cases h : lm.testBit i
  · simp only [true_and]
    rw [Nat.beq_eq]
    constructor
    · intro he ed hed hbi
      have hp : (predMask o.after.toList).testBit ed.on = true := predMask_bit.2 ⟨ed, Array.mem_toList_iff.2 hed, hbi, rfl⟩
      have e2 : (lm &&& predMask o.after.toList).testBit ed.on = (predMask o.after.toList).testBit ed.on := congrArg (fun x => Nat.testBit x ed.on) he
      rw [Nat.testBit_and, hp, Bool.and_true] at e2
      exact e2
    · intro hall
      show lm &&& predMask o.after.toList = _
      apply Nat.eq_of_testBit_eq
      intro k
      rw [Nat.testBit_and]
      cases hp : (predMask o.after.toList).testBit k
      · simp
      · obtain ⟨ed, hed, hbi, rfl⟩ := predMask_bit.1 hp
        rw [hall ed (Array.mem_toList_iff.1 hed) hbi]; rfl
  · simp

theorem edgesBack_ok {ops : Array Oper} (hb : edgesBack ops = true) {i : Nat} {o : Oper} (ho : ops[i]? = some o) {ed : Edge} (hed : ed ∈ o.after) (hbi : Region.binds .any ed = true) : ed.on < i := by
  have hlt : i < ops.size := (Array.getElem?_eq_some_iff.1 ho).1
  have h := List.all_eq_true.1 hb i (List.mem_range.2 hlt)
  rw [tat_eq, Array.getElem?_toList, ho] at h
  have h2 := List.all_eq_true.1 h ed (Array.mem_toList_iff.2 hed)
  rw [hbi] at h2
  exact Nat.blt_eq ▸ h2

theorem ready_bits {ops : Array Oper} (hb : edgesBack ops = true) {lm i : Nat} : i ∈ Region.ready .any ops (bitsArr ops.size lm) ↔ ∃ o, ops[i]? = some o ∧ rdy lm i o = true := by
  rw [ready_iff (bitsArr_size _ _)]
  constructor
  · rintro ⟨o, h1, h2, h3⟩
    have hlt : i < ops.size := (Array.getElem?_eq_some_iff.1 h1).1
    rw [bitsArr_getD hlt] at h2
    exact ⟨o, h1, rdy_iff.2 ⟨h2, fun ed hed hbi => by
      have := h3 ed hed hbi
      rwa [bitsArr_getD (Nat.lt_trans (edgesBack_ok hb h1 hed hbi) hlt)] at this⟩⟩
  · rintro ⟨o, h1, h2⟩
    have hlt : i < ops.size := (Array.getElem?_eq_some_iff.1 h1).1
    obtain ⟨h3, h4⟩ := rdy_iff.1 h2
    exact ⟨o, h1, by rw [bitsArr_getD hlt]; exact h3, fun ed hed hbi => by
      rw [bitsArr_getD (Nat.lt_trans (edgesBack_ok hb h1 hed hbi) hlt)]; exact h4 ed hed hbi⟩
theorem readyFrom_mem {lm j : Nat} : ∀ {l : List Oper} {i : Nat}, (∃ k o, l[k]? = some o ∧ j = i + k ∧ rdy lm j o = true) → j ∈ readyFrom lm l i
  | [], i, ⟨k, o, h, _⟩ => by simp at h
  | x :: l, i, ⟨k, o, h1, h2, h3⟩ => by
    simp only [readyFrom]
    cases k with
    | zero =>
      simp only [List.getElem?_cons_zero, Option.some.injEq] at h1
      subst h1
      simp only [Nat.add_zero] at h2
      subst h2
      rw [h3]; simp
    | succ k =>
      simp only [List.getElem?_cons_succ] at h1
      have := readyFrom_mem (lm := lm) (j := j) (l := l) (i := i + 1) ⟨k, o, h1, by omega, h3⟩
      split
      · exact List.mem_cons_of_mem _ this
      · exact this
theorem readyFrom_ok {lm j : Nat} : ∀ {l : List Oper} {i : Nat}, j ∈ readyFrom lm l i → ∃ k o, l[k]? = some o ∧ j = i + k ∧ rdy lm j o = true
  | [], i, h => by cases h
  | x :: l, i, h => by
    simp only [readyFrom] at h
    split at h
    · rename_i hr
      rcases List.mem_cons.1 h with rfl | h
      · exact ⟨0, x, rfl, rfl, hr⟩
      · obtain ⟨k, o, h1, h2, h3⟩ := readyFrom_ok h
        exact ⟨k + 1, o, h1, by omega, h3⟩
    · obtain ⟨k, o, h1, h2, h3⟩ := readyFrom_ok h
      exact ⟨k + 1, o, h1, by omega, h3⟩
theorem ready_from {ops : Array Oper} (hb : edgesBack ops = true) {lm i : Nat} (h : i ∈ Region.ready .any ops (bitsArr ops.size lm)) : i ∈ readyFrom lm ops.toList 0 := by
  obtain ⟨o, h1, h2⟩ := (ready_bits hb).1 h
  exact readyFrom_mem ⟨i, o, by simpa using h1, by omega, h2⟩

/-! Who may come up ahead of its time -/
theorem writersCode_bit {n d : Nat} : ∀ {l : List Oper} {i t : Nat} {o : Oper}, l[t]? = some o → o.dst = some d → (writersCode n l i).testBit (d * n + (i + t)) = true
  | [], _, t, o, h, _ => by simp at h
  | x :: l, i, t, o, h, hd => by
    cases t with
    | zero =>
      simp only [List.getElem?_cons_zero, Option.some.injEq] at h
      subst h
      simp only [writersCode, hd]
      show (2 ^ (d * n + i) ||| writersCode n l (i + 1)).testBit _ = true
      rw [Nat.testBit_or, Nat.testBit_two_pow]
      simp
    | succ t =>
      simp only [List.getElem?_cons_succ] at h
      have ih := writersCode_bit (n := n) (d := d) (l := l) (i := i + 1) h hd
      rw [show i + 1 + t = i + (t + 1) from by omega] at ih
      simp only [writersCode]
      split
      · rename_i d' _
        show (2 ^ (d' * n + i) ||| writersCode n l (i + 1)).testBit _ = true
        rw [Nat.testBit_or, ih, Bool.or_true]
      · exact ih
theorem writersOf_bit {n code s k : Nat} (hk : k < n) (h : code.testBit (s * n + k) = true) : (writersOf n code s).testBit k = true := by
  show ((code >>> (s * n)) &&& (2 ^ n - 1)).testBit k = true
  rw [Nat.testBit_and, Nat.testBit_shiftRight, h, Nat.testBit_two_pow_sub_one]
  simpa using hk
theorem lookBad_bit {n code nw j s : Nat} : ∀ {l : List Tmp}, s ∈ l → (writersOf n code s).testBit j = true → nw.testBit j = true → (lookBad n code nw l).testBit j = true
  | [], h, _, _ => by cases h
  | x :: l, h, h1, h2 => by
    simp only [lookBad]
    show ((writersOf n code x &&& nw) ||| lookBad n code nw l).testBit j = true
    rw [Nat.testBit_or, Nat.testBit_and, Bool.or_eq_true]
    rcases List.mem_cons.1 h with rfl | h
    · exact .inl (by rw [h1, h2]; rfl)
    · exact .inr (lookBad_bit h h1 h2)
theorem badFrom_bit {ops : Array Oper} {n code j : Nat} : ∀ {l : List Oper} {ms : List Nat} {i t : Nat} {o : Oper} {m : Nat}, l[t]? = some o → ms[t]? = some m →
    ((lookBad n code (Nat.xor (2 ^ n - 1) (Nat.land m (2 ^ (i + t) - 1))) (o.looksAt ops)).testBit j = true ∨ (dupBad n code (i + t) o.dst).testBit j = true) → (badFrom ops n code l ms i).testBit j = true
  | [], _, _, t, o, _, h, _, _ => by simp at h
  | x :: l, [], _, t, o, _, _, h, _ => by simp at h
  | x :: l, m' :: ms, i, t, o, m, h1, h2, h3 => by
    simp only [badFrom]
    show (lookBad n code _ (x.looksAt ops) ||| (dupBad n code i x.dst ||| badFrom ops n code l ms (i + 1))).testBit j = true
    rw [Nat.testBit_or, Nat.testBit_or, Bool.or_eq_true, Bool.or_eq_true]
    cases t with
    | zero =>
      simp only [List.getElem?_cons_zero, Option.some.injEq] at h1 h2
      subst h1 h2
      rcases h3 with h3 | h3
      · exact .inl h3
      · exact .inr (.inl h3)
    | succ t =>
      simp only [List.getElem?_cons_succ] at h1 h2
      rw [show i + (t + 1) = i + 1 + t from by omega] at h3
      exact .inr (.inr (badFrom_bit h1 h2 h3))
theorem masksFrom_length : ∀ {l : List Oper} {acc : List Nat}, (masksFrom l acc).length = acc.length + l.length
  | [], acc => by simp [masksFrom]
  | o :: l, acc => by
    simp only [masksFrom]
    rw [masksFrom_length]
    simp; omega
theorem masks_get {ops : Array Oper} {i : Nat} (hi : i < ops.size) : (masks ops)[i]? = some ((masks ops).getD i 0) := by
  have : i < (masks ops).length := by unfold masks; rw [masksFrom_length]; simpa using hi
  rw [List.getD_eq_getElem?_getD, List.getElem?_eq_getElem this]; rfl

theorem takes_ok {ops : Array Oper} {j : Nat} {o : Oper} {d : Tmp} (hbad : bitOf (badMask ops) j = false) (ho : ops[j]? = some o) (hd : o.dst = some d) : Takes ops j o d := by
  rw [bitOf_eq] at hbad
  have hj : j < ops.size := (Array.getElem?_eq_some_iff.1 ho).1
  have hw : ∀ {i : Nat} {x : Oper}, ops[i]? = some x → x.dst = some d → (writersOf ops.size (writersCode ops.size ops.toList 0) d).testBit i = true := fun {i x} hx hxd => by
    refine writersOf_bit (Array.getElem?_eq_some_iff.1 hx).1 ?_
    have := writersCode_bit (n := ops.size) (d := d) (l := ops.toList) (i := 0) (t := i) (by simpa using hx) hxd
    simpa using this
  have look : ∀ i x, ops[i]? = some x → d ∈ x.looksAt ops → ¬ (waits ops j i = true ∧ j < i) → False := fun i x hx hm hn => by
    have hi : i < ops.size := (Array.getElem?_eq_some_iff.1 hx).1
    have := badFrom_bit (ops := ops) (n := ops.size) (code := writersCode ops.size ops.toList 0) (j := j) (l := ops.toList) (ms := masks ops) (i := 0) (t := i) (by simpa using hx) (masks_get hi) (.inl (lookBad_bit hm (hw ho hd) (by
      show (2 ^ ops.size - 1 ^^^ (_ &&& (2 ^ (0 + i) - 1))).testBit j = true
      rw [Nat.testBit_xor, Nat.testBit_and, Nat.testBit_two_pow_sub_one, Nat.testBit_two_pow_sub_one]
      have : ¬ (((masks ops).getD i 0).testBit j = true ∧ j < i) := hn
      simp only [Nat.zero_add, hj, decide_true, Bool.true_xor, Bool.not_eq_true', Bool.and_eq_false_iff, decide_eq_false_iff_not]
      cases h : ((masks ops).getD i 0).testBit j
      · exact .inl rfl
      · exact .inr fun hji => this ⟨h, hji⟩)))
    rw [show (badFrom ops ops.size (writersCode ops.size ops.toList 0) ops.toList (masks ops) 0) = badMask ops from rfl, hbad] at this
    cases this
  refine ⟨ho, hd, fun hm => look j o ho hm fun h => absurd h.2 (Nat.lt_irrefl _), fun i x hx _ hm => ?_, fun i x hx hij hxd => ?_⟩
  · cases h : waits ops j i
    · exact (look i x hx hm fun hh => by rw [h] at hh; cases hh.1).elim
    · rfl
  · have := badFrom_bit (ops := ops) (n := ops.size) (code := writersCode ops.size ops.toList 0) (j := j) (l := ops.toList) (ms := masks ops) (i := 0) (t := j) (by simpa using ho) (masks_get hj) (.inr (by
      rw [hd]
      simp only [dupBad, Nat.zero_add]
      have hne : Nat.beq (writersOf ops.size (writersCode ops.size ops.toList 0) d) (2 ^ j) = false := by
        cases hq : Nat.beq (writersOf ops.size (writersCode ops.size ops.toList 0) d) (2 ^ j)
        · rfl
        · have h1 := hw hx hxd
          rw [Nat.eq_of_beq_eq_true hq, Nat.testBit_two_pow] at h1
          simp only [decide_eq_true_eq] at h1
          exact absurd h1.symm hij
      rw [hne]
      exact hw ho hd))
    rw [show (badFrom ops ops.size (writersCode ops.size ops.toList 0) ops.toList (masks ops) 0) = badMask ops from rfl, hbad] at this
    cases this

section
variable {P : Program} {glob : Nat → Option Nat} {E : Cx} {ro : Option Nat} {ops : Array Oper} {Q : Exit → Act → World → Prop} {lf : Nat}
variable {e0 e : Env} {S : Nat → Prop} {w0 w : World} {st0 st : St} {fr : Fr} {a : Act}

def Pas.at : Pas → Qp
  | .fin q => q
  | .ask _ q => q
theorem pass_ok (hb : edgesBack ops = true) : ∀ (l : List Oper) (i : Nat) (q : Qp), (∀ t, l[t]? = ops[i + t]?) →
    Goal ro P glob ops Q e0 S w0 st0 ((pass P glob ops (badMask ops) l i q).at.pl ops.size) → Goal ro P glob ops Q e0 S w0 st0 (q.pl ops.size)
  | [], _, q, _, h => h
  | o :: l, i, q, hl, h => by
    have ho : ops[i]? = some o := by have := hl 0; simpa using this.symm
    have hlt : i < ops.size := (Array.getElem?_eq_some_iff.1 ho).1
    have hl' : ∀ t, l[t]? = ops[i + 1 + t]? := fun t => by
      have := hl (t + 1)
      simp only [List.getElem?_cons_succ] at this
      rw [this]; congr 1; omega
    have skip : Goal ro P glob ops Q e0 S w0 st0 ((pass P glob ops (badMask ops) l (i + 1) q).at.pl ops.size) → Goal ro P glob ops Q e0 S w0 st0 (q.pl ops.size) := pass_ok hb l (i + 1) q hl'
    simp only [pass] at h
    split at h
    · exact skip h
    · rename_i hr
      split at h
      · exact skip h
      · rename_i d hd
        split at h
        · rename_i v hv
          split at h
          · exact skip h
          · rename_i hbit
            split at h
            · rename_i hblt
              have hg := pass_ok hb l (i + 1) _ hl' h
              refine goal_take (p := q.pl ops.size) (j := i) (o := o) (v := v) ((ready_bits hb).2 ⟨o, ho, hr⟩) ho hv ⟨d, takes_ok hbit ho hd⟩ (fun d' hd' => ?_) ?_
              · rw [hd] at hd'; cases hd'
                exact hasAt_lt hblt
              · simp only [Qp.pl, bitsArr_set hlt] at hg
                simp only [Qp.pl, hd, setDst]
                exact hg
            · exact skip h
        · exact h
        · exact skip h

theorem behind_P {q : Qp} {i : Nat} (hi : i < ops.size) : ∀ {xs : List (Fr × St)} {ps : List Qp}, behind P glob ops q i xs = some ps → behindP P glob ops (q.pl ops.size) i xs = some (ps.map (Qp.pl ops.size))
  | [], ps, h => by cases h; rfl
  | (fr, st) :: xs, ps, h => by
    simp only [behind] at h
    split at h
    · rename_i m hh hb
      cases h
      simp only [behindP]
      split
      · rename_i m' hh' hb'
        rw [behind_P hi hb] at hb'
        cases hb'
        simp only [List.map_cons, Qp.pl, bitsArr_set hi]
        first
        | done
        | rfl
      · rename_i hno
        exact (hno _ hh (behind_P hi hb)).elim
    · cases h
end
end Go.Proofs.Ytnfnhhphoiebbaa.Sx
