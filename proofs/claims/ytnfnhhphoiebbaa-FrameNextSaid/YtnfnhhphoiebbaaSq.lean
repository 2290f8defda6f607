/- Regions that draw their order: one reading serves every order. -/
import Derived.Test.YtnfnhhphoiebbaaSp
set_option linter.unusedVariables false
set_option linter.unusedSimpArgs false
namespace Go.Proofs.Ytnfnhhphoiebbaa.Sx
open Go

/-! Places that are the same -/
theorem entriesSame_eq : ∀ {l m : List (V × V × Nat)}, Blk.same.entriesSame l m = true → l = m
  | [], [], _ => rfl
  | [], _ :: _, h => by simp [Blk.same.entriesSame] at h
  | _ :: _, [], h => by simp [Blk.same.entriesSame] at h
  | (a, b, n) :: l, (c, d, k) :: m, h => by
    simp only [Blk.same.entriesSame, Bool.and_eq_true] at h
    rw [V.same_eq h.1.1, V.same_eq h.1.2, beq_true h.2.1, entriesSame_eq h.2.2]
theorem kindsSame_eq : ∀ {l m : List (Option IntKind)}, kindsSame l m = true → l = m
  | [], [], _ => rfl
  | [], _ :: _, h => by cases h
  | a :: _, [], h => by cases a <;> cases h
  | none :: l, none :: m, h => by rw [kindsSame_eq (l := l) (m := m) h]
  | none :: _, some _ :: _, h => by cases h
  | some _ :: _, none :: _, h => by cases h
  | some a :: l, some b :: m, h => by
    simp only [kindsSame, Bool.and_eq_true] at h
    rw [kindSame_eq h.1, kindsSame_eq h.2]
theorem LpState.same_eq {a b : LpState} (h : LpState.same a b = true) : a = b := by
  cases a <;> cases b <;> first | rfl | cases h
theorem Pend.same_eq {a b : Pend} (h : Pend.same a b = true) : a = b := by
  cases a <;> cases b <;> first | rfl | (cases h; done) | (rw [beq_true h])
theorem Blk.same_eq {a b : Blk} (h : Blk.same a b = true) : a = b := by
  cases a <;> cases b <;> simp only [Blk.same, Bool.and_eq_true, Bool.false_eq_true] at h
  · rw [beq_true h.1, V.sameL_eq h.2]
  · rw [beq_true h.1.1, beq_true h.1.2, V.sameL_eq h.2]
  · rw [beq_true h.1, entriesSame_eq h.2]
  · rw [V.sameL_eq h]
  · rfl
  · rename_i o p; cases o <;> cases p <;> first | rfl | cases h
  · rw [beq_true h.1.1, beq_true h.1.2, kindsSame_eq h.2.1, N.same_eq h.2.2]
  · rw [LpState.same_eq h.1, Pend.same_eq h.2]
theorem T.same_eq : ∀ {a b : T}, T.same a b = true → a = b
  | .nil, .nil, _ => rfl
  | .nil, .nd _ _ _, h => by simp [T.same] at h
  | .nd _ _ _, .nil, h => by simp [T.same] at h
  | .nd a v b, .nd c w d, h => by
    simp only [T.same, Bool.and_eq_true] at h
    have hv : v = w := by
      have h1 := h.1
      cases v <;> cases w <;> simp only [Bool.false_eq_true] at h1
      · rfl
      · rw [Blk.same_eq h1]
    rw [hv, T.same_eq h.2.1, T.same_eq h.2.2]
theorem pcSame_eq : ∀ {a b : Pc}, pcSame a b = true → a = b
  | [], [], _ => rfl
  | [], _ :: _, h => by simp [pcSame] at h
  | _ :: _, [], h => by simp [pcSame] at h
  | (x, t) :: l, (y, u) :: m, h => by
    simp only [pcSame, Bool.and_eq_true] at h
    have ht : t = u := by have := h.1.2; cases t <;> cases u <;> simp_all
    rw [N.same_eq h.1.1, ht, pcSame_eq h.2]
theorem defersSame_eq : ∀ {a b : List (V × List V)}, defersSame a b = true → a = b
  | [], [], _ => rfl
  | [], _ :: _, h => by simp [defersSame] at h
  | _ :: _, [], h => by simp [defersSame] at h
  | (v, l) :: a, (w, m) :: b, h => by
    simp only [defersSame, Bool.and_eq_true] at h
    rw [V.same_eq h.1.1, V.sameL_eq h.1.2, defersSame_eq h.2]
theorem Qp.same_eq {a b : Qp} (h : Qp.same a b = true) : a = b := by
  obtain ⟨la, sa, ⟨ta, da⟩, na, ha, pa⟩ := a
  obtain ⟨lb, sb, ⟨tb, db⟩, nb, hb, pb⟩ := b
  simp only [Qp.same, Bool.and_eq_true] at h
  obtain ⟨h1, h2, h3, h4, h5, h6, h7⟩ := h
  rw [beq_true h1, natsSame_eq h2, V.sameL_eq h3, defersSame_eq h4, pcSame_eq h5, beq_true h6, T.same_eq h7]
theorem addQp_mem {p : Qp} : ∀ {l : List Qp} {x : Qp}, (x = p ∨ x ∈ l) → x ∈ addQp p l
  | [], x, h => by rcases h with rfl | h <;> simp_all [addQp]
  | q :: l, x, h => by
    simp only [addQp]
    cases hs : Qp.same q p
    · simp only
      rcases h with rfl | h
      · exact List.mem_cons_of_mem _ (addQp_mem (.inl rfl))
      · rcases List.mem_cons.1 h with rfl | h
        · simp
        · exact List.mem_cons_of_mem _ (addQp_mem (.inr h))
    · simp only
      rcases h with rfl | h
      · rw [Qp.same_eq hs]; simp
      · exact h
theorem addAll_mem : ∀ {l acc : List Qp} {x : Qp}, (x ∈ l ∨ x ∈ acc) → x ∈ addAll l acc
  | [], acc, x, h => by rcases h with h | h; · cases h
                        · exact h
  | p :: l, acc, x, h => by
    simp only [addAll]
    refine addAll_mem ?_
    rcases h with h | h
    · rcases List.mem_cons.1 h with rfl | h
      · exact .inr (addQp_mem (.inl rfl))
      · exact .inl h
    · exact .inr (addQp_mem (.inr h))

/-! What waits for what -/
/-- All that a listed operation waits for is listed. -/
def Closed (ops : Array Oper) (L : Array Bool) : Prop :=
  ∀ j o, ops[j]? = some o → L.getD j false = true → ∀ ed ∈ o.after, Region.binds .any ed = true → L.getD ed.on false = true

theorem testBit_maskOf {acc : List Nat} {i : Nat} : ∀ {l : List Edge}, (maskOf acc l).testBit i = true → ∃ ed ∈ l, Region.binds .any ed = true ∧ (ed.on = i ∨ (acc.getD ed.on 0).testBit i = true)
  | [], h => by simp [maskOf] at h
  | ed :: l, h => by
    simp only [maskOf] at h
    cases hb : Region.binds .any ed
    · rw [hb] at h
      obtain ⟨x, hx, h2⟩ := testBit_maskOf h
      exact ⟨x, List.mem_cons_of_mem _ hx, h2⟩
    · rw [hb] at h
      simp only [Nat.testBit_or, Bool.or_eq_true, Nat.testBit_two_pow, decide_eq_true_eq] at h
      rcases h with (h | h) | h
      · exact ⟨ed, by simp, hb, .inl h⟩
      · exact ⟨ed, by simp, hb, .inr h⟩
      · obtain ⟨x, hx, h2⟩ := testBit_maskOf h
        exact ⟨x, List.mem_cons_of_mem _ hx, h2⟩
theorem masksFrom_ok {ops : Array Oper} {L : Array Bool} (hc : Closed ops L) : ∀ (l : List Oper) (acc : List Nat), (∀ j, l[j]? = ops[acc.length + j]?) →
    (∀ j i, j < acc.length → L.getD j false = true → (acc.getD j 0).testBit i = true → L.getD i false = true) →
    ∀ j i, L.getD j false = true → ((masksFrom l acc).getD j 0).testBit i = true → L.getD i false = true
  | [], acc, _, hacc, j, i, hj, hb => by
    simp only [masksFrom] at hb
    by_cases hlt : j < acc.length
    · exact hacc j i hlt hj hb
    · rw [List.getD_eq_getElem?_getD, List.getElem?_eq_none (by omega)] at hb
      simp at hb
  | o :: l, acc, hl, hacc, j, i, hj, hb => by
    simp only [masksFrom] at hb
    refine masksFrom_ok hc l _ (fun k => ?_) (fun k m hk hLk hm => ?_) j i hj hb
    · have := hl (k + 1)
      simp only [List.getElem?_cons_succ] at this
      rw [this]
      congr 1
      simp; omega
    · have h0 : ops[acc.length]? = some o := by have := hl 0; simpa using this.symm
      simp only [List.length_append, List.length_singleton] at hk
      by_cases hlt : k < acc.length
      · rw [List.getD_eq_getElem?_getD, List.getElem?_append_left hlt, ← List.getD_eq_getElem?_getD] at hm
        exact hacc k m hlt hLk hm
      · have hkeq : k = acc.length := by omega
        subst hkeq
        rw [List.getD_eq_getElem?_getD, List.getElem?_append_right (Nat.le_refl _)] at hm
        simp only [Nat.sub_self, List.getElem?_cons_zero, Option.getD_some] at hm
        obtain ⟨ed, hed, hbi, hor⟩ := testBit_maskOf hm
        have hon := hc _ o h0 hLk ed (Array.mem_toList_iff.1 hed) hbi
        rcases hor with rfl | hor
        · exact hon
        · by_cases hlt2 : ed.on < acc.length
          · exact hacc ed.on m hlt2 hon hor
          · rw [List.getD_eq_getElem?_getD, List.getElem?_eq_none (by omega)] at hor
            simp at hor
theorem waits_listed {ops : Array Oper} {L : Array Bool} (hc : Closed ops L) {i j : Nat} (hw : waits ops i j = true) (hj : L.getD j false = true) : L.getD i false = true :=
  masksFrom_ok hc ops.toList [] (fun j => by simp) (fun j i hj => by simp at hj) j i hj hw

theorem getD_set_true {L : Array Bool} {i j : Nat} (hi : i < L.size) : (L.setIfInBounds i true).getD j false = true ↔ j = i ∨ L.getD j false = true := by
  simp only [Array.getD_eq_getD_getElem?, Array.getElem?_setIfInBounds]
  by_cases h : i = j
  · subst h; simp [hi]
  · simp [h, Ne.symm h]
theorem ready_iff {ops : Array Oper} {L : Array Bool} (hsz : L.size = ops.size) {i : Nat} : i ∈ Region.ready .any ops L ↔ ∃ o, ops[i]? = some o ∧ L.getD i false = false ∧ ∀ ed ∈ o.after, Region.binds .any ed = true → L.getD ed.on false = true := by
  rw [mem_ready]
  constructor
  · rintro ⟨h1, o, h2, h3⟩
    have hi : i < L.size := by
      rw [hsz]; exact (Array.getElem?_eq_some_iff.1 h2).1
    refine ⟨o, h2, ?_, fun ed hed hb => h3 ed hed hb⟩
    simp [Array.getD_eq_getD_getElem?, hi] at h1 ⊢
    exact h1
  · rintro ⟨o, h2, h1, h3⟩
    have hi : i < L.size := by
      rw [hsz]; exact (Array.getElem?_eq_some_iff.1 h2).1
    refine ⟨?_, o, h2, fun ed hed hb => h3 ed hed hb⟩
    simp [Array.getD_eq_getD_getElem?, hi] at h1 ⊢
    exact h1
theorem closed_add {ops : Array Oper} {L : Array Bool} (hsz : L.size = ops.size) (hc : Closed ops L) {i : Nat} (hi : i ∈ Region.ready .any ops L) : Closed ops (L.setIfInBounds i true) := by
  obtain ⟨o, h1, h2, h3⟩ := (ready_iff hsz).1 hi
  have hlt : i < L.size := by rw [hsz]; exact (Array.getElem?_eq_some_iff.1 h1).1
  intro j oj hj hLj ed hed hb
  rw [getD_set_true hlt] at hLj ⊢
  rcases hLj with rfl | hLj
  · rw [h1] at hj; cases hj
    exact .inr (h3 ed hed hb)
  · exact .inr (hc j oj hj hLj ed hed hb)
/-- What a ready operation waits for is listed. -/
theorem waits_ready {ops : Array Oper} {L : Array Bool} (hsz : L.size = ops.size) (hc : Closed ops L) {i j : Nat} (hw : waits ops i j = true) (hj : j ∈ Region.ready .any ops L) (hij : i ≠ j) : L.getD i false = true := by
  have hlt : j < L.size := by
    obtain ⟨o, h1, _⟩ := (ready_iff hsz).1 hj
    rw [hsz]; exact (Array.getElem?_eq_some_iff.1 h1).1
  have := waits_listed (closed_add hsz hc hj) hw ((getD_set_true hlt).2 (.inl rfl))
  rw [getD_set_true hlt] at this
  rcases this with h | h
  · exact absurd h hij
  · exact h

/-! What an operation that comes up ahead of its time writes, nobody looks at who does not wait for it -/
structure Takes (ops : Array Oper) (j : Nat) (o : Oper) (d : Tmp) : Prop where
  op : ops[j]? = some o
  dst : o.dst = some d
  self : d ∉ o.looksAt ops
  looks : ∀ i x, ops[i]? = some x → i ≠ j → d ∈ x.looksAt ops → waits ops j i = true
  writes : ∀ i x, ops[i]? = some x → i ≠ j → x.dst ≠ some d

section
variable {P : Program} {glob : Nat → Option Nat} {E : Cx} {ro : Option Nat} {e : Env} {S : Nat → Prop} {w0 w : World} {st st' : St} {h : T} {fr : Fr} {a : Act}

/-! What an operation looks at is all that it hangs on -/
theorem opd_set {tm : List V} {d : Nat} {v : V} {x : Operand} (hx : x ≠ .tmp d) : opd glob (tm.set d v) x = opd glob tm x := by
  cases x with
  | tmp t =>
    have hne : d ≠ t := fun he => hx (by rw [he])
    simp only [opd, tget_eq, List.getD_eq_getElem?_getD, List.getElem?_set_ne hne]
  | _ => rfl
theorem opds_set {tm : List V} {d : Nat} {v : V} : ∀ {xs : List Operand}, .tmp d ∉ xs → opds glob (tm.set d v) xs = opds glob tm xs
  | [], _ => rfl
  | x :: xs, hx => by
    simp only [List.mem_cons, not_or] at hx
    simp only [opds]
    rw [opd_set (Ne.symm hx.1), opds_set hx.2]
theorem partsV_set {tm : List V} {d : Nat} {v : V} : ∀ {xs : List (Nat × Operand)}, .tmp d ∉ xs.map (·.2) → partsV glob (tm.set d v) xs = partsV glob tm xs
  | [], _ => rfl
  | (i, x) :: xs, hx => by
    simp only [List.map_cons, List.mem_cons, not_or] at hx
    simp only [partsV]
    rw [opd_set (Ne.symm hx.1), partsV_set hx.2]
theorem readV_set {tm : List V} {d : Nat} {v : V} {o : Oper} (hx : .tmp d ∉ o.op.operands) : readV P glob st (tm.set d v) o = readV P glob st tm o := by
  obtain ⟨dst, op, type, pos, after, guard⟩ := o
  cases op <;> simp only [Op.operands] at hx <;> simp only [readV]
  case move x => rw [opd_set (fun he => hx (by simp [he]))]
  case assign x => rw [opd_set (fun he => hx (by simp [he]))]
  case pick c x y => rw [opd_set (x := c) (fun he => hx (by simp [he])), opd_set (x := x) (fun he => hx (by simp [he])), opd_set (x := y) (fun he => hx (by simp [he]))]
  case build t ps => rw [partsV_set (by simpa using hx)]
  case load t x => rw [opd_set (fun he => hx (by simp [he]))]
  case nilCheck x => rw [opd_set (fun he => hx (by simp [he]))]
  case binOp f t x y z => rw [opd_set (x := x) (fun he => hx (by simp [he])), opd_set (x := y) (fun he => hx (by simp [he]))]
  case unOp f t x => rw [opd_set (fun he => hx (by simp [he]))]
  case convert s t x => rw [opd_set (fun he => hx (by simp [he]))]
  case makeInterface t x => rw [opd_set (fun he => hx (by simp [he]))]
  case makeFunc g l m =>
    rw [opds_set (xs := l.toList) (fun he => hx (Array.mem_append.2 (.inl (Array.mem_toList_iff.1 he)))), opds_set (xs := m.toList) (fun he => hx (Array.mem_append.2 (.inr (Array.mem_toList_iff.1 he))))]
  case slice t x lo hi mx =>
    have opt : ∀ {o : Option Operand}, (∀ y, o = some y → y ≠ .tmp d) → optV glob (tm.set d v) o = optV glob tm o := fun {o} ho => by
      cases o with
      | none => rfl
      | some y => simp only [optV]; rw [opd_set (x := y) (ho y rfl)]
    rw [opd_set (x := x) (fun he => hx (by simp [he])), opt (o := lo) (fun y hy he => hx (by simp [hy, he])), opt (o := hi) (fun y hy he => hx (by simp [hy, he])), opt (o := mx) (fun y hy he => hx (by simp [hy, he]))]
  case fieldAddr s x f => rw [opd_set (fun he => hx (by simp [he]))]
  case field s x f => rw [opd_set (fun he => hx (by simp [he]))]
  case indexAddr t x y => rw [opd_set (x := x) (fun he => hx (by simp [he])), opd_set (x := y) (fun he => hx (by simp [he]))]
  case index t x y => rw [opd_set (x := x) (fun he => hx (by simp [he])), opd_set (x := y) (fun he => hx (by simp [he]))]
  case lookup t x y ok => rw [opd_set (x := x) (fun he => hx (by simp [he])), opd_set (x := y) (fun he => hx (by simp [he]))]
  case typeAssert x s t ok => rw [opd_set (fun he => hx (by simp [he]))]
  case extract x i => rw [opd_set (fun he => hx (by simp [he]))]
  case call c =>
    have hargs : .tmp d ∉ c.args.toList := fun he => hx (by simp only [Call.operands, Array.mem_append]; exact .inr (Array.mem_toList_iff.1 he))
    rw [opds_set hargs]
    split
    · rename_i hc
      split
      · rename_i x t hx1 ht1
        rw [opd_set (x := x) (fun he => hargs (by rw [hx1]; simp [he]))]
      · rfl
    · rfl
    · rfl
    · rfl
theorem wantV_set {ops : Array Oper} {pc : Pc} {tm : List V} {d : Nat} {v : V} {o : Oper} (hx : d ∉ o.looksAt ops) : wantV ops pc (tm.set d v) o = wantV ops pc tm o := by
  unfold wantV
  simp only [tat_eq, Array.getElem?_toList]
  cases hg : o.guard with
  | none => rfl
  | some gw =>
    obtain ⟨j, want⟩ := gw
    simp only
    cases hj : ops[j]? with
    | none => rfl
    | some p =>
      simp only
      cases hd : p.dst with
      | none => rfl
      | some t =>
        have hne : d ≠ t := fun he => hx (by subst he; simp [Oper.looksAt, hg, hj, hd])
        simp only
        rw [List.getElem?_set_ne hne]
theorem specVal_set {ops : Array Oper} {d : Nat} {v : V} {o : Oper} (hx : d ∉ o.looksAt ops) : specVal P glob ops o (fr.1.set d v, fr.2) st = specVal P glob ops o fr st := by
  unfold specVal
  rw [wantV_set hx, readV_set (fun he => hx (List.mem_append_left _ (List.mem_filterMap.2 ⟨.tmp d, Array.mem_toList_iff.2 he, rfl⟩)))]
end
end Go.Proofs.Ytnfnhhphoiebbaa.Sx
