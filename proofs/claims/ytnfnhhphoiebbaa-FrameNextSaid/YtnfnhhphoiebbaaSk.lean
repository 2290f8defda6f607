/- Operations that turn memory. -/
import Derived.Test.YtnfnhhphoiebbaaSj
set_option linter.unusedVariables false
set_option linter.unusedSimpArgs false
namespace Go.Proofs.Ytnfnhhphoiebbaa.Sx
open Go

/-- What an operation, or code, leaves: a later state, that memory is as the reader says. -/
structure After (e : Env) (S : Nat → Prop) (w0 : World) (st : St) (e' : Env) (st' : St) (w' : World) : Prop where
  later : Later e e' st.hp st'.hp
  rep : Rep e' S w0 st'.hp w'
  holds : Holds e'.int st'.pc
theorem After.trans {e e' e'' : Env} {S : Nat → Prop} {w0 w' w'' : World} {st st' st'' : St} (a : After e S w0 st e' st' w') (b : After e' S w0 st' e'' st'' w'') : After e S w0 st e'' st'' w'' :=
  ⟨a.later.trans b.later, b.rep, b.holds⟩

section
variable {P : Program} {glob : Nat → Option Nat} {e : Env} {S : Nat → Prop} {w0 w : World} {st st' : St} {h : T} {tm : List V} {a : Act}

theorem After.refl (r : Rep e S w0 st.hp w) (hh : Holds e.int st.pc) : After e S w0 st e st w := ⟨.refl _ _, r, hh⟩

/-- A new block. -/
theorem new_ok (r : Rep e S w0 st.hp w) (hh : Holds e.int st.pc) {b : Blk} {i : Nat} (hn : st.new b = some (i, st')) (c : Nat) (o : Obj) (w' : World)
    (h1 : w'.os = w.os) (h2 : w'.tape = w.tape) (h3 : w'.output = w.output) (hw : w'.heap = w.heap.push o)
    (hb : st.hp.get i = none → b.at (e.lay i w.heap.size c) i (some o)) (hok : b.ok st.hp) :
    After e S w0 st (e.lay i w.heap.size c) st' w' ∧ st'.hp.has i ∧ st'.hp.get i = some b ∧ st'.pc = st.pc := by
  unfold St.new at hn
  split at hn
  · rename_i hl
    split at hn
    · rename_i hg
      simp only [Option.some.injEq, Prod.mk.injEq] at hn
      obtain ⟨rfl, rfl⟩ := hn
      have hl := Nat.le_of_ble_eq_true hl
      have := r.made hg hl b c o w' h1 h2 h3 hw (hb hg) hok
      have g1 := (T.get_set 64 st.hp st.nxt b (lim64 hl)).1
      exact ⟨⟨this.2, this.1, hh⟩, by unfold T.has; rw [g1]; simp, g1, rfl⟩
    · cases hn
  · cases hn
theorem new_get {b : Blk} {i : Nat} (hn : st.new b = some (i, st')) : st.hp.get i = none := by
  unfold St.new at hn
  split at hn
  · split at hn
    · rename_i hg
      simp only [Option.some.injEq, Prod.mk.injEq] at hn
      obtain ⟨rfl, rfl⟩ := hn
      exact hg
    · cases hn
  · cases hn

theorem blk_cells {i : Nat} (hi : st.hp.get i = none) {l : List V} (hl : V.okL st.hp l) (t : TypeId) (b c : Nat) : (Blk.cells l t).at (e.lay i b c) i (some (.cells (V.denL e l).toArray t (0, 0))) := by
  simp only [Blk.at]
  rw [V.denL_later (lay_later hi b c) hl]
theorem blk_opn {i : Nat} (hi : st.hp.get i = none) {l : List V} (hl : V.okL st.hp l) (t : TypeId) (z b c : Nat) (more : List Value) (hc : l.length + more.length = c * z) :
    (Blk.opn l t z).at (e.lay i b c) i (some (.cells (V.denL e l ++ more).toArray t (0, 0))) := by
  refine ⟨more, ?_, ?_⟩
  · rw [V.denL_later (lay_later hi b c) hl]
  · rw [(lay_self e i b c).2]; exact hc

/-! Rows of one element, repeated -/
theorem rep_length (n : Nat) (l : List V) : (rep n l).length = n * l.length := by
  induction n with
  | zero => simp [rep]
  | succ n ih => simp only [rep, List.length_append, ih, Nat.succ_mul]; omega
theorem rep_ok {n : Nat} {l : List V} (hl : V.okL h l) : V.okL h (rep n l) := by
  induction n with
  | zero => trivial
  | succ n ih =>
    refine okL_iff.2 fun v hv => ?_
    rcases List.mem_append.1 hv with h1 | h1
    · exact okL_iff.1 hl v h1
    · exact okL_iff.1 ih v h1
theorem rep_get (n : Nat) (l : List V) (i : Nat) (hi : i < n * l.length) : (rep n l)[i]? = l[i % l.length]? := by
  induction n generalizing i with
  | zero => simp at hi
  | succ n ih =>
    simp only [rep]
    by_cases hlt : i < l.length
    · rw [List.getElem?_append_left hlt, Nat.mod_eq_of_lt hlt]
    · rw [List.getElem?_append_right (by omega), ih (i - l.length) (by rw [Nat.succ_mul] at hi; omega)]
      congr 1
      exact (Nat.mod_eq_sub_mod (by omega)).symm
theorem rep_den (e : Env) (n : Nat) (l : List V) : (Array.range (n * l.length)).map (fun i => (V.denL e l).toArray[i % (V.denL e l).toArray.size]!) = (V.denL e (rep n l)).toArray := by
  apply Array.ext'
  apply List.ext_getElem?
  intro i
  simp only [Array.toList_map, Array.toList_range, List.getElem?_map, denL_get, List.size_toArray, denL_length]
  by_cases hi : i < n * l.length
  · have hl : 0 < l.length := by
      rcases Nat.eq_zero_or_pos l.length with h0 | h0
      · rw [h0] at hi; simp at hi
      · exact h0
    have hm := Nat.mod_lt i hl
    rw [List.getElem?_range hi, rep_get n l i hi]
    simp only [Option.map_some]
    rw [List.getElem?_eq_getElem hm, Option.map_some]
    congr 1
    have : (V.denL e l)[i % l.length]? = some ((l[i % l.length]).den e) := by rw [denL_get, List.getElem?_eq_getElem hm]; rfl
    simp [List.getElem!_toArray, List.getElem!_eq_getElem?_getD, this]
  · rw [List.getElem?_eq_none (by simp; omega), List.getElem?_eq_none (by rw [rep_length]; omega)]
    rfl

/-! Stores -/
theorem putAt_eq : ∀ (m l : List V) (off : Nat), off + m.length ≤ l.length → putAt l off m = l.take off ++ m ++ l.drop (off + m.length)
  | [], l, off, _ => by simp [putAt_nil]
  | v :: m, l, off, hl => by
    simp only [List.length_cons] at hl
    simp only [putAt_cons, tset_eq]
    rw [putAt_eq m (l.set off v) (off + 1) (by simp; omega)]
    have h1 : (l.set off v).take (off + 1) = l.take off ++ [v] := by
      apply List.ext_getElem?
      intro j
      simp only [List.getElem?_take, List.getElem?_set, List.getElem?_append, List.length_take]
      by_cases hj : j < off
      · have : min off l.length = off := by omega
        simp [hj, this, Nat.ne_of_gt hj]
        omega
      · by_cases hj2 : j = off
        · subst hj2
          have : min j l.length = j := by omega
          have hjl : j < l.length := by omega
          simp [this, hjl]
        · have : min off l.length = off := by omega
          have h3 : ¬ j < off + 1 := by omega
          simp [hj, this, h3]
          omega
    have h2 : (l.set off v).drop (off + 1 + m.length) = l.drop (off + (m.length + 1)) := by
      apply List.ext_getElem?
      intro j
      simp only [List.getElem?_drop, List.getElem?_set]
      have : ¬ off = off + 1 + m.length + j := by omega
      simp [this]
      congr 1
      omega
    rw [h1, h2]
    simp
theorem putAt_den (e : Env) (m l : List V) (off : Nat) (more : List Value) (hl : off + m.length ≤ l.length) :
    ((V.denL e l ++ more).take off ++ V.denL e m ++ (V.denL e l ++ more).drop (off + (V.denL e m).length)) = V.denL e (putAt l off m) ++ more := by
  rw [putAt_eq m l off hl, denL_append, denL_append, denL_take, denL_drop, denL_length, List.take_append_of_le_length (by rw [denL_length]; omega), List.drop_append_of_le_length (by rw [denL_length]; omega)]
  simp

theorem heap_setRow (w : World) (g : Nat) (old cs : Array Value) (t : TypeId) (hg : w.heap[g]? = some (.cells old t (0, 0))) :
    (w.setRow g cs).heap.size = w.heap.size ∧ (w.setRow g cs).heap[g]? = some (.cells cs t (0, 0)) ∧ ∀ k, k ≠ g → (w.setRow g cs).heap[k]? = w.heap[k]? :=
  ⟨setRow_size w g cs, setRow_heap w g old cs t (0, 0) hg, fun k hk => setRow_other w g k cs hk⟩

/-- Cells of a block are written: known ones. -/
theorem storeCells_ok (r : Rep e S w0 st.hp w) (hh : Holds e.int st.pc) {i : Nat} {m : List V} {off : Nat} (hm : V.okL st.hp m) (h1 : m.all V.one = true) {b b' : Blk}
    (hb : st.hp.get i = some b) (hput : (∃ l t, b = .cells l t ∧ off + m.length ≤ l.length ∧ b' = .cells (putAt l off m) t) ∨ (∃ l t z, b = .opn l t z ∧ off + m.length ≤ l.length ∧ b' = .opn (putAt l off m) t z)) :
    ∃ w', (storeCells ⟨e.blk i, off, none⟩ (V.denL e m)).run P w = .ok () w' ∧ After e S w0 st e (st.put i b') w' := by
  have one : ∀ v ∈ V.denL e m, v.oneCell' = true := fun v hv => by
    rw [denL_map] at hv
    obtain ⟨x, hx, rfl⟩ := List.mem_map.1 hv
    exact one_den e (List.all_eq_true.1 h1 x hx)
  have okb := r.okb i b hb
  rcases hput with ⟨l, t, rfl, hl, rfl⟩ | ⟨l, t, z, rfl, hl, rfl⟩
  · have hg : w.heap[e.blk i]? = some (.cells (V.denL e l ++ []).toArray t (0, 0)) := by rw [List.append_nil]; exact r.blk i _ hb
    have run := run_storeCells_at P (e.blk i) off t (V.denL e m) 0 _ w hg (by simp [denL_length]; omega) one
    simp only [Nat.add_zero, List.toList_toArray] at run
    rw [putAt_den e m l off [] hl] at run
    obtain ⟨z1, z2, z3⟩ := heap_setRow w (e.blk i) _ (V.denL e (putAt l off m) ++ []).toArray t hg
    refine ⟨_, run, ?_⟩
    have := r.turn (b' := .cells (putAt l off m) t) hb trivial trivial (.cells (V.denL e (putAt l off m) ++ []).toArray t (0, 0)) (by simp [Blk.at]) (putAt_ok okb hm) (w.setRow (e.blk i) (V.denL e (putAt l off m) ++ []).toArray) rfl rfl rfl z1 z2 z3
    exact ⟨this.2, this.1, hh⟩
  · obtain ⟨more, hg, hc⟩ := r.blk i _ hb
    have run := run_storeCells_at P (e.blk i) off t (V.denL e m) 0 _ w hg (by simp [denL_length]; omega) one
    simp only [Nat.add_zero, List.toList_toArray] at run
    rw [putAt_den e m l off more hl] at run
    obtain ⟨z1, z2, z3⟩ := heap_setRow w (e.blk i) _ (V.denL e (putAt l off m) ++ more).toArray t hg
    refine ⟨_, run, ?_⟩
    have := r.turn (b' := .opn (putAt l off m) t z) hb trivial trivial (.cells (V.denL e (putAt l off m) ++ more).toArray t (0, 0)) ⟨more, rfl, by rw [putAt_length]; exact hc⟩ (putAt_ok okb hm) (w.setRow (e.blk i) (V.denL e (putAt l off m) ++ more).toArray) rfl rfl rfl z1 z2 z3
    exact ⟨this.2, this.1, hh⟩

theorem storeV_ok (r : Rep e S w0 st.hp w) (hh : Holds e.int st.pc) {t : TypeId} {v x : V} (hx : V.ok st.hp x) (hs : storeV P st t v x = some st') :
    ∃ w', (Instr.storeAt t (v.den e) (x.den e)).run P w = .ok () w' ∧ After e S w0 st e st' w' := by
  unfold storeV at hs
  split at hs
  · rename_i i off n hn
    split at hs
    · rename_i hc
      rw [Bool.and_eq_true] at hc
      have hlen := beq_true hc.1
      have fin : ∀ b', (∃ w', (storeCells ⟨e.blk i, off, none⟩ (V.denL e x.cellsOf)).run P w = .ok () w' ∧ After e S w0 st e (st.put i b') w') →
          ∃ w', (Instr.storeAt t ((V.ptr i off).den e) (x.den e)).run P w = .ok () w' ∧ After e S w0 st e (st.put i b') w' := fun b' ⟨w', h1, h2⟩ => by
        refine ⟨w', ?_, h2⟩
        simp [Instr.storeAt, Instr.sureAddr, V.den, storeVar, cellsOf_den e (allOne_any hc.2), denL_length, sizeT_run hn, hlen, h1]
      split at hs
      · rename_i l t' hb
        split at hs
        · rename_i hle
          rw [lenLe_eq] at hle
          have hle := Nat.le_of_ble_eq_true hle
          cases hs
          exact fin _ (storeCells_ok r hh (cellsOf_ok hx) hc.2 hb (.inl ⟨l, t', rfl, by omega, rfl⟩))
        · cases hs
      · rename_i l t' z hb
        split at hs
        · rename_i hle
          rw [lenLe_eq] at hle
          have hle := Nat.le_of_ble_eq_true hle
          cases hs
          exact fin _ (storeCells_ok r hh (cellsOf_ok hx) hc.2 hb (.inr ⟨l, t', z, rfl, by omega, rfl⟩))
        · cases hs
      · cases hs
    · cases hs
  · cases hs
end
end Go.Proofs.Ytnfnhhphoiebbaa.Sx
