/- Pure: records, what is kept, what is dropped. -/
import Derived.Test.YtilfhkagfjdfkaaCI
import Derived.Test.YtilfhkagfjdfkaaCE
set_option linter.unusedVariables false
set_option linter.unusedSimpArgs false
namespace Go.Proofs.Ytilfhkagfjdfkaa
open Go.RowKit
def upd {α : Type} (f : Nat → α) (i : Nat) (x : α) (k : Nat) : α := if k = i then x else f k
theorem upd_at {α : Type} (f : Nat → α) (i : Nat) (x : α) : upd f i x i = x := if_pos rfl
theorem upd_ne {α : Type} (f : Nat → α) {i k : Nat} (x : α) (h : k ≠ i) : upd f i x k = f k := if_neg h
/-- An event. -/
structure Ev where
  t : Nat
  g : Nat
  k : Nat
  v : Nat
deriving DecidableEq
/-- Numbers that may stand there. -/
def Ev.wf (e : Ev) : Prop := e.t < 4294967296 ∧ e.g < 256 ∧ e.k < 256 ∧ e.v < 4294967296
/-- A record that is dropped. -/
structure Dr where
  n : Nat
  why : Nat
deriving DecidableEq
abbrev evA (e : Ev) : Array Value := #[.int .u32 e.t, .int .u8 e.g, .int .u8 e.k, .int .u32 e.v]
def evL (e : Ev) : List Value := [.int .u32 e.t, .int .u8 e.g, .int .u8 e.k, .int .u32 e.v]
def evs : List Ev → List Value
  | [] => []
  | e :: l => evL e ++ evs l
def drL (d : Dr) : List Value := [.int .i64 d.n, .int .u8 d.why]
def drs : List Dr → List Value
  | [] => []
  | e :: l => drL e ++ drs l
theorem evs_app : ∀ a b : List Ev, evs (a ++ b) = evs a ++ evs b
  | [], b => rfl
  | e :: l, b => by rw [List.cons_append, evs, evs, evs_app l b, List.append_assoc]
theorem drs_app : ∀ a b : List Dr, drs (a ++ b) = drs a ++ drs b
  | [], b => rfl
  | e :: l, b => by rw [List.cons_append, drs, drs, drs_app l b, List.append_assoc]
theorem evs_len : ∀ a : List Ev, (evs a).length = a.length * 4
  | [] => rfl
  | e :: l => by rw [evs, List.length_append, evs_len l, List.length_cons]; simp [evL]; omega
theorem drs_len : ∀ a : List Dr, (drs a).length = a.length * 2
  | [] => rfl
  | e :: l => by rw [drs, List.length_append, drs_len l, List.length_cons]; simp [drL]; omega
theorem evs_at : ∀ (l : List Ev) (i : Nat) (e : Ev), l[i]? = some e → ∀ j : Nat, j < 4 → (evs l)[i * 4 + j]? = (evL e)[j]?
  | [], i, e, h, _, _ => by simp at h
  | x :: l, 0, e, h, j, hj => by
    simp only [List.getElem?_cons_zero, Option.some.injEq] at h
    subst h
    rw [evs, List.getElem?_append_left (by show 0 * 4 + j < 4; omega)]
    congr 1; omega
  | x :: l, i + 1, e, h, j, hj => by
    rw [List.getElem?_cons_succ] at h
    rw [evs, List.getElem?_append_right (by show 4 ≤ (i + 1) * 4 + j; omega), ← evs_at l i e h j hj]
    congr 1
    show (i + 1) * 4 + j - 4 = i * 4 + j
    omega
theorem drs_at : ∀ (l : List Dr) (i : Nat) (e : Dr), l[i]? = some e → ∀ j : Nat, j < 2 → (drs l)[i * 2 + j]? = (drL e)[j]?
  | [], i, e, h, _, _ => by simp at h
  | x :: l, 0, e, h, j, hj => by
    simp only [List.getElem?_cons_zero, Option.some.injEq] at h
    subst h
    rw [drs, List.getElem?_append_left (by show 0 * 2 + j < 2; omega)]
    congr 1; omega
  | x :: l, i + 1, e, h, j, hj => by
    rw [List.getElem?_cons_succ] at h
    rw [drs, List.getElem?_append_right (by show 2 ≤ (i + 1) * 2 + j; omega), ← drs_at l i e h j hj]
    congr 1
    show (i + 1) * 2 + j - 2 = i * 2 + j
    omega
/-- A record. -/
def recEv (l : List UInt8) : Ev := ⟨numL (l.take 4), numL ((l.drop 4).take 1), numL ((l.drop 5).take 1), numL ((l.drop 6).take 4)⟩
theorem numL_tk (l : List UInt8) (k : Nat) : numL (l.take k) < 256 ^ k := by
  have h := numL_lt (l.take k)
  refine Nat.lt_of_lt_of_le h (Nat.pow_le_pow_right (by decide) ?_)
  simp
  omega
theorem recEv_wf (l : List UInt8) : (recEv l).wf := ⟨numL_tk l 4, numL_tk _ 1, numL_tk _ 1, numL_tk _ 4⟩
def mayB (e : Ev) : Bool := if e.k = 1 then decide (e.v ≤ 255) else if e.k = 2 then decide (8 ≤ e.v ∧ e.v ≤ 15) else if e.k = 3 then decide (e.v ≤ 65535) else false
def whyN (e : Ev) (gs : Int) (m : Nat) : Nat := if mayB e = false then 1 else if gs ≤ (e.g : Int) then 2 else if e.t < m then 3 else 0
/-- How it stands behind some records. -/
structure PSt where
  n : Nat
  F : Nat → Nat
  K : List Ev
  D : List Dr
def PSt.zero : PSt := ⟨0, fun _ => 0, [], []⟩
def PSt.keep (s : PSt) (e : Ev) : PSt := ⟨s.n + 1, upd s.F e.g e.t, s.K ++ [e], s.D⟩
def PSt.skip (s : PSt) (y : Nat) : PSt := ⟨s.n + 1, s.F, s.K, s.D ++ [⟨s.n, y⟩]⟩
def pstep (gs : Int) (s : PSt) (e : Ev) : PSt := if whyN e gs (s.F e.g) = 0 then s.keep e else s.skip (whyN e gs (s.F e.g))
def pst (gs : Int) (es : List Ev) : PSt := es.foldl (pstep gs) .zero
/-- The whole records of a text. -/
def recs (l : List UInt8) : List Ev := (List.range (l.length / 10)).map fun i => recEv (l.drop (10 * i))
theorem recs_len (l : List UInt8) : (recs l).length = l.length / 10 := by simp [recs]
theorem recs_at (l : List UInt8) (i : Nat) (h : i < l.length / 10) : (recs l)[i]? = some (recEv (l.drop (10 * i))) := by
  simp [recs, h]
/-- What Parse tells. -/
def parK (gs : Int) (l : List UInt8) : List Ev := (pst gs (recs l)).K
def parD (gs : Int) (l : List UInt8) : List Dr := (pst gs (recs l)).D ++ if l.length % 10 = 0 then [] else [⟨l.length / 10, 1⟩]
theorem pst_snoc (gs : Int) (es : List Ev) (e : Ev) : pst gs (es ++ [e]) = pstep gs (pst gs es) e := by simp [pst]
theorem pstep_n (gs : Int) (s : PSt) (e : Ev) : (pstep gs s e).n = s.n + 1 := by unfold pstep; split <;> rfl
theorem foldl_n (gs : Int) : ∀ (es : List Ev) (s : PSt), (es.foldl (pstep gs) s).n = s.n + es.length
  | [], s => rfl
  | e :: es, s => by rw [List.foldl_cons, foldl_n gs es, pstep_n, List.length_cons]; omega
theorem pst_n (gs : Int) (es : List Ev) : (pst gs es).n = es.length := by rw [pst, foldl_n]; show 0 + _ = _; omega
theorem pst_len (gs : Int) : ∀ (es : List Ev) (s : PSt), (es.foldl (pstep gs) s).K.length + (es.foldl (pstep gs) s).D.length = s.K.length + s.D.length + es.length
  | [], s => rfl
  | e :: es, s => by
    rw [List.foldl_cons, pst_len gs es, List.length_cons]
    have : (pstep gs s e).K.length + (pstep gs s e).D.length = s.K.length + s.D.length + 1 := by
      unfold pstep
      split
      · show (s.K ++ [e]).length + s.D.length = _
        rw [List.length_append]; simp; omega
      · show s.K.length + (s.D ++ [_]).length = _
        rw [List.length_append]; simp; omega
    omega
/-- All greatest moments fit in 32 bits. -/
theorem pst_F (gs : Int) : ∀ (es : List Ev) (s : PSt), (∀ e ∈ es, e.wf) → (∀ g, s.F g < 4294967296) → ∀ g, (es.foldl (pstep gs) s).F g < 4294967296
  | [], s, _, h => h
  | e :: es, s, hw, h => by
    rw [List.foldl_cons]
    refine pst_F gs es _ (fun x hx => hw x (List.mem_cons_of_mem _ hx)) ?_
    intro g
    unfold pstep
    split
    · show upd s.F e.g e.t g < _
      by_cases hg : g = e.g
      · subst hg; rw [upd_at]; exact (hw e (List.mem_cons_self ..)).1
      · rw [upd_ne _ _ hg]; exact h g
    · exact h g
theorem recs_wf (l : List UInt8) : ∀ e ∈ recs l, e.wf := by
  intro e he
  simp only [recs, List.mem_map] at he
  obtain ⟨i, _, rfl⟩ := he
  exact recEv_wf _
theorem foldl_wf (gs : Int) : ∀ (es : List Ev) (s : PSt), (∀ e ∈ es, e.wf) → (∀ e ∈ s.K, e.wf) → ∀ e ∈ (es.foldl (pstep gs) s).K, e.wf
  | [], s, _, h => h
  | x :: es, s, hw, h => by
    rw [List.foldl_cons]
    refine foldl_wf gs es _ (fun y hy => hw y (List.mem_cons_of_mem _ hy)) ?_
    unfold pstep
    split
    · intro e he
      rcases List.mem_append.1 he with he | he
      · exact h e he
      · rw [List.mem_singleton.1 he]; exact hw x (List.mem_cons_self ..)
    · exact h
theorem parK_wf (gs : Int) (l : List UInt8) : ∀ e ∈ parK gs l, e.wf := foldl_wf gs _ _ (recs_wf l) (fun e he => by cases he)
theorem parK_len (gs : Int) (l : List UInt8) : (parK gs l).length ≤ l.length / 10 := by
  have h := pst_len gs (recs l) .zero
  rw [recs_len] at h
  have h2 : (PSt.zero.K.length + PSt.zero.D.length) = 0 := rfl
  unfold parK pst
  omega
end Go.Proofs.Ytilfhkagfjdfkaa
