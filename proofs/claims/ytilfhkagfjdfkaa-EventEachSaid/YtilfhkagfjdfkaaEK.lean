/- Pure: each record is kept or dropped, in order. -/
import Derived.Test.YtilfhkagfjdfkaaEI
set_option linter.unusedVariables false
set_option linter.unusedSimpArgs false
namespace Go.Proofs.Ytilfhkagfjdfkaa
open Go.RowKit
theorem byt_numL : ∀ (k : Nat) (l : List UInt8), l.length = k → byt k (numL l) = l
  | 0, [], _ => rfl
  | 0, c :: l, h => by simp at h
  | k + 1, [], h => by simp at h
  | k + 1, c :: l, h => by
    have hc : c.toNat < 256 := c.toNat_lt
    rw [numL, byt]
    have e1 : (c.toNat + 256 * numL l) % 256 = c.toNat := by omega
    have e2 : (c.toNat + 256 * numL l) / 256 = numL l := by omega
    rw [e1, e2, byt_numL k l (by simpa using h)]
    simp
theorem bytE_rec (l : List UInt8) (h : 10 ≤ l.length) : bytE (recEv l) = l.take 10 := by
  unfold bytE recEv
  simp only
  rw [byt_numL 4 _ (by simp; omega), byt_numL 1 _ (by simp; omega), byt_numL 1 _ (by simp; omega), byt_numL 4 _ (by simp; omega)]
  rw [show (10 : Nat) = 4 + (1 + (1 + 4)) from rfl, List.take_add, List.take_add, List.take_add, List.drop_drop, List.drop_drop]
theorem buildL_app : ∀ a b : List Ev, buildL (a ++ b) = buildL a ++ buildL b
  | [], b => rfl
  | e :: l, b => by rw [List.cons_append, buildL, buildL, buildL_app l b, List.append_assoc]
theorem buildL_one (e : Ev) : buildL [e] = bytE e := by rw [buildL, buildL, List.append_nil]
theorem why_le (e : Ev) (gs : Int) (m : Nat) : whyN e gs m ≤ 3 := by unfold whyN; split <;> (try split) <;> (try split) <;> omega
theorem fold_D (gs : Int) : ∀ (es : List Ev) (s : PSt), ∃ d, (es.foldl (pstep gs) s).D = s.D ++ d ∧ ∀ x ∈ d, s.n ≤ x.n
  | [], s => ⟨[], (List.append_nil _).symm, fun x hx => by cases hx⟩
  | e :: l, s => by
    obtain ⟨d, h1, h2⟩ := fold_D gs l (pstep gs s e)
    rw [List.foldl_cons]
    rw [pstep_n] at h2
    by_cases hz : whyN e gs (s.F e.g) = 0
    · have hs : (pstep gs s e).D = s.D := by rw [pstep, if_pos hz]; rfl
      exact ⟨d, by rw [h1, hs], fun x hx => by have := h2 x hx; omega⟩
    · have hs : (pstep gs s e).D = s.D ++ [⟨s.n, whyN e gs (s.F e.g)⟩] := by rw [pstep, if_neg hz]; rfl
      refine ⟨_ :: d, by rw [h1, hs, List.append_assoc]; rfl, fun x hx => ?_⟩
      rcases List.mem_cons.1 hx with rfl | hx
      · exact Nat.le_refl _
      · have := h2 x hx; omega
/-- What is kept and how many are dropped behind some records. -/
def kpA (gs : Int) (l : List UInt8) (i : Nat) : List Ev := (pst gs ((recs l).take i)).K
def atA (gs : Int) (l : List UInt8) (i : Nat) : Nat := (pst gs ((recs l).take i)).D.length + (i - l.length / 10)
theorem each_start (gs : Int) (l : List UInt8) : kpA gs l 0 = [] ∧ atA gs l 0 = 0 := by
  unfold kpA atA
  rw [List.take_zero]
  exact ⟨rfl, by show 0 + (0 - _) = 0; omega⟩
theorem each_end (gs : Int) (l : List UInt8) : kpA gs l ((l.length + 9) / 10) = parK gs l ∧ atA gs l ((l.length + 9) / 10) = (parD gs l).length := by
  unfold kpA atA parK parD
  rw [List.take_of_length_le (by rw [recs_len]; omega)]
  refine ⟨rfl, ?_⟩
  rw [List.length_append]
  split
  · simp; omega
  · simp; omega
theorem each_sum (gs : Int) (l : List UInt8) : (parK gs l).length + (parD gs l).length = (l.length + 9) / 10 := by
  have h := pst_len gs (recs l) .zero
  rw [recs_len] at h
  have h2 : (PSt.zero.K.length + PSt.zero.D.length) = 0 := rfl
  unfold parK parD pst
  rw [List.length_append]
  split
  · simp; omega
  · simp; omega
theorem kpA_len (gs : Int) (l : List UInt8) (i : Nat) : (kpA gs l i).length ≤ i := by
  have h := pst_len gs ((recs l).take i) .zero
  have h2 : (PSt.zero.K.length + PSt.zero.D.length) = 0 := rfl
  have h3 : ((recs l).take i).length ≤ i := by rw [List.length_take]; omega
  unfold kpA pst
  omega
theorem each_round (gs : Int) (l : List UInt8) (i : Nat) (h : i < (l.length + 9) / 10) :
    (∃ y, (parD gs l)[atA gs l i]? = some ⟨i, y⟩ ∧ 1 ≤ y ∧ y ≤ 3 ∧ atA gs l (i + 1) = atA gs l i + 1 ∧ kpA gs l (i + 1) = kpA gs l i) ∨
    ((∀ d, (parD gs l)[atA gs l i]? = some d → d.n ≠ i) ∧ 10 * i + 10 ≤ l.length ∧ atA gs l (i + 1) = atA gs l i ∧ buildL (kpA gs l (i + 1)) = buildL (kpA gs l i) ++ (l.drop (10 * i)).take 10) := by
  by_cases hi : i < l.length / 10
  · have he := recs_at l i hi
    have ht : (recs l).take (i + 1) = (recs l).take i ++ [recEv (l.drop (10 * i))] := by rw [List.take_add_one, he]; rfl
    have hb := bytE_rec (l.drop (10 * i)) (by rw [List.length_drop]; omega)
    generalize hev : recEv (l.drop (10 * i)) = e at he ht hb
    have hn : (pst gs ((recs l).take i)).n = i := by rw [pst_n, List.length_take, recs_len]; omega
    have hs : pst gs ((recs l).take (i + 1)) = pstep gs (pst gs ((recs l).take i)) e := by rw [ht, pst_snoc]
    have hall : pst gs (recs l) = ((recs l).drop (i + 1)).foldl (pstep gs) (pst gs ((recs l).take (i + 1))) := by
      unfold pst
      rw [← List.foldl_append, List.take_append_drop]
    obtain ⟨d', hd1, hd2⟩ := fold_D gs ((recs l).drop (i + 1)) (pst gs ((recs l).take (i + 1)))
    rw [← hall] at hd1
    have hn1 : (pst gs ((recs l).take (i + 1))).n = i + 1 := by rw [hs, pstep_n, hn]
    rw [hn1] at hd2
    have ha0 : atA gs l i = (pst gs ((recs l).take i)).D.length := by unfold atA; omega
    have ha1 : atA gs l (i + 1) = (pst gs ((recs l).take (i + 1))).D.length := by unfold atA; omega
    rw [ha0, ha1]
    by_cases hz : whyN e gs ((pst gs ((recs l).take i)).F e.g) = 0
    · have hD : (pst gs ((recs l).take (i + 1))).D = (pst gs ((recs l).take i)).D := by rw [hs, pstep, if_pos hz]; rfl
      have hK : (pst gs ((recs l).take (i + 1))).K = (pst gs ((recs l).take i)).K ++ [e] := by rw [hs, pstep, if_pos hz]; rfl
      rw [hD] at hd1
      refine .inr ⟨fun d hd => ?_, by omega, by rw [hD], ?_⟩
      · unfold parD at hd
        rw [hd1, List.append_assoc, List.getElem?_append_right (Nat.le_refl _)] at hd
        have hm := List.mem_of_getElem? hd
        rcases List.mem_append.1 hm with hm | hm
        · have := hd2 d hm; omega
        · split at hm
          · cases hm
          · rw [List.mem_singleton.1 hm]; simp; omega
      · unfold kpA
        rw [hK, buildL_app, buildL_one, hb]
    · have hD : (pst gs ((recs l).take (i + 1))).D = (pst gs ((recs l).take i)).D ++ [⟨i, whyN e gs ((pst gs ((recs l).take i)).F e.g)⟩] := by rw [hs, pstep, if_neg hz]; show _ ++ [(⟨(pst gs ((recs l).take i)).n, _⟩ : Dr)] = _; rw [hn]
      have hK : (pst gs ((recs l).take (i + 1))).K = (pst gs ((recs l).take i)).K := by rw [hs, pstep, if_neg hz]; rfl
      refine .inl ⟨_, ?_, Nat.pos_of_ne_zero hz, why_le _ _ _, by rw [hD, List.length_append]; rfl, hK⟩
      unfold parD
      rw [hd1, hD, List.append_assoc, List.append_assoc, List.getElem?_append_right (Nat.le_refl _), Nat.sub_self]
      rfl
  · have hi2 : i = l.length / 10 := by omega
    have hm : ¬ l.length % 10 = 0 := by omega
    have t0 : (recs l).take i = recs l := List.take_of_length_le (by rw [recs_len]; omega)
    have t1 : (recs l).take (i + 1) = recs l := List.take_of_length_le (by rw [recs_len]; omega)
    refine .inl ⟨1, ?_, Nat.le_refl _, by omega, ?_, ?_⟩
    · unfold atA parD
      rw [t0, if_neg hm, hi2, Nat.sub_self, Nat.add_zero, List.getElem?_append_right (Nat.le_refl _), Nat.sub_self]
      rfl
    · unfold atA
      rw [t0, t1]
      omega
    · unfold kpA
      rw [t0, t1]
/-- What a good list keeps. -/
structure Good (gs : Int) (s : PSt) : Prop where
  g : ∀ e ∈ s.K, (e.g : Int) < gs
  f : ∀ e ∈ s.K, e.t ≤ s.F e.g
  m : ∀ (i j : Nat) (a b : Ev), j < i → s.K[i]? = some a → s.K[j]? = some b → b.g = a.g → b.t ≤ a.t
theorem Good.zero (gs : Int) : Good gs .zero := by
  refine ⟨?_, ?_, ?_⟩
  · intro e he; cases he
  · intro e he; cases he
  · intro i j a b _ h
    have h' : ([] : List Ev)[i]? = some a := h
    simp at h'
theorem Good.step {gs : Int} {s : PSt} (h : Good gs s) (e : Ev) : Good gs (pstep gs s e) := by
  unfold pstep
  split
  · rename_i hz
    unfold whyN at hz
    split at hz
    · cases hz
    split at hz
    · cases hz
    rename_i hg
    split at hz
    · cases hz
    rename_i ht
    refine ⟨?_, ?_, ?_⟩
    · intro x hx
      rcases List.mem_append.1 (show x ∈ s.K ++ [e] from hx) with hx | hx
      · exact h.g x hx
      · rw [List.mem_singleton.1 hx]; omega
    · intro x hx
      show x.t ≤ upd s.F e.g e.t x.g
      rcases List.mem_append.1 (show x ∈ s.K ++ [e] from hx) with hx | hx
      · by_cases hq : x.g = e.g
        · have := h.f x hx
          rw [hq] at this ⊢
          rw [upd_at]; omega
        · rw [upd_ne _ _ hq]; exact h.f x hx
      · rw [List.mem_singleton.1 hx, upd_at]; exact Nat.le_refl _
    · intro i j a b hij ha hb hab
      have ha' : (s.K ++ [e])[i]? = some a := ha
      have hb' : (s.K ++ [e])[j]? = some b := hb
      have hil := (List.getElem?_eq_some_iff.1 ha').1
      rw [List.length_append] at hil
      simp only [List.length_cons, List.length_nil] at hil
      rw [List.getElem?_append_left (by omega)] at hb'
      by_cases hl : i < s.K.length
      · rw [List.getElem?_append_left hl] at ha'
        exact h.m i j a b hij ha' hb' hab
      · rw [List.getElem?_append_right (by omega), show i - s.K.length = 0 by omega] at ha'
        simp only [List.getElem?_cons_zero, Option.some.injEq] at ha'
        subst ha'
        have := h.f b (List.mem_of_getElem? hb')
        rw [hab] at this
        omega
  · exact ⟨h.g, h.f, h.m⟩
theorem Good.fold {gs : Int} : ∀ (es : List Ev) {s : PSt}, Good gs s → Good gs (es.foldl (pstep gs) s)
  | [], _, h => h
  | e :: l, _, h => by rw [List.foldl_cons]; exact Good.fold l (h.step e)
theorem par_good (gs : Int) (l : List UInt8) : Good gs (pst gs (recs l)) := Good.fold _ (Good.zero gs)
theorem refold (gs : Int) : ∀ (es : List Ev) (s s' : PSt), s'.F = s.F → ∃ k, (es.foldl (pstep gs) s).K = s.K ++ k ∧ (k.foldl (pstep gs) s').K = s'.K ++ k ∧ (k.foldl (pstep gs) s').D = s'.D
  | [], s, s', h => ⟨[], (List.append_nil _).symm, (List.append_nil _).symm, rfl⟩
  | e :: l, s, s', h => by
    rw [List.foldl_cons]
    by_cases hz : whyN e gs (s.F e.g) = 0
    · have hs : pstep gs s e = s.keep e := by rw [pstep, if_pos hz]
      have hs' : pstep gs s' e = s'.keep e := by rw [pstep, h, if_pos hz]
      obtain ⟨k, h1, h2, h3⟩ := refold gs l (s.keep e) (s'.keep e) (by show upd s'.F _ _ = upd s.F _ _; rw [h])
      refine ⟨e :: k, by rw [hs, h1]; show s.K ++ [e] ++ k = _; rw [List.append_assoc]; rfl, ?_, ?_⟩
      · rw [List.foldl_cons, hs', h2]; show s'.K ++ [e] ++ k = _; rw [List.append_assoc]; rfl
      · rw [List.foldl_cons, hs', h3]; rfl
    · have hs : pstep gs s e = s.skip (whyN e gs (s.F e.g)) := by rw [pstep, if_neg hz]
      obtain ⟨k, h1, h2, h3⟩ := refold gs l (s.skip (whyN e gs (s.F e.g))) s' (by rw [h]; rfl)
      exact ⟨k, by rw [hs, h1]; rfl, h2, h3⟩
theorem par_again (gs : Int) (l : List UInt8) : parK gs (buildL (parK gs l)) = parK gs l ∧ parD gs (buildL (parK gs l)) = [] := by
  have hw := parK_wf gs l
  rw [parK_build gs _ hw, parD_build gs _ hw]
  obtain ⟨k, h1, h2, h3⟩ := refold gs (recs l) .zero .zero rfl
  have e : parK gs l = k := h1
  rw [e]
  exact ⟨h2, h3⟩
end Go.Proofs.Ytilfhkagfjdfkaa
