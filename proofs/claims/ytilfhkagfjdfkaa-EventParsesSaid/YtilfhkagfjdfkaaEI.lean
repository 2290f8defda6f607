/- Pure: a record that is dropped may be left out; what comes behind changes nothing before. -/
import Derived.Test.YtilfhkagfjdfkaaEH
import Derived.Test.YtilfhkagfjdfkaaHp
set_option linter.unusedVariables false
set_option linter.unusedSimpArgs false
namespace Go.Proofs.Ytilfhkagfjdfkaa
open Go.RowKit
attribute [local go_sem] Oper.semAt_some
theorem recEv_app (x y : List UInt8) (h : 10 ≤ x.length) : recEv (x ++ y) = recEv x := by
  unfold recEv
  rw [List.take_append_of_le_length (by omega), List.drop_append_of_le_length (i := 4) (by omega), List.take_append_of_le_length (by simp; omega), List.drop_append_of_le_length (i := 5) (by omega), List.take_append_of_le_length (by simp; omega), List.drop_append_of_le_length (i := 6) (by omega), List.take_append_of_le_length (by simp; omega)]
theorem recs_app (a b : List UInt8) (h : a.length % 10 = 0) : recs (a ++ b) = recs a ++ recs b := by
  apply List.ext_getElem?
  intro i
  obtain ⟨m, hm⟩ : ∃ m, a.length = 10 * m := ⟨a.length / 10, by omega⟩
  have ha : (recs a).length = m := by rw [recs_len]; omega
  by_cases h1 : i < (a ++ b).length / 10
  · rw [recs_at _ _ h1]
    rw [List.length_append] at h1
    by_cases h2 : i < m
    · rw [List.getElem?_append_left (by omega), recs_at _ _ (by omega), List.drop_append_of_le_length (by omega), recEv_app _ _ (by rw [List.length_drop]; omega)]
    · rw [List.getElem?_append_right (by omega), ha, recs_at _ _ (by omega), show 10 * i = 10 * m + 10 * (i - m) by omega, ← List.drop_drop, List.drop_left' hm]
  · rw [List.length_append] at h1
    rw [List.getElem?_eq_none (by rw [recs_len, List.length_append]; omega), List.getElem?_eq_none (by rw [List.length_append, ha, recs_len]; omega)]
theorem fold_K (gs : Int) : ∀ (es : List Ev) (s s' : PSt), s'.K = s.K → s'.F = s.F → (es.foldl (pstep gs) s').K = (es.foldl (pstep gs) s).K
  | [], s, s', h1, h2 => h1
  | e :: l, s, s', h1, h2 => by
    rw [List.foldl_cons, List.foldl_cons]
    apply fold_K gs l
    · unfold pstep
      rw [h2]
      split
      · show s'.K ++ [e] = s.K ++ [e]
        rw [h1]
      · exact h1
    · unfold pstep
      rw [h2]
      split
      · show upd s'.F e.g e.t = upd s.F e.g e.t
        rw [h2]
      · exact h2
theorem fold_pre (gs : Int) : ∀ (es : List Ev) (s : PSt), ∃ k d, (es.foldl (pstep gs) s).K = s.K ++ k ∧ (es.foldl (pstep gs) s).D = s.D ++ d
  | [], s => ⟨[], [], (List.append_nil _).symm, (List.append_nil _).symm⟩
  | e :: l, s => by
    obtain ⟨k, d, h1, h2⟩ := fold_pre gs l (pstep gs s e)
    rw [List.foldl_cons]
    unfold pstep at h1 h2 ⊢
    split at h1
    · rename_i hz
      rw [if_pos hz] at h2 ⊢
      exact ⟨e :: k, d, by rw [h1]; show s.K ++ [e] ++ k = _; simp, h2⟩
    · rename_i hz
      rw [if_neg hz] at h2 ⊢
      exact ⟨k, _ :: d, h1, by rw [h2]; show s.D ++ [_] ++ d = _; rw [List.append_assoc]; rfl⟩
theorem D_mem (gs : Int) (d : Dr) : ∀ (es : List Ev) (s : PSt), d ∈ (es.foldl (pstep gs) s).D → d ∈ s.D ∨ ∃ pre e post, es = pre ++ e :: post ∧ d.n = s.n + pre.length ∧ d.why = whyN e gs ((pre.foldl (pstep gs) s).F e.g) ∧ d.why ≠ 0
  | [], s, h => .inl h
  | e :: l, s, h => by
    rw [List.foldl_cons] at h
    rcases D_mem gs d l _ h with h | ⟨pre, x, post, h1, h2, h3, h4⟩
    · unfold pstep at h
      split at h
      · exact .inl h
      · rename_i hz
        have h' : d ∈ s.D ++ [⟨s.n, whyN e gs (s.F e.g)⟩] := h
        rcases List.mem_append.1 h' with h' | h'
        · exact .inl h'
        · refine .inr ⟨[], e, l, rfl, ?_, ?_, ?_⟩
          · rw [List.mem_singleton.1 h']; rfl
          · rw [List.mem_singleton.1 h']; rfl
          · rw [List.mem_singleton.1 h']; exact hz
    · refine .inr ⟨e :: pre, x, post, by rw [h1]; rfl, ?_, ?_, h4⟩
      · rw [h2, pstep_n, List.length_cons]; omega
      · rw [h3, List.foldl_cons]
theorem drop_pure (gs : Int) (pre : List Ev) (e : Ev) (post : List Ev) (h : whyN e gs ((pst gs pre).F e.g) ≠ 0) : (pst gs (pre ++ post)).K = (pst gs (pre ++ e :: post)).K := by
  unfold pst at *
  rw [List.foldl_append, List.foldl_append, List.foldl_cons]
  apply fold_K
  · rw [pstep, if_neg h]; rfl
  · rw [pstep, if_neg h]; rfl
theorem parD_ten (gs : Int) (l : List UInt8) (h : l.length % 10 = 0) : parD gs l = (pst gs (recs l)).D := by unfold parD; rw [if_pos h, List.append_nil]
theorem apart_one (gs : Int) (l : List UInt8) (h : l.length % 10 = 0) (d : Dr) (hd : d ∈ parD gs l) : d.n < l.length / 10 ∧ 1 ≤ d.why ∧ parK gs (l.take (10 * d.n) ++ l.drop (10 * d.n + 10)) = parK gs l := by
  rw [parD_ten gs l h] at hd
  rcases D_mem gs d (recs l) .zero hd with hd | ⟨pre, e, post, h1, h2, h3, h4⟩
  · cases hd
  have h2 : d.n = pre.length := by rw [h2]; show 0 + _ = _; omega
  have hl : (recs l).length = l.length / 10 := recs_len l
  have hn : d.n < l.length / 10 := by rw [← hl, h1, List.length_append, List.length_cons]; omega
  refine ⟨hn, by omega, ?_⟩
  have hsplit : l = l.take (10 * d.n) ++ ((l.drop (10 * d.n)).take 10 ++ l.drop (10 * d.n + 10)) := by
    rw [← List.drop_drop, List.take_append_drop, List.take_append_drop]
  have la : (l.take (10 * d.n)).length = 10 * d.n := by rw [List.length_take]; omega
  have lr : ((l.drop (10 * d.n)).take 10).length = 10 := by rw [List.length_take, List.length_drop]; omega
  have hr : recs l = recs (l.take (10 * d.n)) ++ (recs ((l.drop (10 * d.n)).take 10) ++ recs (l.drop (10 * d.n + 10))) := by
    conv => lhs; rw [hsplit]
    rw [recs_app _ _ (by omega), recs_app _ _ (by omega)]
  have r1 : (recs ((l.drop (10 * d.n)).take 10)).length = 1 := by rw [recs_len, lr]
  obtain ⟨x, hx⟩ : ∃ x, recs ((l.drop (10 * d.n)).take 10) = [x] := List.length_eq_one_iff.1 r1
  rw [hx, h1] at hr
  have hpa := List.append_inj hr (by rw [recs_len, la]; omega)
  obtain ⟨ha, hb⟩ := hpa
  obtain ⟨he, hp⟩ := List.cons.inj (by simpa using hb : e :: post = x :: recs (l.drop (10 * d.n + 10)))
  unfold parK
  rw [recs_app _ _ (by omega), ← ha, ← hp, h1]
  exact drop_pure gs pre e post (by have h5 : d.why = whyN e gs ((pst gs pre).F e.g) := h3; rw [← h5]; exact h4)
theorem apart_pre (gs : Int) (l t : List UInt8) (h : l.length % 10 = 0) : (∃ k, parK gs (l ++ t) = parK gs l ++ k) ∧ ∃ d, parD gs (l ++ t) = parD gs l ++ d := by
  obtain ⟨k, d, h1, h2⟩ := fold_pre gs (recs t) (pst gs (recs l))
  have hf : pst gs (recs (l ++ t)) = (recs t).foldl (pstep gs) (pst gs (recs l)) := by unfold pst; rw [recs_app _ _ h, List.foldl_append]
  refine ⟨⟨k, by unfold parK; rw [hf, h1]⟩, ?_⟩
  rw [parD_ten gs l h]
  unfold parD
  rw [hf, h2]
  exact ⟨_, List.append_assoc _ _ _⟩
theorem parD_len (gs : Int) (l : List UInt8) : (parD gs l).length ≤ l.length / 10 + 1 := by
  have h := pst_len gs (recs l) .zero
  rw [recs_len] at h
  have h2 : (PSt.zero.K.length + PSt.zero.D.length) = 0 := rfl
  unfold parD pst
  rw [List.length_append]
  split
  · simp; omega
  · simp; omega
/-- A slice of what is dropped that stands in memory. -/
def IsDrs (w : World) (v : Value) (l : List Dr) : Prop := ∃ a cap, v = .slice a l.length cap ∧ ∀ k (e : Dr), l[k]? = some e → ∃ b off, a = some ⟨b, off, none⟩ ∧ b < w.heap.size ∧ w.rangeAt b (off + k * 2) (drL e)
theorem IsDrs.below {w w' : World} {v : Value} {l : List Dr} (h : IsDrs w v l) (k : Below w.heap.size w w') : IsDrs w' v l := by
  obtain ⟨a, cap, e, hc⟩ := h
  refine ⟨a, cap, e, fun i x hi => ?_⟩
  obtain ⟨b, off, e2, hb, hr⟩ := hc i x hi
  exact ⟨b, off, e2, Nat.lt_of_lt_of_le hb k.size, range_below hr hb k⟩
theorem own_drs {w : World} {base : Nat} {v : Value} {l : List Dr} (h : w.ownsRow base 33 2 v l.length (drs l)) : IsDrs w v l := by
  have h2 := h.2
  rcases h2 with ⟨rfl, h0⟩ | ⟨g, cap, cur, rfl, hg, hh, hn, hcap, hsz, htake⟩
  · have : l = [] := List.eq_nil_of_length_eq_zero h0
    subst this
    exact ⟨none, 0, rfl, fun k e hk => by simp at hk⟩
  · refine ⟨some ⟨g, 0, none⟩, cap, rfl, fun k e hk => ⟨g, 0, rfl, (Array.getElem?_eq_some_iff.1 hh).1, ?_⟩⟩
    rw [Nat.zero_add]
    exact own_rangeD h k e hk
theorem ex_list (s : ByteArray) (a b : Nat) : (s.extract a b).data.toList = (s.data.toList.take b).drop a := by
  simp [List.extract_eq_take_drop, List.drop_take]
theorem neq_dr (a : Dr) (w : World) : (binOp .neq 33 (.agg (drL a).toArray) (.agg (drL a).toArray)).run Try.prog w = .ok (.bool false) w := by
  show (binOp .neq 33 (.agg #[.int .i64 a.n, .int .u8 a.why]) (.agg #[.int .i64 a.n, .int .u8 a.why])).run Try.prog w = _
  rw [run_neq_struct, run_equalIn_agg (ht := by kernel_rfl) (hp := by kernel_rfl), eqFields33]
  simp only [Op.eqFields, fld]
  simp [part, go_sem]
end Go.Proofs.Ytilfhkagfjdfkaa
