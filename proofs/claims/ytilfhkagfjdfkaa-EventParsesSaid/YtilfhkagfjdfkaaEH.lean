/- Pure: records of what Build tells; EventGuests' body. -/
import Derived.Test.YtilfhkagfjdfkaaEG
set_option linter.unusedVariables false
set_option linter.unusedSimpArgs false
namespace Go.Proofs.Ytilfhkagfjdfkaa
open Go.RowKit
attribute [local go_sem] Oper.semAt_some
/-- The law answers true, and what there was stays. -/
def Yes (w : World) (e : Ending) (w' : World) : Prop := e = .returned (.bool true) ∧ Below w.heap.size w w'
theorem bytE_len (e : Ev) : (bytE e).length = 10 := by simp [bytE, byt_len]
theorem buildL_len : ∀ l : List Ev, (buildL l).length = 10 * l.length
  | [] => rfl
  | e :: l => by rw [buildL, List.length_append, bytE_len, buildL_len l, List.length_cons]; omega
theorem recEv_byt (e : Ev) (he : e.wf) (r : List UInt8) : recEv (bytE e ++ r) = e := by
  obtain ⟨t, g, k, v⟩ := e
  obtain ⟨h1, h2, h3, h4⟩ := he
  simp only at h1 h2 h3 h4
  have e1 : (byt 4 t ++ (byt 1 g ++ (byt 1 k ++ byt 4 v)) ++ r).take 4 = byt 4 t := by
    rw [List.append_assoc, List.take_left' (byt_len 4 t)]
  have e2 : ((byt 4 t ++ (byt 1 g ++ (byt 1 k ++ byt 4 v)) ++ r).drop 4).take 1 = byt 1 g := by
    rw [List.append_assoc, List.drop_left' (byt_len 4 t), List.append_assoc, List.take_left' (byt_len 1 g)]
  have e3 : ((byt 4 t ++ (byt 1 g ++ (byt 1 k ++ byt 4 v)) ++ r).drop 5).take 1 = byt 1 k := by
    rw [show (5 : Nat) = 4 + 1 from rfl, ← List.drop_drop, List.append_assoc, List.drop_left' (byt_len 4 t), List.append_assoc, List.drop_left' (byt_len 1 g), List.append_assoc, List.take_left' (byt_len 1 k)]
  have e4 : ((byt 4 t ++ (byt 1 g ++ (byt 1 k ++ byt 4 v)) ++ r).drop 6).take 4 = byt 4 v := by
    rw [show (6 : Nat) = 4 + (1 + 1) from rfl, ← List.drop_drop, ← List.drop_drop, List.append_assoc, List.drop_left' (byt_len 4 t), List.append_assoc, List.drop_left' (byt_len 1 g), List.append_assoc, List.drop_left' (byt_len 1 k), List.take_left' (byt_len 4 v)]
  unfold recEv bytE
  simp only
  rw [e1, e2, e3, e4, numL_byt, numL_byt, numL_byt, numL_byt]
  have a1 : t % 256 ^ 4 = t := Nat.mod_eq_of_lt h1
  have a2 : g % 256 ^ 1 = g := Nat.mod_eq_of_lt h2
  have a3 : k % 256 ^ 1 = k := Nat.mod_eq_of_lt h3
  have a4 : v % 256 ^ 4 = v := Nat.mod_eq_of_lt h4
  rw [a1, a2, a3, a4]
theorem recs_build : ∀ l : List Ev, (∀ e ∈ l, e.wf) → recs (buildL l) = l
  | [], _ => rfl
  | e :: l, hw => by
    have ih := recs_build l (fun x hx => hw x (List.mem_cons_of_mem _ hx))
    unfold recs at ih ⊢
    have n1 : (buildL (e :: l)).length / 10 = l.length + 1 := by rw [buildL_len, List.length_cons]; omega
    have n2 : (buildL l).length / 10 = l.length := by rw [buildL_len]; omega
    rw [n2] at ih
    rw [n1, List.range_succ_eq_map, List.map_cons, List.map_map]
    have hd : recEv ((buildL (e :: l)).drop (10 * 0)) = e := by rw [Nat.mul_zero, List.drop_zero, buildL, recEv_byt e (hw e (List.mem_cons_self ..))]
    have tl : List.map ((fun i => recEv ((buildL (e :: l)).drop (10 * i))) ∘ Nat.succ) (List.range l.length) = l := by
      refine Eq.trans (List.map_congr_left fun i _ => ?_) ih
      show recEv ((buildL (e :: l)).drop (10 * (i + 1))) = recEv ((buildL l).drop (10 * i))
      rw [buildL, show 10 * (i + 1) = 10 + 10 * i by omega, ← List.drop_drop, List.drop_left' (bytE_len e)]
    exact congr (congrArg List.cons hd) tl
theorem parK_build (gs : Int) (l : List Ev) (hw : ∀ e ∈ l, e.wf) : parK gs (buildL l) = (pst gs l).K := by unfold parK; rw [recs_build l hw]
theorem parD_build (gs : Int) (l : List Ev) (hw : ∀ e ∈ l, e.wf) : parD gs (buildL l) = (pst gs l).D := by
  unfold parD
  rw [recs_build l hw, buildL_len, if_pos (by omega), List.append_nil]
theorem foldl_guest (gs : Int) (g : Nat) : ∀ (l : List Ev) (s s' : PSt), s'.K = ofG s.K g → s'.F g = s.F g → ((ofG l g).foldl (pstep gs) s').K = ofG (l.foldl (pstep gs) s).K g
  | [], s, s', h1, h2 => h1
  | e :: l, s, s', h1, h2 => by
    rw [List.foldl_cons]
    by_cases hg : e.g = g
    · have e1 : ofG (e :: l) g = e :: ofG l g := by unfold ofG; rw [List.filter_cons, if_pos (by simpa using hg)]
      rw [e1, List.foldl_cons]
      apply foldl_guest gs g l
      · unfold pstep
        rw [hg, h2]
        split
        · show s'.K ++ [e] = ofG (s.K ++ [e]) g
          rw [ofG_snoc, if_pos hg, h1]
        · exact h1
      · unfold pstep
        rw [hg, h2]
        split
        · show upd s'.F e.g e.t g = upd s.F e.g e.t g
          rw [hg, upd_at, upd_at]
        · exact h2
    · have e1 : ofG (e :: l) g = ofG l g := by unfold ofG; rw [List.filter_cons, if_neg (by simpa using hg)]
      rw [e1]
      apply foldl_guest gs g l
      · unfold pstep
        split
        · show s'.K = ofG (s.K ++ [e]) g
          rw [ofG_snoc, if_neg hg, h1]
        · exact h1
      · unfold pstep
        split
        · show s'.F g = upd s.F e.g e.t g
          rw [upd_ne _ _ (Ne.symm hg), h2]
        · exact h2
theorem guests_pure (gs : Int) (g : Nat) (l : List Ev) (hw : ∀ e ∈ l, e.wf) : ofG (parK gs (buildL l)) g = parK gs (buildL (ofG l g)) := by
  rw [parK_build gs l hw, parK_build gs _ (ofG_wf hw g)]
  exact (foldl_guest gs g l .zero .zero rfl rfl).symm
set_option maxRecDepth 100000 in
theorem guests_long (a : Option Addr) (len cap : Nat) (h : 60 < len) (gs : Int) (g : Nat) (w : World) : Calls Try.prog 9 #[.slice a len cap, .int .i64 gs, .int .u8 g] w (Yes w) := by
  go_enter Try.func9, Try.ntmps9
  go_wp2_with (go_at_call 10; refine (awake_any _).mono ?_; rintro e w' ⟨rfl, bel⟩)
  go_ret
  exact ⟨rfl, bel⟩
set_option maxHeartbeats 8000000 in
set_option maxRecDepth 100000 in
theorem guests_all (a : Option Addr) (len cap : Nat) (l : List Ev) (hl : len ≤ 60) (gs : Int) (g : Nat) (hg : g < 256) (w : World) (hf : IsEvs w (.slice a len cap) l) : Calls Try.prog 9 #[.slice a len cap, .int .i64 gs, .int .u8 g] w (Yes w) := by
  have hlen : l.length = len := by
    obtain ⟨a', cap', e, _⟩ := hf
    cases e
    rfl
  have hw : ∀ e ∈ l, e.wf := by obtain ⟨_, _, _, h, _⟩ := hf; exact h
  have HF := Lib.hid hf
  have HW := Lib.hid hw
  have HL := Lib.hid hlen
  have hP := Lib.hid (guests_pure gs g l hw)
  have hKl : (parK gs (buildL l)).length ≤ 60 := by have := parK_len gs (buildL l); rw [buildL_len] at this; omega
  have hGl : (ofG l g).length ≤ 60 := by have := ofG_len l g; omega
  have HKL := Lib.hid (And.intro hKl hGl)
  have n60 : ¬ (60 : Int) < (len : Int) := by omega
  clear hf hw hlen hKl hGl
  go_enter Try.func9, Try.ntmps9
  go_wp2_with fail
  refine (build_any w _ l HF.out (by rw [HL.out]; omega)).mono ?_
  rintro e w1 ⟨rfl, b1⟩
  have T1 := Lib.hid b1
  clear b1
  go_wp2_with fail
  refine (parse_any (str (buildL l)) (by rw [str_size, buildL_len, HL.out]; omega) gs w1).mono ?_
  rintro e w2 ⟨vk, vd, rfl, hk, _, b2⟩
  rw [str_data] at hk
  have T2 : Hid (Below w.heap.size w w2) := Lib.hid (T1.out.trans (b2.mono T1.out.size))
  have HK2 := Lib.hid (own_evs hk (parK_wf gs (buildL l)))
  clear hk b2
  go_wp2_with fail
  refine (guest_any w2 _ l (HF.out.below T2.out) (by rw [HL.out]; omega) g hg).mono ?_
  rintro e w3 ⟨v3, rfl, h3, b3⟩
  have T3 : Hid (Below w.heap.size w w3) := Lib.hid (T2.out.trans (b3.mono T2.out.size))
  have HK3 := Lib.hid (HK2.out.below b3)
  have H3 := Lib.hid h3
  clear h3 b3 HK2
  go_wp2_with fail
  refine (build_any w3 _ _ H3.out (by have := HKL.out.2; omega)).mono ?_
  rintro e w4 ⟨rfl, b4⟩
  have T4 : Hid (Below w.heap.size w w4) := Lib.hid (T3.out.trans (b4.mono T3.out.size))
  have HK4 := Lib.hid (HK3.out.below b4)
  clear b4 HK3
  go_wp2_with fail
  refine (parse_any (str (buildL (ofG l g))) (by rw [str_size, buildL_len]; have := HKL.out.2; omega) gs w4).mono ?_
  rintro e w5 ⟨vk5, vd5, rfl, hk5, _, b5⟩
  rw [str_data] at hk5
  have T5 : Hid (Below w.heap.size w w5) := Lib.hid (T4.out.trans (b5.mono T4.out.size))
  have HK5 := Lib.hid (HK4.out.below b5)
  have HA5 := Lib.hid (own_evs hk5 (parK_wf gs (buildL (ofG l g))))
  clear hk5 b5 HK4
  go_wp2_with fail
  refine (guest_any w5 _ _ HK5.out (by have := HKL.out.1; omega) g hg).mono ?_
  rintro e w6 ⟨v6, rfl, h6, b6⟩
  have T6 : Hid (Below w.heap.size w w6) := Lib.hid (T5.out.trans (b6.mono T5.out.size))
  have HA6 := Lib.hid (HA5.out.below b6)
  have H6 := Lib.hid h6
  clear h6 b6 HA5
  go_wp2_with fail
  refine (same_any w6 _ _ _ _ H6.out HA6.out (by have h1 := HKL.out.1; have h2 := ofG_len (parK gs (buildL l)) g; omega)).mono ?_
  rintro e w7 ⟨rfl, b7⟩
  rw [decide_eq_true hP.out]
  have T7 : Hid (Below w.heap.size w w7) := Lib.hid (T6.out.trans (b7.mono T6.out.size))
  clear b7
  go_wp2_with (go_at_call 10; refine (awake_any _).mono ?_; rintro e w8 ⟨rfl, bel⟩)
  go_ret
  exact ⟨rfl, T7.out.trans (bel.mono T7.out.size)⟩
end Go.Proofs.Ytilfhkagfjdfkaa
