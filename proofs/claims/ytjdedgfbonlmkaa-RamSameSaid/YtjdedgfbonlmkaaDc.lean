/- The document's memory: set. -/
import Derived.Test.YtjdedgfbonlmkaaDb
set_option linter.unusedVariables false
set_option linter.unusedSimpArgs false
namespace Go.Proofs.Ytjdedgfbonlmkaa
open Go.RowKit
/-- Whether the reservation ends with a byte at a. -/
def hitB (at' wd a : Nat) : Bool := decide (0 < wd ∧ a / 8 = at' / 8)
section
variable {w w' : World} {C N at' wd base : Nat} {l : List UInt8} {L : List Ent} {v : Value} {t : TypeId} {cs : Array Value}
theorem own_put {n X : Nat} {xs : List Value} (h : w.ownsRow base 44 2 v n xs) (k : Box w X t cs) (ht : t ≠ 44) (i : Nat) (u : Value) : (w.setCell ⟨X, i, none⟩ u).ownsRow base 44 2 v n xs :=
  ownsRow_setCell_other h (by
    rcases h.2 with ⟨rfl, _⟩ | ⟨g, cap, cur, rfl, hg, hh, _⟩
    · intro e; cases e
    · intro e
      exact row_ne hh k ht (by simpa [Value.ownBlock] using e)) _
theorem Dt.put (h : Dt C base w w') (i : Nat) (u : Value) : Dt C base w (w'.setCell ⟨C, i, none⟩ u) :=
  h.trans ⟨rfl, rfl, rfl, by simp [World.setCell], fun k hk hn _ => Below.heap_setCell w' ⟨C, i, none⟩ u k hn⟩
theorem Dt.putRow {g : Nat} {cur : Array Value} (h : Dt C base w w') (hg : w'.heap[g]? = some (.cells cur 44 (0, 0))) (hb : base ≤ g) (i : Nat) (u : Value) : Dt C base w (w'.setCell ⟨g, i, none⟩ u) :=
  h.trans ⟨rfl, rfl, rfl, by simp [World.setCell], fun k hk hn hx => Below.heap_setCell w' ⟨g, i, none⟩ u k (fun e => by
    have e' : k = g := e
    subst e'
    rcases hx with hx | ⟨cs, t, fz, h1, h2⟩
    · omega
    · rw [hg] at h1
      cases h1
      exact h2 rfl)⟩
theorem Dt.grown {n : Nat} {xs : List Value} (h : Dt C base w w') {w2 : World} (hown : w'.ownsRow base 44 2 v n xs) (hg : w'.grownBy w2 v.ownBlock) : Dt C base w w2 :=
  h.trans ((Dt.refl C base w').trans ⟨hg.os, hg.tape, hg.output, hg.size, fun k hk hn hx => hg.block k hk (fun e => by
    rcases hown.2 with ⟨rfl, _⟩ | ⟨g, cap, cur, rfl, hb, hh, _⟩
    · cases e
    · have e' : g = k := Eq.symm (by simpa [Value.ownBlock] using e)
      subst e'
      rcases hx with hx | ⟨cs, t, fz, h1, h2⟩
      · omega
      · rw [hh] at h1
        cases h1
        exact h2 rfl)⟩)
theorem Dm.drop (h : Dm w C N at' wd l base L v) : Dm (w.setCell ⟨C, 3, none⟩ (.int .i64 0)) C N at' 0 l base L v :=
  ⟨box_eq (h.box.put 3 _) rfl, own_put h.own h.box (by decide) _ _, h.md, h.len, h.top, h.at1, by simpa [World.setCell] using h.hb⟩
set_option maxHeartbeats 1000000 in
theorem dset_any (h : Dm w C N at' wd l base L v) (a : Nat) (ha : a < N) (c : UInt8) : Calls Try.prog 51 #[.pointer (some ⟨C, 0, none⟩), .int .u64 a, .int .u8 c.toNat] w fun e w' => e = .returned (.tuple #[]) ∧ (∃ v', Dm w' C N at' (gone (hitB at' wd a) wd) (l.set a c) base (dset L a c) v') ∧ Dt C base w w' := by
  obtain ⟨i0, hi, iz0, iz1, iz2⟩ := info_parts info44
  obtain ⟨av, cap, rfl, hav⟩ := own_row h.own
  have c3 : w.cell? ⟨C, 3, none⟩ = some (.int .i64 wd) := h.box.read 3
  have c2 : w.cell? ⟨C, 2, none⟩ = some (.int .u64 at') := h.box.read 2
  have f3 := h.box.warm 3
  have c1 := h.box.read 1
  have hL := h.lN
  have hb := h.hb
  have hCs := h.box.inHeap
  have H0 := Lib.hid h
  have HA := Lib.hid (And.intro ha (And.intro h.top h.len))
  have hwa : IntKind.u64.wrap ((a : Int) / 8) = (a : Int) / 8 := by have := h.top; show ((a : Int) / 8) % 18446744073709551616 = _; omega
  have hwt : IntKind.u64.wrap ((at' : Int) / 8) = (at' : Int) / 8 := by have := h.at1; show ((at' : Int) / 8) % 18446744073709551616 = _; omega
  clear h hav ha
  by_cases hw : 0 < wd
  · by_cases hq : a / 8 = at' / 8
    · have hg : gone (hitB at' wd a) wd = 0 := by unfold gone hitB; rw [if_pos (by simp; exact ⟨hw, hq⟩)]
      rw [hg]
      have hq2 : (a : Int) / 8 = (at' : Int) / 8 := by omega
      clear hg hq
      go_enter Try.func51, Try.ntmps51
      go_wp2
      have HD := Lib.hid H0.out.drop
      have HT := Lib.hid ((Dt.refl C base w).put 3 (.int .i64 0))
      generalize w.setCell ⟨C, 3, none⟩ (.int .i64 0) = w1 at HD HT ⊢
      clear c1 c2 c3 f3 hw hq2 hwa hwt
      have HO := Lib.hid HD.out.own
      have hav := own_row HD.out.own
      have HAV := Lib.hid hav
      clear hav
      have c1 := HD.out.box.read 1
      have hb1 := HD.out.hb
      have hC1 := HD.out.box.inHeap
      go_loop [6] (fun i => ∃ k : Nat, k ≤ L.length ∧ i = .int .i64 k ∧ ∀ (j : Nat) (f : Ent), j < k → L[j]? = some f → f.1 ≠ a) (fun i => L.length - (intOf i).toNat)
      case atStart => exact ⟨0, Nat.zero_le _, rfl, fun j f h => by omega⟩
      case round =>
        obtain ⟨k, hk, rfl, hno⟩ := hrel
        have HN := Lib.hid hno
        clear hno
        have k1 : (0 : Int) ≤ (k : Int) := Int.natCast_nonneg _
        by_cases hlt : k < L.length
        · have k2 : (k : Int) < (L.length : Int) := by omega
          obtain ⟨g, cur, rfl, hbg, hgr⟩ : ∃ g cur, av = some ⟨g, 0, none⟩ ∧ base ≤ g ∧ _ := by
            obtain ⟨av', cap', e, hx⟩ := HAV.out
            cases e
            rcases hx with ⟨h0, _⟩ | ⟨g, cur, e, h1, h2⟩
            · omega
            · exact ⟨g, cur, e, h1, h2⟩
          have he : L[k]? = some L[k] := List.getElem?_eq_getElem hlt
          generalize L[k] = e at he
          obtain ⟨x1, x2⟩ := ents_get he
          have d0 := (World.ownsRow.cellAt HO.out (k * 2) (by omega)).trans x1
          have d1 := (World.ownsRow.cellAt HO.out (k * 2 + 1) (by omega)).trans x2
          have f1 := World.ownsRow.frozenAt HO.out (k * 2 + 1)
          obtain ⟨e1, e2⟩ := e
          simp only at d0 d1
          have HE := Lib.hid he
          have HG := Lib.hid hgr
          clear x1 x2 he hgr
          by_cases hq : e1 = a
          · subst hq
            have hz : dset L e1 c = L.set k (e1, c) := dset_get HE.out rfl HN.out
            have HZ := Lib.hid hz
            clear hz
            go_wp2
            refine bodyPost_ret (results_none rfl _ _ _) rfl ?_
            refine ⟨rfl, ⟨.slice (some ⟨g, 0, none⟩) L.length cap, ⟨HD.out.box.putFar (row_ne HG.out HD.out.box (by decide)).symm _, ?_, HD.out.md.set (by rw [HA.out.2.2]; exact HA.out.1) c, by rw [List.length_set]; exact HD.out.len, HD.out.top, HD.out.at1, by simpa [World.setCell] using HD.out.hb⟩⟩, HT.out.putRow HG.out hbg _ _⟩
            have h := (World.ownsRow.stored HO.out (k * 2 + 1) (.int .u8 c.toNat)).1
            rw [ents_set c HE.out] at h
            rw [HZ.out, List.length_set]
            exact h
          · have q1 : ((e1 : Int) == (a : Int)) = false := beq_eq_false_iff_ne.2 (by omega)
            have q2 : ¬ ((e1 : Int) = (a : Int)) := by omega
            go_wp2
            go_round
            case rel => exact ⟨k + 1, by omega, by go_num, fun j f hj hf => by
              by_cases hjk : j = k
              · subst hjk
                rw [HE.out] at hf
                cases hf
                exact hq
              · exact HN.out j f (by omega) hf⟩
            case measure => simp [intOf]; omega
        · have hz : dset L a c = L ++ [(a, c)] := dset_new fun e he => by
            obtain ⟨j, hj⟩ := List.mem_iff_getElem?.1 he
            exact HN.out j e (by have := (List.getElem?_eq_some_iff.1 hj).1; omega) hj
          have HZ := Lib.hid hz
          have f1 := HD.out.box.warm 1
          clear hz
          go_wp2_with (at_builtin; go_loud (refine wpList_append_own _ rfl _ _ 31 rfl base 44 i0 (.agg #[.int .u64 0, .int .u8 0]) 2 16 Try.underlying31 hi iz0 iz1 iz2 rfl (by decide) _ _ _ rfl (HO.out.alloc _) ⟨_, 0, none⟩ 1 1 [.int .u64 a, .int .u8 c.toNat] rfl rfl ?d1a ?d2a ?d3a ?d4a ?d5a ?_))
          case d2a => first | exact ⟨rfl, rfl⟩ | (intro u hu; simp at hu; rcases hu with rfl | rfl <;> rfl)
          case d3a => unfold maxLen; omega
          case d4a => omega
          case d5a => first | omega | (simp; omega)
          intro v2 w2 hown2 hg2 _
          have hT2 : Dt C base w w2 := ((HT.out.trans (Dt.ofBelow ((Below.refl _ _).alloc (Nat.le_refl _) _))).grown (HO.out.alloc _) hg2)
          have hbx2 : Box w2 C 33 _ := (hg2.block C (HD.out.box.more _).inHeap (fun e => by
            rcases HO.out.2 with ⟨h, _⟩ | ⟨g, cap', cur, h, hbg, hh, _⟩
            · simp only [Value.slice.injEq] at h
              obtain ⟨rfl, _, _⟩ := h
              cases e
            · simp only [Value.slice.injEq] at h
              obtain ⟨rfl, _, _⟩ := h
              have e' : g = C := by first | simpa [Value.ownBlock] using e | exact Eq.symm (by simpa [Value.ownBlock] using e)
              exact row_ne hh HD.out.box (by decide) e')).trans (HD.out.box.more _)
          obtain ⟨a2, cap2, rfl, _⟩ := own_row hown2
          have HB2 := Lib.hid (And.intro hbx2 (And.intro hown2 hT2))
          have c2 := hbx2.read 1
          have f2 := hbx2.warm 1
          clear hbx2 hown2 hT2 hg2 c1 f1
          go_wp2
          go_end0
          refine ⟨rfl, ⟨.slice a2 (L.length + 1) cap2, ⟨box_eq (HB2.out.1.put 1 _) rfl, ?_, HD.out.md.set (by rw [HA.out.2.2]; exact HA.out.1) c, by rw [List.length_set]; exact HD.out.len, HD.out.top, HD.out.at1, by have h1 := HB2.out.2.2.size; have h2 := H0.out.hb; simp [World.setCell]; omega⟩⟩, HB2.out.2.2.put _ _⟩
          have h := own_put HB2.out.2.1 HB2.out.1 (by decide) 1 (.slice a2 (L.length + 1) cap2)
          rw [HZ.out, List.length_append, ents_snoc]
          exact h
    · have hg : gone (hitB at' wd a) wd = wd := by unfold gone hitB; rw [if_neg (by simp; intro _; exact hq)]
      rw [hg]
      have hq2 : ((a : Int) / 8 == (at' : Int) / 8) = false := beq_eq_false_iff_ne.2 (by omega)
      have hq3 : ¬ ((a : Int) / 8 = (at' : Int) / 8) := by omega
      clear hg hq
      go_enter Try.func51, Try.ntmps51
      go_wp2
      have HD := Lib.hid H0.out
      have HT := Lib.hid (Dt.refl C base w)
      clear c1 c2 c3 f3 hw hq2 hq3 hwa hwt
      have HO := Lib.hid HD.out.own
      have hav := own_row HD.out.own
      have HAV := Lib.hid hav
      clear hav
      have c1 := HD.out.box.read 1
      have hb1 := HD.out.hb
      have hC1 := HD.out.box.inHeap
      go_loop [6] (fun i => ∃ k : Nat, k ≤ L.length ∧ i = .int .i64 k ∧ ∀ (j : Nat) (f : Ent), j < k → L[j]? = some f → f.1 ≠ a) (fun i => L.length - (intOf i).toNat)
      case atStart => exact ⟨0, Nat.zero_le _, rfl, fun j f h => by omega⟩
      case round =>
        obtain ⟨k, hk, rfl, hno⟩ := hrel
        have HN := Lib.hid hno
        clear hno
        have k1 : (0 : Int) ≤ (k : Int) := Int.natCast_nonneg _
        by_cases hlt : k < L.length
        · have k2 : (k : Int) < (L.length : Int) := by omega
          obtain ⟨g, cur, rfl, hbg, hgr⟩ : ∃ g cur, av = some ⟨g, 0, none⟩ ∧ base ≤ g ∧ _ := by
            obtain ⟨av', cap', e, hx⟩ := HAV.out
            cases e
            rcases hx with ⟨h0, _⟩ | ⟨g, cur, e, h1, h2⟩
            · omega
            · exact ⟨g, cur, e, h1, h2⟩
          have he : L[k]? = some L[k] := List.getElem?_eq_getElem hlt
          generalize L[k] = e at he
          obtain ⟨x1, x2⟩ := ents_get he
          have d0 := (World.ownsRow.cellAt HO.out (k * 2) (by omega)).trans x1
          have d1 := (World.ownsRow.cellAt HO.out (k * 2 + 1) (by omega)).trans x2
          have f1 := World.ownsRow.frozenAt HO.out (k * 2 + 1)
          obtain ⟨e1, e2⟩ := e
          simp only at d0 d1
          have HE := Lib.hid he
          have HG := Lib.hid hgr
          clear x1 x2 he hgr
          by_cases hq : e1 = a
          · subst hq
            have hz : dset L e1 c = L.set k (e1, c) := dset_get HE.out rfl HN.out
            have HZ := Lib.hid hz
            clear hz
            go_wp2
            refine bodyPost_ret (results_none rfl _ _ _) rfl ?_
            refine ⟨rfl, ⟨.slice (some ⟨g, 0, none⟩) L.length cap, ⟨HD.out.box.putFar (row_ne HG.out HD.out.box (by decide)).symm _, ?_, HD.out.md.set (by rw [HA.out.2.2]; exact HA.out.1) c, by rw [List.length_set]; exact HD.out.len, HD.out.top, HD.out.at1, by simpa [World.setCell] using HD.out.hb⟩⟩, HT.out.putRow HG.out hbg _ _⟩
            have h := (World.ownsRow.stored HO.out (k * 2 + 1) (.int .u8 c.toNat)).1
            rw [ents_set c HE.out] at h
            rw [HZ.out, List.length_set]
            exact h
          · have q1 : ((e1 : Int) == (a : Int)) = false := beq_eq_false_iff_ne.2 (by omega)
            have q2 : ¬ ((e1 : Int) = (a : Int)) := by omega
            go_wp2
            go_round
            case rel => exact ⟨k + 1, by omega, by go_num, fun j f hj hf => by
              by_cases hjk : j = k
              · subst hjk
                rw [HE.out] at hf
                cases hf
                exact hq
              · exact HN.out j f (by omega) hf⟩
            case measure => simp [intOf]; omega
        · have hz : dset L a c = L ++ [(a, c)] := dset_new fun e he => by
            obtain ⟨j, hj⟩ := List.mem_iff_getElem?.1 he
            exact HN.out j e (by have := (List.getElem?_eq_some_iff.1 hj).1; omega) hj
          have HZ := Lib.hid hz
          have f1 := HD.out.box.warm 1
          clear hz
          go_wp2_with (at_builtin; go_loud (refine wpList_append_own _ rfl _ _ 31 rfl base 44 i0 (.agg #[.int .u64 0, .int .u8 0]) 2 16 Try.underlying31 hi iz0 iz1 iz2 rfl (by decide) _ _ _ rfl (HO.out.alloc _) ⟨_, 0, none⟩ 1 1 [.int .u64 a, .int .u8 c.toNat] rfl rfl ?d1b ?d2b ?d3b ?d4b ?d5b ?_))
          case d2b => first | exact ⟨rfl, rfl⟩ | (intro u hu; simp at hu; rcases hu with rfl | rfl <;> rfl)
          case d3b => unfold maxLen; omega
          case d4b => omega
          case d5b => first | omega | (simp; omega)
          intro v2 w2 hown2 hg2 _
          have hT2 : Dt C base w w2 := ((HT.out.trans (Dt.ofBelow ((Below.refl _ _).alloc (Nat.le_refl _) _))).grown (HO.out.alloc _) hg2)
          have hbx2 : Box w2 C 33 _ := (hg2.block C (HD.out.box.more _).inHeap (fun e => by
            rcases HO.out.2 with ⟨h, _⟩ | ⟨g, cap', cur, h, hbg, hh, _⟩
            · simp only [Value.slice.injEq] at h
              obtain ⟨rfl, _, _⟩ := h
              cases e
            · simp only [Value.slice.injEq] at h
              obtain ⟨rfl, _, _⟩ := h
              have e' : g = C := by first | simpa [Value.ownBlock] using e | exact Eq.symm (by simpa [Value.ownBlock] using e)
              exact row_ne hh HD.out.box (by decide) e')).trans (HD.out.box.more _)
          obtain ⟨a2, cap2, rfl, _⟩ := own_row hown2
          have HB2 := Lib.hid (And.intro hbx2 (And.intro hown2 hT2))
          have c2 := hbx2.read 1
          have f2 := hbx2.warm 1
          clear hbx2 hown2 hT2 hg2 c1 f1
          go_wp2
          go_end0
          refine ⟨rfl, ⟨.slice a2 (L.length + 1) cap2, ⟨box_eq (HB2.out.1.put 1 _) rfl, ?_, HD.out.md.set (by rw [HA.out.2.2]; exact HA.out.1) c, by rw [List.length_set]; exact HD.out.len, HD.out.top, HD.out.at1, by have h1 := HB2.out.2.2.size; have h2 := H0.out.hb; simp [World.setCell]; omega⟩⟩, HB2.out.2.2.put _ _⟩
          have h := own_put HB2.out.2.1 HB2.out.1 (by decide) 1 (.slice a2 (L.length + 1) cap2)
          rw [HZ.out, List.length_append, ents_snoc]
          exact h
  · obtain rfl : wd = 0 := by omega
    have hg : gone (hitB at' 0 a) 0 = 0 := by unfold gone; split <;> rfl
    rw [hg]
    clear hg hw
    go_enter Try.func51, Try.ntmps51
    go_wp2
    have HD := Lib.hid H0.out
    have HT := Lib.hid (Dt.refl C base w)
    clear c1 c2 c3 f3 hwa hwt
    have HO := Lib.hid HD.out.own
    have hav := own_row HD.out.own
    have HAV := Lib.hid hav
    clear hav
    have c1 := HD.out.box.read 1
    have hb1 := HD.out.hb
    have hC1 := HD.out.box.inHeap
    go_loop [6] (fun i => ∃ k : Nat, k ≤ L.length ∧ i = .int .i64 k ∧ ∀ (j : Nat) (f : Ent), j < k → L[j]? = some f → f.1 ≠ a) (fun i => L.length - (intOf i).toNat)
    case atStart => exact ⟨0, Nat.zero_le _, rfl, fun j f h => by omega⟩
    case round =>
      obtain ⟨k, hk, rfl, hno⟩ := hrel
      have HN := Lib.hid hno
      clear hno
      have k1 : (0 : Int) ≤ (k : Int) := Int.natCast_nonneg _
      by_cases hlt : k < L.length
      · have k2 : (k : Int) < (L.length : Int) := by omega
        obtain ⟨g, cur, rfl, hbg, hgr⟩ : ∃ g cur, av = some ⟨g, 0, none⟩ ∧ base ≤ g ∧ _ := by
          obtain ⟨av', cap', e, hx⟩ := HAV.out
          cases e
          rcases hx with ⟨h0, _⟩ | ⟨g, cur, e, h1, h2⟩
          · omega
          · exact ⟨g, cur, e, h1, h2⟩
        have he : L[k]? = some L[k] := List.getElem?_eq_getElem hlt
        generalize L[k] = e at he
        obtain ⟨x1, x2⟩ := ents_get he
        have d0 := (World.ownsRow.cellAt HO.out (k * 2) (by omega)).trans x1
        have d1 := (World.ownsRow.cellAt HO.out (k * 2 + 1) (by omega)).trans x2
        have f1 := World.ownsRow.frozenAt HO.out (k * 2 + 1)
        obtain ⟨e1, e2⟩ := e
        simp only at d0 d1
        have HE := Lib.hid he
        have HG := Lib.hid hgr
        clear x1 x2 he hgr
        by_cases hq : e1 = a
        · subst hq
          have hz : dset L e1 c = L.set k (e1, c) := dset_get HE.out rfl HN.out
          have HZ := Lib.hid hz
          clear hz
          go_wp2
          refine bodyPost_ret (results_none rfl _ _ _) rfl ?_
          refine ⟨rfl, ⟨.slice (some ⟨g, 0, none⟩) L.length cap, ⟨HD.out.box.putFar (row_ne HG.out HD.out.box (by decide)).symm _, ?_, HD.out.md.set (by rw [HA.out.2.2]; exact HA.out.1) c, by rw [List.length_set]; exact HD.out.len, HD.out.top, HD.out.at1, by simpa [World.setCell] using HD.out.hb⟩⟩, HT.out.putRow HG.out hbg _ _⟩
          have h := (World.ownsRow.stored HO.out (k * 2 + 1) (.int .u8 c.toNat)).1
          rw [ents_set c HE.out] at h
          rw [HZ.out, List.length_set]
          exact h
        · have q1 : ((e1 : Int) == (a : Int)) = false := beq_eq_false_iff_ne.2 (by omega)
          have q2 : ¬ ((e1 : Int) = (a : Int)) := by omega
          go_wp2
          go_round
          case rel => exact ⟨k + 1, by omega, by go_num, fun j f hj hf => by
            by_cases hjk : j = k
            · subst hjk
              rw [HE.out] at hf
              cases hf
              exact hq
            · exact HN.out j f (by omega) hf⟩
          case measure => simp [intOf]; omega
      · have hz : dset L a c = L ++ [(a, c)] := dset_new fun e he => by
          obtain ⟨j, hj⟩ := List.mem_iff_getElem?.1 he
          exact HN.out j e (by have := (List.getElem?_eq_some_iff.1 hj).1; omega) hj
        have HZ := Lib.hid hz
        have f1 := HD.out.box.warm 1
        clear hz
        go_wp2_with (at_builtin; go_loud (refine wpList_append_own _ rfl _ _ 31 rfl base 44 i0 (.agg #[.int .u64 0, .int .u8 0]) 2 16 Try.underlying31 hi iz0 iz1 iz2 rfl (by decide) _ _ _ rfl (HO.out.alloc _) ⟨_, 0, none⟩ 1 1 [.int .u64 a, .int .u8 c.toNat] rfl rfl ?d1c ?d2c ?d3c ?d4c ?d5c ?_))
        case d2c => first | exact ⟨rfl, rfl⟩ | (intro u hu; simp at hu; rcases hu with rfl | rfl <;> rfl)
        case d3c => unfold maxLen; omega
        case d4c => omega
        case d5c => first | omega | (simp; omega)
        intro v2 w2 hown2 hg2 _
        have hT2 : Dt C base w w2 := ((HT.out.trans (Dt.ofBelow ((Below.refl _ _).alloc (Nat.le_refl _) _))).grown (HO.out.alloc _) hg2)
        have hbx2 : Box w2 C 33 _ := (hg2.block C (HD.out.box.more _).inHeap (fun e => by
          rcases HO.out.2 with ⟨h, _⟩ | ⟨g, cap', cur, h, hbg, hh, _⟩
          · simp only [Value.slice.injEq] at h
            obtain ⟨rfl, _, _⟩ := h
            cases e
          · simp only [Value.slice.injEq] at h
            obtain ⟨rfl, _, _⟩ := h
            have e' : g = C := by first | simpa [Value.ownBlock] using e | exact Eq.symm (by simpa [Value.ownBlock] using e)
            exact row_ne hh HD.out.box (by decide) e')).trans (HD.out.box.more _)
        obtain ⟨a2, cap2, rfl, _⟩ := own_row hown2
        have HB2 := Lib.hid (And.intro hbx2 (And.intro hown2 hT2))
        have c2 := hbx2.read 1
        have f2 := hbx2.warm 1
        clear hbx2 hown2 hT2 hg2 c1 f1
        go_wp2
        go_end0
        refine ⟨rfl, ⟨.slice a2 (L.length + 1) cap2, ⟨box_eq (HB2.out.1.put 1 _) rfl, ?_, HD.out.md.set (by rw [HA.out.2.2]; exact HA.out.1) c, by rw [List.length_set]; exact HD.out.len, HD.out.top, HD.out.at1, by have h1 := HB2.out.2.2.size; have h2 := H0.out.hb; simp [World.setCell]; omega⟩⟩, HB2.out.2.2.put _ _⟩
        have h := own_put HB2.out.2.1 HB2.out.1 (by decide) 1 (.slice a2 (L.length + 1) cap2)
        rw [HZ.out, List.length_append, ents_snoc]
        exact h
end
end Go.Proofs.Ytjdedgfbonlmkaa
