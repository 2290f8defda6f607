/- Same of the program; PlicSame's body. -/
import Derived.Test.YtlgefljbhbefgaaDoorFb
set_option linter.unusedVariables false
set_option linter.unusedSimpArgs false
namespace Go.Proofs.YtlgefljbhbefgaaDoor
open Go.RowKit
theorem wpList_unguard {P : Program} {ops : Array Oper} {rest : List Oper} {o : Oper} {a : Act} {w : World} {Q : Exit → Act → World → Prop} (hw : Region.wanted o (yielded ops a.tmps) = true) (h : wpList P ops Q ({ o with guard := none } :: rest) a w) : wpList P ops Q (o :: rest) a w := by
  simp only [wpList] at h ⊢
  rw [if_pos hw]
  exact h
attribute [local go_sem] Oper.semAt_some
theorem wpQuiet_row {P : Program} {ops : Array Oper} {rest : List Oper} {C : World → Prop} {Q : Act → Prop} {o : Oper} {a : Act} (hgd : o.guard = none) (ty : TypeId) (x : Operand) (ho : o.op = .load ty x)
    (g : Nat) (hx : a.eval x = .pointer (some ⟨g, 0, none⟩)) (t : TypeId) (cs : Array Value) (d : TypeDesc) (hg : ∀ w, C w → Box w g t cs)
    (hu : P.underlying ty = some d) (hd : (match d with | .struct _ | .array _ _ => true | _ => false) = true) (hi : (P.info? ty).map (·.size) = some cs.size)
    (h : wpQuiet P ops C Q rest (a.put o.dst (.agg cs))) : wpQuiet P ops C Q (o :: rest) a :=
  BigFrame.wpQuiet_want (by simp [Region.wanted, hgd]) fun K hK => ⟨.agg cs, fun w hw => by
    unfold Oper.quietAt execOp
    simp only [ho, hx, Instr.loadAt, Instr.sureAddr, Sem.run_bind, Sem.run_pure, Result.andThen_ok, run_loadVar_row w g t ty cs (0, 0) d (hg w hw) hu hd hi]
    exact ⟨rfl, rfl⟩, hK _ h⟩
theorem row_yields {P : Program} {o : Oper} {a : Act} {w : World} (ty : TypeId) (x : Operand) (ho : o.op = .load ty x) (g : Nat) (hx : a.eval x = .pointer (some ⟨g, 0, none⟩)) (t : TypeId) (cs : Array Value) (d : TypeDesc) (hg : Box w g t cs)
    (hu : P.underlying ty = some d) (hd : (match d with | .struct _ | .array _ _ => true | _ => false) = true) (hi : (P.info? ty).map (·.size) = some cs.size) : (execOp a.eval o).run P w = .ok (.value (.agg cs)) w := by
  unfold execOp
  simp only [ho, hx, Instr.loadAt, Instr.sureAddr, Sem.run_bind, Sem.run_pure, Result.andThen_ok, run_loadVar_row w g t ty cs (0, 0) d hg hu hd hi]
theorem size_dpl (d : DS) : (Tryd.prog.info? 32).map (·.size) = some (dpl d).size := by kernel_rfl
section
variable {w : World} {P Q : Nat} {s t : PS}
set_option maxHeartbeats 2000000 in
theorem same_any (hb : Box w P 58 (plc s)) (hc : Box w Q 58 (plc t)) : Calls Tryd.prog 16 #[.pointer (some ⟨P, 0, none⟩), .pointer (some ⟨Q, 0, none⟩)] w fun e w' => e = .returned (.bool (sameP s t)) ∧ ∃ j, w' = w.drewN j := by
  have HB := Lib.hid hb
  have HC := Lib.hid hc
  have r1 := fun w => eql_plc s t w
  have sz1 := size_plc s
  have sz2 := size_plc t
  generalize sameP s t = b at r1 ⊢
  clear hb hc
  go_enter Tryd.func16, Tryd.ntmps16
  go_wp2_with (first
    | (go_at_call 22; have hx := H1; clear hx H1; refine (isMade_any HC.out).mono ?_; rintro e w' ⟨rfl, rfl⟩)
    | (go_at_call 22; refine (isMade_any HB.out).mono ?_; rintro e w' ⟨rfl, rfl⟩; have H1 := trivial))
  refine wp_region_quiet_lit (by kernel_rfl) (by kernel_rfl) ?_
  repeat (first
    | (refine wpQuiet_row rfl 58 _ rfl P rfl 58 (plc s) _ (fun w' hw' => by obtain ⟨j, rfl⟩ := hw'; exact HB.out.drawn j) Tryd.underlying58 rfl sz1 ?_; simp only [Act.put, List.setIfInBounds_toArray, List.set_cons_zero, List.set_cons_succ])
    | (refine wpQuiet_row rfl 58 _ rfl Q rfl 58 (plc t) _ (fun w' hw' => by obtain ⟨j, rfl⟩ := hw'; exact HC.out.drawn j) Tryd.underlying58 rfl sz2 ?_; simp only [Act.put, List.setIfInBounds_toArray, List.set_cons_zero, List.set_cons_succ])
    | go_big_quiet_step (fail))
  refine wpQuiet_nil ?_
  intro w9 hw9
  obtain ⟨nq, hw9⟩ := hw9
  subst hw9
  go_wp2
  go_ret
  exact ⟨rfl, _, rfl⟩
end
/-- No source 0. -/
def PS.no0 (s : PS) : Prop := s.hi 0 = false ∧ s.se 0 = false
theorem PS.no0.act {s : PS} (h : s.no0) (ok : s.ok) (f : Deed) : (s.act f).no0 := by
  have hr : ∀ n b, 1 ≤ n → (s.raise n b).no0 := fun n b hn => ⟨by show upd s.hi n b 0 = false; rw [upd_ne _ _ (by omega)]; exact h.1, h.2⟩
  have hc : ∀ c, (s.claim c).no0 := fun c => by
    unfold PS.claim
    split
    · exact h
    · exact ⟨h.1, by show upd s.se (s.best c) true 0 = false; rw [upd_ne _ _ (by omega)]; exact h.2⟩
  have hd : ∀ c v, (s.done c v).no0 := fun c v => by
    unfold PS.done
    split
    · rename_i hv
      exact ⟨h.1, by show upd s.se v false 0 = false; rw [upd_ne _ _ (by omega)]; exact h.2⟩
    · exact h
  unfold PS.act
  split
  · unfold PS.raiseI
    split
    · exact hr _ _ (by omega)
    · exact h
  · split
    · unfold PS.rdI
      split
      · unfold PS.rd
        repeat' split
        all_goals first | exact h | exact hc _
      · exact h
    · unfold PS.wrI
      split
      · unfold PS.wr
        repeat' split
        all_goals first | exact h | exact hd _ _
      · exact h
/-- Two pairs. -/
structure Pq (w0 w : World) (P D Q E : Nat) (s t : PS) : Prop where
  l : Pn w0 w P D s
  r : Pn w0 w Q E t
  pq : P ≠ Q
  de : D ≠ E
  sn : s.no0
  tn : t.no0
section
variable {w0 w w2 : World} {P D Q E : Nat} {s t u : PS}
theorem Pq.symm (h : Pq w0 w P D Q E s t) : Pq w0 w Q E P D t s := ⟨h.r, h.l, h.pq.symm, h.de.symm, h.tn, h.sn⟩
theorem Pq.below (h : Pq w0 w P D Q E s t) (hb : Below w.heap.size w w2) : Pq w0 w2 P D Q E s t := ⟨h.l.below hb, h.r.below hb, h.pq, h.de, h.sn, h.tn⟩
theorem Pq.left (h : Pq w0 w P D Q E s t) (hb : Pd w2 P D u) (hu : u.no0) (ht : Touch (fun b => b = P ∨ b = D) w w2) : Pq w0 w2 P D Q E u t :=
  ⟨h.l.act hb ht, ⟨⟨h.r.b.p.touch ht (fun k => by rcases k with k | k; exact h.pq k.symm; exact box_ne h.r.b.p h.l.b.d (by decide) k), h.r.b.d.touch ht (fun k => by rcases k with k | k; exact box_ne h.r.b.d h.l.b.p (by decide) k; exact h.de k.symm), h.r.b.ok⟩, h.r.lp, h.r.ld, (h.l.act hb ht).bel⟩, h.pq, h.de, hu, h.tn⟩
end
set_option maxRecDepth 100000 in
theorem same_long (a : Option Addr) (len cap : Nat) (a' : Option Addr) (len' cap' : Nat) (h : 40 < len ∨ 40 < len') (w : World) : Calls Tryd.prog 4 #[.slice a len cap, .slice a' len' cap'] w (Yes w) := by
  by_cases h1 : 40 < len
  · have h2 : (40 : Int) < (len : Int) := by omega
    clear h
    go_enter Tryd.func4, Tryd.ntmps4
    go_wp2_with (go_at_call 7; refine (works_any _).mono ?_; rintro e w' ⟨rfl, bel⟩)
    go_ret
    exact ⟨rfl, bel⟩
  · have h2 : ¬ (40 : Int) < (len : Int) := by omega
    have h3 : (40 : Int) < (len' : Int) := by omega
    clear h
    go_enter Tryd.func4, Tryd.ntmps4
    go_wp2_with (go_at_call 7; refine (works_any _).mono ?_; rintro e w' ⟨rfl, bel⟩)
    go_ret
    exact ⟨rfl, bel⟩
set_option maxHeartbeats 16000000 in
set_option maxRecDepth 100000 in
theorem same_all (a : Option Addr) (len cap : Nat) (l : List Deed) (hl : len ≤ 40) (a' : Option Addr) (len' cap' : Nat) (l' : List Deed) (hl2 : len' ≤ 40) (w : World) (hf : IsDeeds w a len l) (hf2 : IsDeeds w a' len' l') (htz : Tz16 w) : Calls Tryd.prog 4 #[.slice a len cap, .slice a' len' cap'] w (Yes w) := by
  have HL := Lib.hid hf.1
  have LA := Lib.hid fun wx bel => hf.later (wx := wx) bel
  have HL2 := Lib.hid hf2.1
  have LA2 := Lib.hid fun wx bel => hf2.later (wx := wx) bel
  have HTZ := Lib.hid htz
  have H0 : Hid (Pq w ((((w.alloc (.cells (plc .zero) 58)).alloc (.cells (plc .zero) 58)).alloc (.cells (dpl PS.zero.doc) 32)).alloc (.cells (dpl PS.zero.doc) 32)) w.heap.size (w.heap.size + 1 + 1) (w.heap.size + 1) (w.heap.size + 1 + 1 + 1) .zero .zero) := Lib.hid (by
    have e1 : (w.alloc (.cells (plc .zero) 58)).heap.size = w.heap.size + 1 := by simp
    have e2 : ((w.alloc (.cells (plc .zero) 58)).alloc (.cells (plc .zero) 58)).heap.size = w.heap.size + 1 + 1 := by simp
    have e3 : (((w.alloc (.cells (plc .zero) 58)).alloc (.cells (plc .zero) 58)).alloc (.cells (dpl PS.zero.doc) 32)).heap.size = w.heap.size + 1 + 1 + 1 := by simp
    have b1 : Box ((w.alloc (.cells (plc .zero) 58)).alloc (.cells (plc .zero) 58)) (w.heap.size + 1) 58 (plc .zero) := e1 ▸ Box.made _ _ _
    have b2 : Box (((w.alloc (.cells (plc .zero) 58)).alloc (.cells (plc .zero) 58)).alloc (.cells (dpl PS.zero.doc) 32)) (w.heap.size + 1 + 1) 32 (dpl PS.zero.doc) := e2 ▸ Box.made _ _ _
    have b3 : Box ((((w.alloc (.cells (plc .zero) 58)).alloc (.cells (plc .zero) 58)).alloc (.cells (dpl PS.zero.doc) 32)).alloc (.cells (dpl PS.zero.doc) 32)) (w.heap.size + 1 + 1 + 1) 32 (dpl PS.zero.doc) := e3 ▸ Box.made _ _ _
    have bl : Below w.heap.size w ((((w.alloc (.cells (plc .zero) 58)).alloc (.cells (plc .zero) 58)).alloc (.cells (dpl PS.zero.doc) 32)).alloc (.cells (dpl PS.zero.doc) 32)) := ((((Below.refl _ _).alloc (Nat.le_refl _) _).alloc (by omega) _).alloc (by omega) _).alloc (by omega) _
    exact ⟨⟨⟨(((Box.made _ _ _).more _).more _).more _, b2.more _, PS.zero_ok2⟩, Nat.le_refl _, by omega, bl⟩, ⟨⟨(b1.more _).more _, b3, PS.zero_ok2⟩, by omega, by omega, bl⟩, by omega, by omega, ⟨rfl, rfl⟩, ⟨rfl, rfl⟩⟩)
  have hl' : ¬ (40 : Int) < (len : Int) := by omega
  have hl2' : ¬ (40 : Int) < (len' : Int) := by omega
  clear hf hf2 htz
  go_enter Tryd.func4, Tryd.ntmps4
  go_wp2_with (first
    | (refine wpList_build_to rfl 32 _ rfl (dpl PS.zero.doc) (by kernel_rfl) ?_)
    | (go_at_call 8; refine (new_any _).mono ?_; rintro e w1 ⟨rfl, rfl⟩))
  generalize ((((w.alloc (.cells (plc .zero) 58)).alloc (.cells (plc .zero) 58)).alloc (.cells (dpl PS.zero.doc) 32)).alloc (.cells (dpl PS.zero.doc) 32)) = w1 at H0 ⊢
  generalize w.heap.size + 1 + 1 + 1 = E at H0 ⊢
  generalize w.heap.size + 1 + 1 = D at H0 ⊢
  generalize w.heap.size + 1 = Q at H0 ⊢
  obtain ⟨P, hP⟩ : ∃ P, P = w.heap.size := ⟨_, rfl⟩
  rw [← hP] at H0 ⊢
  clear hP
  try rw [decide_eq_false hl']
  try rw [decide_eq_false hl2']
  go_loopw [9] (fun i wr => ∃ (k : Nat) (s t : PS), k ≤ len ∧ i = .int .i64 k ∧ Pq w wr P D Q E s t) (fun i _ => len - (intOf i).toNat)
  case atStart => exact ⟨0, .zero, .zero, Nat.zero_le _, rfl, H0.out⟩
  case round =>
    obtain ⟨k, s, t, hk, rfl, hN⟩ := hrel
    clear H0
    have H1 := Lib.hid hN
    have hbel := hN.l.bel
    clear hN
    have k1 : (0 : Int) ≤ (k : Int) := Int.natCast_nonneg _
    by_cases hlt : k < len
    · obtain ⟨⟨what, N, hi1, off1, v1, wd1⟩, hk2⟩ : ∃ f, l[k]? = some f := ⟨_, List.getElem?_eq_getElem (by rw [HL.out]; exact hlt)⟩
      obtain ⟨b, bo, hae, hbb, c0, c1, c2, c3, c4, c5, hw8, ho64, hv64, hN63⟩ := (LA.out wr hbel).2 k ⟨what, N, hi1, off1, v1, wd1⟩ hk2
      subst hae
      simp only at c0 c1 c2 c3 c4 c5 hw8 ho64 hv64 hN63
      have HR : Hid (wr.rangeAt b (bo + k * 6) (acs what N hi1 off1 v1 wd1).toList) := Lib.hid (deed_range (f := ⟨what, N, hi1, off1, v1, wd1⟩) c0 c1 c2 c3 c4 c5)
      clear hbb hk2 hbel c1 c2 c3 c4 c5
      have k2 : (k : Int) < (len : Int) := by omega
      have hr1 : (what : Int) % 13 = ((what % 13 : Nat) : Int) := rfl
      have hr2 : (what : Int).tmod 13 = ((what % 13 : Nat) : Int) := rfl
      have HO := Lib.hid (one_any H1.out.l.b ⟨what, N, hi1, off1, v1, wd1⟩ hw8 ho64 hv64 hN63)
      generalize what % 13 = r at hr1 hr2
      by_cases h12 : r = 12
      · have q12 : ((r : Int) != 12) = false := by rw [h12]; rfl
        clear h12 HO HR
        go_wp2
        go_roundw
        case rel => exact ⟨k + 1, s, t, by omega, by go_num, H1.out⟩
        case measure => simp [intOf]; omega
      · have q12 : ((r : Int) != 12) = true := bne_iff_ne.2 (by omega)
        clear h12
        go_wp2_with (first
          | (refine wpList_unguard (by rfl) ?_; refine wpList_load_mid rfl 35 _ rfl b (bo + k * 6) rfl _ _ HR.out Tryd.underlying35 rfl rfl ?_)
          | (go_at_call 11; refine HO.out.mono ?_; rintro e w3 ⟨rfl, hb3, ho3⟩; have H3 := Lib.hid (H1.out.left hb3 (H1.out.sn.act H1.out.l.b.ok.ok _) ho3); clear hb3 ho3 HO HR))
        go_roundw
        case rel => exact ⟨k + 1, _, _, by omega, by go_num, H3.out⟩
        case measure => simp [intOf]; omega
    · obtain rfl : k = len := by omega
      clear hlt hbel

      go_wp2
      go_loopw [10] (fun i wr => ∃ (k : Nat) (s t : PS), k ≤ len' ∧ i = .int .i64 k ∧ Pq w wr P D Q E s t) (fun i _ => len' - (intOf i).toNat)
      case atStart => exact ⟨0, _, _, Nat.zero_le _, rfl, H1.out⟩
      case round =>
        obtain ⟨k, s, t, hk, rfl, hN⟩ := hrel
        clear H1
        have H1 := Lib.hid hN
        have hbel := hN.l.bel
        clear hN
        have k1 : (0 : Int) ≤ (k : Int) := Int.natCast_nonneg _
        by_cases hlt : k < len'
        · obtain ⟨⟨what, N, hi1, off1, v1, wd1⟩, hk2⟩ : ∃ f, l'[k]? = some f := ⟨_, List.getElem?_eq_getElem (by rw [HL2.out]; exact hlt)⟩
          obtain ⟨b, bo, hae, hbb, c0, c1, c2, c3, c4, c5, hw8, ho64, hv64, hN63⟩ := (LA2.out wr hbel).2 k ⟨what, N, hi1, off1, v1, wd1⟩ hk2
          subst hae
          simp only at c0 c1 c2 c3 c4 c5 hw8 ho64 hv64 hN63
          have HR : Hid (wr.rangeAt b (bo + k * 6) (acs what N hi1 off1 v1 wd1).toList) := Lib.hid (deed_range (f := ⟨what, N, hi1, off1, v1, wd1⟩) c0 c1 c2 c3 c4 c5)
          clear hbb hk2 hbel c1 c2 c3 c4 c5
          have k2 : (k : Int) < (len' : Int) := by omega
          have hr1 : (what : Int) % 13 = ((what % 13 : Nat) : Int) := rfl
          have hr2 : (what : Int).tmod 13 = ((what % 13 : Nat) : Int) := rfl
          have HO := Lib.hid (one_any H1.out.r.b ⟨what, N, hi1, off1, v1, wd1⟩ hw8 ho64 hv64 hN63)
          generalize what % 13 = r at hr1 hr2
          by_cases h12 : r = 12
          · have q12 : ((r : Int) != 12) = false := by rw [h12]; rfl
            clear h12 HO HR
            go_wp2
            go_roundw
            case rel => exact ⟨k + 1, s, t, by omega, by go_num, H1.out⟩
            case measure => simp [intOf]; omega
          · have q12 : ((r : Int) != 12) = true := bne_iff_ne.2 (by omega)
            clear h12
            go_wp2_with (first
              | (refine wpList_unguard (by rfl) ?_; refine wpList_load_mid rfl 35 _ rfl b (bo + k * 6) rfl _ _ HR.out Tryd.underlying35 rfl rfl ?_)
              | (go_at_call 11; refine HO.out.mono ?_; rintro e w3 ⟨rfl, hb3, ho3⟩; have H3 := Lib.hid ((H1.out.symm.left hb3 (H1.out.tn.act H1.out.r.b.ok.ok _) ho3).symm); clear hb3 ho3 HO HR))
            go_roundw
            case rel => exact ⟨k + 1, _, _, by omega, by go_num, H3.out⟩
            case measure => simp [intOf]; omega
        · obtain rfl : k = len' := by omega
          clear hlt hbel

          have hsd := sameD_iff H1.out.l.b.ok H1.out.r.b.ok (H1.out.sn.1.trans H1.out.tn.1.symm) (H1.out.sn.2.trans H1.out.tn.2.symm)
          have hsp := sameP_iff H1.out.l.b.ok H1.out.r.b.ok (H1.out.sn.1.trans H1.out.tn.1.symm) (H1.out.sn.2.trans H1.out.tn.2.symm)
          have hst := PS.eqv_text H1.out.l.b.ok.ok H1.out.r.b.ok.ok
          have hss : Hid (sameP s s = true) := Lib.hid ((sameP_iff H1.out.l.b.ok H1.out.l.b.ok rfl rfl).2 ⟨fun _ _ _ => ⟨rfl, rfl, rfl, rfl⟩, fun _ _ => ⟨rfl, rfl⟩⟩)
          obtain ⟨bb, hbb⟩ : ∃ bb, bb = sameP s t := ⟨_, rfl⟩
          have hd : sameD s.doc t.doc = bb := by
            rw [hbb, Bool.eq_iff_iff, hsd, hsp]
          have htx : ((st (textL s)).toList == (st (textL t)).toList) = bb := by
            rw [hbb, st_list, st_list, Bool.eq_iff_iff, hsp, ← hst, beq_iff_eq]
          have r2 := fun w => eql_dpl s.doc t.doc w
          rw [hd] at r2
          have HS1 : Hid (∀ W, Pq w W P D Q E s t → Calls Tryd.prog 16 #[.pointer (some ⟨P, 0, none⟩), .pointer (some ⟨Q, 0, none⟩)] W fun e w' => e = .returned (.bool bb) ∧ Below W.heap.size W w') := Lib.hid fun W hW => (same_any hW.l.b.p hW.r.b.p).mono fun e w' hz => ⟨by rw [hbb]; exact hz.1, by obtain ⟨_, j, rfl⟩ := hz; exact below_drawn (Below.refl _ _) j⟩
          clear hsd hsp hst hbb hd
          have T1 : Hid (Pq w wr.drew P D Q E s t) := Lib.hid (H1.out.below ((Below.refl _ _).drew))
          have hHeld := T1.out
          go_wp2
          refine wp_region_calm (fun w' => Pq w w' P D Q E s t)
            (.e 0 :: .e 0 :: .e 1 :: .e 1 :: .e 1 :: .e 1 :: .e 1 :: .e 1 :: .e 1 :: .l 0 :: .e 0 :: .e 0 :: .e 0 :: .e 1 :: .e 3 :: .e 3 :: .e 3 :: .e 3 :: .e 3 :: .e 3 :: .e 3 :: .l 0 :: .l 0 :: .e 0 :: .e 0 :: .e 0 :: .e 0 :: .e 0 :: .e 0 :: .l 0 :: .l 0 :: .e 0 :: .e 0 :: .l 0 :: .e 0 :: .e 0 :: []) (by kernel_rfl) (by kernel_rfl) (by kernel_rfl) (by kernel_rfl) ?_
          repeat (first
            | (refine mv_take0 (v := .agg (dpl s.doc)) (by rfl) hHeld (fun w hSw => row_yields 32 _ rfl D rfl 32 (dpl s.doc) _ (hSw.l.b.d) Tryd.underlying32 rfl (size_dpl _)) ?_; (try simp only [Act.put, List.setIfInBounds_toArray, List.set_cons_zero, List.set_cons_succ]))
            | (refine mv_take0 (v := .agg (dpl t.doc)) (by rfl) hHeld (fun w hSw => row_yields 32 _ rfl E rfl 32 (dpl t.doc) _ (hSw.r.b.d) Tryd.underlying32 rfl (size_dpl _)) ?_; (try simp only [Act.put, List.setIfInBounds_toArray, List.set_cons_zero, List.set_cons_succ]))
            | (refine mv_take0 (v := ?_) (by rfl) hHeld ?_ ?_; rotate_left 1; (focus (intro w hSw; (try dsimp only at hSw); go_simp; (try with_reducible rfl); done)); (try simp only [Act.put, List.setIfInBounds_toArray, List.set_cons_zero, List.set_cons_succ]))
            | (refine mv_take1 (v := .agg (dpl s.doc)) (by rfl) hHeld (fun w hSw => row_yields 32 _ rfl D rfl 32 (dpl s.doc) _ (hSw.l.b.d) Tryd.underlying32 rfl (size_dpl _)) ?_; (try simp only [Act.put, List.setIfInBounds_toArray, List.set_cons_zero, List.set_cons_succ]))
            | (refine mv_take1 (v := .agg (dpl t.doc)) (by rfl) hHeld (fun w hSw => row_yields 32 _ rfl E rfl 32 (dpl t.doc) _ (hSw.r.b.d) Tryd.underlying32 rfl (size_dpl _)) ?_; (try simp only [Act.put, List.setIfInBounds_toArray, List.set_cons_zero, List.set_cons_succ]))
            | (refine mv_take1 (v := ?_) (by rfl) hHeld ?_ ?_; rotate_left 1; (focus (intro w hSw; (try dsimp only at hSw); go_simp; (try with_reducible rfl); done)); (try simp only [Act.put, List.setIfInBounds_toArray, List.set_cons_zero, List.set_cons_succ]))
            | (refine mv_take3 (v := .agg (dpl s.doc)) (by rfl) hHeld (fun w hSw => row_yields 32 _ rfl D rfl 32 (dpl s.doc) _ (hSw.l.b.d) Tryd.underlying32 rfl (size_dpl _)) ?_; (try simp only [Act.put, List.setIfInBounds_toArray, List.set_cons_zero, List.set_cons_succ]))
            | (refine mv_take3 (v := .agg (dpl t.doc)) (by rfl) hHeld (fun w hSw => row_yields 32 _ rfl E rfl 32 (dpl t.doc) _ (hSw.r.b.d) Tryd.underlying32 rfl (size_dpl _)) ?_; (try simp only [Act.put, List.setIfInBounds_toArray, List.set_cons_zero, List.set_cons_succ]))
            | (refine mv_take3 (v := ?_) (by rfl) hHeld ?_ ?_; rotate_left 1; (focus (intro w hSw; (try dsimp only at hSw); go_simp; (try with_reducible rfl); done)); (try simp only [Act.put, List.setIfInBounds_toArray, List.set_cons_zero, List.set_cons_succ])))
          refine mv_loud0 (by rfl) (fun K2 hK => ?_)
          go_simp
          go_at_call 16
          refine (HS1.out _ T1.out).mono ?_
          rintro e w2 ⟨rfl, hz⟩
          have T2 := Lib.hid (T1.out.below hz)
          clear hz
          clear hHeld
          have hHeld := T2.out
          refine hK.out _ _ hHeld ?_
          clear hK K2
          (try simp only [Act.put, List.setIfInBounds_toArray, List.set_cons_zero, List.set_cons_succ])
          repeat (first
            | (refine mv_take0 (v := .agg (dpl s.doc)) (by rfl) hHeld (fun w hSw => row_yields 32 _ rfl D rfl 32 (dpl s.doc) _ (hSw.l.b.d) Tryd.underlying32 rfl (size_dpl _)) ?_; (try simp only [Act.put, List.setIfInBounds_toArray, List.set_cons_zero, List.set_cons_succ]))
            | (refine mv_take0 (v := .agg (dpl t.doc)) (by rfl) hHeld (fun w hSw => row_yields 32 _ rfl E rfl 32 (dpl t.doc) _ (hSw.r.b.d) Tryd.underlying32 rfl (size_dpl _)) ?_; (try simp only [Act.put, List.setIfInBounds_toArray, List.set_cons_zero, List.set_cons_succ]))
            | (refine mv_take0 (v := ?_) (by rfl) hHeld ?_ ?_; rotate_left 1; (focus (intro w hSw; (try dsimp only at hSw); go_simp; (try with_reducible rfl); done)); (try simp only [Act.put, List.setIfInBounds_toArray, List.set_cons_zero, List.set_cons_succ]))
            | (refine mv_take1 (v := .agg (dpl s.doc)) (by rfl) hHeld (fun w hSw => row_yields 32 _ rfl D rfl 32 (dpl s.doc) _ (hSw.l.b.d) Tryd.underlying32 rfl (size_dpl _)) ?_; (try simp only [Act.put, List.setIfInBounds_toArray, List.set_cons_zero, List.set_cons_succ]))
            | (refine mv_take1 (v := .agg (dpl t.doc)) (by rfl) hHeld (fun w hSw => row_yields 32 _ rfl E rfl 32 (dpl t.doc) _ (hSw.r.b.d) Tryd.underlying32 rfl (size_dpl _)) ?_; (try simp only [Act.put, List.setIfInBounds_toArray, List.set_cons_zero, List.set_cons_succ]))
            | (refine mv_take1 (v := ?_) (by rfl) hHeld ?_ ?_; rotate_left 1; (focus (intro w hSw; (try dsimp only at hSw); go_simp; (try with_reducible rfl); done)); (try simp only [Act.put, List.setIfInBounds_toArray, List.set_cons_zero, List.set_cons_succ]))
            | (refine mv_take3 (v := .agg (dpl s.doc)) (by rfl) hHeld (fun w hSw => row_yields 32 _ rfl D rfl 32 (dpl s.doc) _ (hSw.l.b.d) Tryd.underlying32 rfl (size_dpl _)) ?_; (try simp only [Act.put, List.setIfInBounds_toArray, List.set_cons_zero, List.set_cons_succ]))
            | (refine mv_take3 (v := .agg (dpl t.doc)) (by rfl) hHeld (fun w hSw => row_yields 32 _ rfl E rfl 32 (dpl t.doc) _ (hSw.r.b.d) Tryd.underlying32 rfl (size_dpl _)) ?_; (try simp only [Act.put, List.setIfInBounds_toArray, List.set_cons_zero, List.set_cons_succ]))
            | (refine mv_take3 (v := ?_) (by rfl) hHeld ?_ ?_; rotate_left 1; (focus (intro w hSw; (try dsimp only at hSw); go_simp; (try with_reducible rfl); done)); (try simp only [Act.put, List.setIfInBounds_toArray, List.set_cons_zero, List.set_cons_succ])))
          refine mv_loud0 (by rfl) (fun K2 hK => ?_)
          go_simp
          go_at_call 14
          refine (text_any T2.out.l.b.p T2.out.l.b.ok.ok (HTZ.out.later T2.out.l.bel)).mono ?_
          rintro e w3 ⟨rfl, hz⟩
          have T3 := Lib.hid (T2.out.below hz)
          clear hz
          clear hHeld
          have hHeld := T3.out
          refine hK.out _ _ hHeld ?_
          clear hK K2
          (try simp only [Act.put, List.setIfInBounds_toArray, List.set_cons_zero, List.set_cons_succ])
          refine mv_loud0 (by rfl) (fun K2 hK => ?_)
          go_simp
          go_at_call 14
          refine (text_any T3.out.r.b.p T3.out.r.b.ok.ok (HTZ.out.later T3.out.l.bel)).mono ?_
          rintro e w4 ⟨rfl, hz⟩
          have T4 := Lib.hid (T3.out.below hz)
          clear hz
          clear hHeld
          have hHeld := T4.out
          refine hK.out _ _ hHeld ?_
          clear hK K2
          (try simp only [Act.put, List.setIfInBounds_toArray, List.set_cons_zero, List.set_cons_succ])
          repeat (first
            | (refine mv_take0 (v := .agg (dpl s.doc)) (by rfl) hHeld (fun w hSw => row_yields 32 _ rfl D rfl 32 (dpl s.doc) _ (hSw.l.b.d) Tryd.underlying32 rfl (size_dpl _)) ?_; (try simp only [Act.put, List.setIfInBounds_toArray, List.set_cons_zero, List.set_cons_succ]))
            | (refine mv_take0 (v := .agg (dpl t.doc)) (by rfl) hHeld (fun w hSw => row_yields 32 _ rfl E rfl 32 (dpl t.doc) _ (hSw.r.b.d) Tryd.underlying32 rfl (size_dpl _)) ?_; (try simp only [Act.put, List.setIfInBounds_toArray, List.set_cons_zero, List.set_cons_succ]))
            | (refine mv_take0 (v := ?_) (by rfl) hHeld ?_ ?_; rotate_left 1; (focus (intro w hSw; (try dsimp only at hSw); go_simp; (try with_reducible rfl); done)); (try simp only [Act.put, List.setIfInBounds_toArray, List.set_cons_zero, List.set_cons_succ]))
            | (refine mv_take1 (v := .agg (dpl s.doc)) (by rfl) hHeld (fun w hSw => row_yields 32 _ rfl D rfl 32 (dpl s.doc) _ (hSw.l.b.d) Tryd.underlying32 rfl (size_dpl _)) ?_; (try simp only [Act.put, List.setIfInBounds_toArray, List.set_cons_zero, List.set_cons_succ]))
            | (refine mv_take1 (v := .agg (dpl t.doc)) (by rfl) hHeld (fun w hSw => row_yields 32 _ rfl E rfl 32 (dpl t.doc) _ (hSw.r.b.d) Tryd.underlying32 rfl (size_dpl _)) ?_; (try simp only [Act.put, List.setIfInBounds_toArray, List.set_cons_zero, List.set_cons_succ]))
            | (refine mv_take1 (v := ?_) (by rfl) hHeld ?_ ?_; rotate_left 1; (focus (intro w hSw; (try dsimp only at hSw); go_simp; (try with_reducible rfl); done)); (try simp only [Act.put, List.setIfInBounds_toArray, List.set_cons_zero, List.set_cons_succ]))
            | (refine mv_take3 (v := .agg (dpl s.doc)) (by rfl) hHeld (fun w hSw => row_yields 32 _ rfl D rfl 32 (dpl s.doc) _ (hSw.l.b.d) Tryd.underlying32 rfl (size_dpl _)) ?_; (try simp only [Act.put, List.setIfInBounds_toArray, List.set_cons_zero, List.set_cons_succ]))
            | (refine mv_take3 (v := .agg (dpl t.doc)) (by rfl) hHeld (fun w hSw => row_yields 32 _ rfl E rfl 32 (dpl t.doc) _ (hSw.r.b.d) Tryd.underlying32 rfl (size_dpl _)) ?_; (try simp only [Act.put, List.setIfInBounds_toArray, List.set_cons_zero, List.set_cons_succ]))
            | (refine mv_take3 (v := ?_) (by rfl) hHeld ?_ ?_; rotate_left 1; (focus (intro w hSw; (try dsimp only at hSw); go_simp; (try with_reducible rfl); done)); (try simp only [Act.put, List.setIfInBounds_toArray, List.set_cons_zero, List.set_cons_succ])))
          refine mv_loud0 (by rfl) (fun K2 hK => ?_)
          go_simp
          go_at_call 9
          refine (copy_any T4.out.l.b.p).mono ?_
          rintro e w5 ⟨rfl, hbc, hz⟩
          have T5 := Lib.hid (T4.out.below hz)
          have HC := Lib.hid hbc
          clear hz hbc
          clear hHeld
          have hHeld := T5.out
          refine hK.out _ _ hHeld ?_
          clear hK K2
          (try simp only [Act.put, List.setIfInBounds_toArray, List.set_cons_zero, List.set_cons_succ])
          refine mv_loud0 (by rfl) (fun K2 hK => ?_)
          go_simp
          go_at_call 16
          refine (same_any T5.out.l.b.p HC.out).mono ?_
          rintro e w6 ⟨rfl, hz⟩
          rw [hss.out]
          have T6 : Hid (Pq w w6 P D Q E s t) := Lib.hid (T5.out.below (by obtain ⟨j, rfl⟩ := hz; exact below_drawn (Below.refl _ _) j))
          clear hz
          clear hHeld
          have hHeld := T6.out
          refine hK.out _ _ hHeld ?_
          clear hK K2
          (try simp only [Act.put, List.setIfInBounds_toArray, List.set_cons_zero, List.set_cons_succ])
          repeat (first
            | (refine mv_take0 (v := .agg (dpl s.doc)) (by rfl) hHeld (fun w hSw => row_yields 32 _ rfl D rfl 32 (dpl s.doc) _ (hSw.l.b.d) Tryd.underlying32 rfl (size_dpl _)) ?_; (try simp only [Act.put, List.setIfInBounds_toArray, List.set_cons_zero, List.set_cons_succ]))
            | (refine mv_take0 (v := .agg (dpl t.doc)) (by rfl) hHeld (fun w hSw => row_yields 32 _ rfl E rfl 32 (dpl t.doc) _ (hSw.r.b.d) Tryd.underlying32 rfl (size_dpl _)) ?_; (try simp only [Act.put, List.setIfInBounds_toArray, List.set_cons_zero, List.set_cons_succ]))
            | (refine mv_take0 (v := ?_) (by rfl) hHeld ?_ ?_; rotate_left 1; (focus (intro w hSw; (try dsimp only at hSw); go_simp; (try with_reducible rfl); done)); (try simp only [Act.put, List.setIfInBounds_toArray, List.set_cons_zero, List.set_cons_succ]))
            | (refine mv_take1 (v := .agg (dpl s.doc)) (by rfl) hHeld (fun w hSw => row_yields 32 _ rfl D rfl 32 (dpl s.doc) _ (hSw.l.b.d) Tryd.underlying32 rfl (size_dpl _)) ?_; (try simp only [Act.put, List.setIfInBounds_toArray, List.set_cons_zero, List.set_cons_succ]))
            | (refine mv_take1 (v := .agg (dpl t.doc)) (by rfl) hHeld (fun w hSw => row_yields 32 _ rfl E rfl 32 (dpl t.doc) _ (hSw.r.b.d) Tryd.underlying32 rfl (size_dpl _)) ?_; (try simp only [Act.put, List.setIfInBounds_toArray, List.set_cons_zero, List.set_cons_succ]))
            | (refine mv_take1 (v := ?_) (by rfl) hHeld ?_ ?_; rotate_left 1; (focus (intro w hSw; (try dsimp only at hSw); go_simp; (try with_reducible rfl); done)); (try simp only [Act.put, List.setIfInBounds_toArray, List.set_cons_zero, List.set_cons_succ]))
            | (refine mv_take3 (v := .agg (dpl s.doc)) (by rfl) hHeld (fun w hSw => row_yields 32 _ rfl D rfl 32 (dpl s.doc) _ (hSw.l.b.d) Tryd.underlying32 rfl (size_dpl _)) ?_; (try simp only [Act.put, List.setIfInBounds_toArray, List.set_cons_zero, List.set_cons_succ]))
            | (refine mv_take3 (v := .agg (dpl t.doc)) (by rfl) hHeld (fun w hSw => row_yields 32 _ rfl E rfl 32 (dpl t.doc) _ (hSw.r.b.d) Tryd.underlying32 rfl (size_dpl _)) ?_; (try simp only [Act.put, List.setIfInBounds_toArray, List.set_cons_zero, List.set_cons_succ]))
            | (refine mv_take3 (v := ?_) (by rfl) hHeld ?_ ?_; rotate_left 1; (focus (intro w hSw; (try dsimp only at hSw); go_simp; (try with_reducible rfl); done)); (try simp only [Act.put, List.setIfInBounds_toArray, List.set_cons_zero, List.set_cons_succ])))
          refine mv_loud0 (by rfl) (fun K2 hK => ?_)
          go_simp
          go_at_call 7
          refine (works_any _).mono ?_
          rintro e w7 ⟨rfl, hz⟩
          have T7 := Lib.hid (T6.out.below hz)
          clear hz
          clear hHeld
          have hHeld := T7.out
          refine hK.out _ _ hHeld ?_
          clear hK K2
          (try simp only [Act.put, List.setIfInBounds_toArray, List.set_cons_zero, List.set_cons_succ])
          repeat (first
            | (refine mv_take0 (v := .agg (dpl s.doc)) (by rfl) hHeld (fun w hSw => row_yields 32 _ rfl D rfl 32 (dpl s.doc) _ (hSw.l.b.d) Tryd.underlying32 rfl (size_dpl _)) ?_; (try simp only [Act.put, List.setIfInBounds_toArray, List.set_cons_zero, List.set_cons_succ]))
            | (refine mv_take0 (v := .agg (dpl t.doc)) (by rfl) hHeld (fun w hSw => row_yields 32 _ rfl E rfl 32 (dpl t.doc) _ (hSw.r.b.d) Tryd.underlying32 rfl (size_dpl _)) ?_; (try simp only [Act.put, List.setIfInBounds_toArray, List.set_cons_zero, List.set_cons_succ]))
            | (refine mv_take0 (v := ?_) (by rfl) hHeld ?_ ?_; rotate_left 1; (focus (intro w hSw; (try dsimp only at hSw); go_simp; (try with_reducible rfl); done)); (try simp only [Act.put, List.setIfInBounds_toArray, List.set_cons_zero, List.set_cons_succ]))
            | (refine mv_take1 (v := .agg (dpl s.doc)) (by rfl) hHeld (fun w hSw => row_yields 32 _ rfl D rfl 32 (dpl s.doc) _ (hSw.l.b.d) Tryd.underlying32 rfl (size_dpl _)) ?_; (try simp only [Act.put, List.setIfInBounds_toArray, List.set_cons_zero, List.set_cons_succ]))
            | (refine mv_take1 (v := .agg (dpl t.doc)) (by rfl) hHeld (fun w hSw => row_yields 32 _ rfl E rfl 32 (dpl t.doc) _ (hSw.r.b.d) Tryd.underlying32 rfl (size_dpl _)) ?_; (try simp only [Act.put, List.setIfInBounds_toArray, List.set_cons_zero, List.set_cons_succ]))
            | (refine mv_take1 (v := ?_) (by rfl) hHeld ?_ ?_; rotate_left 1; (focus (intro w hSw; (try dsimp only at hSw); go_simp; (try with_reducible rfl); done)); (try simp only [Act.put, List.setIfInBounds_toArray, List.set_cons_zero, List.set_cons_succ]))
            | (refine mv_take3 (v := .agg (dpl s.doc)) (by rfl) hHeld (fun w hSw => row_yields 32 _ rfl D rfl 32 (dpl s.doc) _ (hSw.l.b.d) Tryd.underlying32 rfl (size_dpl _)) ?_; (try simp only [Act.put, List.setIfInBounds_toArray, List.set_cons_zero, List.set_cons_succ]))
            | (refine mv_take3 (v := .agg (dpl t.doc)) (by rfl) hHeld (fun w hSw => row_yields 32 _ rfl E rfl 32 (dpl t.doc) _ (hSw.r.b.d) Tryd.underlying32 rfl (size_dpl _)) ?_; (try simp only [Act.put, List.setIfInBounds_toArray, List.set_cons_zero, List.set_cons_succ]))
            | (refine mv_take3 (v := ?_) (by rfl) hHeld ?_ ?_; rotate_left 1; (focus (intro w hSw; (try dsimp only at hSw); go_simp; (try with_reducible rfl); done)); (try simp only [Act.put, List.setIfInBounds_toArray, List.set_cons_zero, List.set_cons_succ])))
          refine mv_calm ?_
          go_wp2
          go_ret
          exact ⟨rfl, T7.out.l.bel⟩
end Go.Proofs.YtlgefljbhbefgaaDoor
