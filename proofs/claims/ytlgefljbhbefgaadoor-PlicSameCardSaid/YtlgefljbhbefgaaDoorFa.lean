/- PlicPlays' body. -/
import Derived.Test.YtlgefljbhbefgaaDoorDh
import Derived.Test.YtlgefljbhbefgaaDoorEb
set_option linter.unusedVariables false
set_option linter.unusedSimpArgs false
namespace Go.Proofs.YtlgefljbhbefgaaDoor
open Go.RowKit
attribute [local go_sem] Oper.semAt_some
/-- Does any context call? -/
def callsI (s : PS) (c : Int) : Bool := if c = 0 then s.calls 0 else if c = 1 then s.calls 1 else false
section
variable {w : World} {P D : Nat} {s : PS}
theorem calls_no (h : Box w P 58 (plc s)) (c : Int) (hc : c < 0 ∨ 2 ≤ c) : Calls Tryd.prog 12 #[.pointer (some ⟨P, 0, none⟩), .int .i64 c] w fun e w' => e = .returned (.bool false) ∧ w = w' := by
  have HM := Lib.hid (isMade_any h)
  clear h
  rcases hc with h1 | h1
  · go_enter Tryd.func12, Tryd.ntmps12
    go_wp2_with (go_at_call 22; refine HM.out.mono ?_; rintro e w' ⟨rfl, rfl⟩)
    go_ret
    exact ⟨rfl, rfl⟩
  · have h0 : ¬ c < 0 := by omega
    go_enter Tryd.func12, Tryd.ntmps12
    go_wp2_with (go_at_call 22; refine HM.out.mono ?_; rintro e w' ⟨rfl, rfl⟩)
    go_ret
    exact ⟨rfl, rfl⟩
theorem pcalls_ev (h : Box w P 58 (plc s)) (ok : s.ok) (c : Int) : Calls Tryd.prog 12 #[.pointer (some ⟨P, 0, none⟩), .int .i64 c] w fun e w' => e = .returned (.bool (callsI s c)) ∧ Below w.heap.size w w' := by
  unfold callsI
  by_cases h0 : c = 0
  · subst h0
    exact calls_any h ok 0 (by decide)
  · rw [if_neg h0]
    by_cases h1 : c = 1
    · subst h1
      exact calls_any h ok 1 (by decide)
    · rw [if_neg h1]
      exact (calls_no h c (by omega)).mono fun e w' hz => ⟨hz.1, hz.2 ▸ Below.refl _ _⟩
theorem dcalls_ev (h : Box w D 32 (dpl s.doc)) (ok : s.ok) (c : Int) : Calls Tryd.prog 13 #[.pointer (some ⟨D, 0, none⟩), .int .i64 c] w fun e w' => e = .returned (.bool (callsI s c)) ∧ Below w.heap.size w w' := by
  unfold callsI
  by_cases h0 : c = 0
  · subst h0
    exact (dcalls_any h ok 0 (by decide)).mono fun e w' hz => ⟨hz.1, by obtain ⟨_, j, rfl⟩ := hz; exact below_drawn (Below.refl _ _) j⟩
  · rw [if_neg h0]
    by_cases h1 : c = 1
    · subst h1
      exact (dcalls_any h ok 1 (by decide)).mono fun e w' hz => ⟨hz.1, by obtain ⟨_, j, rfl⟩ := hz; exact below_drawn (Below.refl _ _) j⟩
    · rw [if_neg h1]
      exact (dcalls_no D c h0 h1 w).mono fun e w' hz => ⟨hz.1, hz.2 ▸ Below.refl _ _⟩
end
/-- Both, behind what there was. -/
structure Pn (w0 w : World) (P D : Nat) (s : PS) : Prop where
  b : Pd w P D s
  lp : w0.heap.size ≤ P
  ld : w0.heap.size ≤ D
  bel : Below w0.heap.size w0 w
theorem Pn.below {w0 w w2 : World} {P D : Nat} {s : PS} (h : Pn w0 w P D s) (hb : Below w.heap.size w w2) : Pn w0 w2 P D s := ⟨h.b.below hb, h.lp, h.ld, h.bel.trans (hb.mono h.bel.size)⟩
theorem Pn.act {w0 w w2 : World} {P D : Nat} {s t : PS} (h : Pn w0 w P D s) (hb : Pd w2 P D t) (ht : Touch (fun b => b = P ∨ b = D) w w2) : Pn w0 w2 P D t := ⟨hb, h.lp, h.ld, h.bel.trans (ht.below (fun k hk => by rcases hk with rfl | rfl; exact h.lp; exact h.ld) h.bel.size)⟩
/-- A copy beside it. -/
structure Pc (w0 wr w2 : World) (P D : Nat) (s : PS) : Prop where
  h : Pn w0 wr P D s
  b : Box w2 wr.heap.size 58 (plc s)
  bel : Below wr.heap.size wr w2
theorem Pc.back {w0 wr w2 w3 : World} {P D : Nat} {s : PS} (h : Pc w0 wr w2 P D s) (ho : Only P w2 w3) (_ : Pn w0 wr P D s) : Pn w0 w3 wr.heap.size D s :=
  ⟨⟨h.b.only ho (fun e => by have := h.h.b.p.inHeap; omega), (h.h.b.d.over h.bel h.h.b.d.inHeap).only ho (box_ne h.h.b.d h.h.b.p (by decide)), h.h.b.ok⟩, h.h.bel.size, h.h.ld, (h.h.bel.trans (h.bel.mono h.h.bel.size)).trans (ho.below h.h.lp (Nat.le_trans h.h.bel.size h.bel.size))⟩
theorem zero_d : (Tryd.prog.built 32 []) = some (dpl PS.zero.doc) := by kernel_rfl
/-- A deed as its cells lie. -/
theorem deed_range {w : World} {b o : Nat} {f : Deed} (c0 : w.cell? ⟨b, o, none⟩ = some (.int .u8 f.k)) (c1 : w.cell? ⟨b, o + 1, none⟩ = some (.int .i64 f.n)) (c2 : w.cell? ⟨b, o + 2, none⟩ = some (.bool f.hi)) (c3 : w.cell? ⟨b, o + 3, none⟩ = some (.int .u64 f.off)) (c4 : w.cell? ⟨b, o + 4, none⟩ = some (.int .u64 f.v)) (c5 : w.cell? ⟨b, o + 5, none⟩ = some (.int .i64 f.wd)) : w.rangeAt b o (acs f.k f.n f.hi f.off f.v f.wd).toList := fun j v hj => by
  rcases j with _ | _ | _ | _ | _ | _ | j
  · cases hj; exact c0
  · cases hj; exact c1
  · cases hj; exact c2
  · cases hj; exact c3
  · cases hj; exact c4
  · cases hj; exact c5
  · cases hj
set_option maxRecDepth 100000 in
theorem plays_long (a : Option Addr) (len cap : Nat) (h : 80 < len) (ctx : Int) (w : World) : Calls Tryd.prog 3 #[.slice a len cap, .int .i64 ctx] w (Yes w) := by
  go_enter Tryd.func3, Tryd.ntmps3
  go_wp2_with (go_at_call 7; refine (works_any _).mono ?_; rintro e w' ⟨rfl, bel⟩)
  go_ret
  exact ⟨rfl, bel⟩
set_option maxHeartbeats 16000000 in
set_option maxRecDepth 100000 in
theorem plays_all (a : Option Addr) (len cap : Nat) (l : List Deed) (hl : len ≤ 80) (ctx : Int) (w : World) (hf : IsDeeds w a len l) (htz : Tz16 w) : Calls Tryd.prog 3 #[.slice a len cap, .int .i64 ctx] w (Yes w) := by
  have HL := Lib.hid hf.1
  have LA := Lib.hid fun wx bel => hf.later (wx := wx) bel
  have HTZ := Lib.hid htz
  have H0 : Hid (Pn w ((w.alloc (.cells (plc .zero) 58)).alloc (.cells (dpl PS.zero.doc) 32)) w.heap.size (w.heap.size + 1) .zero) := Lib.hid (by
    have e1 : (w.alloc (.cells (plc .zero) 58)).heap.size = w.heap.size + 1 := by simp
    exact ⟨⟨(Box.made _ _ _).more _, e1 ▸ Box.made _ _ _, PS.zero_ok2⟩, Nat.le_refl _, Nat.le_succ _, ((Below.refl _ _).alloc (Nat.le_refl _) _).alloc (by omega) _⟩)
  clear hf htz
  go_enter Tryd.func3, Tryd.ntmps3
  go_wp2_with (first
    | (refine wpList_build_to rfl 32 _ rfl (dpl PS.zero.doc) (by kernel_rfl) ?_)
    | (go_at_call 8; refine (new_any _).mono ?_; rintro e w1 ⟨rfl, rfl⟩))
  generalize ((w.alloc (.cells (plc .zero) 58)).alloc (.cells (dpl PS.zero.doc) 32)) = w1 at H0 ⊢
  generalize w.heap.size + 1 = D at H0 ⊢
  obtain ⟨P0, hP0⟩ : ∃ P0, P0 = w.heap.size := ⟨_, rfl⟩
  rw [← hP0] at H0 ⊢
  clear hP0
  have hl' : ¬ (80 : Int) < (len : Int) := by omega
  rw [decide_eq_false hl']
  go_loopw [5, 7] (fun p i wr => ∃ (k P : Nat) (s : PS), k ≤ len ∧ p = .pointer (some ⟨P, 0, none⟩) ∧ i = .int .i64 k ∧ Pn w wr P D s) (fun _ i _ => len - (intOf i).toNat)
  case atStart => exact ⟨0, P0, .zero, Nat.zero_le _, rfl, rfl, H0.out⟩
  case round =>
    obtain ⟨k, P, s, hk, rfl, rfl, hN⟩ := hrel
    clear H0
    have H1 := Lib.hid hN
    have hbel := hN.bel
    clear hN
    have k1 : (0 : Int) ≤ (k : Int) := Int.natCast_nonneg _
    by_cases hlt : k < len
    · obtain ⟨⟨what, N, hi1, off1, v1, wd1⟩, hk2⟩ : ∃ f, l[k]? = some f := ⟨_, List.getElem?_eq_getElem (by rw [HL.out]; exact hlt)⟩
      obtain ⟨b, bo, rfl, hbb, c0, c1, c2, c3, c4, c5, hw8, ho64, hv64, hN63⟩ := (LA.out wr hbel).2 k ⟨what, N, hi1, off1, v1, wd1⟩ hk2
      simp only at c0 c1 c2 c3 c4 c5 hw8 ho64 hv64 hN63
      have HR : Hid (wr.rangeAt b (bo + k * 6) (acs what N hi1 off1 v1 wd1).toList) := Lib.hid (deed_range (f := ⟨what, N, hi1, off1, v1, wd1⟩) c0 c1 c2 c3 c4 c5)
      clear hbb hk2 hbel c1 c2 c3 c4 c5
      have k2 : (k : Int) < (len : Int) := by omega
      have hr1 : (what : Int) % 13 = ((what % 13 : Nat) : Int) := rfl
      have hr2 : (what : Int).tmod 13 = ((what % 13 : Nat) : Int) := rfl
      have hr13 : what % 13 < 13 := Nat.mod_lt _ (by decide)
      have HO := Lib.hid (one_any H1.out.b ⟨what, N, hi1, off1, v1, wd1⟩ hw8 ho64 hv64 hN63)
      generalize what % 13 = r at hr1 hr2 hr13
      by_cases h12 : r = 12
      · have q12 : ((r : Int) == 12) = true := by rw [h12]; rfl
        clear h12 hr13 HO HR
        go_wp2_with (first
          | (go_at_call 10; refine (raise_yes H2.out.2 1 (by decide) (by decide) true).mono ?_; rintro e w3 ⟨rfl, _, ho3⟩; have H3 : Hid (Pn w w3 wr.heap.size D s) := Lib.hid (H2.out.1.back ho3 H1.out); clear ho3 H2)
          | (go_at_call 9; refine (copy_any H1.out.b.p).mono ?_; rintro e w2 ⟨rfl, hb2, hbl2⟩; have H2 := Lib.hid (And.intro (Pc.mk H1.out hb2 hbl2) (H1.out.b.p.over hbl2 H1.out.b.p.inHeap)); clear hb2 hbl2))
        generalize wr.heap.size = Q at H3 ⊢
        clear H1 c0 hr1 hr2
        have htt : ((st (textL s)).toList != (st (textL s)).toList) = false := bne_self_eq_false _
        have hc0 : ∀ z : Int, (callsI s z != callsI s z) = false := fun z => bne_self_eq_false _
        go_wp2_with (first
          | (go_at_call 12; refine (pcalls_ev H3.out.b.p H3.out.b.ok.ok _).mono ?_; rintro e w4 ⟨rfl, hbl⟩; have HM := Lib.hid (H3.out.below hbl); clear hbl H3; have H3 := HM; clear HM)
          | (go_at_call 13; refine (dcalls_ev H3.out.b.d H3.out.b.ok.ok _).mono ?_; rintro e w4 ⟨rfl, hbl⟩; have HM := Lib.hid (H3.out.below hbl); clear hbl H3; have H3 := HM; clear HM)
          | (go_at_call 14; refine (text_any H3.out.b.p H3.out.b.ok.ok (HTZ.out.later H3.out.bel)).mono ?_; rintro e w4 ⟨rfl, hbl⟩; have HM := Lib.hid (H3.out.below hbl); clear hbl H3; have H3 := HM; clear HM)
          | (go_at_call 15; refine (dtext_any H3.out.b.d H3.out.b.ok.ok).mono ?_; rintro e w4 ⟨rfl, hbl⟩; have HM := Lib.hid (H3.out.below hbl); clear hbl H3; have H3 := HM; clear HM))
        go_roundw
        case rel => exact ⟨k + 1, Q, _, by omega, rfl, by go_num, H3.out⟩
        case measure => simp [intOf]; omega
      · have q12 : ((r : Int) == 12) = false := beq_eq_false_iff_ne.2 (by omega)
        clear h12 hr13
        go_wp2_with (first
          | (refine wpList_load_mid rfl 35 _ rfl b (bo + k * 6) rfl _ _ HR.out Tryd.underlying35 rfl rfl ?_)
          | (go_at_call 11; refine HO.out.mono ?_; rintro e w3 ⟨rfl, hb3, ho3⟩; have H3 := Lib.hid (H1.out.act hb3 ho3); clear hb3 ho3 HO HR))
        clear H1 c0 hr1 hr2
        generalize s.act ⟨what, N, hi1, off1, v1, wd1⟩ = t at H3
        have htt : ((st (textL t)).toList != (st (textL t)).toList) = false := bne_self_eq_false _
        have hc0 : ∀ z : Int, (callsI t z != callsI t z) = false := fun z => bne_self_eq_false _
        go_wp2_with (first
          | (go_at_call 12; refine (pcalls_ev H3.out.b.p H3.out.b.ok.ok _).mono ?_; rintro e w4 ⟨rfl, hbl⟩; have HM := Lib.hid (H3.out.below hbl); clear hbl H3; have H3 := HM; clear HM)
          | (go_at_call 13; refine (dcalls_ev H3.out.b.d H3.out.b.ok.ok _).mono ?_; rintro e w4 ⟨rfl, hbl⟩; have HM := Lib.hid (H3.out.below hbl); clear hbl H3; have H3 := HM; clear HM)
          | (go_at_call 14; refine (text_any H3.out.b.p H3.out.b.ok.ok (HTZ.out.later H3.out.bel)).mono ?_; rintro e w4 ⟨rfl, hbl⟩; have HM := Lib.hid (H3.out.below hbl); clear hbl H3; have H3 := HM; clear HM)
          | (go_at_call 15; refine (dtext_any H3.out.b.d H3.out.b.ok.ok).mono ?_; rintro e w4 ⟨rfl, hbl⟩; have HM := Lib.hid (H3.out.below hbl); clear hbl H3; have H3 := HM; clear HM))
        go_roundw
        case rel => exact ⟨k + 1, P, _, by omega, rfl, by go_num, H3.out⟩
        case measure => simp [intOf]; omega
    · obtain rfl : k = len := by omega
      clear hlt
      have HB := Lib.hid hbel
      clear hbel
      go_wp2_with (go_at_call 7; refine (works_any _).mono ?_; rintro e w9 ⟨rfl, bl9⟩)
      go_ret
      exact ⟨rfl, HB.out.trans (bl9.mono HB.out.size)⟩
end Go.Proofs.YtlgefljbhbefgaaDoor
