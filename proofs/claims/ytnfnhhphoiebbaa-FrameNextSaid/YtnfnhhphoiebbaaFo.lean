/- FrameBudgets: the law's body. -/
import Derived.Test.YtnfnhhphoiebbaaFn
set_option linter.unusedVariables false
set_option linter.unusedSimpArgs false
namespace Go.Proofs.Ytnfnhhphoiebbaa
open Go.RowKit
/-- How things stand: the counts, and the table. -/
structure Cs (w2 wr : World) (C : Nat) (F : Nat → Nat) : Prop where
  box : Box wr C 33 (cntA F)
  bel : Below C w2 wr
theorem Cs.size {w2 wr : World} {C : Nat} {F : Nat → Nat} (h : Cs w2 wr C F) : C ≤ wr.heap.size := Nat.le_of_lt h.box.inHeap
theorem Cs.later {w2 wr w' : World} {C : Nat} {F : Nat → Nat} (h : Cs w2 wr C F) (k : Below wr.heap.size wr w') : Cs w2 w' C F := ⟨h.box.over k h.box.inHeap, h.bel.trans (k.mono h.size)⟩
theorem Cs.put {w2 wr : World} {C : Nat} {F F' : Nat → Nat} (h : Cs w2 wr C F) (k : Nat) (v : Int) (hv : v = F' k) (ho : ∀ i, i ≠ k → F' i = F i) : Cs w2 (wr.setCell ⟨C, k, none⟩ (.int .u64 v)) C F' :=
  ⟨by rw [← cntA_set F F' k v hv ho]; exact h.box.put k _, h.bel.setCell (p := ⟨C, k, none⟩) (Nat.le_refl _) _⟩
theorem owner_to {w : World} {p wb wc bb bo bc : Nat} {l : List Win} (hq : Tb w p wb wc bb bo bc l) (st : Nat) (hst : st < 18446744073709551616) (z : Int) (hz : z = (st : Nat)) (g : Nat) (hg : (fr l).getD (st % tot l) 0 = g) : Calls Try.prog 11 #[.pointer (some ⟨p, 0, none⟩), .int .u64 z] w fun e w' => e = .returned (.int .u8 g) ∧ Below w.heap.size w w' := by
  subst hz
  subst hg
  exact owner_any hq st hst
theorem budgets_long (G : Int) (z : Nat) (a : Option Addr) (n cap : Nat) (w : World) (h : 60 < n) : Calls Try.prog 4 #[.slice a n cap, .int .i64 G, .int .u64 z] w (Yes w) := by
  go_enter Try.func4, Try.ntmps4
  go_wp2_with (go_at_call 6; refine (awake_any _).mono ?_; rintro e w' ⟨rfl, hb⟩)
  go_ret
  exact ⟨rfl, hb⟩
theorem budgets_bad (G : Int) (z : Nat) (a : Option Addr) (n cap : Nat) (l : List Win) (w : World) (hG1 : -9223372036854775808 ≤ G) (hG2 : G ≤ 9223372036854775807) (hn : ¬ 60 < n) (hf : IsWins w a n l) (hc : chk G l ≠ 0) : Calls Try.prog 4 #[.slice a n cap, .int .i64 G, .int .u64 z] w (Yes w) := by
  have HN := Lib.hid (new_bad G a n cap l w hG1 hG2 (by omega) hf hc)
  have e0 : ((chk G l : Int) != 0) = true := bne_iff_ne.2 (by omega)
  clear hf hc
  generalize chk G l = c at HN e0
  go_enter Try.func4, Try.ntmps4
  go_wp2_with (first
    | (go_at_call 6; have Hx := H1; refine (awake_any _).mono ?_; rintro e w3 ⟨rfl, hb3⟩)
    | (go_at_call 7; refine HN.out.mono ?_; rintro e w1 ⟨rfl, hb1⟩; have H1 := Lib.hid hb1; clear hb1))
  go_ret
  exact ⟨rfl, H1.out.trans (hb3.mono H1.out.size)⟩
set_option maxRecDepth 4000 in
set_option maxHeartbeats 4000000 in
theorem budgets_ok (G : Int) (z : Nat) (hz : z < 18446744073709551616) (b off n cap : Nat) (l : List Win) (w : World) (hG1 : -9223372036854775808 ≤ G) (hG2 : G ≤ 9223372036854775807) (hn : ¬ 60 < n) (hf : IsWins w (some ⟨b, off, none⟩) n l) (hc : chk G l = 0) : Calls Try.prog 4 #[.slice (some ⟨b, off, none⟩) n cap, .int .i64 G, .int .u64 z] w (Yes w) := by
  have hgood := chk_good hc
  obtain ⟨gn, rfl⟩ : ∃ gn : Nat, G = (gn : Int) := ⟨G.toNat, by have := hgood.g1; omega⟩
  have HN := Lib.hid (new_ok gn b off n cap l w hG1 hG2 hf hc)
  have HBd := Lib.hid (wins_bound hf)
  have HGd := Lib.hid hgood
  have hmd : (z : Int) % 1099511627776 = ((z % 1099511627776 : Nat) : Int) := rfl
  have hmt : (z : Int).tmod 1099511627776 = ((z % 1099511627776 : Nat) : Int) := rfl
  have hnb : z % 1099511627776 < 1099511627776 := Nat.mod_lt _ (by decide)
  have htop := hgood.top
  have hml : z % 1099511627776 * tot l ≤ 1099511627776 * 1024 := Nat.mul_le_mul (by omega) htop
  obtain ⟨zb, hzb⟩ : ∃ zb, zb = z % 1099511627776 * tot l := ⟨_, rfl⟩
  have hzc : ((z % 1099511627776 : Nat) : Int) * ((tot l : Nat) : Int) = (zb : Int) := by rw [hzb, Int.natCast_mul]
  have hzm : zb % tot l = 0 := by rw [hzb]; exact Nat.mul_mod_left _ _
  have hzl : zb ≤ 1125899906842624 := by omega
  have hzw : IntKind.u64.wrap (zb : Int) = (zb : Int) := by show (zb : Int) % 18446744073709551616 = _; omega
  have HZ := Lib.hid hzm
  clear hf hc hgood hzb hzm hml
  generalize z % 1099511627776 = nb at hmd hmt hnb hzc
  go_enter Try.func4, Try.ntmps4
  go_wp2_with (first
    | (refine wpList_alloc_to rfl 33 rfl (cntA fun _ => 0) alloc_c _ rfl ?_)
    | (go_at_call 10; refine (length_any HT.out).mono ?_; rintro e w' ⟨rfl, rfl⟩)
    | (go_at_call 7; refine HN.out.mono ?_; rintro e w2 ⟨p, wv, bv, rfl, hnw⟩; obtain ⟨wb, wc, bb, bo, bc, htb⟩ := tb_of hnw HGd.out HBd.out; have HT := Lib.hid htb; have H2 := Lib.hid hnw.bel; clear hnw htb))
  have HC0 : Hid (Cs w2 (w2.alloc (.cells (cntA fun _ => 0) 33)) w2.heap.size (fun i => ahd l i 0)) := Lib.hid ⟨by
    have e : (fun i => ahd l i 0) = fun _ => 0 := by funext i; exact ahd_zero l i
    rw [e]
    exact Box.made w2 33 _, (Below.refl _ _).alloc (Nat.le_refl _) _⟩
  generalize w2.alloc (.cells (cntA fun _ => 0) 33) = w3 at HC0 ⊢
  generalize hC : w2.heap.size = C at HC0 ⊢
  have HCC := Lib.hid hC
  clear hC hmd hmt hnb hzc
  have HTb : Hid (∀ wx, Below C w2 wx → Tb wx p wb wc bb bo bc l) := Lib.hid (fun wx h => HT.out.over h (by rw [HCC.out]; exact Nat.le_refl _))
  have t1 : (0 : Int) < (tot l : Int) := by have := HT.out.pos; omega
  have t2 : (tot l : Int) ≤ 1024 := by have := HT.out.top; omega
  go_loopw [11] (fun s wr => ∃ k : Nat, k ≤ tot l ∧ s = .int .u64 k ∧ Cs w2 wr C (fun i => ahd l i k)) (fun s _ => tot l - (intOf s).toNat)
  case atStart => exact ⟨0, Nat.zero_le _, rfl, HC0.out⟩
  case round =>
    obtain ⟨k, hk, rfl, hst⟩ := hrel
    have k1 : (0 : Int) ≤ (k : Int) := Int.natCast_nonneg _
    have HS := Lib.hid hst
    clear hst
    by_cases hlt : k < tot l
    · have k2 : (k : Int) < (tot l : Int) := by omega
      have k3 : (k : Int) < 2000 := by omega
      have HO1 : Hid (Calls Try.prog 11 #[.pointer (some ⟨p, 0, none⟩), .int .u64 ((zb : Int) + (k : Int))] wr fun e w' => e = .returned (.int .u8 ((fr l).getD k 0 : Nat)) ∧ Below wr.heap.size wr w') := Lib.hid (owner_to (HTb.out _ HS.out.bel) (zb + k) (by omega) _ (by omega) _ (by rw [Nat.add_mod, HZ.out, Nat.zero_add, Nat.mod_mod, Nat.mod_eq_of_lt hlt]))
      have HO2 : Hid (∀ wx, Below wr.heap.size wr wx → Calls Try.prog 11 #[.pointer (some ⟨p, 0, none⟩), .int .u64 (k : Int)] wx fun e w' => e = .returned (.int .u8 ((fr l).getD k 0 : Nat)) ∧ Below wx.heap.size wx w') := Lib.hid (fun wx hb => owner_to (HTb.out _ (HS.out.later hb).bel) k (by omega) _ rfl _ (by rw [Nat.mod_eq_of_lt hlt]))
      have hgl : (fr l).getD k 0 < 256 := by
        have hkl : k < (fr l).length := by rw [fr_len]; exact hlt
        rw [List.getD_eq_getElem?_getD, List.getElem?_eq_getElem hkl]
        obtain ⟨v, hv, e⟩ := fr_mem (List.getElem_mem hkl)
        have := HT.out.bmem v hv
        show (fr l)[k] < 256
        omega
      have HST := Lib.hid (fun i => ahd_step l i k hlt)
      generalize (fr l).getD k 0 = g at HO1 HO2 hgl HST
      have g1 : (0 : Int) ≤ (g : Int) := Int.natCast_nonneg _
      have g2 : (g : Int) < 256 := by omega
      have HLT := Lib.hid hlt
      have hle : ahd l g k ≤ 1024 := by have := ahd_lep l g k; omega
      have e1 : ((g : Int) != (g : Int)) = false := by simp
      clear hlt
      go_wp2_with (first
        | (go_at_call 10; refine (length_any (HTb.out _ HS.out.bel)).mono ?_; rintro e w' ⟨rfl, rfl⟩)
        | (go_at_call 11; have Hx := H4; refine (HO2.out _ H4.out).mono ?_; rintro e w5 ⟨rfl, hb⟩; have H5 := Lib.hid (H4.out.trans (hb.mono H4.out.size)); clear hb; have cg : w5.cell? ⟨C, g, none⟩ = some (.int .u64 (ahd l g k : Nat)) := (((HS.out.later H5.out).box.read g).trans (cntA_at _ g (by omega))); have fg : w5.frozen? ⟨C, g, none⟩ = false := (HS.out.later H5.out).box.warm g)
        | (go_at_call 11; refine HO1.out.mono ?_; rintro e w4 ⟨rfl, hb⟩; have H4 := Lib.hid hb; clear hb))
      go_roundw
      case rel => exact ⟨k + 1, by have := HLT.out; omega, by go_num, (HS.out.later H5.out).put g _ (by rw [HST.out g, if_pos rfl]; omega) (fun i hi => by rw [HST.out i, if_neg (fun h => hi h.symm)]; rfl)⟩
      case measure => simp [intOf]; have := HLT.out; omega
    · have hkt : k = tot l := by omega
      have hfe : (fun i => ahd l i k) = cnt l := by funext i; rw [hkt]; exact ahd_all l i
      have HS1 : Hid (Cs w2 wr C (cnt l)) := Lib.hid (hfe ▸ HS.out)
      obtain ⟨wo, rfl⟩ : ∃ wo : World, wo = wr := ⟨_, rfl⟩
      have k9 : ¬ ((k : Int) < (tot l : Int)) := by omega
      have k8 : decide ((k : Int) < (tot l : Int)) = false := decide_eq_false k9
      clear hkt hfe hlt
      go_wp2_with (go_at_call 10; refine (length_any (HTb.out _ HS1.out.bel)).mono ?_; rintro e w' ⟨rfl, rfl⟩)
      clear HS k8 k9
      go_loopw [13, 14] (fun s i wr => ∃ j : Nat, j ≤ 256 ∧ s = .int .u64 (sm (cnt l) j : Nat) ∧ i = .int .i64 j ∧ Cs w2 wr C (cnt l)) (fun _ i _ => 256 - (intOf i).toNat)
      case atStart => exact ⟨0, Nat.zero_le _, rfl, rfl, HS1.out⟩
      case round =>
        obtain ⟨j, hj, rfl, rfl, hst⟩ := hrel
        have HS := Lib.hid hst
        clear hst
        have j1 : (0 : Int) ≤ (j : Int) := Int.natCast_nonneg _
        by_cases hjt : j < 256
        · have j2 : (j : Int) < 256 := by omega
          have j3 : IntKind.u8.wrap (j : Int) = (j : Int) := by show (j : Int) % 256 = _; omega
          have hcl : cnt l j ≤ 1024 := Nat.le_trans (cnt_le l j) htop
          have hsl : sm (cnt l) j ≤ 1024 := by
            have h1 := sm_mono (cnt l) (256 - j) j
            rw [show j + (256 - j) = 256 by omega, sm_tot HT.out.bmem] at h1
            omega
          have HCE0 : ∀ wx, Below wr.heap.size wr wx → wx.cell? ⟨C, j, none⟩ = some (.int .u64 (cnt l j : Nat)) := fun wx hb => ((HS.out.later hb).box.read j).trans (cntA_at _ j hjt)
          have HBU0 := fun wx (hb : Below wr.heap.size wr wx) => budget_any (HTb.out _ (HS.out.later hb).bel) j hjt
          have how : owd l j (zb + tot l) = owd l j zb + cnt l j := by
            unfold owd
            rw [Nat.add_mod_right, Nat.add_div_right _ HT.out.pos, HZ.out, ahd_zero, Nat.succ_mul]
            omega
          have hol : owd l j zb ≤ zb + 1024 := by
            unfold owd
            have h1 := Nat.le_trans (Nat.mul_le_mul_left (zb / tot l) (cnt_le l j)) (Nat.div_mul_le_self zb (tot l))
            have h2 := ahd_lep l j (zb % tot l)
            rw [HZ.out] at h2 ⊢
            omega
          have HOW10 := fun wx (hb : Below wr.heap.size wr wx) => owned_any (HTb.out _ (HS.out.later hb).bel) j (zb + tot l) hjt (by omega)
          have HOW20 := fun wx (hb : Below wr.heap.size wr wx) => owned_any (HTb.out _ (HS.out.later hb).bel) j zb hjt (by omega)
          rw [how] at HOW10
          have hG : j < gn → cnt l j ≠ 0 := fun h => by have := HGd.out.has (g := j) (by omega); omega
          have hN : ¬ j < gn → j ≠ 255 → cnt l j = 0 := fun h1 h2 => HGd.out.none (by omega) h2
          have HCN : Hid (sm (cnt l) (j + 1) = sm (cnt l) j + cnt l j) := Lib.hid rfl
          have hcn2 := HCN.out
          generalize hcc : cnt l j = c at HCE0 HBU0 HOW10 hG hN hcl hcn2
          generalize hoo : owd l j zb = ow at HOW10 HOW20 hol
          generalize hss : sm (cnt l) j = sj at hsl hcn2 ⊢
          clear HCN hcc hoo how hss
          have HCN := Lib.hid hcn2.symm
          clear hcn2
          have HCE := Lib.hid HCE0
          have HBU := Lib.hid HBU0
          have HOW1 : Hid (∀ wx, Below wr.heap.size wr wx → Calls Try.prog 13 #[.pointer (some ⟨p, 0, none⟩), .int .u8 j, .int .u64 ((zb : Int) + (tot l : Int))] wx fun e w' => e = .returned (.int .u64 ((ow : Int) + (c : Int))) ∧ Below wx.heap.size wx w') := Lib.hid HOW10
          have HOW2 := Lib.hid HOW20
          clear HCE0 HBU0 HOW10 HOW20
          have c1 : (0 : Int) ≤ (c : Int) := Int.natCast_nonneg _
          have o1 : (0 : Int) ≤ (ow : Int) := Int.natCast_nonneg _
          have s1 : (0 : Int) ≤ (sj : Int) := Int.natCast_nonneg _
          have v1 : IntKind.u64.wrap ((zb : Int) + (tot l : Int)) = (zb : Int) + (tot l : Int) := by show ((zb : Int) + (tot l : Int)) % 18446744073709551616 = _; omega
          have v2 : IntKind.u64.wrap ((ow : Int) + (c : Int) - (ow : Int)) = (c : Int) := by show ((ow : Int) + (c : Int) - (ow : Int)) % 18446744073709551616 = _; omega
          have v3 : ((c : Int) != (c : Int)) = false := by simp
          have HJ := Lib.hid hjt
          clear hjt
          have x0 : wr.drew.heap.size = wr.heap.size := rfl
          by_cases hjg : j < gn
          · have y1 : decide (j < gn) = true := decide_eq_true hjg
            have y2 : decide (gn ≤ j) = false := decide_eq_false (by omega)
            have y3 : ((c : Int) == 0) = false := beq_eq_false_iff_ne.2 (by have := hG hjg; omega)
            clear hG hN hjg
            go_wp2
            refine wp_region_calm (fun w' => w'.cell? ⟨C, j, none⟩ = some (.int .u64 c)) (.e 0 :: .e 0 :: .e 0 :: .e 0 :: .e 0 :: .e 0 :: .l 0 :: .e 0 :: .e 0 :: .e 0 :: .e 0 :: .e 0 :: .e 0 :: .e 0 :: .e 0 :: .e 0 :: .e 0 :: .e 0 :: .e 0 :: .e 0 :: .e 0 :: .e 0 :: .e 0 :: .e 0 :: .e 0 :: .e 0 :: .e 0 :: .e 0 :: .e 0 :: .e 0 :: .e 0 :: .e 0 :: .e 0 :: .e 0 :: []) (by kernel_rfl) (by kernel_rfl) (by kernel_rfl) (by kernel_rfl) ?_
            have hHeld : wr.drew.cell? ⟨C, j, none⟩ = some (.int .u64 c) := HCE.out _ (Below.refl _ _).drew
            repeat (first
              | (refine mv_take0 (v := ?_) (by rfl) hHeld ?_ ?_; rotate_left 1; (focus (intro w hSw; (try dsimp only at hSw); have hs0 := hSw; go_simp; (try with_reducible rfl); done)); (try simp only [Act.put, List.setIfInBounds_toArray, List.set_cons_zero, List.set_cons_succ]))
              | (refine mv_skip0 (by rfl) hHeld ?_; (try simp only [Act.put, List.setIfInBounds_toArray, List.set_cons_zero, List.set_cons_succ]))
              | (refine mv_loud0 (by rfl) (fun K hK => ?_)
                 go_simp
                 (go_at_call 12; refine (HBU.out _ (Below.refl _ _).drew).mono ?_; rintro e w5 ⟨rfl, hz⟩; have H5 : Hid (Below wr.heap.size wr w5) := Lib.hid ((Below.refl _ _).drew.trans hz); clear hz; refine hK.out _ _ (HCE.out _ H5.out) ?_; clear hHeld; have hHeld := HCE.out _ H5.out)
                 clear hK K
                 (try simp only [Act.put, List.setIfInBounds_toArray, List.set_cons_zero, List.set_cons_succ])))
            refine mv_calm ?_
            clear hHeld
            go_wp2
            have hHeld : w5.drew.cell? ⟨C, j, none⟩ = some (.int .u64 c) := HCE.out _ H5.out.drew
            refine wp_region_calm (fun w' => w'.cell? ⟨C, j, none⟩ = some (.int .u64 c)) (.e 0 :: .e 0 :: .e 0 :: .e 0 :: .e 0 :: .e 3 :: .e 3 :: .e 3 :: .e 3 :: .e 5 :: .e 5 :: .e 5 :: .l 0 :: .e 0 :: .l 0 :: .l 0 :: .e 0 :: .e 0 :: []) (by kernel_rfl) (by kernel_rfl) (by kernel_rfl) (by kernel_rfl) ?_
            repeat (first
              | (refine mv_take0 (v := ?_) (by rfl) hHeld ?_ ?_; rotate_left 1; (focus (intro w hSw; (try dsimp only at hSw); have hs0 := hSw; go_simp; (try with_reducible rfl); done)); (try simp only [Act.put, List.setIfInBounds_toArray, List.set_cons_zero, List.set_cons_succ]))
              | (refine mv_take3 (v := ?_) (by rfl) hHeld ?_ ?_; rotate_left 1; (focus (intro w hSw; (try dsimp only at hSw); have hs0 := hSw; go_simp; (try with_reducible rfl); done)); (try simp only [Act.put, List.setIfInBounds_toArray, List.set_cons_zero, List.set_cons_succ]))
              | (refine mv_take5 (v := ?_) (by rfl) hHeld ?_ ?_; rotate_left 1; (focus (intro w hSw; (try dsimp only at hSw); have hs0 := hSw; go_simp; (try with_reducible rfl); done)); (try simp only [Act.put, List.setIfInBounds_toArray, List.set_cons_zero, List.set_cons_succ]))
              | (refine mv_loud0 (by rfl) (fun K hK => ?_)
                 go_simp
                 first
                   | (go_at_call 10; refine (length_any (HTb.out _ (HS.out.later H5.out.drew).bel)).mono ?_; rintro e w6 ⟨rfl, rfl⟩; refine hK.out _ _ hHeld ?_)
                   | (go_at_call 13; have Hx := H7; refine (HOW2.out _ H7.out).mono ?_; rintro e w8 ⟨rfl, hz⟩; have H8 := Lib.hid (H7.out.trans (hz.mono H7.out.size)); clear hz; refine hK.out _ _ (HCE.out _ H8.out) ?_; clear hHeld; have hHeld := HCE.out _ H8.out)
                   | (go_at_call 13; refine (HOW1.out _ H5.out.drew).mono ?_; rintro e w7 ⟨rfl, hz⟩; have H7 := Lib.hid (H5.out.drew.trans (hz.mono H5.out.drew.size)); clear hz; refine hK.out _ _ (HCE.out _ H7.out) ?_; clear hHeld; have hHeld := HCE.out _ H7.out)
                 clear hK K
                 (try simp only [Act.put, List.setIfInBounds_toArray, List.set_cons_zero, List.set_cons_succ])))
            refine mv_calm ?_
            have cz : w8.cell? ⟨C, j, none⟩ = some (.int .u64 c) := HCE.out _ H8.out
            clear hHeld
            go_wp2
            go_roundw
            case rel => exact ⟨j + 1, by have := HJ.out; omega, val_eq (by rw [← HCN.out]; omega), by go_num, HS.out.later H8.out⟩
            case measure => simp [intOf]; have := HJ.out; omega
          · have y1 : decide (j < gn) = false := decide_eq_false hjg
            have y2 : decide (gn ≤ j) = true := decide_eq_true (by omega)
            by_cases hjx : j = 255
            · have y3 : ((j : Int) != 255) = false := by simp [hjx]
              clear hG hN hjg hjx
              go_wp2
              refine wp_region_calm (fun w' => w'.cell? ⟨C, j, none⟩ = some (.int .u64 c)) (.e 0 :: .e 0 :: .e 0 :: .e 0 :: .e 0 :: .e 0 :: .l 0 :: .e 0 :: .e 0 :: .e 0 :: .e 0 :: .e 0 :: .e 0 :: .e 0 :: .e 0 :: .e 0 :: .e 0 :: .e 0 :: .e 0 :: .e 0 :: .e 0 :: .e 0 :: .e 0 :: .e 0 :: .e 0 :: .e 0 :: .e 0 :: .e 0 :: .e 0 :: .e 0 :: .e 0 :: .e 0 :: .e 0 :: .e 0 :: []) (by kernel_rfl) (by kernel_rfl) (by kernel_rfl) (by kernel_rfl) ?_
              have hHeld : wr.drew.cell? ⟨C, j, none⟩ = some (.int .u64 c) := HCE.out _ (Below.refl _ _).drew
              repeat (first
                | (refine mv_take0 (v := ?_) (by rfl) hHeld ?_ ?_; rotate_left 1; (focus (intro w hSw; (try dsimp only at hSw); have hs0 := hSw; go_simp; (try with_reducible rfl); done)); (try simp only [Act.put, List.setIfInBounds_toArray, List.set_cons_zero, List.set_cons_succ]))
                | (refine mv_skip0 (by rfl) hHeld ?_; (try simp only [Act.put, List.setIfInBounds_toArray, List.set_cons_zero, List.set_cons_succ]))
                | (refine mv_loud0 (by rfl) (fun K hK => ?_)
                   go_simp
                   (go_at_call 12; refine (HBU.out _ (Below.refl _ _).drew).mono ?_; rintro e w5 ⟨rfl, hz⟩; have H5 : Hid (Below wr.heap.size wr w5) := Lib.hid ((Below.refl _ _).drew.trans hz); clear hz; refine hK.out _ _ (HCE.out _ H5.out) ?_; clear hHeld; have hHeld := HCE.out _ H5.out)
                   clear hK K
                   (try simp only [Act.put, List.setIfInBounds_toArray, List.set_cons_zero, List.set_cons_succ])))
              refine mv_calm ?_
              clear hHeld
              go_wp2
              have hHeld : w5.drew.cell? ⟨C, j, none⟩ = some (.int .u64 c) := HCE.out _ H5.out.drew
              refine wp_region_calm (fun w' => w'.cell? ⟨C, j, none⟩ = some (.int .u64 c)) (.e 0 :: .e 0 :: .e 0 :: .e 0 :: .e 0 :: .e 3 :: .e 3 :: .e 3 :: .e 3 :: .e 5 :: .e 5 :: .e 5 :: .l 0 :: .e 0 :: .l 0 :: .l 0 :: .e 0 :: .e 0 :: []) (by kernel_rfl) (by kernel_rfl) (by kernel_rfl) (by kernel_rfl) ?_
              repeat (first
                | (refine mv_take0 (v := ?_) (by rfl) hHeld ?_ ?_; rotate_left 1; (focus (intro w hSw; (try dsimp only at hSw); have hs0 := hSw; go_simp; (try with_reducible rfl); done)); (try simp only [Act.put, List.setIfInBounds_toArray, List.set_cons_zero, List.set_cons_succ]))
                | (refine mv_take3 (v := ?_) (by rfl) hHeld ?_ ?_; rotate_left 1; (focus (intro w hSw; (try dsimp only at hSw); have hs0 := hSw; go_simp; (try with_reducible rfl); done)); (try simp only [Act.put, List.setIfInBounds_toArray, List.set_cons_zero, List.set_cons_succ]))
                | (refine mv_take5 (v := ?_) (by rfl) hHeld ?_ ?_; rotate_left 1; (focus (intro w hSw; (try dsimp only at hSw); have hs0 := hSw; go_simp; (try with_reducible rfl); done)); (try simp only [Act.put, List.setIfInBounds_toArray, List.set_cons_zero, List.set_cons_succ]))
                | (refine mv_loud0 (by rfl) (fun K hK => ?_)
                   go_simp
                   first
                     | (go_at_call 10; refine (length_any (HTb.out _ (HS.out.later H5.out.drew).bel)).mono ?_; rintro e w6 ⟨rfl, rfl⟩; refine hK.out _ _ hHeld ?_)
                     | (go_at_call 13; have Hx := H7; refine (HOW2.out _ H7.out).mono ?_; rintro e w8 ⟨rfl, hz⟩; have H8 := Lib.hid (H7.out.trans (hz.mono H7.out.size)); clear hz; refine hK.out _ _ (HCE.out _ H8.out) ?_; clear hHeld; have hHeld := HCE.out _ H8.out)
                     | (go_at_call 13; refine (HOW1.out _ H5.out.drew).mono ?_; rintro e w7 ⟨rfl, hz⟩; have H7 := Lib.hid (H5.out.drew.trans (hz.mono H5.out.drew.size)); clear hz; refine hK.out _ _ (HCE.out _ H7.out) ?_; clear hHeld; have hHeld := HCE.out _ H7.out)
                   clear hK K
                   (try simp only [Act.put, List.setIfInBounds_toArray, List.set_cons_zero, List.set_cons_succ])))
              refine mv_calm ?_
              have cz : w8.cell? ⟨C, j, none⟩ = some (.int .u64 c) := HCE.out _ H8.out
              clear hHeld
              go_wp2
              go_roundw
              case rel => exact ⟨j + 1, by have := HJ.out; omega, val_eq (by rw [← HCN.out]; omega), by go_num, HS.out.later H8.out⟩
              case measure => simp [intOf]; have := HJ.out; omega
            · have y3 : ((j : Int) != 255) = true := bne_iff_ne.2 (by omega)
              have y4 : ((c : Int) != 0) = false := by have := hN hjg hjx; simp [this]
              clear hG hN hjg hjx
              go_wp2
              refine wp_region_calm (fun w' => w'.cell? ⟨C, j, none⟩ = some (.int .u64 c)) (.e 0 :: .e 0 :: .e 0 :: .e 0 :: .e 0 :: .e 0 :: .l 0 :: .e 0 :: .e 0 :: .e 0 :: .e 0 :: .e 0 :: .e 0 :: .e 0 :: .e 0 :: .e 0 :: .e 0 :: .e 0 :: .e 0 :: .e 0 :: .e 0 :: .e 0 :: .e 0 :: .e 0 :: .e 0 :: .e 0 :: .e 0 :: .e 0 :: .e 0 :: .e 0 :: .e 0 :: .e 0 :: .e 0 :: .e 0 :: []) (by kernel_rfl) (by kernel_rfl) (by kernel_rfl) (by kernel_rfl) ?_
              have hHeld : wr.drew.cell? ⟨C, j, none⟩ = some (.int .u64 c) := HCE.out _ (Below.refl _ _).drew
              repeat (first
                | (refine mv_take0 (v := ?_) (by rfl) hHeld ?_ ?_; rotate_left 1; (focus (intro w hSw; (try dsimp only at hSw); have hs0 := hSw; go_simp; (try with_reducible rfl); done)); (try simp only [Act.put, List.setIfInBounds_toArray, List.set_cons_zero, List.set_cons_succ]))
                | (refine mv_skip0 (by rfl) hHeld ?_; (try simp only [Act.put, List.setIfInBounds_toArray, List.set_cons_zero, List.set_cons_succ]))
                | (refine mv_loud0 (by rfl) (fun K hK => ?_)
                   go_simp
                   (go_at_call 12; refine (HBU.out _ (Below.refl _ _).drew).mono ?_; rintro e w5 ⟨rfl, hz⟩; have H5 : Hid (Below wr.heap.size wr w5) := Lib.hid ((Below.refl _ _).drew.trans hz); clear hz; refine hK.out _ _ (HCE.out _ H5.out) ?_; clear hHeld; have hHeld := HCE.out _ H5.out)
                   clear hK K
                   (try simp only [Act.put, List.setIfInBounds_toArray, List.set_cons_zero, List.set_cons_succ])))
              refine mv_calm ?_
              clear hHeld
              go_wp2
              have hHeld : w5.drew.cell? ⟨C, j, none⟩ = some (.int .u64 c) := HCE.out _ H5.out.drew
              refine wp_region_calm (fun w' => w'.cell? ⟨C, j, none⟩ = some (.int .u64 c)) (.e 0 :: .e 0 :: .e 0 :: .e 0 :: .e 0 :: .e 3 :: .e 3 :: .e 3 :: .e 3 :: .e 5 :: .e 5 :: .e 5 :: .l 0 :: .e 0 :: .l 0 :: .l 0 :: .e 0 :: .e 0 :: []) (by kernel_rfl) (by kernel_rfl) (by kernel_rfl) (by kernel_rfl) ?_
              repeat (first
                | (refine mv_take0 (v := ?_) (by rfl) hHeld ?_ ?_; rotate_left 1; (focus (intro w hSw; (try dsimp only at hSw); have hs0 := hSw; go_simp; (try with_reducible rfl); done)); (try simp only [Act.put, List.setIfInBounds_toArray, List.set_cons_zero, List.set_cons_succ]))
                | (refine mv_take3 (v := ?_) (by rfl) hHeld ?_ ?_; rotate_left 1; (focus (intro w hSw; (try dsimp only at hSw); have hs0 := hSw; go_simp; (try with_reducible rfl); done)); (try simp only [Act.put, List.setIfInBounds_toArray, List.set_cons_zero, List.set_cons_succ]))
                | (refine mv_take5 (v := ?_) (by rfl) hHeld ?_ ?_; rotate_left 1; (focus (intro w hSw; (try dsimp only at hSw); have hs0 := hSw; go_simp; (try with_reducible rfl); done)); (try simp only [Act.put, List.setIfInBounds_toArray, List.set_cons_zero, List.set_cons_succ]))
                | (refine mv_loud0 (by rfl) (fun K hK => ?_)
                   go_simp
                   first
                     | (go_at_call 10; refine (length_any (HTb.out _ (HS.out.later H5.out.drew).bel)).mono ?_; rintro e w6 ⟨rfl, rfl⟩; refine hK.out _ _ hHeld ?_)
                     | (go_at_call 13; have Hx := H7; refine (HOW2.out _ H7.out).mono ?_; rintro e w8 ⟨rfl, hz⟩; have H8 := Lib.hid (H7.out.trans (hz.mono H7.out.size)); clear hz; refine hK.out _ _ (HCE.out _ H8.out) ?_; clear hHeld; have hHeld := HCE.out _ H8.out)
                     | (go_at_call 13; refine (HOW1.out _ H5.out.drew).mono ?_; rintro e w7 ⟨rfl, hz⟩; have H7 := Lib.hid (H5.out.drew.trans (hz.mono H5.out.drew.size)); clear hz; refine hK.out _ _ (HCE.out _ H7.out) ?_; clear hHeld; have hHeld := HCE.out _ H7.out)
                   clear hK K
                   (try simp only [Act.put, List.setIfInBounds_toArray, List.set_cons_zero, List.set_cons_succ])))
              refine mv_calm ?_
              have cz : w8.cell? ⟨C, j, none⟩ = some (.int .u64 c) := HCE.out _ H8.out
              clear hHeld
              go_wp2
              go_roundw
              case rel => exact ⟨j + 1, by have := HJ.out; omega, val_eq (by rw [← HCN.out]; omega), by go_num, HS.out.later H8.out⟩
              case measure => simp [intOf]; have := HJ.out; omega
        · obtain rfl : j = 256 := by omega
          have hst := sm_tot HT.out.bmem
          have hgs := sm_guests HGd.out rfl
          rw [hst] at hgs ⊢
          have h16 := HGd.out.g2
          have z1 : decide (gn ≤ tot l) = true := decide_eq_true hgs
          have z2 : decide (tot l ≤ 1024) = true := decide_eq_true htop
          have z3 : ((tot l : Int) == (tot l : Int)) = true := by simp
          have z4 : IntKind.u64.wrap (gn : Int) = (gn : Int) := by show (gn : Int) % 18446744073709551616 = _; omega
          have z5 : (gn : Int) ≤ (tot l : Int) := by omega
          clear hst hgs hjt
          go_wp2_with (first
            | (go_at_call 6; have Hx := HS; refine (awake_any _).mono ?_; rintro e w9 ⟨rfl, hb9⟩)
            | (go_at_call 10; refine (length_any (HTb.out _ HS.out.bel)).mono ?_; rintro e w' ⟨rfl, rfl⟩))
          go_ret
          have hcs := HCC.out
          have hw2 := H2.out.size
          have hsz := HS.out.size
          exact ⟨rfl, (H2.out.trans (HS.out.bel.mono (by omega))).trans (hb9.mono (by omega))⟩
theorem budgets_any (G : Int) (z : Nat) (hz : z < 18446744073709551616) (a : Option Addr) (n cap : Nat) (l : List Win) (w : World) (hG1 : -9223372036854775808 ≤ G) (hG2 : G ≤ 9223372036854775807) (hf : IsWins w a n l) : Calls Try.prog 4 #[.slice a n cap, .int .i64 G, .int .u64 z] w (Yes w) := by
  by_cases hn : 60 < n
  · exact budgets_long G z a n cap w hn
  · by_cases hc : chk G l = 0
    · obtain ⟨f, hk⟩ : ∃ f, l[0]? = some f := ⟨_, List.getElem?_eq_getElem (chk_good hc).n1⟩
      obtain ⟨_, b, off, rfl, _⟩ := win_at hf hk
      exact budgets_ok G z hz b off n cap l w hG1 hG2 hn hf hc
    · exact budgets_bad G z a n cap l w hG1 hG2 hn hf hc
end Go.Proofs.Ytnfnhhphoiebbaa
