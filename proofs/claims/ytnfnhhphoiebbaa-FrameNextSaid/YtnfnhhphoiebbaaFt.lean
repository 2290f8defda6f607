/- FsameNext: the law's body. -/
import Derived.Test.YtnfnhhphoiebbaaFs
set_option linter.unusedVariables false
set_option linter.unusedSimpArgs false
namespace Go.Proofs.Ytnfnhhphoiebbaa
open Go.RowKit
set_option maxRecDepth 4000 in
set_option maxHeartbeats 4000000 in
theorem fn_ok (G : Int) (g zf : Nat) (hg : g < 256) (b off n cap : Nat) (l : List Win) (w : World) (hG1 : -9223372036854775808 ≤ G) (hG2 : G ≤ 9223372036854775807) (hn : ¬ 60 < n) (hf : IsWins w (some ⟨b, off, none⟩) n l) (hc : chk G l = 0) (hcn : cnt l g ≠ 0) : Calls Try.prog 5 #[.slice (some ⟨b, off, none⟩) n cap, .int .i64 G, .agg #[.int .u8 g, .int .u64 zf]] w (Yes w) := by
  have hgood := chk_good hc
  have H0 := Lib.hid ((Below.refl _ w).alloc (Nat.le_refl _) (.cells #[.int .u8 g, .int .u64 zf] 39))
  have HN := Lib.hid (new_ok G b off n cap l _ hG1 hG2 (hf.later H0.out) hc)
  have HBd := Lib.hid (wins_bound hf)
  have HGd := Lib.hid hgood
  have hbx := Box.made w 39 #[.int .u8 g, .int .u64 zf]
  have HX := Lib.hid hbx
  have HCN := Lib.hid hcn
  have hmd : (zf : Int) % 1125899906842624 = ((zf % 1125899906842624 : Nat) : Int) := rfl
  have hmt : (zf : Int).tmod 1125899906842624 = ((zf % 1125899906842624 : Nat) : Int) := rfl
  have hnb : zf % 1125899906842624 < 1125899906842624 := Nat.mod_lt _ (by decide)
  have htop := hgood.top
  have hpos := hgood.pos
  have HP := Lib.hid (fun v hv => (hgood.ok v hv).2)
  clear hf hc hgood hcn hbx
  generalize zf % 1125899906842624 = st at hmd hmt hnb
  go_enter Try.func5, Try.ntmps5
  go_wp2_with (first
    | (go_at_call 14; have Hx := H2; refine (next_ok HT.out HP.out g st hg hnb HCN.out).mono ?_; rintro e w3 ⟨dn, hnx, rfl, hb⟩; have H3 : Hid (Below w2.heap.size w2 w3) := Lib.hid hb; clear hb)
    | (go_at_call 7; refine HN.out.mono ?_; rintro e w2 ⟨p, wv, bv, rfl, hnw⟩; obtain ⟨wb, wc, bb, bo, bc, htb⟩ := tb_of hnw HGd.out HBd.out; have HT := Lib.hid htb; have HBx : Hid (Box w2 w.heap.size 39 #[.int .u8 g, .int .u64 zf]) := Lib.hid (HX.out.over hnw.bel HX.out.inHeap); have H2 : Hid (Below w.heap.size w w2) := Lib.hid (H0.out.trans (hnw.bel.mono H0.out.size)); clear hnw htb; have d0 : w2.cell? ⟨w.heap.size, 0, none⟩ = some (.int .u8 g) := HBx.out.read 0; have d1 : w2.cell? ⟨w.heap.size, 1, none⟩ = some (.int .u64 zf) := HBx.out.read 1))
  clear d0 d1
  generalize hCC : w.heap.size = C at HBx ⊢
  have HCC := Lib.hid hCC
  clear hCC hmd hmt HX
  have HTb : Hid (∀ wx, Below w2.heap.size w2 wx → Tb wx p wb wc bb bo bc l) := Lib.hid (fun wx h => HT.out.over h (Nat.le_refl _))
  have HG : Hid (∀ wx, Below w2.heap.size w2 wx → wx.cell? ⟨C, 0, none⟩ = some (.int .u8 g) ∧ wx.cell? ⟨C, 1, none⟩ = some (.int .u64 zf)) := Lib.hid (fun wx h => ⟨(HBx.out.over h HBx.out.inHeap).read 0, (HBx.out.over h HBx.out.inHeap).read 1⟩)
  have HBU := Lib.hid (fun wx (hb : Below w2.heap.size w2 wx) => budget_any (HTb.out _ hb) g hg)
  have HNX := Lib.hid hnx
  have hdt := hnx.1
  have hc0 := HCN.out
  generalize cnt l g = cn at HBU hc0
  have z1 : decide (0 < cn) = true := decide_eq_true (by omega)
  have z2 : decide (tot l ≤ dn) = false := decide_eq_false (by omega)
  have z3 : IntKind.u64.wrap (dn : Int) = (dn : Int) := by show (dn : Int) % 18446744073709551616 = _; omega
  have z4 : IntKind.u64.wrap ((st : Int) + (dn : Int) - (st : Int)) = (dn : Int) := by show ((st : Int) + (dn : Int) - (st : Int)) % 18446744073709551616 = _; omega
  have z5 : decide ((st : Int) + (dn : Int) < (st : Int)) = false := decide_eq_false (by omega)
  have z6 : ((g : Int) != (g : Int)) = false := by simp
  have d0 : (0 : Int) ≤ (dn : Int) := Int.natCast_nonneg _
  have d1 : (dn : Int) ≤ 1024 := by omega
  have s0 : (0 : Int) ≤ (st : Int) := Int.natCast_nonneg _
  have s1 : (st : Int) < 1125899906842624 := by omega
  have HON : Hid (∀ wx, Below w2.heap.size w2 wx → Calls Try.prog 11 #[.pointer (some ⟨p, 0, none⟩), .int .u64 ((st : Int) + (dn : Int))] wx fun e w' => e = .returned (.int .u8 (g : Nat)) ∧ Below wx.heap.size wx w') := Lib.hid (fun wx hb => owner_to (HTb.out _ hb) (st + dn) (by omega) _ (by omega) _ HNX.out.2.1)
  clear hnx
  have HOG : Hid ((fr l).getD (st % tot l) 0 = (fr l).getD (st % tot l) 0) := Lib.hid rfl
  have HOW : Hid (owd l g st = owd l g st ∧ (if (fr l).getD (st % tot l) 0 = g then 1 else 0) = (if (fr l).getD (st % tot l) 0 = g then 1 else 0 : Nat)) := Lib.hid ⟨rfl, rfl⟩
  obtain ⟨og, hog⟩ : ∃ og, (fr l).getD (st % tot l) 0 = og := ⟨_, rfl⟩
  obtain ⟨ow, how⟩ : ∃ ow, owd l g st = ow := ⟨_, rfl⟩
  obtain ⟨q, hq⟩ : ∃ q : Nat, (if (fr l).getD (st % tot l) 0 = g then 1 else 0) = q := ⟨_, rfl⟩
  have HQ : Hid (q = if og = g then 1 else 0) := Lib.hid (by rw [← hq, hog])
  have HOG := Lib.hid hog
  have HOW := Lib.hid (And.intro how hq)
  have hol : ow ≤ st + 1024 := by
    rw [← how]
    unfold owd
    have h1 := Nat.le_trans (Nat.mul_le_mul_left (st / tot l) (cnt_le l g)) (Nat.div_mul_le_self st (tot l))
    have h2 := ahd_lep l g (st % tot l)
    have h3 := Nat.mod_lt st hpos
    omega
  have hql : q ≤ 1 := by rw [← hq]; split <;> omega
  clear hog how hq
  have HO1 : Hid (∀ wx, Below w2.heap.size w2 wx → Calls Try.prog 13 #[.pointer (some ⟨p, 0, none⟩), .int .u8 g, .int .u64 ((st : Int) + 1)] wx fun e w' => e = .returned (.int .u64 ((ow : Int) + (q : Int))) ∧ Below wx.heap.size wx w') := Lib.hid (fun wx hb => owned_to (HTb.out _ hb) g (st + 1) hg (by omega) _ (by omega) _ (by rw [owd_step hpos, HOW.out.1, HOW.out.2]; omega))
  have HO2 : Hid (∀ wx, Below w2.heap.size w2 wx → Calls Try.prog 13 #[.pointer (some ⟨p, 0, none⟩), .int .u8 g, .int .u64 (st : Int)] wx fun e w' => e = .returned (.int .u64 (ow : Int)) ∧ Below wx.heap.size wx w') := Lib.hid (fun wx hb => owned_to (HTb.out _ hb) g st hg (by omega) _ rfl _ (by rw [HOW.out.1]))
  have HOR : Hid (∀ wx, Below w2.heap.size w2 wx → Calls Try.prog 11 #[.pointer (some ⟨p, 0, none⟩), .int .u64 (st : Int)] wx fun e w' => e = .returned (.int .u8 (og : Nat)) ∧ Below wx.heap.size wx w') := Lib.hid (fun wx hb => owner_to (HTb.out _ hb) st (by omega) _ rfl _ HOG.out)
  have c1 : (0 : Int) ≤ (q : Int) := Int.natCast_nonneg _
  have c2 : (q : Int) ≤ 1 := by omega
  have o1 : (0 : Int) ≤ (ow : Int) := Int.natCast_nonneg _
  have v1 : IntKind.u64.wrap ((st : Int) + 1) = (st : Int) + 1 := by show ((st : Int) + 1) % 18446744073709551616 = _; omega
  have v2 : IntKind.u64.wrap ((ow : Int) + (q : Int) - (ow : Int)) = (q : Int) := by show ((ow : Int) + (q : Int) - (ow : Int)) % 18446744073709551616 = _; omega
  refine wp_region_calm (fun w' => w'.cell? ⟨C, 0, none⟩ = some (.int .u8 g)) (.e 0 :: .e 0 :: .e 0 :: .e 0 :: .l 0 :: .e 0 :: .e 0 :: .e 0 :: .e 0 :: .e 0 :: .e 0 :: .e 0 :: .e 0 :: .e 0 :: .e 0 :: .e 0 :: .e 0 :: .e 0 :: .l 0 :: .e 0 :: .e 0 :: .e 0 :: .e 0 :: .e 0 :: .e 1 :: .e 1 :: .l 0 :: .e 0 :: .e 0 :: .e 0 :: .e 0 :: []) (by kernel_rfl) (by kernel_rfl) (by kernel_rfl) (by kernel_rfl) ?_
  have hHeld := (HG.out _ H3.out.drew).1
  have H3d : Hid (Below w2.heap.size w2 w3.drew) := Lib.hid H3.out.drew
  repeat (first
    | (refine mv_take0 (v := ?_) (by rfl) hHeld ?_ ?_; rotate_left 1; (focus (intro w hSw; (try dsimp only at hSw); have hs0 := hSw; go_simp; (try with_reducible rfl); done)); (try simp only [Act.put, List.setIfInBounds_toArray, List.set_cons_zero, List.set_cons_succ]))
    | (refine mv_take1 (v := ?_) (by rfl) hHeld ?_ ?_; rotate_left 1; (focus (intro w hSw; (try dsimp only at hSw); have hs0 := hSw; go_simp; (try with_reducible rfl); done)); (try simp only [Act.put, List.setIfInBounds_toArray, List.set_cons_zero, List.set_cons_succ]))
    | (refine mv_loud0 (by rfl) (fun K hK => ?_)
       go_simp
       first
         | (go_at_call 10; refine (length_any (HTb.out _ H4.out)).mono ?_; rintro e w6 ⟨rfl, rfl⟩; refine hK.out _ _ hHeld ?_)
         | (go_at_call 11; refine (HON.out _ H4.out).mono ?_; rintro e w5 ⟨rfl, hz⟩; have H5 : Hid (Below w2.heap.size w2 w5) := Lib.hid (H4.out.trans (hz.mono H4.out.size)); clear hz; refine hK.out _ _ (HG.out _ H5.out).1 ?_; clear hHeld; have hHeld := (HG.out _ H5.out).1)
         | (go_at_call 12; refine (HBU.out _ H3d.out).mono ?_; rintro e w4 ⟨rfl, hz⟩; have H4 : Hid (Below w2.heap.size w2 w4) := Lib.hid (H3d.out.trans (hz.mono H3d.out.size)); clear hz; refine hK.out _ _ (HG.out _ H4.out).1 ?_; clear hHeld; have hHeld := (HG.out _ H4.out).1)
       (clear hK K; (try simp only [Act.put, List.setIfInBounds_toArray, List.set_cons_zero, List.set_cons_succ]))))
  refine mv_calm ?_
  clear hHeld
  go_wp2
  clear z1 z2 z3 z4 z5
  go_loopw [12] (fun s wr => ∃ j : Nat, j ≤ dn ∧ s = .int .u64 ((st : Int) + (j : Int)) ∧ Below w2.heap.size w2 wr) (fun s _ => dn - ((intOf s).toNat - st))
  case atStart => exact ⟨0, Nat.zero_le _, val_eq (by simp), H5.out⟩
  case round =>
    obtain ⟨j, hj, rfl, hst⟩ := hrel
    have HS := Lib.hid hst
    clear hst
    have j1 : (0 : Int) ≤ (j : Int) := Int.natCast_nonneg _
    by_cases hjt : j < dn
    · have j2 : (st : Int) + (j : Int) < (st : Int) + (dn : Int) := by omega
      have j3 : (st : Int) + (j : Int) < (st : Int) + 2000 := by omega
      have j4 : (j : Int) < (dn : Int) := by omega
      have HOJ0 := fun wx (hb : Below w2.heap.size w2 wx) => owner_to (HTb.out _ hb) (st + j) (by omega) ((st : Int) + (j : Int)) (by omega) _ rfl
      have hne := HNX.out.2.2 j hjt
      generalize (fr l).getD ((st + j) % tot l) 0 = gj at HOJ0 hne
      have HOJ := Lib.hid HOJ0
      have j5 : ((gj : Int) == (g : Int)) = false := beq_eq_false_iff_ne.2 (by omega)
      have HJ := Lib.hid hjt
      clear HOJ0 hne hjt
      go_wp2
      refine wp_region_calm (fun w' => w'.cell? ⟨C, 0, none⟩ = some (.int .u8 g)) (.e 0 :: .e 0 :: .e 1 :: .e 1 :: .l 0 :: .e 0 :: []) (by kernel_rfl) (by kernel_rfl) (by kernel_rfl) (by kernel_rfl) ?_
      have hHeld := (HG.out _ HS.out.drew).1
      have HSd : Hid (Below w2.heap.size w2 wr.drew) := Lib.hid HS.out.drew
      repeat (first
        | (refine mv_take0 (v := ?_) (by rfl) hHeld ?_ ?_; rotate_left 1; (focus (intro w hSw; (try dsimp only at hSw); have hs0 := hSw; go_simp; (try with_reducible rfl); done)); (try simp only [Act.put, List.setIfInBounds_toArray, List.set_cons_zero, List.set_cons_succ]))
        | (refine mv_take1 (v := ?_) (by rfl) hHeld ?_ ?_; rotate_left 1; (focus (intro w hSw; (try dsimp only at hSw); have hs0 := hSw; go_simp; (try with_reducible rfl); done)); (try simp only [Act.put, List.setIfInBounds_toArray, List.set_cons_zero, List.set_cons_succ]))
        | (refine mv_loud0 (by rfl) (fun K hK => ?_)
           go_simp
           (go_at_call 11; refine (HOJ.out _ HSd.out).mono ?_; rintro e w7 ⟨rfl, hz⟩; have H7 : Hid (Below w2.heap.size w2 w7) := Lib.hid (HSd.out.trans (hz.mono HSd.out.size)); clear hz; refine hK.out _ _ (HG.out _ H7.out).1 ?_; clear hHeld; have hHeld := (HG.out _ H7.out).1)
           (clear hK K; (try simp only [Act.put, List.setIfInBounds_toArray, List.set_cons_zero, List.set_cons_succ]))))
      refine mv_calm ?_
      clear hHeld
      go_wp2
      go_roundw
      case rel => exact ⟨j + 1, by have := HJ.out; omega, val_eq (by omega), H7.out⟩
      case measure => simp [intOf]; have := HJ.out; omega
    · have hjd : j = dn := by omega
      have j2 : ¬ (st : Int) + (j : Int) < (st : Int) + (dn : Int) := by omega
      have j3 : decide ((st : Int) + (j : Int) < (st : Int) + (dn : Int)) = false := decide_eq_false j2
      clear hjd hjt
      go_wp2
      clear j2 j3
      refine wp_region_calm (fun w' => w'.cell? ⟨C, 0, none⟩ = some (.int .u8 g)) (.e 0 :: .e 0 :: .e 0 :: .e 0 :: .e 0 :: .e 1 :: .e 1 :: .e 1 :: .e 1 :: .l 0 :: .l 0 :: .e 0 :: .e 0 :: []) (by kernel_rfl) (by kernel_rfl) (by kernel_rfl) (by kernel_rfl) ?_
      have hHeld := (HG.out _ HS.out.drew).1
      have HAd : Hid (Below w2.heap.size w2 wr.drew) := Lib.hid HS.out.drew
      repeat (first
        | (refine mv_take0 (v := ?_) (by rfl) hHeld ?_ ?_; rotate_left 1; (focus (intro w hSw; (try dsimp only at hSw); have hs0 := hSw; go_simp; (try with_reducible rfl); done)); (try simp only [Act.put, List.setIfInBounds_toArray, List.set_cons_zero, List.set_cons_succ]))
        | (refine mv_take1 (v := ?_) (by rfl) hHeld ?_ ?_; rotate_left 1; (focus (intro w hSw; (try dsimp only at hSw); have hs0 := hSw; go_simp; (try with_reducible rfl); done)); (try simp only [Act.put, List.setIfInBounds_toArray, List.set_cons_zero, List.set_cons_succ]))
        | (refine mv_loud0 (by rfl) (fun K hK => ?_)
           go_simp
           first
             | (go_at_call 13; have Hx := HB; refine (HO2.out _ HB.out).mono ?_; rintro e wc ⟨rfl, hz⟩; have HC : Hid (Below w2.heap.size w2 wc) := Lib.hid (HB.out.trans (hz.mono HB.out.size)); clear hz; refine hK.out _ _ (HG.out _ HC.out).1 ?_; clear hHeld; have hHeld := (HG.out _ HC.out).1)
             | (go_at_call 13; refine (HO1.out _ HAd.out).mono ?_; rintro e wb2 ⟨rfl, hz⟩; have HB : Hid (Below w2.heap.size w2 wb2) := Lib.hid (HAd.out.trans (hz.mono HAd.out.size)); clear hz; refine hK.out _ _ (HG.out _ HB.out).1 ?_; clear hHeld; have hHeld := (HG.out _ HB.out).1)
           (clear hK K; (try simp only [Act.put, List.setIfInBounds_toArray, List.set_cons_zero, List.set_cons_succ]))))
      refine mv_calm ?_
      clear hHeld
      go_wp2
      by_cases hog : og = g
      · have q1 : q = 1 := by rw [HQ.out, if_pos hog]
        have b1 : ((og : Int) == (g : Int)) = true := by simp [hog]
        subst q1
        clear hog
        refine wp_region_calm (fun w' => w'.cell? ⟨C, 0, none⟩ = some (.int .u8 g)) (.e 0 :: .e 0 :: .e 0 :: .e 0 :: .e 1 :: .e 1 :: .l 0 :: .e 0 :: .e 0 :: .e 0 :: .e 0 :: .e 0 :: .e 0 :: .e 0 :: .l 0 :: .e 0 :: .e 0 :: []) (by kernel_rfl) (by kernel_rfl) (by kernel_rfl) (by kernel_rfl) ?_
        have hHeld := (HG.out _ HC.out.drew).1
        have HCd : Hid (Below w2.heap.size w2 wc.drew) := Lib.hid HC.out.drew
        repeat (first
          | (refine mv_take0 (v := ?_) (by rfl) hHeld ?_ ?_; rotate_left 1; (focus (intro w hSw; (try dsimp only at hSw); have hs0 := hSw; go_simp; (try with_reducible rfl); done)); (try simp only [Act.put, List.setIfInBounds_toArray, List.set_cons_zero, List.set_cons_succ]))
          | (refine mv_take1 (v := ?_) (by rfl) hHeld ?_ ?_; rotate_left 1; (focus (intro w hSw; (try dsimp only at hSw); have hs0 := hSw; go_simp; (try with_reducible rfl); done)); (try simp only [Act.put, List.setIfInBounds_toArray, List.set_cons_zero, List.set_cons_succ]))
          | (refine mv_loud0 (by rfl) (fun K hK => ?_)
             go_simp
             first
               | (go_at_call 6; have Hx := HD; refine (awake_any _).mono ?_; rintro e we ⟨rfl, hz⟩; have HE : Hid (Below w2.heap.size w2 we) := Lib.hid (HD.out.trans (hz.mono HD.out.size)); clear hz; refine hK.out _ _ (HG.out _ HE.out).1 ?_; clear hHeld; have hHeld := (HG.out _ HE.out).1)
               | (go_at_call 11; refine (HOR.out _ HCd.out).mono ?_; rintro e wd ⟨rfl, hz⟩; have HD : Hid (Below w2.heap.size w2 wd) := Lib.hid (HCd.out.trans (hz.mono HCd.out.size)); clear hz; refine hK.out _ _ (HG.out _ HD.out).1 ?_; clear hHeld; have hHeld := (HG.out _ HD.out).1)
             (clear hK K; (try simp only [Act.put, List.setIfInBounds_toArray, List.set_cons_zero, List.set_cons_succ]))))
        refine mv_calm ?_
        go_wp2
        go_ret
        exact ⟨rfl, H2.out.trans (HE.out.mono H2.out.size)⟩
      · have q0 : q = 0 := by rw [HQ.out, if_neg hog]
        have b1 : ((og : Int) == (g : Int)) = false := beq_eq_false_iff_ne.2 (by omega)
        subst q0
        clear hog
        refine wp_region_calm (fun w' => w'.cell? ⟨C, 0, none⟩ = some (.int .u8 g)) (.e 0 :: .e 0 :: .e 0 :: .e 0 :: .e 1 :: .e 1 :: .l 0 :: .e 0 :: .e 0 :: .e 0 :: .e 0 :: .e 0 :: .e 0 :: .e 0 :: .l 0 :: .e 0 :: .e 0 :: []) (by kernel_rfl) (by kernel_rfl) (by kernel_rfl) (by kernel_rfl) ?_
        have hHeld := (HG.out _ HC.out.drew).1
        have HCd : Hid (Below w2.heap.size w2 wc.drew) := Lib.hid HC.out.drew
        repeat (first
          | (refine mv_take0 (v := ?_) (by rfl) hHeld ?_ ?_; rotate_left 1; (focus (intro w hSw; (try dsimp only at hSw); have hs0 := hSw; go_simp; (try with_reducible rfl); done)); (try simp only [Act.put, List.setIfInBounds_toArray, List.set_cons_zero, List.set_cons_succ]))
          | (refine mv_take1 (v := ?_) (by rfl) hHeld ?_ ?_; rotate_left 1; (focus (intro w hSw; (try dsimp only at hSw); have hs0 := hSw; go_simp; (try with_reducible rfl); done)); (try simp only [Act.put, List.setIfInBounds_toArray, List.set_cons_zero, List.set_cons_succ]))
          | (refine mv_loud0 (by rfl) (fun K hK => ?_)
             go_simp
             first
               | (go_at_call 6; have Hx := HD; refine (awake_any _).mono ?_; rintro e we ⟨rfl, hz⟩; have HE : Hid (Below w2.heap.size w2 we) := Lib.hid (HD.out.trans (hz.mono HD.out.size)); clear hz; refine hK.out _ _ (HG.out _ HE.out).1 ?_; clear hHeld; have hHeld := (HG.out _ HE.out).1)
               | (go_at_call 11; refine (HOR.out _ HCd.out).mono ?_; rintro e wd ⟨rfl, hz⟩; have HD : Hid (Below w2.heap.size w2 wd) := Lib.hid (HCd.out.trans (hz.mono HCd.out.size)); clear hz; refine hK.out _ _ (HG.out _ HD.out).1 ?_; clear hHeld; have hHeld := (HG.out _ HD.out).1)
             (clear hK K; (try simp only [Act.put, List.setIfInBounds_toArray, List.set_cons_zero, List.set_cons_succ]))))
        refine mv_calm ?_
        go_wp2
        go_ret
        exact ⟨rfl, H2.out.trans (HE.out.mono H2.out.size)⟩
      
theorem next_law (G : Int) (g zf : Nat) (hg : g < 256) (a : Option Addr) (n cap : Nat) (l : List Win) (w : World) (hG1 : -9223372036854775808 ≤ G) (hG2 : G ≤ 9223372036854775807) (hf : IsWins w a n l) : Calls Try.prog 5 #[.slice a n cap, .int .i64 G, .agg #[.int .u8 g, .int .u64 zf]] w (Yes w) := by
  by_cases hn : 60 < n
  · exact fn_long G g zf a n cap w hn
  · by_cases hc : chk G l = 0
    · obtain ⟨f, hk⟩ : ∃ f, l[0]? = some f := ⟨_, List.getElem?_eq_getElem (chk_good hc).n1⟩
      obtain ⟨_, b, off, rfl, _⟩ := win_at hf hk
      by_cases h0 : cnt l g = 0
      · exact fn_no G g zf hg b off n cap l w hG1 hG2 hn hf hc h0
      · exact fn_ok G g zf hg b off n cap l w hG1 hG2 hn hf hc h0
    · exact fn_bad G g zf a n cap l w hG1 hG2 hn hf hc
end Go.Proofs.Ytnfnhhphoiebbaa
