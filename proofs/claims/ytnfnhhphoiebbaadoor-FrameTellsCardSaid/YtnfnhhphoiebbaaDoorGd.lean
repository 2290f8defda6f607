/- The program's Owned and Next, of any step. -/
import Derived.Test.YtnfnhhphoiebbaaDoorGc
set_option linter.unusedVariables false
set_option linter.unusedSimpArgs false
namespace Go.Proofs.YtnfnhhphoiebbaaDoor
open Go.RowKit
section
variable {w w' : World} {p wb wc bb bo bc : Nat} {l : List Win}
theorem owned_all (hq : Tb w p wb wc bb bo bc l) (g st : Nat) (hg : g < 256) (hst : st < 18446744073709551616) : Calls Tryd.prog 17 #[.pointer (some ⟨p, 0, none⟩), .int .u8 g, .int .u64 st] w fun e w' => e = .returned (.int .u64 (owd l g st : Nat)) ∧ Below w.heap.size w w' := by
  have c2 : w.cell? ⟨p, 2, none⟩ = some (.int .u64 (tot l)) := hq.box.read 2
  have t1 : (0 : Int) < (tot l : Int) := by have := hq.pos; omega
  have t2 : (tot l : Int) ≤ 1024 := by have := hq.top; omega
  have t3 : ((tot l : Int) == 0) = false := beq_eq_false_iff_ne.2 (by omega)
  have HM := Lib.hid (made_any hq)
  have HQ := Lib.hid hq
  clear hq
  go_enter Tryd.func17, Tryd.ntmps17
  go_wp2_with (go_at_call 24; refine HM.out.mono ?_; rintro e w' ⟨rfl, rfl⟩)
  have hdv : (st : Int) / (tot l : Int) = ((st / tot l : Nat) : Int) := rfl
  have hmt : (st : Int).tmod (tot l : Int) = ((st % tot l : Nat) : Int) := rfl
  have hmd : (st : Int) % (tot l : Int) = ((st % tot l : Nat) : Int) := rfl
  have hmp : st % tot l < tot l := Nat.mod_lt _ HQ.out.pos
  have hml : st / tot l * cnt l g ≤ st := Nat.le_trans (Nat.mul_le_mul_left _ (cnt_le l g)) (Nat.div_mul_le_self st (tot l))
  have hal := ahd_lep l g (st % tot l)
  have hqs : st / tot l ≤ st := Nat.div_le_self _ _
  have hsum : st / tot l * cnt l g + ahd l g (st % tot l) ≤ st := by
    have h1 : st / tot l * cnt l g ≤ tot l * (st / tot l) := by rw [Nat.mul_comm (tot l)]; exact Nat.mul_le_mul_left _ (cnt_le l g)
    have h2 := Nat.div_add_mod st (tot l)
    omega
  have HO : Hid (owd l g st = st / tot l * cnt l g + ahd l g (st % tot l)) := Lib.hid rfl
  have HA := Lib.hid (fun wx (hb : Below w.heap.size w wx) => ahead_any (HQ.out.over hb (Nat.le_refl _)) g (st % tot l) hg (by have := HQ.out.top; omega))
  have HB := Lib.hid (fun wx (hb : Below w.heap.size w wx) => budget_any (HQ.out.over hb (Nat.le_refl _)) g hg)
  generalize st / tot l = qn at hdv hml hqs hsum HO
  generalize ahd l g (st % tot l) = an at hal hsum HO HA
  generalize st % tot l = rn at hmd hmt hmp hal HO HA
  generalize cnt l g = cn at hml hsum HO HB
  have hcast : ((qn * cn : Nat) : Int) = (qn : Int) * (cn : Int) := Int.natCast_mul qn cn
  have m0 : (0 : Int) ≤ (qn : Int) * (cn : Int) := by omega
  have m1 : (qn : Int) * (cn : Int) + (an : Int) < 18446744073709551616 := by omega
  have w1 : IntKind.u64.wrap (qn : Int) = (qn : Int) := by
    have : qn ≤ st := hqs
    show (qn : Int) % 18446744073709551616 = _
    omega
  have w2 : IntKind.u64.wrap ((qn : Int) * (cn : Int)) = (qn : Int) * (cn : Int) := by
    show ((qn : Int) * (cn : Int)) % 18446744073709551616 = _
    have := Int.natCast_nonneg an
    omega
  have w3 : IntKind.u64.wrap ((qn : Int) * (cn : Int) + (an : Int)) = (qn : Int) * (cn : Int) + (an : Int) := by
    show ((qn : Int) * (cn : Int) + (an : Int)) % 18446744073709551616 = _
    have := HQ.out.top
    omega
  have w4 : IntKind.u64.wrap (rn : Int) = (rn : Int) := by
    show (rn : Int) % 18446744073709551616 = _
    have := HQ.out.top
    omega
  have a0 : (0 : Int) ≤ (an : Int) := Int.natCast_nonneg _
  have a1 : (an : Int) ≤ 1024 := by have := HQ.out.top; omega
  have t4 : ¬ ((tot l : Int) = 0) := by omega
  generalize htt : (tot l : Int) = tt at t1 t2 t3 t4 c2 hdv hmd hmt ⊢
  clear htt
  have H0 : Hid (Below w.heap.size w w.drew) := Lib.hid (Below.refl _ _).drew
  have LC := Lib.hid (fun wx (hb : Below w.heap.size w wx) => (hb.cell (p := ⟨p, 2, none⟩) HQ.out.box.inHeap).trans c2)
  refine wp_region_calm (fun w' => w'.cell? ⟨p, 2, none⟩ = some (.int .u64 tt)) (.e 0 :: .e 0 :: .e 0 :: .e 0 :: .e 0 :: .e 0 :: .e 0 :: .e 0 :: .e 2 :: .e 2 :: .e 2 :: .e 2 :: .e 2 :: .e 2 :: .e 2 :: .e 2 :: .l 0 :: .e 0 :: .l 0 :: .e 0 :: .e 0 :: []) (by kernel_rfl) (by kernel_rfl) (by kernel_rfl) (by kernel_rfl) ?_
  have hHeld : w.drew.cell? ⟨p, 2, none⟩ = some (.int .u64 tt) := LC.out _ H0.out
  clear c2 hml hal hmp hcast hqs hsum m1
  repeat (first
    | (refine mv_take0 (v := ?_) (by rfl) hHeld ?_ ?_; rotate_left 1; (focus (intro w hSw; (try dsimp only at hSw); have hs0 := hSw; go_simp; (try with_reducible rfl); done)); (try simp only [Act.put, List.setIfInBounds_toArray, List.set_cons_zero, List.set_cons_succ]))
    | (refine mv_take2 (v := ?_) (by rfl) hHeld ?_ ?_; rotate_left 1; (focus (intro w hSw; (try dsimp only at hSw); have hs0 := hSw; go_simp; (try with_reducible rfl); done)); (try simp only [Act.put, List.setIfInBounds_toArray, List.set_cons_zero, List.set_cons_succ]))
    | (refine mv_loud0 (by rfl) (fun K hK => ?_)
       go_simp
       first
         | (go_at_call 29; have Hx := H1; refine (HA.out _ H1.out).mono ?_; rintro e w6 ⟨rfl, hz⟩; have H2 : Hid (Below w.heap.size w w6) := Lib.hid (H1.out.trans (hz.mono H1.out.size)); clear hz; refine hK.out _ _ (LC.out _ H2.out) ?_; clear hHeld; have hHeld := LC.out _ H2.out)
         | (go_at_call 15; refine (HB.out _ H0.out).mono ?_; rintro e w5 ⟨rfl, hz⟩; have H1 : Hid (Below w.heap.size w w5) := Lib.hid (H0.out.trans (hz.mono H0.out.size)); clear hz; refine hK.out _ _ (LC.out _ H1.out) ?_; clear hHeld; have hHeld := LC.out _ H1.out)
       clear hK K
       (try simp only [Act.put, List.setIfInBounds_toArray, List.set_cons_zero, List.set_cons_succ])))
  refine mv_calm ?_
  go_wp2
  go_ret
  have hfin : ((owd l g st : Nat) : Int) = (qn : Int) * (cn : Int) + (an : Int) := by rw [HO.out, Int.natCast_add, Int.natCast_mul]
  exact ⟨ret_eq hfin.symm, H2.out⟩
theorem next_all (hq : Tb w p wb wc bb bo bc l) (hp : ∀ v ∈ l, 0 < v.2) (g st : Nat) (hg : g < 256) (hst : st < 18446744073709551616) : Calls Tryd.prog 12 #[.pointer (some ⟨p, 0, none⟩), .int .u8 g, .int .u64 st] w fun e w' => ∃ v, NxA l g st v ∧ e = .returned v ∧ Below w.heap.size w w' := by
  by_cases hc : cnt l g = 0
  · exact (next_no hq g st hg hc).mono fun e w' ⟨h1, h2⟩ => ⟨_, .inl ⟨hc, rfl⟩, h1, h2⟩
  have c2 : w.cell? ⟨p, 2, none⟩ = some (.int .u64 (tot l)) := hq.box.read 2
  have t1 : (0 : Int) < (tot l : Int) := by have := hq.pos; omega
  have t2 : (tot l : Int) ≤ 1024 := by have := hq.top; omega
  have t3 : ((tot l : Int) == 0) = false := beq_eq_false_iff_ne.2 (by omega)
  have HQ := Lib.hid hq
  have HB := Lib.hid (budget_any hq g hg)
  have e0 : ((cnt l g : Int) == 0) = false := beq_eq_false_iff_ne.2 (by omega)
  have hmd : (st : Int) % (tot l : Int) = ((st % tot l : Nat) : Int) := rfl
  have hmp : st % tot l < tot l := Nat.mod_lt _ hq.pos
  have hmq : st % tot l ≤ 1024 := by have := hq.top; omega
  have LC := Lib.hid (fun wx (hb : Below w.heap.size w wx) => (hb.cell (p := ⟨p, 2, none⟩) hq.box.inHeap).trans c2)
  have r0 : (0 : Int) ≤ ((st % tot l : Nat) : Int) := Int.natCast_nonneg _
  have r1 : ((st % tot l : Nat) : Int) < (tot l : Int) := by omega
  have hx := xor_not st (by omega)
  have hxc : ((18446744073709551615 - st : Nat) : Int) = 18446744073709551615 - (st : Int) := by omega
  rw [hxc] at hx
  clear hxc
  cases hd : awayF g l 0 (st % tot l) with
  | some d =>
    have hN := nxt_some hp hq.pos hd
    have HA := Lib.hid (fun wx (hb : Below w.heap.size w wx) => away_to (HQ.out.over hb (Nat.le_refl _)) g (st % tot l) hg hmq _ hmd _ hd)
    have HN := Lib.hid hN
    have hdl : (d : Int) < (tot l : Int) := by have := hN.1; omega
    have hd0 : (0 : Int) ≤ (d : Int) := Int.natCast_nonneg _
    clear hq hd hc hN hmd hmp hmq
    by_cases hov : st + d < 18446744073709551616
    · have hv1 : (st : Int) + (d : Int) < 18446744073709551616 := by omega
      have hv2 : decide ((18446744073709551615 : Int) - (st : Int) < (d : Int)) = false := decide_eq_false (by omega)
      have hv3 : IntKind.u64.wrap ((st : Int) + (d : Int)) = (st : Int) + (d : Int) := by
        show ((st : Int) + (d : Int)) % 18446744073709551616 = _
        omega
      have HV := Lib.hid hov
      clear hov
      go_enter Tryd.func12, Tryd.ntmps12
      go_wp2_with (first
        | (go_at_call 28; have Hx := H1; refine (HA.out _ H1.out).mono ?_; rintro e w2 ⟨rfl, hb⟩; have H2 := Lib.hid (H1.out.trans (hb.mono H1.out.size)); clear hb; unfold awayV; have c4 := LC.out _ H2.out)
        | (go_at_call 15; refine HB.out.mono ?_; rintro e w1 ⟨rfl, hb⟩; have H1 := Lib.hid hb; clear hb; have c3 := LC.out _ H1.out))
      go_ret2
      exact ⟨_, .inr ⟨d, HN.out, .inl ⟨HV.out, rfl⟩⟩, rfl, H2.out⟩
    · have hv1 : decide ((18446744073709551615 : Int) - (st : Int) < (d : Int)) = true := decide_eq_true (by omega)
      have HV := Lib.hid hov
      clear hov
      go_enter Tryd.func12, Tryd.ntmps12
      go_wp2_with (first
        | (go_at_call 28; have Hx := H1; refine (HA.out _ H1.out).mono ?_; rintro e w2 ⟨rfl, hb⟩; have H2 := Lib.hid (H1.out.trans (hb.mono H1.out.size)); clear hb; unfold awayV; have c4 := LC.out _ H2.out)
        | (go_at_call 15; refine HB.out.mono ?_; rintro e w1 ⟨rfl, hb⟩; have H1 := Lib.hid hb; clear hb; have c3 := LC.out _ H1.out))
      go_ret2
      exact ⟨_, .inr ⟨d, HN.out, .inr ⟨HV.out, rfl⟩⟩, rfl, H2.out⟩
  | none =>
    obtain ⟨f, hf⟩ := awayF_has (g := g) (l := l) (by omega)
    have hN := nxt_none hp hq.pos hd hf
    have HA := Lib.hid (fun wx (hb : Below w.heap.size w wx) => away_to (HQ.out.over hb (Nat.le_refl _)) g (st % tot l) hg hmq _ hmd _ hd)
    have HA0 := Lib.hid (fun wx (hb : Below w.heap.size w wx) => away_to (HQ.out.over hb (Nat.le_refl _)) g 0 hg (by omega) 0 rfl _ hf)
    have HN := Lib.hid hN
    have hdl : ((tot l - st % tot l + f : Nat) : Int) < (tot l : Int) := by have := hN.1; omega
    have hd0 : ((tot l - st % tot l + f : Nat) : Int) = (tot l : Int) - ((st % tot l : Nat) : Int) + (f : Int) := by omega
    have hf0 : (0 : Int) ≤ (f : Int) := Int.natCast_nonneg _
    rw [← hmd] at r0 r1 hd0
    have HD := Lib.hid hd0
    rw [hd0] at hdl
    clear hq hd hc hN hmp hmq hf hd0 hmd
    generalize hdd : (tot l - st % tot l + f : Nat) = dn at HD HN
    clear hdd
    by_cases hov : st + dn < 18446744073709551616
    · have hv1 : (st : Int) + ((tot l : Int) - (st : Int) % (tot l : Int) + (f : Int)) < 18446744073709551616 := by have := HD.out; omega
      have hv2 : decide ((18446744073709551615 : Int) - (st : Int) < (tot l : Int) - (st : Int) % (tot l : Int) + (f : Int)) = false := decide_eq_false (by omega)
      have hv3 : IntKind.u64.wrap ((st : Int) + ((tot l : Int) - (st : Int) % (tot l : Int) + (f : Int))) = (st : Int) + ((tot l : Int) - (st : Int) % (tot l : Int) + (f : Int)) := by
        show ((st : Int) + ((tot l : Int) - (st : Int) % (tot l : Int) + (f : Int))) % 18446744073709551616 = _
        omega
      have HV := Lib.hid hov
      clear hov
      go_enter Tryd.func12, Tryd.ntmps12
      go_wp2_with (first
        | (go_at_call 28; have Hx := H2; refine (HA0.out _ H2.out).mono ?_; rintro e w3 ⟨rfl, hb⟩; have H3 := Lib.hid (H2.out.trans (hb.mono H2.out.size)); clear hb; unfold awayV; have c5 := LC.out _ H3.out)
        | (go_at_call 28; have Hx := H1; refine (HA.out _ H1.out).mono ?_; rintro e w2 ⟨rfl, hb⟩; have H2 := Lib.hid (H1.out.trans (hb.mono H1.out.size)); clear hb; unfold awayV; have c4 := LC.out _ H2.out)
        | (go_at_call 15; refine HB.out.mono ?_; rintro e w1 ⟨rfl, hb⟩; have H1 := Lib.hid hb; clear hb; have c3 := LC.out _ H1.out))
      have hz : ((st + dn : Nat) : Int) = (st : Int) + ((tot l : Int) - (st : Int) % (tot l : Int) + (f : Int)) := by rw [Int.natCast_add, HD.out]
      go_ret2
      refine ⟨_, .inr ⟨dn, HN.out, .inl ⟨HV.out, rfl⟩⟩, ?_, H3.out⟩
      rw [hz]
      rfl
    · have hv1 : decide ((18446744073709551615 : Int) - (st : Int) < (tot l : Int) - (st : Int) % (tot l : Int) + (f : Int)) = true := decide_eq_true (by have := HD.out; omega)
      have HV := Lib.hid hov
      clear hov
      go_enter Tryd.func12, Tryd.ntmps12
      go_wp2_with (first
        | (go_at_call 28; have Hx := H2; refine (HA0.out _ H2.out).mono ?_; rintro e w3 ⟨rfl, hb⟩; have H3 := Lib.hid (H2.out.trans (hb.mono H2.out.size)); clear hb; unfold awayV; have c5 := LC.out _ H3.out)
        | (go_at_call 28; have Hx := H1; refine (HA.out _ H1.out).mono ?_; rintro e w2 ⟨rfl, hb⟩; have H2 := Lib.hid (H1.out.trans (hb.mono H1.out.size)); clear hb; unfold awayV; have c4 := LC.out _ H2.out)
        | (go_at_call 15; refine HB.out.mono ?_; rintro e w1 ⟨rfl, hb⟩; have H1 := Lib.hid hb; clear hb; have c3 := LC.out _ H1.out))
      go_ret2
      exact ⟨_, .inr ⟨dn, HN.out, .inr ⟨HV.out, rfl⟩⟩, rfl, H3.out⟩
end
end Go.Proofs.YtnfnhhphoiebbaaDoor
