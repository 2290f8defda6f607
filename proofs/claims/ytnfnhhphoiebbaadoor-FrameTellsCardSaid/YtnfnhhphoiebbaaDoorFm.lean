/- Budget, Owned: how many steps are a guest's. -/
import Derived.Test.YtnfnhhphoiebbaaDoorFl
set_option linter.unusedVariables false
set_option linter.unusedSimpArgs false
namespace Go.Proofs.YtnfnhhphoiebbaaDoor
open Go.RowKit Go.Shelf
section
variable {w w' : World} {p wb wc bb bo bc : Nat} {l : List Win}
theorem budget_any (hq : Tb w p wb wc bb bo bc l) (g : Nat) (hg : g < 256) : Calls Tryd.prog 15 #[.pointer (some ⟨p, 0, none⟩), .int .u8 g] w fun e w' => e = .returned (.int .u64 (cnt l g : Nat)) ∧ Below w.heap.size w w' := by
  have HL := Lib.hid (length_any hq)
  have HA := Lib.hid (ahead_any hq g (tot l) hg hq.top)
  rw [ahd_all] at HA
  clear hq
  go_enter Tryd.func15, Tryd.ntmps15
  go_wp2_with (first
    | (go_at_call 9; refine HL.out.mono ?_; rintro e w' ⟨rfl, rfl⟩)
    | (go_at_call 29; refine HA.out.mono ?_; rintro e w' ⟨rfl, hb⟩))
  go_ret
  exact ⟨rfl, hb⟩
/-- Steps ahead of one that are a guest's. -/
def owd (l : List Win) (g st : Nat) : Nat := st / tot l * cnt l g + ahd l g (st % tot l)
theorem owned_any (hq : Tb w p wb wc bb bo bc l) (g st : Nat) (hg : g < 256) (hst : st < 1152921504606846976) : Calls Tryd.prog 17 #[.pointer (some ⟨p, 0, none⟩), .int .u8 g, .int .u64 st] w fun e w' => e = .returned (.int .u64 (owd l g st : Nat)) ∧ Below w.heap.size w w' := by
  have c2 : w.cell? ⟨p, 2, none⟩ = some (.int .u64 (tot l)) := hq.box.read 2
  have t1 : (0 : Int) < (tot l : Int) := by have := hq.pos; omega
  have t2 : (tot l : Int) ≤ 1024 := by have := hq.top; omega
  have t3 : ((tot l : Int) == 0) = false := beq_eq_false_iff_ne.2 (by omega)
  have HM := Lib.hid (made_any hq)
  have HQ := Lib.hid hq
  clear hq
  go_enter Tryd.func17, Tryd.ntmps17
  go_wp2_with (go_at_call 24; refine HM.out.mono ?_; rintro e w' ⟨rfl, rfl⟩)
  have hdv : (st : Int) / (tot l : Int) = ((st / tot l : Nat) : Int) := rfl
  have hmt : (st : Int).tmod (tot l : Int) = ((st % tot l : Nat) : Int) := rfl
  have hmd : (st : Int) % (tot l : Int) = ((st % tot l : Nat) : Int) := rfl
  have hmp : st % tot l < tot l := Nat.mod_lt _ HQ.out.pos
  have hml : st / tot l * cnt l g ≤ st := Nat.le_trans (Nat.mul_le_mul_left _ (cnt_le l g)) (Nat.div_mul_le_self st (tot l))
  have hal := ahd_lep l g (st % tot l)
  have hqs : st / tot l ≤ st := Nat.div_le_self _ _
  have HO : Hid (owd l g st = st / tot l * cnt l g + ahd l g (st % tot l)) := Lib.hid rfl
  have HA := Lib.hid (fun wx (hb : Below w.heap.size w wx) => ahead_any (HQ.out.over hb (Nat.le_refl _)) g (st % tot l) hg (by have := HQ.out.top; omega))
  have HB := Lib.hid (fun wx (hb : Below w.heap.size w wx) => budget_any (HQ.out.over hb (Nat.le_refl _)) g hg)
  generalize st / tot l = qn at hdv hml hqs HO
  generalize ahd l g (st % tot l) = an at hal HO HA
  generalize st % tot l = rn at hmd hmt hmp hal HO HA
  generalize cnt l g = cn at hml HO HB
  have hcast : ((qn * cn : Nat) : Int) = (qn : Int) * (cn : Int) := Int.natCast_mul qn cn
  have m0 : (0 : Int) ≤ (qn : Int) * (cn : Int) := by omega
  have m1 : (qn : Int) * (cn : Int) < 1152921504606846976 := by omega
  have w1 : IntKind.u64.wrap (qn : Int) = (qn : Int) := by
    have : qn ≤ st := hqs
    show (qn : Int) % 18446744073709551616 = _
    omega
  have w2 : IntKind.u64.wrap ((qn : Int) * (cn : Int)) = (qn : Int) * (cn : Int) := by
    show ((qn : Int) * (cn : Int)) % 18446744073709551616 = _
    omega
  have w3 : IntKind.u64.wrap ((qn : Int) * (cn : Int) + (an : Int)) = (qn : Int) * (cn : Int) + (an : Int) := by
    show ((qn : Int) * (cn : Int) + (an : Int)) % 18446744073709551616 = _
    have := HQ.out.top
    omega
  have w4 : IntKind.u64.wrap (rn : Int) = (rn : Int) := by
    show (rn : Int) % 18446744073709551616 = _
    have := HQ.out.top
    omega
  have a0 : (0 : Int) ≤ (an : Int) := Int.natCast_nonneg _
  have a1 : (an : Int) ≤ 1024 := by have := HQ.out.top; omega
  have t4 : ¬ ((tot l : Int) = 0) := by omega
  generalize htt : (tot l : Int) = tt at t1 t2 t3 t4 c2 hdv hmd hmt ⊢
  clear htt
  have H0 : Hid (Below w.heap.size w w.drew) := Lib.hid (Below.refl _ _).drew
  have LC := Lib.hid (fun wx (hb : Below w.heap.size w wx) => (hb.cell (p := ⟨p, 2, none⟩) HQ.out.box.inHeap).trans c2)
  refine wp_region_calm (fun w' => w'.cell? ⟨p, 2, none⟩ = some (.int .u64 tt)) (.e 0 :: .e 0 :: .e 0 :: .e 0 :: .e 0 :: .e 0 :: .e 0 :: .e 0 :: .e 2 :: .e 2 :: .e 2 :: .e 2 :: .e 2 :: .e 2 :: .e 2 :: .e 2 :: .l 0 :: .e 0 :: .l 0 :: .e 0 :: .e 0 :: []) (by kernel_rfl) (by kernel_rfl) (by kernel_rfl) (by kernel_rfl) ?_
  have hHeld : w.drew.cell? ⟨p, 2, none⟩ = some (.int .u64 tt) := LC.out _ H0.out
  clear c2 hml hal hmp hcast hqs
  repeat (first
    | (refine mv_take0 (v := ?_) (by rfl) hHeld ?_ ?_; rotate_left 1; (focus (intro w hSw; (try dsimp only at hSw); have hs0 := hSw; go_simp; (try with_reducible rfl); done)); (try simp only [Act.put, List.setIfInBounds_toArray, List.set_cons_zero, List.set_cons_succ]))
    | (refine mv_take2 (v := ?_) (by rfl) hHeld ?_ ?_; rotate_left 1; (focus (intro w hSw; (try dsimp only at hSw); have hs0 := hSw; go_simp; (try with_reducible rfl); done)); (try simp only [Act.put, List.setIfInBounds_toArray, List.set_cons_zero, List.set_cons_succ]))
    | (refine mv_loud0 (by rfl) (fun K hK => ?_)
       go_simp
       first
         | (go_at_call 29; have Hx := H1; refine (HA.out _ H1.out).mono ?_; rintro e w6 ⟨rfl, hz⟩; have H2 : Hid (Below w.heap.size w w6) := Lib.hid (H1.out.trans (hz.mono H1.out.size)); clear hz; refine hK.out _ _ (LC.out _ H2.out) ?_; clear hHeld; have hHeld := LC.out _ H2.out)
         | (go_at_call 15; refine (HB.out _ H0.out).mono ?_; rintro e w5 ⟨rfl, hz⟩; have H1 : Hid (Below w.heap.size w w5) := Lib.hid (H0.out.trans (hz.mono H0.out.size)); clear hz; refine hK.out _ _ (LC.out _ H1.out) ?_; clear hHeld; have hHeld := LC.out _ H1.out)
       clear hK K
       (try simp only [Act.put, List.setIfInBounds_toArray, List.set_cons_zero, List.set_cons_succ])))
  refine mv_calm ?_
  go_wp2
  go_ret
  have hfin : ((owd l g st : Nat) : Int) = (qn : Int) * (cn : Int) + (an : Int) := by rw [HO.out, Int.natCast_add, Int.natCast_mul]
  exact ⟨ret_eq hfin.symm, H2.out⟩
end
end Go.Proofs.YtnfnhhphoiebbaaDoor
