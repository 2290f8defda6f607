/- HealthPlays' body. -/
import Derived.Test.YtidkbclhjgmhjaaDoorO
set_option linter.unusedVariables false
set_option linter.unusedSimpArgs false
namespace Go.Proofs.YtidkbclhjgmhjaaDoor
open Go.RowKit
section
variable {T : Nat → Int} {pg li rs : Int}
set_option maxHeartbeats 12800000 in
set_option maxRecDepth 200000 in
theorem law_good (hT : ∀ k, k < 17 → T k < 5) (h0 : 0 ≤ rs) (h1 : rs ≤ 255) (a0 : Option Addr) (len cap : Nat) (hl : len ≤ 200) (w : World) (hN : Nums itS w)
    (hc : ∀ i, i < len → ∃ (b off f : Nat), a0 = some ⟨b, off, none⟩ ∧ b < w.heap.size ∧ w.cell? ⟨b, off + i, none⟩ = some (.int .u8 f) ∧ f < 256) :
    Calls Tryd.prog 3 #[.agg (guest T pg li rs), .slice a0 len cap] w (Yes w) := by
  have hB : Box (w.alloc (.cells (guest T pg li rs) 25)) w.heap.size 25 (guest T pg li rs) := Box.made _ _ _
  have HC := Lib.hid hc
  have HNU := Lib.hid hN
  clear hc hN
  go_enter Tryd.func3, Tryd.ntmps3
  go_wp2_with (refine wpList_load_row rfl 25 (.tmp 2) rfl w.heap.size rfl 25 (guest T pg li rs) (0, 0) _ ?_ Tryd.underlying25 rfl size_guest ?_; exact hB)
  refine (new_ok hT _).mono ?_
  rintro e w1 ⟨B, rfl, hB1, b1, d1⟩
  have g1 : Box w1 w.heap.size 25 (guest T pg li rs) := hB.over d1 (by simp)
  go_wp2_with (refine wpList_load_row rfl 25 (.tmp 2) rfl w.heap.size rfl 25 (guest T pg li rs) (0, 0) _ ?_ Tryd.underlying25 rfl size_guest ?_; exact g1)
  refine (dnew_ok hT _).mono ?_
  rintro e w2 ⟨C, rfl, hB2, b2, d2⟩
  have g2 : Box w2 w.heap.size 25 (guest T pg li rs) := g1.over d2 g1.inHeap
  go_wp2_with (refine wpList_unguard (by rfl) ?_; refine wpList_load_row rfl 25 (.tmp 2) rfl w.heap.size rfl 25 (guest T pg li rs) (0, 0) _ ?_ Tryd.underlying25 rfl size_guest ?_; exact g2)
  refine (check_ok hT _).mono ?_
  rintro e w3 ⟨rfl, hw3⟩
  have d3 : Below w2.heap.size w2 w3 := hw3 ▸ (Below.refl _ _).alloc (Nat.le_refl _) _
  have hS : Bt w w3 B C T pg li rs 0 0 false [] 0 false := by
    have s1 := d1.size
    have s2 := d2.size
    have i1 := b1.inHeap
    simp at s1 hB1
    exact ⟨fun k => k = C, .slice none 0 0, (b1.over d2 i1).over d3 (by omega), ⟨b2.over d3 b2.inHeap, Lane.nil _ _, rfl, fun k h => by cases h⟩, (by show ¬ B = C; omega), by omega, (fun k h => by subst h; omega), ((((Below.refl _ _).alloc (Nat.le_refl _) _).trans (d1.mono (by simp))).trans (d2.mono (by omega))).trans (d3.mono (by omega))⟩
  clear hw3 b1 b2 d1 d2 d3 g1 g2 hB hB1 hB2
  go_wp2_with fail
  go_loopw [9] (fun i wr => ∃ (k : Nat) (re : Int) (ha : Bool) (R : List Int), k ≤ len ∧ i = .int .i64 k ∧ 0 ≤ re ∧ re ≤ rs ∧ (∀ x ∈ R, x < 5) ∧ R.length ≤ k ∧ Bt w wr B C T pg li rs (pendH R ha) re ha R re ha) (fun i _ => len - (intOf i).toNat)
  case atStart => exact ⟨0, 0, false, [], by omega, rfl, by omega, h0, (fun x hx => nomatch hx), Nat.zero_le _, hS⟩
  case round =>
    obtain ⟨k, re, ha, R, hk, rfl, hr0, hr1, hR, hRl, hst⟩ := hrel
    clear hS
    have k1 : (0 : Int) ≤ (k : Int) := Int.natCast_nonneg _
    by_cases hlt : k < len
    · obtain ⟨b, off, f, rfl, hbb, hcell, hf⟩ := HC.out k hlt
      have LA : Hid (∀ wx, Below w.heap.size w wx → wx.cell? ⟨b, off + k, none⟩ = some (.int .u8 f)) := Lib.hid fun wx bel => (bel.cell (p := ⟨b, off + k, none⟩) hbb).trans hcell
      have k2 : (k : Int) < (len : Int) := by omega
      have hc0 := LA.out _ hst.bel
      have hpb := pendH_bd hR ha
      have HRB := Lib.hid (And.intro hR hRl)
      have HST := Lib.hid hst
      have ba := again_bd (m := rs) (p := pendH R ha) hr0 hr1
      clear hcell hst
      by_cases hz : f = 255
      · subst hz
        obtain ⟨re2, hre⟩ : ∃ x, x = again rs (pendH R ha) re := ⟨_, rfl⟩
        obtain ⟨ha2, hha⟩ : ∃ x, x = halts rs (pendH R ha) re ha := ⟨_, rfl⟩
        rw [← hre] at ba
        have HN : Hid (([] : List Int).length ≤ 1000) := Lib.hid (by simp)
        obtain ⟨Z, hZ⟩ : ∃ Z : Nat, re2 = Z := ⟨re2.toNat, by omega⟩
        have HP : Hid (pendH [] ha2 = ((0 : Nat) : Int) ∧ 0 ≤ 4 ∧ re2 = Z ∧ Z ≤ 255) := Lib.hid ⟨pendH_nil _, by omega, hZ, by omega⟩
        have x2 : IntKind.i64.wrap re2 = re2 := IntWalk.i64_in _ (by omega)
        have HE := Lib.hid (And.intro hre hha)
        clear hre hha hZ
        go_wp2_with (first
          | (go_at_call 9; refine (HST.out.take hpb.1 hpb.2 hr0 hr1 h1).mono ?_; rintro e w5 ⟨rfl, hz⟩; rw [← HE.out.1, ← HE.out.2] at hz; have T0 := Lib.hid hz; clear hz)
          | (go_at_call 10; refine (T0.out.dtake (by have := HRB.out.2; omega) hpb.1 hpb.2 hr0 hr1 h1).mono ?_; rintro e w5 ⟨rfl, hz⟩; rw [← HE.out.1, ← HE.out.2] at hz; have T1 : Hid (Bt w w5 B C T pg li rs (pendH [] ha2) re2 ha2 [] re2 ha2) := Lib.hid (by rw [pendH_nil]; exact hz); clear hz))
        have T2 := Lib.hid (T1.out.drawn 1)
        have hHeld := And.intro T2.out.c21 T2.out.c22
        refine wp_region_calm (fun w' => w'.cell? ⟨C, 21, none⟩ = some (.int .i64 re2) ∧ w'.cell? ⟨C, 22, none⟩ = some (.bool ha2)) (.e 0 :: .e 1 :: .l 0 :: .l 0 :: .e 0 :: .e 0 :: .e 0 :: .e 1 :: .e 1 :: .e 1 :: .e 1 :: .l 0 :: .e 0 :: .e 0 :: .e 0 :: .e 0 :: .e 2 :: .e 2 :: .e 2 :: .e 2 :: .l 0 :: .e 0 :: .e 0 :: .e 0 :: .e 0 :: .e 0 :: .e 1 :: .l 0 :: .l 0 :: .e 0 :: .e 0 :: []) (by kernel_rfl) (by kernel_rfl) (by kernel_rfl) (by kernel_rfl) ?_
        repeat (first
          | (refine mv_take0 (v := ?_) (by rfl) hHeld ?_ ?_; rotate_left 1; (focus (intro w hSw; (try dsimp only at hSw); obtain ⟨hs0, hs1⟩ := hSw; go_simp; (try with_reducible rfl))); (try simp only [Act.put, List.setIfInBounds_toArray, List.set_cons_zero, List.set_cons_succ]))
          | (refine mv_take1 (v := ?_) (by rfl) hHeld ?_ ?_; rotate_left 1; (focus (intro w hSw; (try dsimp only at hSw); obtain ⟨hs0, hs1⟩ := hSw; go_simp; (try with_reducible rfl))); (try simp only [Act.put, List.setIfInBounds_toArray, List.set_cons_zero, List.set_cons_succ]))
          | (refine mv_take2 (v := ?_) (by rfl) hHeld ?_ ?_; rotate_left 1; (focus (intro w hSw; (try dsimp only at hSw); obtain ⟨hs0, hs1⟩ := hSw; go_simp; (try with_reducible rfl))); (try simp only [Act.put, List.setIfInBounds_toArray, List.set_cons_zero, List.set_cons_succ]))
          | (refine mv_loud0 (by rfl) (fun K hK => ?_)
             go_simp
             first
               | (go_at_call 13; refine T2.out.pend.mono ?_; rintro e w6 ⟨rfl, rfl⟩; refine hK.out _ _ hHeld ?_)
               | (go_at_call 14; refine (T2.out.dpend HN.out).mono ?_; rintro e w6 ⟨rfl, rfl⟩; refine hK.out _ _ hHeld ?_)
               | (go_at_call 15; refine T2.out.halted.mono ?_; rintro e w6 ⟨rfl, rfl⟩; refine hK.out _ _ hHeld ?_)
               | (go_at_call 16; refine T2.out.restarts.mono ?_; rintro e w6 ⟨rfl, rfl⟩; refine hK.out _ _ hHeld ?_)
               | (go_at_call 17; refine (T2.out.text HNU.out HP.out.1 HP.out.2.1 HP.out.2.2.1 HP.out.2.2.2).mono ?_; rintro e w6 ⟨rfl, hz⟩; have T3 := Lib.hid hz; clear hz; refine hK.out _ _ (And.intro T3.out.c21 T3.out.c22) ?_; clear hHeld; have hHeld := (And.intro T3.out.c21 T3.out.c22))
               | (go_at_call 18; refine (T3.out.dtext HN.out HP.out.1 HP.out.2.1 HP.out.2.2.1 HP.out.2.2.2).mono ?_; rintro e w7 ⟨rfl, hz⟩; have T4 := Lib.hid hz; clear hz; refine hK.out _ _ (And.intro T4.out.c21 T4.out.c22) ?_; clear hHeld; have hHeld := (And.intro T4.out.c21 T4.out.c22))
             clear hK K
             (try simp only [Act.put, List.setIfInBounds_toArray, List.set_cons_zero, List.set_cons_succ])))
        refine mv_calm ?_
        go_wp2_with fail
        go_roundw
        case rel => exact ⟨k + 1, re2, ha2, [], by omega, by go_num, ba.1, ba.2, (fun x hx => nomatch hx), Nat.zero_le _, T4.out⟩
        case measure => simp [intOf]; omega
      · have t0 : ((f : Int) == 255) = false := beq_eq_false_iff_ne.2 (by omega)
        obtain ⟨R2, hR2⟩ : ∃ x, x = addR T f R := ⟨_, rfl⟩
        have hlen2 : R2.length ≤ k + 1 := by rw [hR2]; have := addR_len T f R; omega
        have hlt2 : ∀ x ∈ R2, x < 5 := by rw [hR2]; exact addR_lt hT hR f
        have hpb2 := pendH_bd hlt2 ha
        have HN : Hid (R2.length ≤ 1000) := Lib.hid (by omega)
        obtain ⟨Z, hZ⟩ : ∃ Z : Nat, re = Z := ⟨re.toNat, by omega⟩
        obtain ⟨P, hP⟩ : ∃ P : Nat, pendH R2 ha = P := ⟨(pendH R2 ha).toNat, by omega⟩
        have HP : Hid (pendH R2 ha = (P : Int) ∧ P ≤ 4 ∧ re = Z ∧ Z ≤ 255) := Lib.hid ⟨hP, by omega, hZ, by omega⟩
        have x2 : IntKind.i64.wrap re = re := IntWalk.i64_in _ (by omega)
        have HE := Lib.hid (And.intro hR2 hlt2)
        clear hR2 hlt2 hZ hP hpb2
        go_wp2_with (first
          | (go_at_call 11; refine (HST.out.raise f hf).mono ?_; rintro e w5 ⟨rfl, hz⟩; rw [pendH_add, ← HE.out.1] at hz; have T0 := Lib.hid hz; clear hz; have hc1 := LA.out _ T0.out.bel)
          | (go_at_call 12; refine (T0.out.draise (by have := HRB.out.2; omega) f hf).mono ?_; rintro e w5 ⟨rfl, hz⟩; rw [← HE.out.1] at hz; have T1 := Lib.hid hz; clear hz))
        have T2 := Lib.hid (T1.out.drawn 1)
        have hHeld := And.intro T2.out.c21 T2.out.c22
        refine wp_region_calm (fun w' => w'.cell? ⟨C, 21, none⟩ = some (.int .i64 re) ∧ w'.cell? ⟨C, 22, none⟩ = some (.bool ha)) (.e 0 :: .e 1 :: .l 0 :: .l 0 :: .e 0 :: .e 0 :: .e 0 :: .e 1 :: .e 1 :: .e 1 :: .e 1 :: .l 0 :: .e 0 :: .e 0 :: .e 0 :: .e 0 :: .e 2 :: .e 2 :: .e 2 :: .e 2 :: .l 0 :: .e 0 :: .e 0 :: .e 0 :: .e 0 :: .e 0 :: .e 1 :: .l 0 :: .l 0 :: .e 0 :: .e 0 :: []) (by kernel_rfl) (by kernel_rfl) (by kernel_rfl) (by kernel_rfl) ?_
        repeat (first
          | (refine mv_take0 (v := ?_) (by rfl) hHeld ?_ ?_; rotate_left 1; (focus (intro w hSw; (try dsimp only at hSw); obtain ⟨hs0, hs1⟩ := hSw; go_simp; (try with_reducible rfl))); (try simp only [Act.put, List.setIfInBounds_toArray, List.set_cons_zero, List.set_cons_succ]))
          | (refine mv_take1 (v := ?_) (by rfl) hHeld ?_ ?_; rotate_left 1; (focus (intro w hSw; (try dsimp only at hSw); obtain ⟨hs0, hs1⟩ := hSw; go_simp; (try with_reducible rfl))); (try simp only [Act.put, List.setIfInBounds_toArray, List.set_cons_zero, List.set_cons_succ]))
          | (refine mv_take2 (v := ?_) (by rfl) hHeld ?_ ?_; rotate_left 1; (focus (intro w hSw; (try dsimp only at hSw); obtain ⟨hs0, hs1⟩ := hSw; go_simp; (try with_reducible rfl))); (try simp only [Act.put, List.setIfInBounds_toArray, List.set_cons_zero, List.set_cons_succ]))
          | (refine mv_loud0 (by rfl) (fun K hK => ?_)
             go_simp
             first
               | (go_at_call 13; refine T2.out.pend.mono ?_; rintro e w6 ⟨rfl, rfl⟩; refine hK.out _ _ hHeld ?_)
               | (go_at_call 14; refine (T2.out.dpend HN.out).mono ?_; rintro e w6 ⟨rfl, rfl⟩; refine hK.out _ _ hHeld ?_)
               | (go_at_call 15; refine T2.out.halted.mono ?_; rintro e w6 ⟨rfl, rfl⟩; refine hK.out _ _ hHeld ?_)
               | (go_at_call 16; refine T2.out.restarts.mono ?_; rintro e w6 ⟨rfl, rfl⟩; refine hK.out _ _ hHeld ?_)
               | (go_at_call 17; refine (T2.out.text HNU.out HP.out.1 HP.out.2.1 HP.out.2.2.1 HP.out.2.2.2).mono ?_; rintro e w6 ⟨rfl, hz⟩; have T3 := Lib.hid hz; clear hz; refine hK.out _ _ (And.intro T3.out.c21 T3.out.c22) ?_; clear hHeld; have hHeld := (And.intro T3.out.c21 T3.out.c22))
               | (go_at_call 18; refine (T3.out.dtext HN.out HP.out.1 HP.out.2.1 HP.out.2.2.1 HP.out.2.2.2).mono ?_; rintro e w7 ⟨rfl, hz⟩; have T4 := Lib.hid hz; clear hz; refine hK.out _ _ (And.intro T4.out.c21 T4.out.c22) ?_; clear hHeld; have hHeld := (And.intro T4.out.c21 T4.out.c22))
             clear hK K
             (try simp only [Act.put, List.setIfInBounds_toArray, List.set_cons_zero, List.set_cons_succ])))
        refine mv_calm ?_
        go_wp2_with fail
        go_roundw
        case rel => exact ⟨k + 1, re, ha, R2, by omega, by go_num, hr0, hr1, HE.out.2, hlen2, T4.out⟩
        case measure => simp [intOf]; omega
    · have HB := Lib.hid hst
      clear hst
      go_wp2_with fail
      refine (awake_any _).mono ?_
      rintro e w9 ⟨rfl, d9⟩
      go_wp2_with fail
      go_ret
      exact ⟨rfl, HB.out.bel.trans (d9.mono HB.out.bel.size)⟩
end
end Go.Proofs.YtidkbclhjgmhjaaDoor
