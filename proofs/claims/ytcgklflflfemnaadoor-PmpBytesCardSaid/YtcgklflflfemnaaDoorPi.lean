/- PmpBytes: widths beyond. -/
import Derived.Test.YtcgklflflfemnaaDoorPh
set_option linter.unusedVariables false
set_option linter.unusedSimpArgs false
namespace Go.Proofs.YtcgklflflfemnaaDoor
open Go.RowKit
section
variable {W w : World} (hT : TzIs W) (hW : Below W.heap.size W w) (c : Nat) (A : Nat → Nat) (mode kind at' : Nat) (z : Int) (hc : c < 18446744073709551616) (hA : ∀ k, A k < 18446744073709551616) (ha : at' < 18446744073709551616)
include hT hW hc hA
include ha
set_option maxHeartbeats 8000000 in
set_option maxRecDepth 100000 in
theorem bytes_low (z : Int) (hz0 : -9223372036854775808 ≤ z) (hz : z < 1) : Calls Tryd.prog 5 #[.int .u64 c, .agg (arr A), acc mode kind at' z] w (Yes w) := by
  have hn1 : 1 ≤ 1 := by decide
  obtain ⟨W0, hW0⟩ : ∃ W0, (w.alloc (.cells (arr A) 23)).alloc (.cells #[.int .u8 mode, .int .u8 kind, .int .u64 at', .int .i64 z] 35) = W0 := ⟨_, rfl⟩
  have B4 : Box W0 w.heap.size 23 (arr A) := by rw [← hW0]; exact (Box.made w 23 _).more _
  have B5 : Box W0 (w.heap.size + 1) 35 #[.int .u8 mode, .int .u8 kind, .int .u64 at', .int .i64 z] := by rw [← hW0]; exact box2 w _ 35 _
  have BL : Below w.heap.size w W0 := by rw [← hW0]; exact ((Below.refl _ w).alloc (Nat.le_refl _) _).alloc (by simp) _
  have b2 := B5.read 2
  have b3 := B5.read 3
  have f3 := B5.warm 3
  have HB : Hid (Bs w (W0.setCell ⟨w.heap.size + 1, 3, none⟩ (.int .i64 (1 : Int))) A mode kind at' (1 : Int)) := Lib.hid ⟨B4.putFar (p := ⟨w.heap.size + 1, 3, none⟩) (by show w.heap.size ≠ w.heap.size + 1; omega) _, box_eq (B5.put 3 _) rfl, BL.setCell (p := ⟨w.heap.size + 1, 3, none⟩) (by show w.heap.size ≤ w.heap.size + 1; omega) _⟩
  clear B4 B5 BL
  have HF := Lib.hid (fun a ha1 wx hb => first1 hT hW c A mode kind hc hA a ha1 wx hb)
  have HC := Lib.hid (fun a ha1 wx hb => check1 hT hW c A mode kind hc hA a ha1 wx hb)
  have HX := Lib.hid (fun wx (hb : Below w.heap.size w wx) => check_any hT (hW.trans (hb.mono hW.size)) c A mode kind at' (1 : Int) hc hA (by omega) (by omega) ha)
  have HW := Lib.hid (fun wx (hb : Below w.heap.size w wx) => awake_any hT (hW.trans (hb.mono hW.size)))
  have HO := Lib.hid (fun (k : Nat) (hk : k < 16) wx => one_any mode kind at' k (1 : Int) (by omega) ha wx)
  have hmo : moreOf (1 : Int) = 1 - 1 := by unfold moreOf; omega
  have HA := Lib.hid ha
  have hneg : IntKind.u64.wrap (-(1 : Int)) = 18446744073709551616 - (1 : Int) := by show (-(1 : Int)) % 18446744073709551616 = _; omega
  clear hT hW hc hA
  by_cases hall : at' + 1 ≤ 18446744073709551616
  · have hd : decide ((at' : Int) ≤ 18446744073709551616 - (1 : Int)) = true := decide_eq_true (by omega)
    have hd2 : decide ((at' : Int) ≤ 18446744073709551615) = true := decide_eq_true (by omega)
    have hhi : hiOf at' (1 - 1) = at' + 1 - 1 := by unfold hiOf; rw [if_pos (by omega)]; omega
    rw [hmo, hhi, decide_eq_true (show at' + (1 - 1) < 18446744073709551616 by omega), Bool.true_and] at HX
    have HL := Lib.hid hall
    clear hhi hmo hall ha
    go_enter Tryd.func5, Tryd.ntmps5
    go_wp2
    generalize W0.setCell ⟨w.heap.size + 1, 3, none⟩ (.int .i64 (1 : Int)) = w0 at HB ⊢
    clear b2 b3 f3 hW0
    have HOk := Lib.hid (fun (k : Nat) (hk : k < 1) wx => (by
      have h := HO.out k (by omega) wx
      rw [Nat.mod_eq_of_lt (by have := HL.out; omega)] at h
      exact h : Calls Tryd.prog 15 #[acc mode kind at' (1 : Int), .int .i64 k] wx fun e w' => e = .returned (acc mode kind (at' + k) 1) ∧ Below wx.heap.size wx w'))
    have HO0 := Lib.hid (fun wx => HOk.out 0 (by omega) wx)
    refine wp_region_calm (Hl w A mode kind at' (1 : Int)) (.e 0 :: .e 0 :: .e 0 :: .l 0 :: .l 0 :: .e 0 :: .e 0 :: .e 0 :: .e 0 :: .e 0 :: []) (by kernel_rfl) (by kernel_rfl) (by kernel_rfl) (by kernel_rfl) ?_
    have R0 := Lib.hid (HB.out.over (Below.refl _ _).drew)
    have hHeld := R0.out.held
    repeat (refine mv_take0 (v := ?_) (by rfl) hHeld ?_ ?_; rotate_left 1; (focus (intro w hSw; (try dsimp only at hSw); obtain ⟨g0, g1, g2, g3, g4, g5, g6, g7, g8, g9, g10, g11⟩ := hSw; go_simp; (try with_reducible rfl); done)); (try simp only [Act.put, List.setIfInBounds_toArray, List.set_cons_zero, List.set_cons_succ]))
    refine mv_loud0 (by rfl) (fun K hK => ?_)
    go_simp
    go_at_call 15
    refine (HO0.out _).mono ?_
    rintro e w1 ⟨rfl, hb⟩
    have R1 := Lib.hid (R0.out.over hb)
    clear hb hHeld
    have hHeld := R1.out.held
    refine hK.out _ _ hHeld ?_
    clear hK K
    (try simp only [Act.put, List.setIfInBounds_toArray, List.set_cons_zero, List.set_cons_succ])
    repeat (refine mv_take0 (v := ?_) (by rfl) hHeld ?_ ?_; rotate_left 1; (focus (intro w hSw; (try dsimp only at hSw); obtain ⟨g0, g1, g2, g3, g4, g5, g6, g7, g8, g9, g10, g11⟩ := hSw; go_simp; (try with_reducible rfl); done)); (try simp only [Act.put, List.setIfInBounds_toArray, List.set_cons_zero, List.set_cons_succ]))
    refine mv_loud0 (by rfl) (fun K hK => ?_)
    go_simp
    go_at_call 14
    refine (HF.out at' HA.out _ R1.out.bel).mono ?_
    rintro e w2 ⟨rfl, hb⟩
    have R2 := Lib.hid (R1.out.over hb)
    clear hb hHeld
    have hHeld := R2.out.held
    refine hK.out _ _ hHeld ?_
    clear hK K
    (try simp only [Act.put, List.setIfInBounds_toArray, List.set_cons_zero, List.set_cons_succ])
    repeat (refine mv_take0 (v := ?_) (by rfl) hHeld ?_ ?_; rotate_left 1; (focus (intro w hSw; (try dsimp only at hSw); obtain ⟨g0, g1, g2, g3, g4, g5, g6, g7, g8, g9, g10, g11⟩ := hSw; go_simp; (try with_reducible rfl); done)); (try simp only [Act.put, List.setIfInBounds_toArray, List.set_cons_zero, List.set_cons_succ]))
    refine mv_calm ?_
    clear hHeld
    have HI0 : ∃ i0, i0 = idx (fst8 (entOf c A) at' at') := ⟨_, rfl⟩
    obtain ⟨i0, hi0⟩ := HI0
    rw [← hi0]
    have HZ := Lib.hid hi0
    clear hi0 HO0 HB R0 R1
    go_wp2
    go_loopw [8, 11, 12] (fun al sm i wr => ∃ k : Nat, k ≤ 1 ∧ i = .int .i64 k ∧ al = .bool (allB (entOf c A) mode kind at' k) ∧ sm = .bool (sameB (entOf c A) at' k) ∧ Bs w wr A mode kind at' (1 : Int)) (fun _ _ i _ => 1 - (intOf i).toNat)
    case atStart => exact ⟨0, Nat.zero_le _, rfl, rfl, rfl, R2.out⟩
    case round =>
      obtain ⟨k, hk, rfl, rfl, rfl, hbs⟩ := hrel
      have k1 : (0 : Int) ≤ (k : Int) := Int.natCast_nonneg _
      have HS := Lib.hid hbs
      clear hbs R2
      have HAS := Lib.hid (allB_succ (entOf c A) mode kind at' k)
      have HSS := Lib.hid (sameB_succ (entOf c A) at' k)
      by_cases hlt : k < 1
      · have k2 : (k : Int) < (1 : Int) := by omega
        cases hak : allB (entOf c A) mode kind at' k
        · have hak2 := hak
          have hrr := HS.out.held
          obtain ⟨p0, p1, p2, p3, p4, p5, p6, p7, p8, p9, p10, p11⟩ := hrr
          obtain ⟨h3a, h3b⟩ := three (c := c) (A := A) (mode := mode) (kind := kind) (at' := at') hn1 hk (.inr hak)
          have HXX := Lib.hid (HX.out _ HS.out.bel)
          generalize hisv : allowed mode kind at' (at' + 1 - 1) (fst8 (entOf c A) at' (at' + 1 - 1)) = isv at h3a h3b HXX
          have HI := Lib.hid hisv
          clear hisv
          rw [hak] at h3a h3b
          cases isv
          · clear h3a h3b hak hak2 HAS HSS HI
            go_wp2_with (first
              | (go_at_call 10; have Hx := H9; refine (HW.out _ H9.out.bel).mono ?_; rintro e w10 ⟨rfl, hb⟩; have H10 := Lib.hid (H9.out.bel.trans (hb.mono H9.out.bel.size)); clear hb)
              | (go_at_call 16; refine HXX.out.mono ?_; rintro e w9 ⟨rfl, hb⟩; have H9 := Lib.hid (HS.out.over hb); clear hb))
            go_ret
            exact ⟨rfl, H10.out⟩
          · exact absurd (h3a rfl) (by simp)
        · have HK := Lib.hid hlt
          rw [hak, Bool.true_and] at HAS
          generalize hq : allowed mode kind (at' + k) (at' + k) (fst8 (entOf c A) (at' + k) (at' + k)) = q at HAS
          have hak3 : at' + k < 18446744073709551616 := by have := HL.out; omega
          have HCk := Lib.hid (fun wx hb => HC.out (at' + k) hak3 wx hb)
          rw [hq] at HCk
          have HFk := Lib.hid (fun wx hb => HF.out (at' + k) hak3 wx hb)
          obtain ⟨ik, hik⟩ : ∃ ik, ik = idx (fst8 (entOf c A) (at' + k) (at' + k)) := ⟨_, rfl⟩
          rw [← hik] at HFk HSS
          rw [← HZ.out] at HSS
          have HKk := Lib.hid (fun wx => HOk.out k hlt wx)
          clear hq hik hak hlt
          go_wp2
          refine wp_region_calm (Hl w A mode kind at' (1 : Int)) (.e 0 :: .e 0 :: .e 0 :: .e 0 :: .e 0 :: .e 0 :: .l 0 :: .l 0 :: .e 0 :: .e 0 :: []) (by kernel_rfl) (by kernel_rfl) (by kernel_rfl) (by kernel_rfl) ?_
          have P0 := Lib.hid (HS.out.over (Below.refl _ _).drew)
          have hHeld := P0.out.held
          repeat (refine mv_take0 (v := ?_) (by rfl) hHeld ?_ ?_; rotate_left 1; (focus (intro w hSw; (try dsimp only at hSw); obtain ⟨g0, g1, g2, g3, g4, g5, g6, g7, g8, g9, g10, g11⟩ := hSw; go_simp; (try with_reducible rfl); done)); (try simp only [Act.put, List.setIfInBounds_toArray, List.set_cons_zero, List.set_cons_succ]))
          refine mv_loud0 (by rfl) (fun K hK => ?_)
          go_simp
          go_at_call 15
          refine (HKk.out _).mono ?_
          rintro e w1 ⟨rfl, hb⟩
          have P1 := Lib.hid (P0.out.over hb)
          clear hb hHeld
          have hHeld := P1.out.held
          refine hK.out _ _ hHeld ?_
          clear hK K
          (try simp only [Act.put, List.setIfInBounds_toArray, List.set_cons_zero, List.set_cons_succ])
          repeat (refine mv_take0 (v := ?_) (by rfl) hHeld ?_ ?_; rotate_left 1; (focus (intro w hSw; (try dsimp only at hSw); obtain ⟨g0, g1, g2, g3, g4, g5, g6, g7, g8, g9, g10, g11⟩ := hSw; go_simp; (try with_reducible rfl); done)); (try simp only [Act.put, List.setIfInBounds_toArray, List.set_cons_zero, List.set_cons_succ]))
          refine mv_loud0 (by rfl) (fun K hK => ?_)
          go_simp
          go_at_call 16
          refine (HCk.out _ P1.out.bel).mono ?_
          rintro e w2 ⟨rfl, hb⟩
          have P2 := Lib.hid (P1.out.over hb)
          clear hb hHeld
          have hHeld := P2.out.held
          refine hK.out _ _ hHeld ?_
          clear hK K
          (try simp only [Act.put, List.setIfInBounds_toArray, List.set_cons_zero, List.set_cons_succ])
          repeat (refine mv_take0 (v := ?_) (by rfl) hHeld ?_ ?_; rotate_left 1; (focus (intro w hSw; (try dsimp only at hSw); obtain ⟨g0, g1, g2, g3, g4, g5, g6, g7, g8, g9, g10, g11⟩ := hSw; go_simp; (try with_reducible rfl); done)); (try simp only [Act.put, List.setIfInBounds_toArray, List.set_cons_zero, List.set_cons_succ]))
          refine mv_calm ?_
          clear hHeld
          go_wp2
          refine wp_region_calm (Hl w A mode kind at' (1 : Int)) (.e 0 :: .e 0 :: .e 0 :: .e 0 :: .l 0 :: .l 0 :: .e 0 :: .e 0 :: .e 0 :: .e 0 :: .e 0 :: []) (by kernel_rfl) (by kernel_rfl) (by kernel_rfl) (by kernel_rfl) ?_
          have U0 := Lib.hid (P2.out.over (Below.refl _ _).drew)
          have hHeld := U0.out.held
          repeat (refine mv_take0 (v := ?_) (by rfl) hHeld ?_ ?_; rotate_left 1; (focus (intro w hSw; (try dsimp only at hSw); obtain ⟨g0, g1, g2, g3, g4, g5, g6, g7, g8, g9, g10, g11⟩ := hSw; go_simp; (try with_reducible rfl); done)); (try simp only [Act.put, List.setIfInBounds_toArray, List.set_cons_zero, List.set_cons_succ]))
          refine mv_loud0 (by rfl) (fun K hK => ?_)
          go_simp
          go_at_call 15
          refine (HKk.out _).mono ?_
          rintro e w1 ⟨rfl, hb⟩
          have U1 := Lib.hid (U0.out.over hb)
          clear hb hHeld
          have hHeld := U1.out.held
          refine hK.out _ _ hHeld ?_
          clear hK K
          (try simp only [Act.put, List.setIfInBounds_toArray, List.set_cons_zero, List.set_cons_succ])
          repeat (refine mv_take0 (v := ?_) (by rfl) hHeld ?_ ?_; rotate_left 1; (focus (intro w hSw; (try dsimp only at hSw); obtain ⟨g0, g1, g2, g3, g4, g5, g6, g7, g8, g9, g10, g11⟩ := hSw; go_simp; (try with_reducible rfl); done)); (try simp only [Act.put, List.setIfInBounds_toArray, List.set_cons_zero, List.set_cons_succ]))
          refine mv_loud0 (by rfl) (fun K hK => ?_)
          go_simp
          go_at_call 14
          refine (HFk.out _ U1.out.bel).mono ?_
          rintro e w2 ⟨rfl, hb⟩
          have U2 := Lib.hid (U1.out.over hb)
          clear hb hHeld
          have hHeld := U2.out.held
          refine hK.out _ _ hHeld ?_
          clear hK K
          (try simp only [Act.put, List.setIfInBounds_toArray, List.set_cons_zero, List.set_cons_succ])
          repeat (refine mv_take0 (v := ?_) (by rfl) hHeld ?_ ?_; rotate_left 1; (focus (intro w hSw; (try dsimp only at hSw); obtain ⟨g0, g1, g2, g3, g4, g5, g6, g7, g8, g9, g10, g11⟩ := hSw; go_simp; (try with_reducible rfl); done)); (try simp only [Act.put, List.setIfInBounds_toArray, List.set_cons_zero, List.set_cons_succ]))
          refine mv_calm ?_
          clear hHeld
          cases hsk : sameB (entOf c A) at' k
          · rw [hsk, Bool.false_and] at HSS
            by_cases h0 : 0 ≤ ik
            · have e0 : decide (0 ≤ ik) = true := decide_eq_true h0
              rw [e0]
              go_wp2
              go_roundw
              case rel => exact ⟨k + 1, by have := HK.out; omega, by go_num, by rw [HAS.out], by rw [HSS.out], U2.out⟩
              case measure => simp [intOf]; have := HK.out; omega
            · have e0 : decide (0 ≤ ik) = false := decide_eq_false h0
              rw [e0]
              go_wp2
              go_roundw
              case rel => exact ⟨k + 1, by have := HK.out; omega, by go_num, by rw [HAS.out], by rw [HSS.out], U2.out⟩
              case measure => simp [intOf]; have := HK.out; omega
          · rw [hsk, Bool.true_and] at HSS
            by_cases hii : ik = i0
            · have e1 : (ik == i0) = true := by simp [hii]
              rw [e1] at HSS
              have HII := Lib.hid hii
              clear hii
              by_cases h0 : 0 ≤ ik
              · have e0 : decide (0 ≤ ik) = true := decide_eq_true h0
                rw [e0]
                go_wp2
                go_roundw
                case rel => exact ⟨k + 1, by have := HK.out; omega, by go_num, by rw [HAS.out], by rw [HSS.out], U2.out⟩
                case measure => simp [intOf]; have := HK.out; omega
              · have e0 : decide (0 ≤ ik) = false := decide_eq_false h0
                rw [e0]
                go_wp2
                go_roundw
                case rel => exact ⟨k + 1, by have := HK.out; omega, by go_num, by rw [HAS.out], by rw [HSS.out], U2.out⟩
                case measure => simp [intOf]; have := HK.out; omega
            · have e1 : (ik == i0) = false := beq_eq_false_iff_ne.2 hii
              rw [e1] at HSS
              have HII := Lib.hid hii
              by_cases h0 : 0 ≤ ik
              · have e0 : decide (0 ≤ ik) = true := decide_eq_true h0
                rw [e0]
                go_wp2
                go_roundw
                case rel => exact ⟨k + 1, by have := HK.out; omega, by go_num, by rw [HAS.out], by rw [HSS.out], U2.out⟩
                case measure => simp [intOf]; have := HK.out; omega
              · have e0 : decide (0 ≤ ik) = false := decide_eq_false h0
                rw [e0]
                go_wp2
                go_roundw
                case rel => exact ⟨k + 1, by have := HK.out; omega, by go_num, by rw [HAS.out], by rw [HSS.out], U2.out⟩
                case measure => simp [intOf]; have := HK.out; omega
      · have hkn : 1 = k := by omega
        subst hkn
        have hrr := HS.out.held
        obtain ⟨p0, p1, p2, p3, p4, p5, p6, p7, p8, p9, p10, p11⟩ := hrr
        obtain ⟨h3a, h3b⟩ := three (c := c) (A := A) (mode := mode) (kind := kind) (at' := at') hn1 hk (.inl rfl)
        have HXX := Lib.hid (HX.out _ HS.out.bel)
        generalize hisv : allowed mode kind at' (at' + 1 - 1) (fst8 (entOf c A) at' (at' + 1 - 1)) = isv at h3a h3b HXX
        have HI := Lib.hid hisv
        clear hisv
        clear HAS HSS
        generalize allB (entOf c A) mode kind at' 1 = alv at h3a h3b ⊢
        generalize sameB (entOf c A) at' 1 = smv at h3a h3b ⊢
        cases alv
        · cases isv
          · clear h3a h3b HI
            go_wp2_with (first
              | (go_at_call 10; have Hx := H9; refine (HW.out _ H9.out.bel).mono ?_; rintro e w10 ⟨rfl, hb⟩; have H10 := Lib.hid (H9.out.bel.trans (hb.mono H9.out.bel.size)); clear hb)
              | (go_at_call 16; refine HXX.out.mono ?_; rintro e w9 ⟨rfl, hb⟩; have H9 := Lib.hid (HS.out.over hb); clear hb))
            go_ret
            exact ⟨rfl, H10.out⟩
          · exact absurd (h3a rfl) (by simp)
        · cases isv
          · cases smv
            · clear h3a h3b HI
              go_wp2_with (first
                | (go_at_call 10; have Hx := H9; refine (HW.out _ H9.out.bel).mono ?_; rintro e w10 ⟨rfl, hb⟩; have H10 := Lib.hid (H9.out.bel.trans (hb.mono H9.out.bel.size)); clear hb)
                | (go_at_call 16; refine HXX.out.mono ?_; rintro e w9 ⟨rfl, hb⟩; have H9 := Lib.hid (HS.out.over hb); clear hb))
              go_ret
              exact ⟨rfl, H10.out⟩
            · exact absurd (h3b rfl rfl) (by simp)
          · clear h3a h3b HI
            go_wp2_with (first
              | (go_at_call 10; have Hx := H9; refine (HW.out _ H9.out.bel).mono ?_; rintro e w10 ⟨rfl, hb⟩; have H10 := Lib.hid (H9.out.bel.trans (hb.mono H9.out.bel.size)); clear hb)
              | (go_at_call 16; refine HXX.out.mono ?_; rintro e w9 ⟨rfl, hb⟩; have H9 := Lib.hid (HS.out.over hb); clear hb))
            go_ret
            exact ⟨rfl, H10.out⟩
  · have hd : decide ((at' : Int) ≤ 18446744073709551616 - (1 : Int)) = false := decide_eq_false (by omega)
    have hd2 : decide ((at' : Int) ≤ 18446744073709551615) = false := decide_eq_false (by omega)
    rw [hmo, decide_eq_false (show ¬ at' + (1 - 1) < 18446744073709551616 by omega), Bool.false_and] at HX
    clear hmo hall ha
    go_enter Tryd.func5, Tryd.ntmps5
    go_wp2
    generalize W0.setCell ⟨w.heap.size + 1, 3, none⟩ (.int .i64 (1 : Int)) = w0 at HB ⊢
    clear b2 b3 f3 hW0
    have HO0 := Lib.hid (fun wx => (by
      have h := HO.out 0 (by omega) wx
      rw [Nat.add_zero, Nat.mod_eq_of_lt HA.out] at h
      exact h : Calls Tryd.prog 15 #[acc mode kind at' (1 : Int), .int .i64 0] wx fun e w' => e = .returned (acc mode kind at' 1) ∧ Below wx.heap.size wx w'))
    refine wp_region_calm (Hl w A mode kind at' (1 : Int)) (.e 0 :: .e 0 :: .e 0 :: .l 0 :: .l 0 :: .e 0 :: .e 0 :: .e 0 :: .e 0 :: .e 0 :: []) (by kernel_rfl) (by kernel_rfl) (by kernel_rfl) (by kernel_rfl) ?_
    have R0 := Lib.hid (HB.out.over (Below.refl _ _).drew)
    have hHeld := R0.out.held
    repeat (refine mv_take0 (v := ?_) (by rfl) hHeld ?_ ?_; rotate_left 1; (focus (intro w hSw; (try dsimp only at hSw); obtain ⟨g0, g1, g2, g3, g4, g5, g6, g7, g8, g9, g10, g11⟩ := hSw; go_simp; (try with_reducible rfl); done)); (try simp only [Act.put, List.setIfInBounds_toArray, List.set_cons_zero, List.set_cons_succ]))
    refine mv_loud0 (by rfl) (fun K hK => ?_)
    go_simp
    go_at_call 15
    refine (HO0.out _).mono ?_
    rintro e w1 ⟨rfl, hb⟩
    have R1 := Lib.hid (R0.out.over hb)
    clear hb hHeld
    have hHeld := R1.out.held
    refine hK.out _ _ hHeld ?_
    clear hK K
    (try simp only [Act.put, List.setIfInBounds_toArray, List.set_cons_zero, List.set_cons_succ])
    repeat (refine mv_take0 (v := ?_) (by rfl) hHeld ?_ ?_; rotate_left 1; (focus (intro w hSw; (try dsimp only at hSw); obtain ⟨g0, g1, g2, g3, g4, g5, g6, g7, g8, g9, g10, g11⟩ := hSw; go_simp; (try with_reducible rfl); done)); (try simp only [Act.put, List.setIfInBounds_toArray, List.set_cons_zero, List.set_cons_succ]))
    refine mv_loud0 (by rfl) (fun K hK => ?_)
    go_simp
    go_at_call 14
    refine (HF.out at' HA.out _ R1.out.bel).mono ?_
    rintro e w2 ⟨rfl, hb⟩
    have R2 := Lib.hid (R1.out.over hb)
    clear hb hHeld
    have hHeld := R2.out.held
    refine hK.out _ _ hHeld ?_
    clear hK K
    (try simp only [Act.put, List.setIfInBounds_toArray, List.set_cons_zero, List.set_cons_succ])
    repeat (refine mv_take0 (v := ?_) (by rfl) hHeld ?_ ?_; rotate_left 1; (focus (intro w hSw; (try dsimp only at hSw); obtain ⟨g0, g1, g2, g3, g4, g5, g6, g7, g8, g9, g10, g11⟩ := hSw; go_simp; (try with_reducible rfl); done)); (try simp only [Act.put, List.setIfInBounds_toArray, List.set_cons_zero, List.set_cons_succ]))
    refine mv_calm ?_
    clear hHeld
    generalize idx (fst8 (entOf c A) at' at') = i0
    clear HO0 HB R0 R1
    go_wp2
    go_loopw [8, 12] (fun al i wr => al = .bool false ∧ i = .int .i64 0 ∧ Bs w wr A mode kind at' (1 : Int)) (fun _ _ _ => 0)
    case atStart => exact ⟨rfl, rfl, R2.out⟩
    case round =>
      obtain ⟨rfl, rfl, hbs⟩ := hrel
      have HS := Lib.hid hbs
      clear hbs R2
      have hrr := HS.out.held
      obtain ⟨p0, p1, p2, p3, p4, p5, p6, p7, p8, p9, p10, p11⟩ := hrr
      go_wp2_with (first
        | (go_at_call 10; have Hx := H9; refine (HW.out _ H9.out.bel).mono ?_; rintro e w10 ⟨rfl, hb⟩; have H10 := Lib.hid (H9.out.bel.trans (hb.mono H9.out.bel.size)); clear hb)
        | (go_at_call 16; refine (HX.out _ HS.out.bel).mono ?_; rintro e w9 ⟨rfl, hb⟩; have H9 := Lib.hid (HS.out.over hb); clear hb))
      go_ret
      exact ⟨rfl, H10.out⟩
end
end Go.Proofs.YtcgklflflfemnaaDoor
