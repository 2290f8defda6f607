/- PmpBytes' body. -/
import Derived.Test.YtcgklflflfemnaaDoorPg
import Derived.Test.YtcgklflflfemnaaDoorHp
set_option linter.unusedVariables false
set_option linter.unusedSimpArgs false
namespace Go.Proofs.YtcgklflflfemnaaDoor
open Go.RowKit
/-- How things stand in PmpBytes. -/
structure Bs (w wr : World) (A : Nat → Nat) (mode kind at' : Nat) (z : Int) : Prop where
  b4 : Box wr w.heap.size 23 (arr A)
  b5 : Box wr (w.heap.size + 1) 35 #[.int .u8 mode, .int .u8 kind, .int .u64 at', .int .i64 z]
  bel : Below w.heap.size w wr
/-- What is held of it. -/
abbrev Hl (w : World) (A : Nat → Nat) (mode kind at' : Nat) (z : Int) (w' : World) : Prop :=
  w'.cell? ⟨w.heap.size, 0, none⟩ = some (.int .u64 (A 0)) ∧ w'.cell? ⟨w.heap.size, 1, none⟩ = some (.int .u64 (A 1)) ∧ w'.cell? ⟨w.heap.size, 2, none⟩ = some (.int .u64 (A 2)) ∧ w'.cell? ⟨w.heap.size, 3, none⟩ = some (.int .u64 (A 3)) ∧ w'.cell? ⟨w.heap.size, 4, none⟩ = some (.int .u64 (A 4)) ∧ w'.cell? ⟨w.heap.size, 5, none⟩ = some (.int .u64 (A 5)) ∧ w'.cell? ⟨w.heap.size, 6, none⟩ = some (.int .u64 (A 6)) ∧ w'.cell? ⟨w.heap.size, 7, none⟩ = some (.int .u64 (A 7)) ∧ w'.cell? ⟨w.heap.size + 1, 0, none⟩ = some (.int .u8 mode) ∧ w'.cell? ⟨w.heap.size + 1, 1, none⟩ = some (.int .u8 kind) ∧ w'.cell? ⟨w.heap.size + 1, 2, none⟩ = some (.int .u64 at') ∧ w'.cell? ⟨w.heap.size + 1, 3, none⟩ = some (.int .i64 z)
section
variable {w wr w' : World} {A : Nat → Nat} {mode kind at' : Nat} {z : Int}
theorem Bs.over (h : Bs w wr A mode kind at' z) (k : Below wr.heap.size wr w') : Bs w w' A mode kind at' z :=
  ⟨h.b4.over k h.b4.inHeap, h.b5.over k h.b5.inHeap, h.bel.trans (k.mono h.bel.size)⟩
theorem Bs.held (h : Bs w wr A mode kind at' z) : Hl w A mode kind at' z wr :=
  ⟨h.b4.read 0, h.b4.read 1, h.b4.read 2, h.b4.read 3, h.b4.read 4, h.b4.read 5, h.b4.read 6, h.b4.read 7, h.b5.read 0, h.b5.read 1, h.b5.read 2, h.b5.read 3⟩
end
theorem more1 : moreOf 1 = 0 := by decide
theorem hi0 {a : Nat} (h : a < 18446744073709551616) : hiOf a 0 = a := by unfold hiOf; rw [Nat.add_zero, if_pos h]
theorem whl_byte (E : Ents) (a : Nat) : whl (fst8 E a a) true a a = decide (0 ≤ idx (fst8 E a a)) := by
  cases h : fst8 E a a with
  | none => rfl
  | some r =>
    have h1 := byte_holds h
    show (true && decide (holds r.2 a a)) = decide (0 ≤ ((r.1 : Nat) : Int))
    rw [decide_eq_true h1, decide_eq_true (Int.natCast_nonneg _)]
    rfl
def allB (E : Ents) (mode kind at' k : Nat) : Bool := (List.range k).all fun j => allowed mode kind (at' + j) (at' + j) (fst8 E (at' + j) (at' + j))
def sameB (E : Ents) (at' k : Nat) : Bool := (List.range k).all fun j => idx (fst8 E (at' + j) (at' + j)) == idx (fst8 E at' at')
theorem allB_succ (E : Ents) (mode kind at' k : Nat) : allB E mode kind at' (k + 1) = (allB E mode kind at' k && allowed mode kind (at' + k) (at' + k) (fst8 E (at' + k) (at' + k))) := by simp [allB, List.range_succ]
theorem sameB_succ (E : Ents) (at' k : Nat) : sameB E at' (k + 1) = (sameB E at' k && (idx (fst8 E (at' + k) (at' + k)) == idx (fst8 E at' at'))) := by simp [sameB, List.range_succ]
/-- The three answers of the law. -/
theorem three {c : Nat} {A : Nat → Nat} {mode kind at' n k : Nat} (hn : 1 ≤ n) (hk : k ≤ n) (hend : k = n ∨ allB (entOf c A) mode kind at' k = false) :
    (allowed mode kind at' (at' + n - 1) (fst8 (entOf c A) at' (at' + n - 1)) = true → allB (entOf c A) mode kind at' k = true) ∧
    (allB (entOf c A) mode kind at' k = true → sameB (entOf c A) at' k = true → allowed mode kind at' (at' + n - 1) (fst8 (entOf c A) at' (at' + n - 1)) = true) := by
  refine ⟨fun h => ?_, fun h1 h2 => ?_⟩
  · unfold allB
    rw [List.all_eq_true]
    intro j hj
    exact all_of_is hn h j (by have := List.mem_range.1 hj; omega)
  · rcases hend with rfl | h3
    · refine is_of_all (fun i e he => entOf_le he) hn (fun j hj => ?_) (fun j hj => ?_)
      · exact List.all_eq_true.1 h1 j (List.mem_range.2 hj)
      · exact eq_of_beq (List.all_eq_true.1 h2 j (List.mem_range.2 hj))
    · rw [h3] at h1
      cases h1
section
variable {W w : World} (hT : TzIs W) (hW : Below W.heap.size W w) (c : Nat) (A : Nat → Nat) (mode kind at' : Nat) (z : Int) (hc : c < 18446744073709551616) (hA : ∀ k, A k < 18446744073709551616) (ha : at' < 18446744073709551616)
include hT hW hc hA
theorem first1 (a : Nat) (ha1 : a < 18446744073709551616) (wx : World) (hb : Below w.heap.size w wx) : Calls Tryd.prog 14 #[.int .u64 c, .agg (arr A), acc mode kind a 1] wx fun e w' => e = .returned (.tuple #[.int .i64 (idx (fst8 (entOf c A) a a)), .bool (decide (0 ≤ idx (fst8 (entOf c A) a a)))]) ∧ Below wx.heap.size wx w' := by
  have h := first_any hT (hW.trans (hb.mono hW.size)) c A mode kind a 1 hc hA (by decide) (by decide) ha1
  rw [more1, hi0 ha1, Nat.add_zero, decide_eq_true ha1, whl_byte] at h
  exact h
theorem check1 (a : Nat) (ha1 : a < 18446744073709551616) (wx : World) (hb : Below w.heap.size w wx) : Calls Tryd.prog 16 #[.int .u64 c, .agg (arr A), acc mode kind a 1] wx fun e w' => e = .returned (.bool (allowed mode kind a a (fst8 (entOf c A) a a))) ∧ Below wx.heap.size wx w' := by
  have h := check_any hT (hW.trans (hb.mono hW.size)) c A mode kind a 1 hc hA (by decide) (by decide) ha1
  rw [more1, hi0 ha1, Nat.add_zero, decide_eq_true ha1, Bool.true_and] at h
  exact h
include ha
set_option maxHeartbeats 8000000 in
set_option maxRecDepth 100000 in
theorem bytes_mid (n : Nat) (hn1 : 1 ≤ n) (hn2 : n ≤ 16) : Calls Tryd.prog 5 #[.int .u64 c, .agg (arr A), acc mode kind at' (n : Int)] w (Yes w) := by
  obtain ⟨W0, hW0⟩ : ∃ W0, (w.alloc (.cells (arr A) 23)).alloc (.cells #[.int .u8 mode, .int .u8 kind, .int .u64 at', .int .i64 (n : Int)] 35) = W0 := ⟨_, rfl⟩
  have B4 : Box W0 w.heap.size 23 (arr A) := by rw [← hW0]; exact (Box.made w 23 _).more _
  have B5 : Box W0 (w.heap.size + 1) 35 #[.int .u8 mode, .int .u8 kind, .int .u64 at', .int .i64 (n : Int)] := by rw [← hW0]; exact box2 w _ 35 _
  have BL : Below w.heap.size w W0 := by rw [← hW0]; exact ((Below.refl _ w).alloc (Nat.le_refl _) _).alloc (by simp) _
  have b2 := B5.read 2
  have b3 := B5.read 3
  have f3 := B5.warm 3
  have HB : Hid (Bs w (W0.setCell ⟨w.heap.size + 1, 3, none⟩ (.int .i64 (n : Int))) A mode kind at' (n : Int)) := Lib.hid ⟨B4.putFar (p := ⟨w.heap.size + 1, 3, none⟩) (by show w.heap.size ≠ w.heap.size + 1; omega) _, box_eq (B5.put 3 _) rfl, BL.setCell (p := ⟨w.heap.size + 1, 3, none⟩) (by show w.heap.size ≤ w.heap.size + 1; omega) _⟩
  clear B4 B5 BL
  have HF := Lib.hid (fun a ha1 wx hb => first1 hT hW c A mode kind hc hA a ha1 wx hb)
  have HC := Lib.hid (fun a ha1 wx hb => check1 hT hW c A mode kind hc hA a ha1 wx hb)
  have HX := Lib.hid (fun wx (hb : Below w.heap.size w wx) => check_any hT (hW.trans (hb.mono hW.size)) c A mode kind at' (n : Int) hc hA (by omega) (by omega) ha)
  have HW := Lib.hid (fun wx (hb : Below w.heap.size w wx) => awake_any hT (hW.trans (hb.mono hW.size)))
  have HO := Lib.hid (fun (k : Nat) (hk : k < 16) wx => one_any mode kind at' k (n : Int) (by omega) ha wx)
  have hmo : moreOf (n : Int) = n - 1 := by unfold moreOf; omega
  have HA := Lib.hid ha
  have hneg : IntKind.u64.wrap (-(n : Int)) = 18446744073709551616 - (n : Int) := by show (-(n : Int)) % 18446744073709551616 = _; omega
  clear hT hW hc hA
  by_cases hall : at' + n ≤ 18446744073709551616
  · have hd : decide ((at' : Int) ≤ 18446744073709551616 - (n : Int)) = true := decide_eq_true (by omega)
    have hhi : hiOf at' (n - 1) = at' + n - 1 := by unfold hiOf; rw [if_pos (by omega)]; omega
    rw [hmo, hhi, decide_eq_true (show at' + (n - 1) < 18446744073709551616 by omega), Bool.true_and] at HX
    have HL := Lib.hid hall
    clear hhi hmo hall ha
    go_enter Tryd.func5, Tryd.ntmps5
    go_wp2
    generalize W0.setCell ⟨w.heap.size + 1, 3, none⟩ (.int .i64 (n : Int)) = w0 at HB ⊢
    clear b2 b3 f3 hW0
    have HOk := Lib.hid (fun (k : Nat) (hk : k < n) wx => (by
      have h := HO.out k (by omega) wx
      rw [Nat.mod_eq_of_lt (by have := HL.out; omega)] at h
      exact h : Calls Tryd.prog 15 #[acc mode kind at' (n : Int), .int .i64 k] wx fun e w' => e = .returned (acc mode kind (at' + k) 1) ∧ Below wx.heap.size wx w'))
    have HO0 := Lib.hid (fun wx => HOk.out 0 (by omega) wx)
    refine wp_region_calm (Hl w A mode kind at' (n : Int)) (.e 0 :: .e 0 :: .e 0 :: .l 0 :: .l 0 :: .e 0 :: .e 0 :: .e 0 :: .e 0 :: .e 0 :: []) (by kernel_rfl) (by kernel_rfl) (by kernel_rfl) (by kernel_rfl) ?_
    have R0 := Lib.hid (HB.out.over (Below.refl _ _).drew)
    have hHeld := R0.out.held
    repeat (refine mv_take0 (v := ?_) (by rfl) hHeld ?_ ?_; rotate_left 1; (focus (intro w hSw; (try dsimp only at hSw); obtain ⟨g0, g1, g2, g3, g4, g5, g6, g7, g8, g9, g10, g11⟩ := hSw; go_simp; (try with_reducible rfl); done)); (try simp only [Act.put, List.setIfInBounds_toArray, List.set_cons_zero, List.set_cons_succ]))
    refine mv_loud0 (by rfl) (fun K hK => ?_)
    go_simp
    go_at_call 15
    refine (HO0.out _).mono ?_
    rintro e w1 ⟨rfl, hb⟩
    have R1 := Lib.hid (R0.out.over hb)
    clear hb hHeld
    have hHeld := R1.out.held
    refine hK.out _ _ hHeld ?_
    clear hK K
    (try simp only [Act.put, List.setIfInBounds_toArray, List.set_cons_zero, List.set_cons_succ])
    repeat (refine mv_take0 (v := ?_) (by rfl) hHeld ?_ ?_; rotate_left 1; (focus (intro w hSw; (try dsimp only at hSw); obtain ⟨g0, g1, g2, g3, g4, g5, g6, g7, g8, g9, g10, g11⟩ := hSw; go_simp; (try with_reducible rfl); done)); (try simp only [Act.put, List.setIfInBounds_toArray, List.set_cons_zero, List.set_cons_succ]))
    refine mv_loud0 (by rfl) (fun K hK => ?_)
    go_simp
    go_at_call 14
    refine (HF.out at' HA.out _ R1.out.bel).mono ?_
    rintro e w2 ⟨rfl, hb⟩
    have R2 := Lib.hid (R1.out.over hb)
    clear hb hHeld
    have hHeld := R2.out.held
    refine hK.out _ _ hHeld ?_
    clear hK K
    (try simp only [Act.put, List.setIfInBounds_toArray, List.set_cons_zero, List.set_cons_succ])
    repeat (refine mv_take0 (v := ?_) (by rfl) hHeld ?_ ?_; rotate_left 1; (focus (intro w hSw; (try dsimp only at hSw); obtain ⟨g0, g1, g2, g3, g4, g5, g6, g7, g8, g9, g10, g11⟩ := hSw; go_simp; (try with_reducible rfl); done)); (try simp only [Act.put, List.setIfInBounds_toArray, List.set_cons_zero, List.set_cons_succ]))
    refine mv_calm ?_
    clear hHeld
    have HI0 : ∃ i0, i0 = idx (fst8 (entOf c A) at' at') := ⟨_, rfl⟩
    obtain ⟨i0, hi0⟩ := HI0
    rw [← hi0]
    have HZ := Lib.hid hi0
    clear hi0 HO0 HB R0 R1
    go_wp2
    go_loopw [8, 11, 12] (fun al sm i wr => ∃ k : Nat, k ≤ n ∧ i = .int .i64 k ∧ al = .bool (allB (entOf c A) mode kind at' k) ∧ sm = .bool (sameB (entOf c A) at' k) ∧ Bs w wr A mode kind at' (n : Int)) (fun _ _ i _ => n - (intOf i).toNat)
    case atStart => exact ⟨0, Nat.zero_le _, rfl, rfl, rfl, R2.out⟩
    case round =>
      obtain ⟨k, hk, rfl, rfl, rfl, hbs⟩ := hrel
      have k1 : (0 : Int) ≤ (k : Int) := Int.natCast_nonneg _
      have HS := Lib.hid hbs
      clear hbs R2
      have HAS := Lib.hid (allB_succ (entOf c A) mode kind at' k)
      have HSS := Lib.hid (sameB_succ (entOf c A) at' k)
      by_cases hlt : k < n
      · have k2 : (k : Int) < (n : Int) := by omega
        cases hak : allB (entOf c A) mode kind at' k
        · have hak2 := hak
          have hrr := HS.out.held
          obtain ⟨p0, p1, p2, p3, p4, p5, p6, p7, p8, p9, p10, p11⟩ := hrr
          obtain ⟨h3a, h3b⟩ := three (c := c) (A := A) (mode := mode) (kind := kind) (at' := at') hn1 hk (.inr hak)
          have HXX := Lib.hid (HX.out _ HS.out.bel)
          generalize hisv : allowed mode kind at' (at' + n - 1) (fst8 (entOf c A) at' (at' + n - 1)) = isv at h3a h3b HXX
          have HI := Lib.hid hisv
          clear hisv
          rw [hak] at h3a h3b
          cases isv
          · clear h3a h3b hak hak2 HAS HSS HI
            go_wp2_with (first
              | (go_at_call 10; have Hx := H9; refine (HW.out _ H9.out.bel).mono ?_; rintro e w10 ⟨rfl, hb⟩; have H10 := Lib.hid (H9.out.bel.trans (hb.mono H9.out.bel.size)); clear hb)
              | (go_at_call 16; refine HXX.out.mono ?_; rintro e w9 ⟨rfl, hb⟩; have H9 := Lib.hid (HS.out.over hb); clear hb))
            go_ret
            exact ⟨rfl, H10.out⟩
          · exact absurd (h3a rfl) (by simp)
        · have HK := Lib.hid hlt
          rw [hak, Bool.true_and] at HAS
          generalize hq : allowed mode kind (at' + k) (at' + k) (fst8 (entOf c A) (at' + k) (at' + k)) = q at HAS
          have hak3 : at' + k < 18446744073709551616 := by have := HL.out; omega
          have HCk := Lib.hid (fun wx hb => HC.out (at' + k) hak3 wx hb)
          rw [hq] at HCk
          have HFk := Lib.hid (fun wx hb => HF.out (at' + k) hak3 wx hb)
          obtain ⟨ik, hik⟩ : ∃ ik, ik = idx (fst8 (entOf c A) (at' + k) (at' + k)) := ⟨_, rfl⟩
          rw [← hik] at HFk HSS
          rw [← HZ.out] at HSS
          have HKk := Lib.hid (fun wx => HOk.out k hlt wx)
          clear hq hik hak hlt
          go_wp2
          refine wp_region_calm (Hl w A mode kind at' (n : Int)) (.e 0 :: .e 0 :: .e 0 :: .e 0 :: .e 0 :: .e 0 :: .l 0 :: .l 0 :: .e 0 :: .e 0 :: []) (by kernel_rfl) (by kernel_rfl) (by kernel_rfl) (by kernel_rfl) ?_
          have P0 := Lib.hid (HS.out.over (Below.refl _ _).drew)
          have hHeld := P0.out.held
          repeat (refine mv_take0 (v := ?_) (by rfl) hHeld ?_ ?_; rotate_left 1; (focus (intro w hSw; (try dsimp only at hSw); obtain ⟨g0, g1, g2, g3, g4, g5, g6, g7, g8, g9, g10, g11⟩ := hSw; go_simp; (try with_reducible rfl); done)); (try simp only [Act.put, List.setIfInBounds_toArray, List.set_cons_zero, List.set_cons_succ]))
          refine mv_loud0 (by rfl) (fun K hK => ?_)
          go_simp
          go_at_call 15
          refine (HKk.out _).mono ?_
          rintro e w1 ⟨rfl, hb⟩
          have P1 := Lib.hid (P0.out.over hb)
          clear hb hHeld
          have hHeld := P1.out.held
          refine hK.out _ _ hHeld ?_
          clear hK K
          (try simp only [Act.put, List.setIfInBounds_toArray, List.set_cons_zero, List.set_cons_succ])
          repeat (refine mv_take0 (v := ?_) (by rfl) hHeld ?_ ?_; rotate_left 1; (focus (intro w hSw; (try dsimp only at hSw); obtain ⟨g0, g1, g2, g3, g4, g5, g6, g7, g8, g9, g10, g11⟩ := hSw; go_simp; (try with_reducible rfl); done)); (try simp only [Act.put, List.setIfInBounds_toArray, List.set_cons_zero, List.set_cons_succ]))
          refine mv_loud0 (by rfl) (fun K hK => ?_)
          go_simp
          go_at_call 16
          refine (HCk.out _ P1.out.bel).mono ?_
          rintro e w2 ⟨rfl, hb⟩
          have P2 := Lib.hid (P1.out.over hb)
          clear hb hHeld
          have hHeld := P2.out.held
          refine hK.out _ _ hHeld ?_
          clear hK K
          (try simp only [Act.put, List.setIfInBounds_toArray, List.set_cons_zero, List.set_cons_succ])
          repeat (refine mv_take0 (v := ?_) (by rfl) hHeld ?_ ?_; rotate_left 1; (focus (intro w hSw; (try dsimp only at hSw); obtain ⟨g0, g1, g2, g3, g4, g5, g6, g7, g8, g9, g10, g11⟩ := hSw; go_simp; (try with_reducible rfl); done)); (try simp only [Act.put, List.setIfInBounds_toArray, List.set_cons_zero, List.set_cons_succ]))
          refine mv_calm ?_
          clear hHeld
          go_wp2
          refine wp_region_calm (Hl w A mode kind at' (n : Int)) (.e 0 :: .e 0 :: .e 0 :: .e 0 :: .l 0 :: .l 0 :: .e 0 :: .e 0 :: .e 0 :: .e 0 :: .e 0 :: []) (by kernel_rfl) (by kernel_rfl) (by kernel_rfl) (by kernel_rfl) ?_
          have U0 := Lib.hid (P2.out.over (Below.refl _ _).drew)
          have hHeld := U0.out.held
          repeat (refine mv_take0 (v := ?_) (by rfl) hHeld ?_ ?_; rotate_left 1; (focus (intro w hSw; (try dsimp only at hSw); obtain ⟨g0, g1, g2, g3, g4, g5, g6, g7, g8, g9, g10, g11⟩ := hSw; go_simp; (try with_reducible rfl); done)); (try simp only [Act.put, List.setIfInBounds_toArray, List.set_cons_zero, List.set_cons_succ]))
          refine mv_loud0 (by rfl) (fun K hK => ?_)
          go_simp
          go_at_call 15
          refine (HKk.out _).mono ?_
          rintro e w1 ⟨rfl, hb⟩
          have U1 := Lib.hid (U0.out.over hb)
          clear hb hHeld
          have hHeld := U1.out.held
          refine hK.out _ _ hHeld ?_
          clear hK K
          (try simp only [Act.put, List.setIfInBounds_toArray, List.set_cons_zero, List.set_cons_succ])
          repeat (refine mv_take0 (v := ?_) (by rfl) hHeld ?_ ?_; rotate_left 1; (focus (intro w hSw; (try dsimp only at hSw); obtain ⟨g0, g1, g2, g3, g4, g5, g6, g7, g8, g9, g10, g11⟩ := hSw; go_simp; (try with_reducible rfl); done)); (try simp only [Act.put, List.setIfInBounds_toArray, List.set_cons_zero, List.set_cons_succ]))
          refine mv_loud0 (by rfl) (fun K hK => ?_)
          go_simp
          go_at_call 14
          refine (HFk.out _ U1.out.bel).mono ?_
          rintro e w2 ⟨rfl, hb⟩
          have U2 := Lib.hid (U1.out.over hb)
          clear hb hHeld
          have hHeld := U2.out.held
          refine hK.out _ _ hHeld ?_
          clear hK K
          (try simp only [Act.put, List.setIfInBounds_toArray, List.set_cons_zero, List.set_cons_succ])
          repeat (refine mv_take0 (v := ?_) (by rfl) hHeld ?_ ?_; rotate_left 1; (focus (intro w hSw; (try dsimp only at hSw); obtain ⟨g0, g1, g2, g3, g4, g5, g6, g7, g8, g9, g10, g11⟩ := hSw; go_simp; (try with_reducible rfl); done)); (try simp only [Act.put, List.setIfInBounds_toArray, List.set_cons_zero, List.set_cons_succ]))
          refine mv_calm ?_
          clear hHeld
          cases hsk : sameB (entOf c A) at' k
          · rw [hsk, Bool.false_and] at HSS
            by_cases h0 : 0 ≤ ik
            · have e0 : decide (0 ≤ ik) = true := decide_eq_true h0
              rw [e0]
              go_wp2
              go_roundw
              case rel => exact ⟨k + 1, by have := HK.out; omega, by go_num, by rw [HAS.out], by rw [HSS.out], U2.out⟩
              case measure => simp [intOf]; have := HK.out; omega
            · have e0 : decide (0 ≤ ik) = false := decide_eq_false h0
              rw [e0]
              go_wp2
              go_roundw
              case rel => exact ⟨k + 1, by have := HK.out; omega, by go_num, by rw [HAS.out], by rw [HSS.out], U2.out⟩
              case measure => simp [intOf]; have := HK.out; omega
          · rw [hsk, Bool.true_and] at HSS
            by_cases hii : ik = i0
            · have e1 : (ik == i0) = true := by simp [hii]
              rw [e1] at HSS
              have HII := Lib.hid hii
              clear hii
              by_cases h0 : 0 ≤ ik
              · have e0 : decide (0 ≤ ik) = true := decide_eq_true h0
                rw [e0]
                go_wp2
                go_roundw
                case rel => exact ⟨k + 1, by have := HK.out; omega, by go_num, by rw [HAS.out], by rw [HSS.out], U2.out⟩
                case measure => simp [intOf]; have := HK.out; omega
              · have e0 : decide (0 ≤ ik) = false := decide_eq_false h0
                rw [e0]
                go_wp2
                go_roundw
                case rel => exact ⟨k + 1, by have := HK.out; omega, by go_num, by rw [HAS.out], by rw [HSS.out], U2.out⟩
                case measure => simp [intOf]; have := HK.out; omega
            · have e1 : (ik == i0) = false := beq_eq_false_iff_ne.2 hii
              rw [e1] at HSS
              have HII := Lib.hid hii
              by_cases h0 : 0 ≤ ik
              · have e0 : decide (0 ≤ ik) = true := decide_eq_true h0
                rw [e0]
                go_wp2
                go_roundw
                case rel => exact ⟨k + 1, by have := HK.out; omega, by go_num, by rw [HAS.out], by rw [HSS.out], U2.out⟩
                case measure => simp [intOf]; have := HK.out; omega
              · have e0 : decide (0 ≤ ik) = false := decide_eq_false h0
                rw [e0]
                go_wp2
                go_roundw
                case rel => exact ⟨k + 1, by have := HK.out; omega, by go_num, by rw [HAS.out], by rw [HSS.out], U2.out⟩
                case measure => simp [intOf]; have := HK.out; omega
      · have hkn : n = k := by omega
        subst hkn
        have hrr := HS.out.held
        obtain ⟨p0, p1, p2, p3, p4, p5, p6, p7, p8, p9, p10, p11⟩ := hrr
        obtain ⟨h3a, h3b⟩ := three (c := c) (A := A) (mode := mode) (kind := kind) (at' := at') hn1 hk (.inl rfl)
        have HXX := Lib.hid (HX.out _ HS.out.bel)
        generalize hisv : allowed mode kind at' (at' + n - 1) (fst8 (entOf c A) at' (at' + n - 1)) = isv at h3a h3b HXX
        have HI := Lib.hid hisv
        clear hisv
        clear HAS HSS
        generalize allB (entOf c A) mode kind at' n = alv at h3a h3b ⊢
        generalize sameB (entOf c A) at' n = smv at h3a h3b ⊢
        cases alv
        · cases isv
          · clear h3a h3b HI
            go_wp2_with (first
              | (go_at_call 10; have Hx := H9; refine (HW.out _ H9.out.bel).mono ?_; rintro e w10 ⟨rfl, hb⟩; have H10 := Lib.hid (H9.out.bel.trans (hb.mono H9.out.bel.size)); clear hb)
              | (go_at_call 16; refine HXX.out.mono ?_; rintro e w9 ⟨rfl, hb⟩; have H9 := Lib.hid (HS.out.over hb); clear hb))
            go_ret
            exact ⟨rfl, H10.out⟩
          · exact absurd (h3a rfl) (by simp)
        · cases isv
          · cases smv
            · clear h3a h3b HI
              go_wp2_with (first
                | (go_at_call 10; have Hx := H9; refine (HW.out _ H9.out.bel).mono ?_; rintro e w10 ⟨rfl, hb⟩; have H10 := Lib.hid (H9.out.bel.trans (hb.mono H9.out.bel.size)); clear hb)
                | (go_at_call 16; refine HXX.out.mono ?_; rintro e w9 ⟨rfl, hb⟩; have H9 := Lib.hid (HS.out.over hb); clear hb))
              go_ret
              exact ⟨rfl, H10.out⟩
            · exact absurd (h3b rfl rfl) (by simp)
          · clear h3a h3b HI
            go_wp2_with (first
              | (go_at_call 10; have Hx := H9; refine (HW.out _ H9.out.bel).mono ?_; rintro e w10 ⟨rfl, hb⟩; have H10 := Lib.hid (H9.out.bel.trans (hb.mono H9.out.bel.size)); clear hb)
              | (go_at_call 16; refine HXX.out.mono ?_; rintro e w9 ⟨rfl, hb⟩; have H9 := Lib.hid (HS.out.over hb); clear hb))
            go_ret
            exact ⟨rfl, H10.out⟩
  · have hd : decide ((at' : Int) ≤ 18446744073709551616 - (n : Int)) = false := decide_eq_false (by omega)
    rw [hmo, decide_eq_false (show ¬ at' + (n - 1) < 18446744073709551616 by omega), Bool.false_and] at HX
    clear hmo hall ha
    go_enter Tryd.func5, Tryd.ntmps5
    go_wp2
    generalize W0.setCell ⟨w.heap.size + 1, 3, none⟩ (.int .i64 (n : Int)) = w0 at HB ⊢
    clear b2 b3 f3 hW0
    have HO0 := Lib.hid (fun wx => (by
      have h := HO.out 0 (by omega) wx
      rw [Nat.add_zero, Nat.mod_eq_of_lt HA.out] at h
      exact h : Calls Tryd.prog 15 #[acc mode kind at' (n : Int), .int .i64 0] wx fun e w' => e = .returned (acc mode kind at' 1) ∧ Below wx.heap.size wx w'))
    refine wp_region_calm (Hl w A mode kind at' (n : Int)) (.e 0 :: .e 0 :: .e 0 :: .l 0 :: .l 0 :: .e 0 :: .e 0 :: .e 0 :: .e 0 :: .e 0 :: []) (by kernel_rfl) (by kernel_rfl) (by kernel_rfl) (by kernel_rfl) ?_
    have R0 := Lib.hid (HB.out.over (Below.refl _ _).drew)
    have hHeld := R0.out.held
    repeat (refine mv_take0 (v := ?_) (by rfl) hHeld ?_ ?_; rotate_left 1; (focus (intro w hSw; (try dsimp only at hSw); obtain ⟨g0, g1, g2, g3, g4, g5, g6, g7, g8, g9, g10, g11⟩ := hSw; go_simp; (try with_reducible rfl); done)); (try simp only [Act.put, List.setIfInBounds_toArray, List.set_cons_zero, List.set_cons_succ]))
    refine mv_loud0 (by rfl) (fun K hK => ?_)
    go_simp
    go_at_call 15
    refine (HO0.out _).mono ?_
    rintro e w1 ⟨rfl, hb⟩
    have R1 := Lib.hid (R0.out.over hb)
    clear hb hHeld
    have hHeld := R1.out.held
    refine hK.out _ _ hHeld ?_
    clear hK K
    (try simp only [Act.put, List.setIfInBounds_toArray, List.set_cons_zero, List.set_cons_succ])
    repeat (refine mv_take0 (v := ?_) (by rfl) hHeld ?_ ?_; rotate_left 1; (focus (intro w hSw; (try dsimp only at hSw); obtain ⟨g0, g1, g2, g3, g4, g5, g6, g7, g8, g9, g10, g11⟩ := hSw; go_simp; (try with_reducible rfl); done)); (try simp only [Act.put, List.setIfInBounds_toArray, List.set_cons_zero, List.set_cons_succ]))
    refine mv_loud0 (by rfl) (fun K hK => ?_)
    go_simp
    go_at_call 14
    refine (HF.out at' HA.out _ R1.out.bel).mono ?_
    rintro e w2 ⟨rfl, hb⟩
    have R2 := Lib.hid (R1.out.over hb)
    clear hb hHeld
    have hHeld := R2.out.held
    refine hK.out _ _ hHeld ?_
    clear hK K
    (try simp only [Act.put, List.setIfInBounds_toArray, List.set_cons_zero, List.set_cons_succ])
    repeat (refine mv_take0 (v := ?_) (by rfl) hHeld ?_ ?_; rotate_left 1; (focus (intro w hSw; (try dsimp only at hSw); obtain ⟨g0, g1, g2, g3, g4, g5, g6, g7, g8, g9, g10, g11⟩ := hSw; go_simp; (try with_reducible rfl); done)); (try simp only [Act.put, List.setIfInBounds_toArray, List.set_cons_zero, List.set_cons_succ]))
    refine mv_calm ?_
    clear hHeld
    generalize idx (fst8 (entOf c A) at' at') = i0
    clear HO0 HB R0 R1
    go_wp2
    go_loopw [8, 12] (fun al i wr => al = .bool false ∧ i = .int .i64 0 ∧ Bs w wr A mode kind at' (n : Int)) (fun _ _ _ => 0)
    case atStart => exact ⟨rfl, rfl, R2.out⟩
    case round =>
      obtain ⟨rfl, rfl, hbs⟩ := hrel
      have HS := Lib.hid hbs
      clear hbs R2
      have hrr := HS.out.held
      obtain ⟨p0, p1, p2, p3, p4, p5, p6, p7, p8, p9, p10, p11⟩ := hrr
      go_wp2_with (first
        | (go_at_call 10; have Hx := H9; refine (HW.out _ H9.out.bel).mono ?_; rintro e w10 ⟨rfl, hb⟩; have H10 := Lib.hid (H9.out.bel.trans (hb.mono H9.out.bel.size)); clear hb)
        | (go_at_call 16; refine (HX.out _ HS.out.bel).mono ?_; rintro e w9 ⟨rfl, hb⟩; have H9 := Lib.hid (HS.out.over hb); clear hb))
      go_ret
      exact ⟨rfl, H10.out⟩
end
end Go.Proofs.YtcgklflflfemnaaDoor
