/- Check. -/
import Derived.Test.YtcgklflflfemnaaDoorPe
set_option linter.unusedVariables false
set_option linter.unusedSimpArgs false
namespace Go.Proofs.YtcgklflflfemnaaDoor
open Go.RowKit
theorem fin_and1 : ∀ n : Fin 256, bits .and .u8 ((n.1 : Nat) : Int) 1 = ((n.1 % 2 : Nat) : Int) := by decide +kernel
theorem fin_and2 : ∀ n : Fin 256, bits .and .u8 ((n.1 : Nat) : Int) 2 = ((n.1 / 2 % 2 * 2 : Nat) : Int) := by decide +kernel
theorem fin_and4 : ∀ n : Fin 256, bits .and .u8 ((n.1 : Nat) : Int) 4 = ((n.1 / 4 % 2 * 4 : Nat) : Int) := by decide +kernel
theorem fin_and128 : ∀ n : Fin 256, bits .and .u8 ((n.1 : Nat) : Int) 128 = ((n.1 / 128 * 128 : Nat) : Int) := by decide +kernel
theorem entOf_b {c : Nat} {A : Nat → Nat} {i : Nat} {e : Ent} (h : entOf c A i = some e) : e.b = cfgB c i ∧ e.b < 256 := by
  have hb : cfgB c i < 256 := Nat.mod_lt _ (by decide)
  unfold entOf at h
  split at h
  · split at h
    · cases h; exact ⟨rfl, hb⟩
    · cases h
  · split at h
    · cases h; exact ⟨rfl, hb⟩
    · split at h
      · cases h; exact ⟨rfl, hb⟩
      · cases h
theorem retB {a b : Bool} (h : a = b) : Ending.returned (.bool a) = .returned (.bool b) := by rw [h]
section
variable {W w : World} (hT : TzIs W) (hW : Below W.heap.size W w) (c : Nat) (A : Nat → Nat) (mode kind at' : Nat) (z : Int) (hc : c < 18446744073709551616) (hA : ∀ k, A k < 18446744073709551616) (hz0 : -9223372036854775808 ≤ z) (hz1 : z ≤ 9223372036854775807) (ha : at' < 18446744073709551616)
include hT hW hc hA hz0 hz1 ha
set_option maxHeartbeats 8000000 in
theorem check_any : Calls Tryd.prog 16 #[.int .u64 c, .agg (arr A), acc mode kind at' z] w fun e w' => e = .returned (.bool (decide (at' + moreOf z < 18446744073709551616) && allowed mode kind at' (hiOf at' (moreOf z)) (fst8 (entOf c A) at' (hiOf at' (moreOf z))))) ∧ Below w.heap.size w w' := by
  have HR := Lib.hid (reach_any mode kind at' z hz0 hz1 ha)
  have HF := Lib.hid (fun wx (hb : Below w.heap.size w wx) => find_any hT (hW.trans (hb.mono hW.size)) c A at' (hiOf at' (moreOf z)) hc hA)
  have H0 := Lib.hid (fs_made w A mode kind at' z)
  have b0 := H0.out.b5.read 0
  have b1 := H0.out.b5.read 1
  have b2 := H0.out.b5.read 2
  have b3 := H0.out.b5.read 3
  clear hT hW hc hA hz0 hz1 ha
  generalize hiOf at' (moreOf z) = hi at HR HF ⊢
  generalize decide (at' + moreOf z < 18446744073709551616) = all at HR ⊢
  cases all
  · rw [Bool.false_and]
    clear HF
    go_enter Tryd.func16, Tryd.ntmps16
    go_wp2_with (go_at_call 18; refine (HR.out _).mono ?_; rintro e w1 ⟨rfl, hb⟩; have H1 := Lib.hid (H0.out.over hb); clear hb)
    go_ret
    exact ⟨rfl, H1.out.bel.alloc H1.out.bel.size _⟩
  · rw [Bool.true_and]
    cases hr : fst8 (entOf c A) at' hi with
    | none =>
      rw [hr] at HF
      have HF2 : Hid (∀ wx, Below w.heap.size w wx → Calls Tryd.prog 19 #[.int .u64 c, .agg (arr A), .agg #[.int .u64 at', .int .u64 hi]] wx fun e w' => e = .returned (.tuple #[.int .i64 (-1), .agg #[.int .u64 0, .int .u64 0, .int .u8 0]]) ∧ Below wx.heap.size wx w') := HF
      clear HF hr
      show Calls _ _ _ _ (fun e w' => e = .returned (.bool (decide (mode = 3))) ∧ _)
      by_cases hm : mode = 3
      · have e1 : ((mode : Int) == 3) = true := by simp [hm]
        have HV := Lib.hid hm
        clear hm
        go_enter Tryd.func16, Tryd.ntmps16
        go_wp2_with (first
          | (go_at_call 18; refine (HR.out _).mono ?_; rintro e w1 ⟨rfl, hb⟩; have H1 := Lib.hid (H0.out.over hb); have H2 := Lib.hid (H1.out.over ((Below.refl _ w1).alloc (Nat.le_refl _) (.cells #[.int .u64 at', .int .u64 hi] 43))); have H2b := Lib.hid (Box.made w1 43 #[.int .u64 at', .int .u64 hi]); clear hb; have r0 := H2.out.arr 0 (by decide); have r1 := H2.out.arr 1 (by decide); have r2 := H2.out.arr 2 (by decide); have r3 := H2.out.arr 3 (by decide); have r4 := H2.out.arr 4 (by decide); have r5 := H2.out.arr 5 (by decide); have r6 := H2.out.arr 6 (by decide); have r7 := H2.out.arr 7 (by decide))
          | (go_at_call 19; refine (HF2.out _ H2.out.bel).mono ?_; rintro e w3 ⟨rfl, hb⟩; have H3 := Lib.hid (H2.out.over hb); have H4 := Lib.hid (H3.out.over ((Below.refl _ w3).alloc (Nat.le_refl _) (.cells #[.int .u64 0, .int .u64 0, .int .u8 0] 45))); have s0 := ((H2b.out.over hb H2b.out.inHeap).more (.cells #[.int .u64 0, .int .u64 0, .int .u8 0] 45)).read 0; have s1 := ((H2b.out.over hb H2b.out.inHeap).more (.cells #[.int .u64 0, .int .u64 0, .int .u8 0] 45)).read 1; have u0 := H4.out.b5.read 0; have u1 := H4.out.b5.read 1; have H4b := Lib.hid (Box.made w3 45 #[.int .u64 0, .int .u64 0, .int .u8 0]); clear hb r0 r1 r2 r3 r4 r5 r6 r7))
        go_ret
        exact ⟨retB (decide_eq_true HV.out).symm, H4.out.bel⟩
      · have e1 : ((mode : Int) == 3) = false := beq_eq_false_iff_ne.2 (by omega)
        have HV := Lib.hid hm
        clear hm
        go_enter Tryd.func16, Tryd.ntmps16
        go_wp2_with (first
          | (go_at_call 18; refine (HR.out _).mono ?_; rintro e w1 ⟨rfl, hb⟩; have H1 := Lib.hid (H0.out.over hb); have H2 := Lib.hid (H1.out.over ((Below.refl _ w1).alloc (Nat.le_refl _) (.cells #[.int .u64 at', .int .u64 hi] 43))); have H2b := Lib.hid (Box.made w1 43 #[.int .u64 at', .int .u64 hi]); clear hb; have r0 := H2.out.arr 0 (by decide); have r1 := H2.out.arr 1 (by decide); have r2 := H2.out.arr 2 (by decide); have r3 := H2.out.arr 3 (by decide); have r4 := H2.out.arr 4 (by decide); have r5 := H2.out.arr 5 (by decide); have r6 := H2.out.arr 6 (by decide); have r7 := H2.out.arr 7 (by decide))
          | (go_at_call 19; refine (HF2.out _ H2.out.bel).mono ?_; rintro e w3 ⟨rfl, hb⟩; have H3 := Lib.hid (H2.out.over hb); have H4 := Lib.hid (H3.out.over ((Below.refl _ w3).alloc (Nat.le_refl _) (.cells #[.int .u64 0, .int .u64 0, .int .u8 0] 45))); have s0 := ((H2b.out.over hb H2b.out.inHeap).more (.cells #[.int .u64 0, .int .u64 0, .int .u8 0] 45)).read 0; have s1 := ((H2b.out.over hb H2b.out.inHeap).more (.cells #[.int .u64 0, .int .u64 0, .int .u8 0] 45)).read 1; have u0 := H4.out.b5.read 0; have u1 := H4.out.b5.read 1; have H4b := Lib.hid (Box.made w3 45 #[.int .u64 0, .int .u64 0, .int .u8 0]); clear hb r0 r1 r2 r3 r4 r5 r6 r7))
        go_ret
        exact ⟨retB (decide_eq_false HV.out).symm, H4.out.bel⟩
    | some r =>
      obtain ⟨k, x⟩ := r
      have hb8 : x.b < 256 := (entOf_b (srch_some hr).2.2.1).2
      rw [hr] at HF
      have HF2 : Hid (∀ wx, Below w.heap.size w wx → Calls Tryd.prog 19 #[.int .u64 c, .agg (arr A), .agg #[.int .u64 at', .int .u64 hi]] wx fun e w' => e = .returned (.tuple #[.int .i64 (k : Nat), .agg #[.int .u64 (x.f : Nat), .int .u64 (x.l : Nat), .int .u8 (x.b : Nat)]]) ∧ Below wx.heap.size wx w') := HF
      have HS := Lib.hid (fun wx => has_any x.f x.l at' hi wx)
      have k1 : (0 : Int) ≤ (k : Int) := Int.natCast_nonneg _
      have k2 : ¬ ((k : Int) < 0) := by omega
      clear HF hr
      show Calls _ _ _ _ (fun e w' => e = .returned (.bool (if holds x at' hi then entOk mode kind x else false)) ∧ _)
      by_cases hh : holds x at' hi
      · rw [if_pos hh]
        have hd : decide (x.f ≤ at' ∧ hi ≤ x.l) = true := decide_eq_true hh
        rw [hd] at HS
        clear hd hh
        have m128 : bits .and .u8 (x.b : Int) 128 = ((x.b / 128 * 128 : Nat) : Int) := fin_and128 ⟨x.b, hb8⟩
        have m1 : bits .and .u8 (x.b : Int) 1 = ((x.b % 2 : Nat) : Int) := fin_and1 ⟨x.b, hb8⟩
        have m2 : bits .and .u8 (x.b : Int) 2 = ((x.b / 2 % 2 * 2 : Nat) : Int) := fin_and2 ⟨x.b, hb8⟩
        have m4 : bits .and .u8 (x.b : Int) 4 = ((x.b / 4 % 2 * 4 : Nat) : Int) := fin_and4 ⟨x.b, hb8⟩
        by_cases hml : mode = 3 ∧ x.b < 128
        · have hk : entOk mode kind x = true := if_pos hml
          rw [hk]
          have e1 : ((mode : Int) == 3) = true := by simp [hml.1]
          have e2 : x.b / 128 * 128 = 0 := by omega
          rw [e2] at m128
          clear hk e2 hml
          go_enter Tryd.func16, Tryd.ntmps16
          go_wp2_with (first
            | (go_at_call 20; have Hx := H4; refine (HS.out _).mono ?_; rintro e w5 ⟨rfl, hb⟩; have H5 := Lib.hid (H4.out.over hb); have H5b := Lib.hid (H4b.out.over hb H4b.out.inHeap); clear hb s0 s1 u0 u1; have t0 := H5.out.b5.read 0; have t1 := H5.out.b5.read 1; have t2 := H5b.out.read 2)
            | (go_at_call 18; refine (HR.out _).mono ?_; rintro e w1 ⟨rfl, hb⟩; have H1 := Lib.hid (H0.out.over hb); have H2 := Lib.hid (H1.out.over ((Below.refl _ w1).alloc (Nat.le_refl _) (.cells #[.int .u64 at', .int .u64 hi] 43))); have H2b := Lib.hid (Box.made w1 43 #[.int .u64 at', .int .u64 hi]); clear hb; have r0 := H2.out.arr 0 (by decide); have r1 := H2.out.arr 1 (by decide); have r2 := H2.out.arr 2 (by decide); have r3 := H2.out.arr 3 (by decide); have r4 := H2.out.arr 4 (by decide); have r5 := H2.out.arr 5 (by decide); have r6 := H2.out.arr 6 (by decide); have r7 := H2.out.arr 7 (by decide))
            | (go_at_call 19; refine (HF2.out _ H2.out.bel).mono ?_; rintro e w3 ⟨rfl, hb⟩; have H3 := Lib.hid (H2.out.over hb); have H4 := Lib.hid (H3.out.over ((Below.refl _ w3).alloc (Nat.le_refl _) (.cells #[.int .u64 (x.f : Nat), .int .u64 (x.l : Nat), .int .u8 (x.b : Nat)] 45))); have s0 := ((H2b.out.over hb H2b.out.inHeap).more (.cells #[.int .u64 (x.f : Nat), .int .u64 (x.l : Nat), .int .u8 (x.b : Nat)] 45)).read 0; have s1 := ((H2b.out.over hb H2b.out.inHeap).more (.cells #[.int .u64 (x.f : Nat), .int .u64 (x.l : Nat), .int .u8 (x.b : Nat)] 45)).read 1; have u0 := H4.out.b5.read 0; have u1 := H4.out.b5.read 1; have H4b := Lib.hid (Box.made w3 45 #[.int .u64 (x.f : Nat), .int .u64 (x.l : Nat), .int .u8 (x.b : Nat)]); clear hb r0 r1 r2 r3 r4 r5 r6 r7))
          go_ret
          exact ⟨rfl, H5.out.bel⟩
        · have hk : entOk mode kind x = bitOf kind x.b := if_neg hml
          rw [hk]
          clear hk
          by_cases hm : mode = 3
          · have e1 : ((mode : Int) == 3) = true := by simp [hm]
            have e2 : x.b / 128 * 128 = 128 := by omega
            rw [e2] at m128
            clear e2 hml hm
            by_cases hk1 : kind = 1
            · have hbo : bitOf kind x.b = decide (x.b % 2 = 1) := by unfold bitOf; simp [hk1]
              rw [hbo]
              have f1 : ((kind : Int) == 1) = true := by simp [hk1]
              have f2 : ((kind : Int) == 2) = false := beq_eq_false_iff_ne.2 (by omega)
              have f0 : ((kind : Int) == 0) = false := beq_eq_false_iff_ne.2 (by omega)
              clear hbo hk1
              by_cases hbit : x.b % 2 = 1
              · rw [show x.b % 2 = 1 from by omega] at m1
                have HV := Lib.hid hbit
                clear hbit
                go_enter Tryd.func16, Tryd.ntmps16
                go_wp2_with (first
                  | (go_at_call 20; have Hx := H4; refine (HS.out _).mono ?_; rintro e w5 ⟨rfl, hb⟩; have H5 := Lib.hid (H4.out.over hb); have H5b := Lib.hid (H4b.out.over hb H4b.out.inHeap); clear hb s0 s1 u0 u1; have t0 := H5.out.b5.read 0; have t1 := H5.out.b5.read 1; have t2 := H5b.out.read 2)
                  | (go_at_call 18; refine (HR.out _).mono ?_; rintro e w1 ⟨rfl, hb⟩; have H1 := Lib.hid (H0.out.over hb); have H2 := Lib.hid (H1.out.over ((Below.refl _ w1).alloc (Nat.le_refl _) (.cells #[.int .u64 at', .int .u64 hi] 43))); have H2b := Lib.hid (Box.made w1 43 #[.int .u64 at', .int .u64 hi]); clear hb; have r0 := H2.out.arr 0 (by decide); have r1 := H2.out.arr 1 (by decide); have r2 := H2.out.arr 2 (by decide); have r3 := H2.out.arr 3 (by decide); have r4 := H2.out.arr 4 (by decide); have r5 := H2.out.arr 5 (by decide); have r6 := H2.out.arr 6 (by decide); have r7 := H2.out.arr 7 (by decide))
                  | (go_at_call 19; refine (HF2.out _ H2.out.bel).mono ?_; rintro e w3 ⟨rfl, hb⟩; have H3 := Lib.hid (H2.out.over hb); have H4 := Lib.hid (H3.out.over ((Below.refl _ w3).alloc (Nat.le_refl _) (.cells #[.int .u64 (x.f : Nat), .int .u64 (x.l : Nat), .int .u8 (x.b : Nat)] 45))); have s0 := ((H2b.out.over hb H2b.out.inHeap).more (.cells #[.int .u64 (x.f : Nat), .int .u64 (x.l : Nat), .int .u8 (x.b : Nat)] 45)).read 0; have s1 := ((H2b.out.over hb H2b.out.inHeap).more (.cells #[.int .u64 (x.f : Nat), .int .u64 (x.l : Nat), .int .u8 (x.b : Nat)] 45)).read 1; have u0 := H4.out.b5.read 0; have u1 := H4.out.b5.read 1; have H4b := Lib.hid (Box.made w3 45 #[.int .u64 (x.f : Nat), .int .u64 (x.l : Nat), .int .u8 (x.b : Nat)]); clear hb r0 r1 r2 r3 r4 r5 r6 r7))
                go_ret
                exact ⟨retB ((decide_eq_true HV.out).symm), H5.out.bel⟩
              · rw [show x.b % 2 = 0 from by omega] at m1
                have HV := Lib.hid hbit
                clear hbit
                go_enter Tryd.func16, Tryd.ntmps16
                go_wp2_with (first
                  | (go_at_call 20; have Hx := H4; refine (HS.out _).mono ?_; rintro e w5 ⟨rfl, hb⟩; have H5 := Lib.hid (H4.out.over hb); have H5b := Lib.hid (H4b.out.over hb H4b.out.inHeap); clear hb s0 s1 u0 u1; have t0 := H5.out.b5.read 0; have t1 := H5.out.b5.read 1; have t2 := H5b.out.read 2)
                  | (go_at_call 18; refine (HR.out _).mono ?_; rintro e w1 ⟨rfl, hb⟩; have H1 := Lib.hid (H0.out.over hb); have H2 := Lib.hid (H1.out.over ((Below.refl _ w1).alloc (Nat.le_refl _) (.cells #[.int .u64 at', .int .u64 hi] 43))); have H2b := Lib.hid (Box.made w1 43 #[.int .u64 at', .int .u64 hi]); clear hb; have r0 := H2.out.arr 0 (by decide); have r1 := H2.out.arr 1 (by decide); have r2 := H2.out.arr 2 (by decide); have r3 := H2.out.arr 3 (by decide); have r4 := H2.out.arr 4 (by decide); have r5 := H2.out.arr 5 (by decide); have r6 := H2.out.arr 6 (by decide); have r7 := H2.out.arr 7 (by decide))
                  | (go_at_call 19; refine (HF2.out _ H2.out.bel).mono ?_; rintro e w3 ⟨rfl, hb⟩; have H3 := Lib.hid (H2.out.over hb); have H4 := Lib.hid (H3.out.over ((Below.refl _ w3).alloc (Nat.le_refl _) (.cells #[.int .u64 (x.f : Nat), .int .u64 (x.l : Nat), .int .u8 (x.b : Nat)] 45))); have s0 := ((H2b.out.over hb H2b.out.inHeap).more (.cells #[.int .u64 (x.f : Nat), .int .u64 (x.l : Nat), .int .u8 (x.b : Nat)] 45)).read 0; have s1 := ((H2b.out.over hb H2b.out.inHeap).more (.cells #[.int .u64 (x.f : Nat), .int .u64 (x.l : Nat), .int .u8 (x.b : Nat)] 45)).read 1; have u0 := H4.out.b5.read 0; have u1 := H4.out.b5.read 1; have H4b := Lib.hid (Box.made w3 45 #[.int .u64 (x.f : Nat), .int .u64 (x.l : Nat), .int .u8 (x.b : Nat)]); clear hb r0 r1 r2 r3 r4 r5 r6 r7))
                go_ret
                exact ⟨retB ((decide_eq_false HV.out).symm), H5.out.bel⟩
            · skip
              by_cases hk2 : kind = 2
              · have hbo : bitOf kind x.b = decide (x.b / 2 % 2 = 1) := by unfold bitOf; simp [hk2]
                rw [hbo]
                have f1 : ((kind : Int) == 1) = false := beq_eq_false_iff_ne.2 (by omega)
                have f2 : ((kind : Int) == 2) = true := by simp [hk2]
                have f0 : ((kind : Int) == 0) = false := beq_eq_false_iff_ne.2 (by omega)
                clear hbo hk1 hk2
                by_cases hbit : x.b / 2 % 2 = 1
                · rw [show x.b / 2 % 2 * 2 = 2 from by omega] at m2
                  have HV := Lib.hid hbit
                  clear hbit
                  go_enter Tryd.func16, Tryd.ntmps16
                  go_wp2_with (first
                    | (go_at_call 20; have Hx := H4; refine (HS.out _).mono ?_; rintro e w5 ⟨rfl, hb⟩; have H5 := Lib.hid (H4.out.over hb); have H5b := Lib.hid (H4b.out.over hb H4b.out.inHeap); clear hb s0 s1 u0 u1; have t0 := H5.out.b5.read 0; have t1 := H5.out.b5.read 1; have t2 := H5b.out.read 2)
                    | (go_at_call 18; refine (HR.out _).mono ?_; rintro e w1 ⟨rfl, hb⟩; have H1 := Lib.hid (H0.out.over hb); have H2 := Lib.hid (H1.out.over ((Below.refl _ w1).alloc (Nat.le_refl _) (.cells #[.int .u64 at', .int .u64 hi] 43))); have H2b := Lib.hid (Box.made w1 43 #[.int .u64 at', .int .u64 hi]); clear hb; have r0 := H2.out.arr 0 (by decide); have r1 := H2.out.arr 1 (by decide); have r2 := H2.out.arr 2 (by decide); have r3 := H2.out.arr 3 (by decide); have r4 := H2.out.arr 4 (by decide); have r5 := H2.out.arr 5 (by decide); have r6 := H2.out.arr 6 (by decide); have r7 := H2.out.arr 7 (by decide))
                    | (go_at_call 19; refine (HF2.out _ H2.out.bel).mono ?_; rintro e w3 ⟨rfl, hb⟩; have H3 := Lib.hid (H2.out.over hb); have H4 := Lib.hid (H3.out.over ((Below.refl _ w3).alloc (Nat.le_refl _) (.cells #[.int .u64 (x.f : Nat), .int .u64 (x.l : Nat), .int .u8 (x.b : Nat)] 45))); have s0 := ((H2b.out.over hb H2b.out.inHeap).more (.cells #[.int .u64 (x.f : Nat), .int .u64 (x.l : Nat), .int .u8 (x.b : Nat)] 45)).read 0; have s1 := ((H2b.out.over hb H2b.out.inHeap).more (.cells #[.int .u64 (x.f : Nat), .int .u64 (x.l : Nat), .int .u8 (x.b : Nat)] 45)).read 1; have u0 := H4.out.b5.read 0; have u1 := H4.out.b5.read 1; have H4b := Lib.hid (Box.made w3 45 #[.int .u64 (x.f : Nat), .int .u64 (x.l : Nat), .int .u8 (x.b : Nat)]); clear hb r0 r1 r2 r3 r4 r5 r6 r7))
                  go_ret
                  exact ⟨retB ((decide_eq_true HV.out).symm), H5.out.bel⟩
                · rw [show x.b / 2 % 2 * 2 = 0 from by omega] at m2
                  have HV := Lib.hid hbit
                  clear hbit
                  go_enter Tryd.func16, Tryd.ntmps16
                  go_wp2_with (first
                    | (go_at_call 20; have Hx := H4; refine (HS.out _).mono ?_; rintro e w5 ⟨rfl, hb⟩; have H5 := Lib.hid (H4.out.over hb); have H5b := Lib.hid (H4b.out.over hb H4b.out.inHeap); clear hb s0 s1 u0 u1; have t0 := H5.out.b5.read 0; have t1 := H5.out.b5.read 1; have t2 := H5b.out.read 2)
                    | (go_at_call 18; refine (HR.out _).mono ?_; rintro e w1 ⟨rfl, hb⟩; have H1 := Lib.hid (H0.out.over hb); have H2 := Lib.hid (H1.out.over ((Below.refl _ w1).alloc (Nat.le_refl _) (.cells #[.int .u64 at', .int .u64 hi] 43))); have H2b := Lib.hid (Box.made w1 43 #[.int .u64 at', .int .u64 hi]); clear hb; have r0 := H2.out.arr 0 (by decide); have r1 := H2.out.arr 1 (by decide); have r2 := H2.out.arr 2 (by decide); have r3 := H2.out.arr 3 (by decide); have r4 := H2.out.arr 4 (by decide); have r5 := H2.out.arr 5 (by decide); have r6 := H2.out.arr 6 (by decide); have r7 := H2.out.arr 7 (by decide))
                    | (go_at_call 19; refine (HF2.out _ H2.out.bel).mono ?_; rintro e w3 ⟨rfl, hb⟩; have H3 := Lib.hid (H2.out.over hb); have H4 := Lib.hid (H3.out.over ((Below.refl _ w3).alloc (Nat.le_refl _) (.cells #[.int .u64 (x.f : Nat), .int .u64 (x.l : Nat), .int .u8 (x.b : Nat)] 45))); have s0 := ((H2b.out.over hb H2b.out.inHeap).more (.cells #[.int .u64 (x.f : Nat), .int .u64 (x.l : Nat), .int .u8 (x.b : Nat)] 45)).read 0; have s1 := ((H2b.out.over hb H2b.out.inHeap).more (.cells #[.int .u64 (x.f : Nat), .int .u64 (x.l : Nat), .int .u8 (x.b : Nat)] 45)).read 1; have u0 := H4.out.b5.read 0; have u1 := H4.out.b5.read 1; have H4b := Lib.hid (Box.made w3 45 #[.int .u64 (x.f : Nat), .int .u64 (x.l : Nat), .int .u8 (x.b : Nat)]); clear hb r0 r1 r2 r3 r4 r5 r6 r7))
                  go_ret
                  exact ⟨retB ((decide_eq_false HV.out).symm), H5.out.bel⟩
              · skip
                by_cases hk0 : kind = 0
                · have hbo : bitOf kind x.b = decide (x.b / 4 % 2 = 1) := by unfold bitOf; simp [hk0]
                  rw [hbo]
                  have f1 : ((kind : Int) == 1) = false := beq_eq_false_iff_ne.2 (by omega)
                  have f2 : ((kind : Int) == 2) = false := beq_eq_false_iff_ne.2 (by omega)
                  have f0 : ((kind : Int) == 0) = true := by simp [hk0]
                  clear hbo hk1 hk2 hk0
                  by_cases hbit : x.b / 4 % 2 = 1
                  · rw [show x.b / 4 % 2 * 4 = 4 from by omega] at m4
                    have HV := Lib.hid hbit
                    clear hbit
                    go_enter Tryd.func16, Tryd.ntmps16
                    go_wp2_with (first
                      | (go_at_call 20; have Hx := H4; refine (HS.out _).mono ?_; rintro e w5 ⟨rfl, hb⟩; have H5 := Lib.hid (H4.out.over hb); have H5b := Lib.hid (H4b.out.over hb H4b.out.inHeap); clear hb s0 s1 u0 u1; have t0 := H5.out.b5.read 0; have t1 := H5.out.b5.read 1; have t2 := H5b.out.read 2)
                      | (go_at_call 18; refine (HR.out _).mono ?_; rintro e w1 ⟨rfl, hb⟩; have H1 := Lib.hid (H0.out.over hb); have H2 := Lib.hid (H1.out.over ((Below.refl _ w1).alloc (Nat.le_refl _) (.cells #[.int .u64 at', .int .u64 hi] 43))); have H2b := Lib.hid (Box.made w1 43 #[.int .u64 at', .int .u64 hi]); clear hb; have r0 := H2.out.arr 0 (by decide); have r1 := H2.out.arr 1 (by decide); have r2 := H2.out.arr 2 (by decide); have r3 := H2.out.arr 3 (by decide); have r4 := H2.out.arr 4 (by decide); have r5 := H2.out.arr 5 (by decide); have r6 := H2.out.arr 6 (by decide); have r7 := H2.out.arr 7 (by decide))
                      | (go_at_call 19; refine (HF2.out _ H2.out.bel).mono ?_; rintro e w3 ⟨rfl, hb⟩; have H3 := Lib.hid (H2.out.over hb); have H4 := Lib.hid (H3.out.over ((Below.refl _ w3).alloc (Nat.le_refl _) (.cells #[.int .u64 (x.f : Nat), .int .u64 (x.l : Nat), .int .u8 (x.b : Nat)] 45))); have s0 := ((H2b.out.over hb H2b.out.inHeap).more (.cells #[.int .u64 (x.f : Nat), .int .u64 (x.l : Nat), .int .u8 (x.b : Nat)] 45)).read 0; have s1 := ((H2b.out.over hb H2b.out.inHeap).more (.cells #[.int .u64 (x.f : Nat), .int .u64 (x.l : Nat), .int .u8 (x.b : Nat)] 45)).read 1; have u0 := H4.out.b5.read 0; have u1 := H4.out.b5.read 1; have H4b := Lib.hid (Box.made w3 45 #[.int .u64 (x.f : Nat), .int .u64 (x.l : Nat), .int .u8 (x.b : Nat)]); clear hb r0 r1 r2 r3 r4 r5 r6 r7))
                    go_ret
                    exact ⟨retB ((decide_eq_true HV.out).symm), H5.out.bel⟩
                  · rw [show x.b / 4 % 2 * 4 = 0 from by omega] at m4
                    have HV := Lib.hid hbit
                    clear hbit
                    go_enter Tryd.func16, Tryd.ntmps16
                    go_wp2_with (first
                      | (go_at_call 20; have Hx := H4; refine (HS.out _).mono ?_; rintro e w5 ⟨rfl, hb⟩; have H5 := Lib.hid (H4.out.over hb); have H5b := Lib.hid (H4b.out.over hb H4b.out.inHeap); clear hb s0 s1 u0 u1; have t0 := H5.out.b5.read 0; have t1 := H5.out.b5.read 1; have t2 := H5b.out.read 2)
                      | (go_at_call 18; refine (HR.out _).mono ?_; rintro e w1 ⟨rfl, hb⟩; have H1 := Lib.hid (H0.out.over hb); have H2 := Lib.hid (H1.out.over ((Below.refl _ w1).alloc (Nat.le_refl _) (.cells #[.int .u64 at', .int .u64 hi] 43))); have H2b := Lib.hid (Box.made w1 43 #[.int .u64 at', .int .u64 hi]); clear hb; have r0 := H2.out.arr 0 (by decide); have r1 := H2.out.arr 1 (by decide); have r2 := H2.out.arr 2 (by decide); have r3 := H2.out.arr 3 (by decide); have r4 := H2.out.arr 4 (by decide); have r5 := H2.out.arr 5 (by decide); have r6 := H2.out.arr 6 (by decide); have r7 := H2.out.arr 7 (by decide))
                      | (go_at_call 19; refine (HF2.out _ H2.out.bel).mono ?_; rintro e w3 ⟨rfl, hb⟩; have H3 := Lib.hid (H2.out.over hb); have H4 := Lib.hid (H3.out.over ((Below.refl _ w3).alloc (Nat.le_refl _) (.cells #[.int .u64 (x.f : Nat), .int .u64 (x.l : Nat), .int .u8 (x.b : Nat)] 45))); have s0 := ((H2b.out.over hb H2b.out.inHeap).more (.cells #[.int .u64 (x.f : Nat), .int .u64 (x.l : Nat), .int .u8 (x.b : Nat)] 45)).read 0; have s1 := ((H2b.out.over hb H2b.out.inHeap).more (.cells #[.int .u64 (x.f : Nat), .int .u64 (x.l : Nat), .int .u8 (x.b : Nat)] 45)).read 1; have u0 := H4.out.b5.read 0; have u1 := H4.out.b5.read 1; have H4b := Lib.hid (Box.made w3 45 #[.int .u64 (x.f : Nat), .int .u64 (x.l : Nat), .int .u8 (x.b : Nat)]); clear hb r0 r1 r2 r3 r4 r5 r6 r7))
                    go_ret
                    exact ⟨retB ((decide_eq_false HV.out).symm), H5.out.bel⟩
                · have hbo : bitOf kind x.b = false := by unfold bitOf; simp [hk1, hk2, hk0]
                  rw [hbo]
                  have f1 : ((kind : Int) == 1) = false := beq_eq_false_iff_ne.2 (by omega)
                  have f2 : ((kind : Int) == 2) = false := beq_eq_false_iff_ne.2 (by omega)
                  have f0 : ((kind : Int) == 0) = false := beq_eq_false_iff_ne.2 (by omega)
                  clear hbo hk1 hk2 hk0
                  go_enter Tryd.func16, Tryd.ntmps16
                  go_wp2_with (first
                    | (go_at_call 20; have Hx := H4; refine (HS.out _).mono ?_; rintro e w5 ⟨rfl, hb⟩; have H5 := Lib.hid (H4.out.over hb); have H5b := Lib.hid (H4b.out.over hb H4b.out.inHeap); clear hb s0 s1 u0 u1; have t0 := H5.out.b5.read 0; have t1 := H5.out.b5.read 1; have t2 := H5b.out.read 2)
                    | (go_at_call 18; refine (HR.out _).mono ?_; rintro e w1 ⟨rfl, hb⟩; have H1 := Lib.hid (H0.out.over hb); have H2 := Lib.hid (H1.out.over ((Below.refl _ w1).alloc (Nat.le_refl _) (.cells #[.int .u64 at', .int .u64 hi] 43))); have H2b := Lib.hid (Box.made w1 43 #[.int .u64 at', .int .u64 hi]); clear hb; have r0 := H2.out.arr 0 (by decide); have r1 := H2.out.arr 1 (by decide); have r2 := H2.out.arr 2 (by decide); have r3 := H2.out.arr 3 (by decide); have r4 := H2.out.arr 4 (by decide); have r5 := H2.out.arr 5 (by decide); have r6 := H2.out.arr 6 (by decide); have r7 := H2.out.arr 7 (by decide))
                    | (go_at_call 19; refine (HF2.out _ H2.out.bel).mono ?_; rintro e w3 ⟨rfl, hb⟩; have H3 := Lib.hid (H2.out.over hb); have H4 := Lib.hid (H3.out.over ((Below.refl _ w3).alloc (Nat.le_refl _) (.cells #[.int .u64 (x.f : Nat), .int .u64 (x.l : Nat), .int .u8 (x.b : Nat)] 45))); have s0 := ((H2b.out.over hb H2b.out.inHeap).more (.cells #[.int .u64 (x.f : Nat), .int .u64 (x.l : Nat), .int .u8 (x.b : Nat)] 45)).read 0; have s1 := ((H2b.out.over hb H2b.out.inHeap).more (.cells #[.int .u64 (x.f : Nat), .int .u64 (x.l : Nat), .int .u8 (x.b : Nat)] 45)).read 1; have u0 := H4.out.b5.read 0; have u1 := H4.out.b5.read 1; have H4b := Lib.hid (Box.made w3 45 #[.int .u64 (x.f : Nat), .int .u64 (x.l : Nat), .int .u8 (x.b : Nat)]); clear hb r0 r1 r2 r3 r4 r5 r6 r7))
                  go_ret
                  exact ⟨rfl, H5.out.bel⟩
          · have e1 : ((mode : Int) == 3) = false := beq_eq_false_iff_ne.2 (by omega)
            clear hml hm m128
            by_cases hk1 : kind = 1
            · have hbo : bitOf kind x.b = decide (x.b % 2 = 1) := by unfold bitOf; simp [hk1]
              rw [hbo]
              have f1 : ((kind : Int) == 1) = true := by simp [hk1]
              have f2 : ((kind : Int) == 2) = false := beq_eq_false_iff_ne.2 (by omega)
              have f0 : ((kind : Int) == 0) = false := beq_eq_false_iff_ne.2 (by omega)
              clear hbo hk1
              by_cases hbit : x.b % 2 = 1
              · rw [show x.b % 2 = 1 from by omega] at m1
                have HV := Lib.hid hbit
                clear hbit
                go_enter Tryd.func16, Tryd.ntmps16
                go_wp2_with (first
                  | (go_at_call 20; have Hx := H4; refine (HS.out _).mono ?_; rintro e w5 ⟨rfl, hb⟩; have H5 := Lib.hid (H4.out.over hb); have H5b := Lib.hid (H4b.out.over hb H4b.out.inHeap); clear hb s0 s1 u0 u1; have t0 := H5.out.b5.read 0; have t1 := H5.out.b5.read 1; have t2 := H5b.out.read 2)
                  | (go_at_call 18; refine (HR.out _).mono ?_; rintro e w1 ⟨rfl, hb⟩; have H1 := Lib.hid (H0.out.over hb); have H2 := Lib.hid (H1.out.over ((Below.refl _ w1).alloc (Nat.le_refl _) (.cells #[.int .u64 at', .int .u64 hi] 43))); have H2b := Lib.hid (Box.made w1 43 #[.int .u64 at', .int .u64 hi]); clear hb; have r0 := H2.out.arr 0 (by decide); have r1 := H2.out.arr 1 (by decide); have r2 := H2.out.arr 2 (by decide); have r3 := H2.out.arr 3 (by decide); have r4 := H2.out.arr 4 (by decide); have r5 := H2.out.arr 5 (by decide); have r6 := H2.out.arr 6 (by decide); have r7 := H2.out.arr 7 (by decide))
                  | (go_at_call 19; refine (HF2.out _ H2.out.bel).mono ?_; rintro e w3 ⟨rfl, hb⟩; have H3 := Lib.hid (H2.out.over hb); have H4 := Lib.hid (H3.out.over ((Below.refl _ w3).alloc (Nat.le_refl _) (.cells #[.int .u64 (x.f : Nat), .int .u64 (x.l : Nat), .int .u8 (x.b : Nat)] 45))); have s0 := ((H2b.out.over hb H2b.out.inHeap).more (.cells #[.int .u64 (x.f : Nat), .int .u64 (x.l : Nat), .int .u8 (x.b : Nat)] 45)).read 0; have s1 := ((H2b.out.over hb H2b.out.inHeap).more (.cells #[.int .u64 (x.f : Nat), .int .u64 (x.l : Nat), .int .u8 (x.b : Nat)] 45)).read 1; have u0 := H4.out.b5.read 0; have u1 := H4.out.b5.read 1; have H4b := Lib.hid (Box.made w3 45 #[.int .u64 (x.f : Nat), .int .u64 (x.l : Nat), .int .u8 (x.b : Nat)]); clear hb r0 r1 r2 r3 r4 r5 r6 r7))
                go_ret
                exact ⟨retB ((decide_eq_true HV.out).symm), H5.out.bel⟩
              · rw [show x.b % 2 = 0 from by omega] at m1
                have HV := Lib.hid hbit
                clear hbit
                go_enter Tryd.func16, Tryd.ntmps16
                go_wp2_with (first
                  | (go_at_call 20; have Hx := H4; refine (HS.out _).mono ?_; rintro e w5 ⟨rfl, hb⟩; have H5 := Lib.hid (H4.out.over hb); have H5b := Lib.hid (H4b.out.over hb H4b.out.inHeap); clear hb s0 s1 u0 u1; have t0 := H5.out.b5.read 0; have t1 := H5.out.b5.read 1; have t2 := H5b.out.read 2)
                  | (go_at_call 18; refine (HR.out _).mono ?_; rintro e w1 ⟨rfl, hb⟩; have H1 := Lib.hid (H0.out.over hb); have H2 := Lib.hid (H1.out.over ((Below.refl _ w1).alloc (Nat.le_refl _) (.cells #[.int .u64 at', .int .u64 hi] 43))); have H2b := Lib.hid (Box.made w1 43 #[.int .u64 at', .int .u64 hi]); clear hb; have r0 := H2.out.arr 0 (by decide); have r1 := H2.out.arr 1 (by decide); have r2 := H2.out.arr 2 (by decide); have r3 := H2.out.arr 3 (by decide); have r4 := H2.out.arr 4 (by decide); have r5 := H2.out.arr 5 (by decide); have r6 := H2.out.arr 6 (by decide); have r7 := H2.out.arr 7 (by decide))
                  | (go_at_call 19; refine (HF2.out _ H2.out.bel).mono ?_; rintro e w3 ⟨rfl, hb⟩; have H3 := Lib.hid (H2.out.over hb); have H4 := Lib.hid (H3.out.over ((Below.refl _ w3).alloc (Nat.le_refl _) (.cells #[.int .u64 (x.f : Nat), .int .u64 (x.l : Nat), .int .u8 (x.b : Nat)] 45))); have s0 := ((H2b.out.over hb H2b.out.inHeap).more (.cells #[.int .u64 (x.f : Nat), .int .u64 (x.l : Nat), .int .u8 (x.b : Nat)] 45)).read 0; have s1 := ((H2b.out.over hb H2b.out.inHeap).more (.cells #[.int .u64 (x.f : Nat), .int .u64 (x.l : Nat), .int .u8 (x.b : Nat)] 45)).read 1; have u0 := H4.out.b5.read 0; have u1 := H4.out.b5.read 1; have H4b := Lib.hid (Box.made w3 45 #[.int .u64 (x.f : Nat), .int .u64 (x.l : Nat), .int .u8 (x.b : Nat)]); clear hb r0 r1 r2 r3 r4 r5 r6 r7))
                go_ret
                exact ⟨retB ((decide_eq_false HV.out).symm), H5.out.bel⟩
            · skip
              by_cases hk2 : kind = 2
              · have hbo : bitOf kind x.b = decide (x.b / 2 % 2 = 1) := by unfold bitOf; simp [hk2]
                rw [hbo]
                have f1 : ((kind : Int) == 1) = false := beq_eq_false_iff_ne.2 (by omega)
                have f2 : ((kind : Int) == 2) = true := by simp [hk2]
                have f0 : ((kind : Int) == 0) = false := beq_eq_false_iff_ne.2 (by omega)
                clear hbo hk1 hk2
                by_cases hbit : x.b / 2 % 2 = 1
                · rw [show x.b / 2 % 2 * 2 = 2 from by omega] at m2
                  have HV := Lib.hid hbit
                  clear hbit
                  go_enter Tryd.func16, Tryd.ntmps16
                  go_wp2_with (first
                    | (go_at_call 20; have Hx := H4; refine (HS.out _).mono ?_; rintro e w5 ⟨rfl, hb⟩; have H5 := Lib.hid (H4.out.over hb); have H5b := Lib.hid (H4b.out.over hb H4b.out.inHeap); clear hb s0 s1 u0 u1; have t0 := H5.out.b5.read 0; have t1 := H5.out.b5.read 1; have t2 := H5b.out.read 2)
                    | (go_at_call 18; refine (HR.out _).mono ?_; rintro e w1 ⟨rfl, hb⟩; have H1 := Lib.hid (H0.out.over hb); have H2 := Lib.hid (H1.out.over ((Below.refl _ w1).alloc (Nat.le_refl _) (.cells #[.int .u64 at', .int .u64 hi] 43))); have H2b := Lib.hid (Box.made w1 43 #[.int .u64 at', .int .u64 hi]); clear hb; have r0 := H2.out.arr 0 (by decide); have r1 := H2.out.arr 1 (by decide); have r2 := H2.out.arr 2 (by decide); have r3 := H2.out.arr 3 (by decide); have r4 := H2.out.arr 4 (by decide); have r5 := H2.out.arr 5 (by decide); have r6 := H2.out.arr 6 (by decide); have r7 := H2.out.arr 7 (by decide))
                    | (go_at_call 19; refine (HF2.out _ H2.out.bel).mono ?_; rintro e w3 ⟨rfl, hb⟩; have H3 := Lib.hid (H2.out.over hb); have H4 := Lib.hid (H3.out.over ((Below.refl _ w3).alloc (Nat.le_refl _) (.cells #[.int .u64 (x.f : Nat), .int .u64 (x.l : Nat), .int .u8 (x.b : Nat)] 45))); have s0 := ((H2b.out.over hb H2b.out.inHeap).more (.cells #[.int .u64 (x.f : Nat), .int .u64 (x.l : Nat), .int .u8 (x.b : Nat)] 45)).read 0; have s1 := ((H2b.out.over hb H2b.out.inHeap).more (.cells #[.int .u64 (x.f : Nat), .int .u64 (x.l : Nat), .int .u8 (x.b : Nat)] 45)).read 1; have u0 := H4.out.b5.read 0; have u1 := H4.out.b5.read 1; have H4b := Lib.hid (Box.made w3 45 #[.int .u64 (x.f : Nat), .int .u64 (x.l : Nat), .int .u8 (x.b : Nat)]); clear hb r0 r1 r2 r3 r4 r5 r6 r7))
                  go_ret
                  exact ⟨retB ((decide_eq_true HV.out).symm), H5.out.bel⟩
                · rw [show x.b / 2 % 2 * 2 = 0 from by omega] at m2
                  have HV := Lib.hid hbit
                  clear hbit
                  go_enter Tryd.func16, Tryd.ntmps16
                  go_wp2_with (first
                    | (go_at_call 20; have Hx := H4; refine (HS.out _).mono ?_; rintro e w5 ⟨rfl, hb⟩; have H5 := Lib.hid (H4.out.over hb); have H5b := Lib.hid (H4b.out.over hb H4b.out.inHeap); clear hb s0 s1 u0 u1; have t0 := H5.out.b5.read 0; have t1 := H5.out.b5.read 1; have t2 := H5b.out.read 2)
                    | (go_at_call 18; refine (HR.out _).mono ?_; rintro e w1 ⟨rfl, hb⟩; have H1 := Lib.hid (H0.out.over hb); have H2 := Lib.hid (H1.out.over ((Below.refl _ w1).alloc (Nat.le_refl _) (.cells #[.int .u64 at', .int .u64 hi] 43))); have H2b := Lib.hid (Box.made w1 43 #[.int .u64 at', .int .u64 hi]); clear hb; have r0 := H2.out.arr 0 (by decide); have r1 := H2.out.arr 1 (by decide); have r2 := H2.out.arr 2 (by decide); have r3 := H2.out.arr 3 (by decide); have r4 := H2.out.arr 4 (by decide); have r5 := H2.out.arr 5 (by decide); have r6 := H2.out.arr 6 (by decide); have r7 := H2.out.arr 7 (by decide))
                    | (go_at_call 19; refine (HF2.out _ H2.out.bel).mono ?_; rintro e w3 ⟨rfl, hb⟩; have H3 := Lib.hid (H2.out.over hb); have H4 := Lib.hid (H3.out.over ((Below.refl _ w3).alloc (Nat.le_refl _) (.cells #[.int .u64 (x.f : Nat), .int .u64 (x.l : Nat), .int .u8 (x.b : Nat)] 45))); have s0 := ((H2b.out.over hb H2b.out.inHeap).more (.cells #[.int .u64 (x.f : Nat), .int .u64 (x.l : Nat), .int .u8 (x.b : Nat)] 45)).read 0; have s1 := ((H2b.out.over hb H2b.out.inHeap).more (.cells #[.int .u64 (x.f : Nat), .int .u64 (x.l : Nat), .int .u8 (x.b : Nat)] 45)).read 1; have u0 := H4.out.b5.read 0; have u1 := H4.out.b5.read 1; have H4b := Lib.hid (Box.made w3 45 #[.int .u64 (x.f : Nat), .int .u64 (x.l : Nat), .int .u8 (x.b : Nat)]); clear hb r0 r1 r2 r3 r4 r5 r6 r7))
                  go_ret
                  exact ⟨retB ((decide_eq_false HV.out).symm), H5.out.bel⟩
              · skip
                by_cases hk0 : kind = 0
                · have hbo : bitOf kind x.b = decide (x.b / 4 % 2 = 1) := by unfold bitOf; simp [hk0]
                  rw [hbo]
                  have f1 : ((kind : Int) == 1) = false := beq_eq_false_iff_ne.2 (by omega)
                  have f2 : ((kind : Int) == 2) = false := beq_eq_false_iff_ne.2 (by omega)
                  have f0 : ((kind : Int) == 0) = true := by simp [hk0]
                  clear hbo hk1 hk2 hk0
                  by_cases hbit : x.b / 4 % 2 = 1
                  · rw [show x.b / 4 % 2 * 4 = 4 from by omega] at m4
                    have HV := Lib.hid hbit
                    clear hbit
                    go_enter Tryd.func16, Tryd.ntmps16
                    go_wp2_with (first
                      | (go_at_call 20; have Hx := H4; refine (HS.out _).mono ?_; rintro e w5 ⟨rfl, hb⟩; have H5 := Lib.hid (H4.out.over hb); have H5b := Lib.hid (H4b.out.over hb H4b.out.inHeap); clear hb s0 s1 u0 u1; have t0 := H5.out.b5.read 0; have t1 := H5.out.b5.read 1; have t2 := H5b.out.read 2)
                      | (go_at_call 18; refine (HR.out _).mono ?_; rintro e w1 ⟨rfl, hb⟩; have H1 := Lib.hid (H0.out.over hb); have H2 := Lib.hid (H1.out.over ((Below.refl _ w1).alloc (Nat.le_refl _) (.cells #[.int .u64 at', .int .u64 hi] 43))); have H2b := Lib.hid (Box.made w1 43 #[.int .u64 at', .int .u64 hi]); clear hb; have r0 := H2.out.arr 0 (by decide); have r1 := H2.out.arr 1 (by decide); have r2 := H2.out.arr 2 (by decide); have r3 := H2.out.arr 3 (by decide); have r4 := H2.out.arr 4 (by decide); have r5 := H2.out.arr 5 (by decide); have r6 := H2.out.arr 6 (by decide); have r7 := H2.out.arr 7 (by decide))
                      | (go_at_call 19; refine (HF2.out _ H2.out.bel).mono ?_; rintro e w3 ⟨rfl, hb⟩; have H3 := Lib.hid (H2.out.over hb); have H4 := Lib.hid (H3.out.over ((Below.refl _ w3).alloc (Nat.le_refl _) (.cells #[.int .u64 (x.f : Nat), .int .u64 (x.l : Nat), .int .u8 (x.b : Nat)] 45))); have s0 := ((H2b.out.over hb H2b.out.inHeap).more (.cells #[.int .u64 (x.f : Nat), .int .u64 (x.l : Nat), .int .u8 (x.b : Nat)] 45)).read 0; have s1 := ((H2b.out.over hb H2b.out.inHeap).more (.cells #[.int .u64 (x.f : Nat), .int .u64 (x.l : Nat), .int .u8 (x.b : Nat)] 45)).read 1; have u0 := H4.out.b5.read 0; have u1 := H4.out.b5.read 1; have H4b := Lib.hid (Box.made w3 45 #[.int .u64 (x.f : Nat), .int .u64 (x.l : Nat), .int .u8 (x.b : Nat)]); clear hb r0 r1 r2 r3 r4 r5 r6 r7))
                    go_ret
                    exact ⟨retB ((decide_eq_true HV.out).symm), H5.out.bel⟩
                  · rw [show x.b / 4 % 2 * 4 = 0 from by omega] at m4
                    have HV := Lib.hid hbit
                    clear hbit
                    go_enter Tryd.func16, Tryd.ntmps16
                    go_wp2_with (first
                      | (go_at_call 20; have Hx := H4; refine (HS.out _).mono ?_; rintro e w5 ⟨rfl, hb⟩; have H5 := Lib.hid (H4.out.over hb); have H5b := Lib.hid (H4b.out.over hb H4b.out.inHeap); clear hb s0 s1 u0 u1; have t0 := H5.out.b5.read 0; have t1 := H5.out.b5.read 1; have t2 := H5b.out.read 2)
                      | (go_at_call 18; refine (HR.out _).mono ?_; rintro e w1 ⟨rfl, hb⟩; have H1 := Lib.hid (H0.out.over hb); have H2 := Lib.hid (H1.out.over ((Below.refl _ w1).alloc (Nat.le_refl _) (.cells #[.int .u64 at', .int .u64 hi] 43))); have H2b := Lib.hid (Box.made w1 43 #[.int .u64 at', .int .u64 hi]); clear hb; have r0 := H2.out.arr 0 (by decide); have r1 := H2.out.arr 1 (by decide); have r2 := H2.out.arr 2 (by decide); have r3 := H2.out.arr 3 (by decide); have r4 := H2.out.arr 4 (by decide); have r5 := H2.out.arr 5 (by decide); have r6 := H2.out.arr 6 (by decide); have r7 := H2.out.arr 7 (by decide))
                      | (go_at_call 19; refine (HF2.out _ H2.out.bel).mono ?_; rintro e w3 ⟨rfl, hb⟩; have H3 := Lib.hid (H2.out.over hb); have H4 := Lib.hid (H3.out.over ((Below.refl _ w3).alloc (Nat.le_refl _) (.cells #[.int .u64 (x.f : Nat), .int .u64 (x.l : Nat), .int .u8 (x.b : Nat)] 45))); have s0 := ((H2b.out.over hb H2b.out.inHeap).more (.cells #[.int .u64 (x.f : Nat), .int .u64 (x.l : Nat), .int .u8 (x.b : Nat)] 45)).read 0; have s1 := ((H2b.out.over hb H2b.out.inHeap).more (.cells #[.int .u64 (x.f : Nat), .int .u64 (x.l : Nat), .int .u8 (x.b : Nat)] 45)).read 1; have u0 := H4.out.b5.read 0; have u1 := H4.out.b5.read 1; have H4b := Lib.hid (Box.made w3 45 #[.int .u64 (x.f : Nat), .int .u64 (x.l : Nat), .int .u8 (x.b : Nat)]); clear hb r0 r1 r2 r3 r4 r5 r6 r7))
                    go_ret
                    exact ⟨retB ((decide_eq_false HV.out).symm), H5.out.bel⟩
                · have hbo : bitOf kind x.b = false := by unfold bitOf; simp [hk1, hk2, hk0]
                  rw [hbo]
                  have f1 : ((kind : Int) == 1) = false := beq_eq_false_iff_ne.2 (by omega)
                  have f2 : ((kind : Int) == 2) = false := beq_eq_false_iff_ne.2 (by omega)
                  have f0 : ((kind : Int) == 0) = false := beq_eq_false_iff_ne.2 (by omega)
                  clear hbo hk1 hk2 hk0
                  go_enter Tryd.func16, Tryd.ntmps16
                  go_wp2_with (first
                    | (go_at_call 20; have Hx := H4; refine (HS.out _).mono ?_; rintro e w5 ⟨rfl, hb⟩; have H5 := Lib.hid (H4.out.over hb); have H5b := Lib.hid (H4b.out.over hb H4b.out.inHeap); clear hb s0 s1 u0 u1; have t0 := H5.out.b5.read 0; have t1 := H5.out.b5.read 1; have t2 := H5b.out.read 2)
                    | (go_at_call 18; refine (HR.out _).mono ?_; rintro e w1 ⟨rfl, hb⟩; have H1 := Lib.hid (H0.out.over hb); have H2 := Lib.hid (H1.out.over ((Below.refl _ w1).alloc (Nat.le_refl _) (.cells #[.int .u64 at', .int .u64 hi] 43))); have H2b := Lib.hid (Box.made w1 43 #[.int .u64 at', .int .u64 hi]); clear hb; have r0 := H2.out.arr 0 (by decide); have r1 := H2.out.arr 1 (by decide); have r2 := H2.out.arr 2 (by decide); have r3 := H2.out.arr 3 (by decide); have r4 := H2.out.arr 4 (by decide); have r5 := H2.out.arr 5 (by decide); have r6 := H2.out.arr 6 (by decide); have r7 := H2.out.arr 7 (by decide))
                    | (go_at_call 19; refine (HF2.out _ H2.out.bel).mono ?_; rintro e w3 ⟨rfl, hb⟩; have H3 := Lib.hid (H2.out.over hb); have H4 := Lib.hid (H3.out.over ((Below.refl _ w3).alloc (Nat.le_refl _) (.cells #[.int .u64 (x.f : Nat), .int .u64 (x.l : Nat), .int .u8 (x.b : Nat)] 45))); have s0 := ((H2b.out.over hb H2b.out.inHeap).more (.cells #[.int .u64 (x.f : Nat), .int .u64 (x.l : Nat), .int .u8 (x.b : Nat)] 45)).read 0; have s1 := ((H2b.out.over hb H2b.out.inHeap).more (.cells #[.int .u64 (x.f : Nat), .int .u64 (x.l : Nat), .int .u8 (x.b : Nat)] 45)).read 1; have u0 := H4.out.b5.read 0; have u1 := H4.out.b5.read 1; have H4b := Lib.hid (Box.made w3 45 #[.int .u64 (x.f : Nat), .int .u64 (x.l : Nat), .int .u8 (x.b : Nat)]); clear hb r0 r1 r2 r3 r4 r5 r6 r7))
                  go_ret
                  exact ⟨rfl, H5.out.bel⟩
      · rw [if_neg hh]
        have hd : decide (x.f ≤ at' ∧ hi ≤ x.l) = false := decide_eq_false hh
        rw [hd] at HS
        clear hd hh
        go_enter Tryd.func16, Tryd.ntmps16
        go_wp2_with (first
          | (go_at_call 20; have Hx := H4; refine (HS.out _).mono ?_; rintro e w5 ⟨rfl, hb⟩; have H5 := Lib.hid (H4.out.over hb); have H5b := Lib.hid (H4b.out.over hb H4b.out.inHeap); clear hb s0 s1 u0 u1; have t0 := H5.out.b5.read 0; have t1 := H5.out.b5.read 1; have t2 := H5b.out.read 2)
          | (go_at_call 18; refine (HR.out _).mono ?_; rintro e w1 ⟨rfl, hb⟩; have H1 := Lib.hid (H0.out.over hb); have H2 := Lib.hid (H1.out.over ((Below.refl _ w1).alloc (Nat.le_refl _) (.cells #[.int .u64 at', .int .u64 hi] 43))); have H2b := Lib.hid (Box.made w1 43 #[.int .u64 at', .int .u64 hi]); clear hb; have r0 := H2.out.arr 0 (by decide); have r1 := H2.out.arr 1 (by decide); have r2 := H2.out.arr 2 (by decide); have r3 := H2.out.arr 3 (by decide); have r4 := H2.out.arr 4 (by decide); have r5 := H2.out.arr 5 (by decide); have r6 := H2.out.arr 6 (by decide); have r7 := H2.out.arr 7 (by decide))
          | (go_at_call 19; refine (HF2.out _ H2.out.bel).mono ?_; rintro e w3 ⟨rfl, hb⟩; have H3 := Lib.hid (H2.out.over hb); have H4 := Lib.hid (H3.out.over ((Below.refl _ w3).alloc (Nat.le_refl _) (.cells #[.int .u64 (x.f : Nat), .int .u64 (x.l : Nat), .int .u8 (x.b : Nat)] 45))); have s0 := ((H2b.out.over hb H2b.out.inHeap).more (.cells #[.int .u64 (x.f : Nat), .int .u64 (x.l : Nat), .int .u8 (x.b : Nat)] 45)).read 0; have s1 := ((H2b.out.over hb H2b.out.inHeap).more (.cells #[.int .u64 (x.f : Nat), .int .u64 (x.l : Nat), .int .u8 (x.b : Nat)] 45)).read 1; have u0 := H4.out.b5.read 0; have u1 := H4.out.b5.read 1; have H4b := Lib.hid (Box.made w3 45 #[.int .u64 (x.f : Nat), .int .u64 (x.l : Nat), .int .u8 (x.b : Nat)]); clear hb r0 r1 r2 r3 r4 r5 r6 r7))
        go_ret
        exact ⟨rfl, H5.out.bel⟩
end
end Go.Proofs.YtcgklflflfemnaaDoor
